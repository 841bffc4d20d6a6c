import PyProof.Rows.All
import Wide.All
import OpenK.AllK
import Wide.FinOn
import PyProof.EqAt
import PyProof.EqKinds
import PyProof.TupleCall
import PyProof.StrWalks
import PyProof.StrLawsTight
import PyProof.StrLawsIn
import PyProof.StrLawsIdx
import PyProof.ConsumeWalk
import PyProof.StrBlockG
import PyProof.MeetsStr2
import PyProof.ZipIter
import PyProof.Rows.ZipGen
import PyProof.NeKinds
import OpenK.KOwn
import PyProof.NsDelKeeps
import PyProof.ExcClass3
import PyProof.StationsW
import KE.KIsAll
import OpenK.KDescr
import KE.KIntText
import PyProof.FString
import PyProof.ReprStr
import PyProof.StrLawsRepr
import PyProof.DictItems
import PyProof.Rows.DictItemsRows
import KE.KPairComp
import KE.KMinKey
import PyProof.Rows.MinMaxN
import PyProof.Rows.CallKwBuiltin
import PyProof.AutoListH
import PyProof.Rows.TupIter
import PyProof.Rows.StrWeight2
import PyProof.EnumFor
import PyProof.EnumMake
import PyProof.Rows.EnumRows
import PyProof.Rows.SeqGen
import KE.KRevSl
import OpenK.KCls
import PyProof.Rows.SetFrom
import PyProof.SetRoads
import PyProof.DictKinds
import PyProof.Rows.Range3
import KE.KTupSum
import PySem.Challenge.RW_curdcellar_k13_new_things
set_option Elab.async false
set_option linter.all false
set_option maxRecDepth 100000
namespace L2
open PySem PySem.Spec PyProof.Rows
abbrev Key := Sum Int Str
def q6b : Key -> Value -> Bool
  | .inl k,v => Value.isInt k v
  | .inr x,v => Value.isStrOf x v
def keyH (w : World) : Key -> Int
  | .inl k => hashInt k
  | .inr x => hashStr w x
theorem q30 : ∀ {k : Key} {v : Value},q6b k v = true -> (∃ i t,k = Sum.inl i /\ v = Value.int i t) \/ (∃ x t,k = Sum.inr x /\ v = Value.str x t)
  | .inl i,v,h => by
    obtain ⟨t,e⟩ := Value.isInt_shape (k := i) (v := v) h
    exact .inl ⟨i,t,rfl,e⟩
  | .inr x,v,h => by
    obtain ⟨t,e⟩ := Value.isStrOf_shape (x := x) (v := v) h
    exact .inr ⟨x,t,rfl,e⟩
theorem qfl (i : Int) (t : Tok) : q6b (.inl i) (.int i t) = true := by simp [q6b,Value.isInt]
theorem qf1 (x : Str) (t : Tok) : q6b (.inr x) (.str x t) = true := by simp [q6b,Value.isStrOf]
theorem key_ll (a b : Int) : decide ((Sum.inl a : Key) = Sum.inl b) = (a == b) := by
  by_cases e : a = b
  . subst e; simp
  . have h : ¬ (Sum.inl a : Key) = Sum.inl b := fun q => e (Sum.inl.inj q)
    rw [decide_eq_false h]
    exact (beq_eq_false_iff_ne.mpr e).symm
theorem key_rr (a b : Str) : decide ((Sum.inr a : Key) = Sum.inr b) = decide (a = b) := by
  by_cases e : a = b
  . subst e; simp
  . have h : ¬ (Sum.inr a : Key) = Sum.inr b := fun q => e (Sum.inr.inj q)
    rw [decide_eq_false h,decide_eq_false e]
theorem key_lr (a : Int) (b : Str) : decide ((Sum.inl a : Key) = Sum.inr b) = false := decide_eq_false (fun q => nomatch q)
theorem key_rl (a : Str) (b : Int) : decide ((Sum.inr a : Key) = Sum.inl b) = false := decide_eq_false (fun q => nomatch q)
def q2y (prog : Program) (w : World) : PySem.KeyKind prog w Key where
  is := q6b
  hash := keyH w
  inj := fun v a b ha hb => by
    rcases q30 ha with ⟨i,t,rfl,rfl⟩ | ⟨x,t,rfl,rfl⟩
    . rcases q30 hb with ⟨j,u,rfl,e⟩ | ⟨y,u,rfl,e⟩
      . injection e with e1 _; rw [e1]
      . exact nomatch e
    . rcases q30 hb with ⟨j,u,rfl,e⟩ | ⟨y,u,rfl,e⟩
      . exact nomatch e
      . injection e with e1 _; rw [e1]
  byValue := fun k v h => by
    rcases q30 h with ⟨i,t,rfl,rfl⟩ | ⟨x,t,rfl,rfl⟩ <;> rfl
  pyHash := fun hv h => by
    rcases q30 hv with ⟨i,t,rfl,rfl⟩ | ⟨x,t,rfl,rfl⟩
    . exact wpAny_pyHash_int h
    . exact wpAny_pyHash_str h
  eqBool := fun hu hv h => by
    rcases q30 hu with ⟨i,t,rfl,rfl⟩ | ⟨x,t,rfl,rfl⟩
    . rcases q30 hv with ⟨j,u,rfl,rfl⟩ | ⟨y,u,rfl,rfl⟩
      . rw [key_ll] at h; exact wpAny_eqBool_int h
      . rw [key_lr] at h; exact SeqAt.EqAt.int_str i t y u _ _ _ _ h
    . rcases q30 hv with ⟨j,u,rfl,rfl⟩ | ⟨y,u,rfl,rfl⟩
      . rw [key_rl] at h; exact SeqAt.EqAt.str_int x t j u _ _ _ _ h
      . rw [key_rr] at h; exact wpAny_eqBool_str h
  «strs» := fun k x t v h => by
    rcases q30 h with ⟨i,u,rfl,e⟩ | ⟨y,u,rfl,e⟩
    . exact nomatch e
    . injection e with e1 _
      subst e1
      cases v <;> rfl
theorem qc0 (prog : Program) (w : World) (i : Int) (t : Tok) : (q2y prog w).is (.inl i) (.int i t) = true := qfl i t
theorem qc6 (prog : Program) (w : World) (x : Str) (t : Tok) : (q2y prog w).is (.inr x) (.str x t) = true := qf1 x t
end L2
namespace L2
open PySem PySem.Spec PyProof.Rows
inductive V where
  | non | bl (b : Bool) | int (i : Int) | str (x : Str) | byt (b : Array UInt8) | flt (b : UInt64) | ref (a : Addr) | ty (n : String)
  deriving DecidableEq
def RelV : V -> Value -> Prop
  | .non,u => u = Value.none
  | .bl b,u => u = Value.bool b
  | .int i,u => ∃ t,u = Value.int i t
  | .str x,u => ∃ t,u = Value.str x t
  | .byt b,u => ∃ t,u = Value.bytes b t
  | .flt b,u => ∃ t,u = Value.float b t
  | .ref a,u => u = Value.ref a
  | .ty n,u => u = Value.type n
abbrev Vals : List V -> List Value -> Prop := Paired RelV
theorem Vals.length {xs : List V} {us : List Value} (r : Vals xs us) : xs.length = us.length := Paired.length r
theorem Vals.get : ∀ {xs : List V} {us : List Value} {i : Nat} {x : V},Vals xs us -> xs[i]? = some x -> ∃ u,us[i]? = some u /\ RelV x u
  | _,_,_,_, .nil,e => by simp at e
  | _,_,0,_, .cons r _,e => by simp at e; subst e; exact ⟨_,rfl,r⟩
  | _,_,i + 1,x, .cons _ t,e => by
    obtain ⟨u,h1,h2⟩ := Vals.get (i := i) (x := x) t (by simpa using e)
    exact ⟨u,by simpa using h1,h2⟩
theorem Vals.set {x : V} {u : Value} (r : RelV x u) : ∀ {xs : List V} {us : List Value} (i : Nat),Vals xs us -> Vals (xs.set i x) (us.set i u)
  | _,_,_, .nil => .nil
  | _,_,0, .cons _ t => .cons r t
  | _,_,i + 1, .cons q t => .cons q (Vals.set r i t)
theorem Vals.append : ∀ {xs ys : List V} {us ws : List Value},Vals xs us -> Vals ys ws -> Vals (xs ++ ys) (us ++ ws)
  | _,_,_,_, .nil,s => s
  | _,_,_,_, .cons r t,s => .cons r (Vals.append t s)
def RelO : Option V -> Option Value -> Prop
  | some v,some u => RelV v u
  | none,none => True
  | _,_ => False
def KV {κ : Type} : List (κ × V) -> List (κ × Value) -> Prop := Paired fun (p : κ × V) (q : κ × Value) => p.1 = q.1 /\ RelV p.2 q.2
def kV : Key -> V
  | .inl i => .int i
  | .inr x => .str x
inductive HO where
  | lst (xs : List V)
  | tup (xs : List V)
  | dK (kvs : List (Key × V)) | dT (kvs : List (List Key × V))
  | set (S : Int -> Bool) (n : Nat)
  | ins (C dx : Addr) (fs : List (Str × V))
  | own (x : Addr)
  | xd (fs : List (Str × V))
  | met (f x : Addr)
  | rng (lo hi : Int)
  | frz (o : Obj) (u : HO)
  | tbl (ps : Array Value)
  | ext (φ : Heap -> Prop)
abbrev Hp := Addr -> Option HO
def upd (H : Hp) (a : Addr) (o : HO) : Hp := fun b => if b = a then some o else H b
theorem q24 {H : Hp} {a : Addr} {o : HO} : upd H a o a = some o := by unfold upd; rw [if_pos rfl]
theorem q1e {H : Hp} {a b : Addr} {o : HO} (h : b ≠ a) : upd H a o b = H b := by unfold upd; rw [if_neg h]
theorem ne_of {H : Hp} {a b : Addr} {o u : HO} (h : H a = some o) (h' : H b = some u) (d : o ≠ u) : a ≠ b := by
  intro e; subst e; rw [h] at h'; exact d (Option.some.inj h')
theorem q3i {H : Hp} {a b : Addr} {o : HO} (h : H a = some o) (h' : H b = none) : a ≠ b := by
  intro e; subst e; rw [h] at h'; cases h'
section
variable (P : Program) (w : World)
def q2h (H : Hp) (h : Heap) (a : Addr) : HO -> Prop
  | .lst xs => xs.length <= sizeLine /\ ∃ (its : List Value) (n : Nat),Vals xs its /\ h.get? a = some { cls := .type "list",data := .seq its.toArray n }
  | .tup xs => xs.length <= sizeLine /\ ∃ its : List Value,Vals xs its /\ IsTup h a its.toArray
  | .dK kvs => kvs.length <= sizeLine /\ (a == sysModules) = false /\ ∃ vs,KV kvs vs /\ h.DictOf (q2y P w) a vs
  | .dT kvs => kvs.length <= sizeLine /\ (a == sysModules) = false /\ ∃ xs : List (List Key × Addr × Value),
      Paired (fun (p : List Key × V) (q : List Key × Addr × Value) => p.1 = q.1 /\ H q.2.1 = some (.tup (p.1.map kV)) /\ RelV p.2 q.2.2) kvs xs /\
      ∃ o es ep,h.get? a = some o /\ o.ExactDict /\ o.data = .dict es ep /\ es.toList = xs.map (entryOfKey (tupleKind (q2y P w))) /\ (xs.map (·.1)).Nodup
  | .set S n => h.SetOf (intKind P w) a S n
  | .ins C dx fs => H dx = some (.own a) /\ fs.length <= 1000 /\ dx ≠ a /\ h.get? a = some (PySem.W.instObj C dx) /\
      ∃ mA,h.Ns1 dx mA /\ (∀ f,RelO (fs.lookup f) (mA f)) /\ PySem.Within mA (fs.map (·.1))
  | .own _ => ∃ o,h.get? a = some o
  | .xd fs => ∃ mA,h.Ns1 a mA /\ ∀ f,RelO (fs.lookup f) (mA f)
  | .rng lo hi => ∃ t u v,h.get? a = some { cls := .type "range",data := .fields #[.int lo t, .int hi u, .int 1 v] }
  | .frz o u => h.get? a = some o /\ q2h H h a u
  | .tbl ps => h.get? a = some { cls := .none,data := .fields ps }
  | .met f x => h.get? a = some (PySem.W.methodObj (.ref f) (.ref x))
  | .ext φ => φ h /\ (∃ o,h.get? a = some o) /\ ∀ h1 h2 : Heap, φ h1 -> (∀ o,h1.get? a = some o -> h2.get? a = some o) -> φ h2
def HOk (H : Hp) (h : Heap) : Prop := ∀ a o,H a = some o -> q2h P w H h a o
end
section
variable {P : Program} {w : World} {H H' : Hp} {h h' : Heap} {a : Addr} {o : HO}
theorem q2h.lt (x : q2h P w H h a o) : a < h.objs.size := by
  cases o with
  | lst xs => obtain ⟨_,_,_,_,e⟩ := x; exact Heap.lt_size e
  | tup xs => obtain ⟨_,_,_,p⟩ := x; exact p.lt
  | dK kvs => obtain ⟨_,_,_,_,o,_,_,e,_⟩ := x; exact Heap.lt_size e
  | dT kvs => obtain ⟨_,_,_,_,o,_,_,e,_⟩ := x; exact Heap.lt_size e
  | set S n => obtain ⟨o,_,_,_,e,_⟩ := x; exact Heap.lt_size e
  | ins C dx fs => obtain ⟨_,_,_,e,_⟩ := x; exact Heap.lt_size e
  | own y => obtain ⟨_,e⟩ := x; exact Heap.lt_size e
  | xd fs => obtain ⟨_,⟨_,_,_,e,_⟩,_⟩ := x; exact Heap.lt_size e
  | rng lo hi => obtain ⟨_,_,_,e⟩ := x; exact Heap.lt_size e
  | frz ob u => obtain ⟨e,_⟩ := x; exact Heap.lt_size e
  | tbl ps => exact Heap.lt_size (show h.get? a = some _ from x)
  | met f y => exact Heap.lt_size (show h.get? a = some _ from x)
  | ext φ => obtain ⟨_,⟨_,e⟩,_⟩ := x; exact Heap.lt_size e
theorem Paired.mapP {α β : Type} {F G : α -> β -> Prop} : ∀ {l₁ : List α} {l₂ : List β},Paired F l₁ l₂ -> (∀ a b,F a b -> G a b) -> Paired G l₁ l₂
  | _,_, .nil,_ => .nil
  | _,_, .cons r t,f => .cons (f _ _ r) (Paired.mapP t f)
theorem q2h.stay (x : q2h P w H h a o) (k : ∀ b u,(b = a \/ H b = some (.own a)) -> h.get? b = some u -> h'.get? b = some u)
    (ho : ∀ b,H b = some (.own a) -> H' b = some (.own a)) (ht : ∀ b xs,H b = some (.tup xs) -> H' b = some (.tup xs)) : q2h P w H' h' a o := by
  induction o with
  | lst xs => obtain ⟨z,its,n,r,e⟩ := x; exact ⟨z,its,n,r,k _ _ (.inl rfl) e⟩
  | tup xs => obtain ⟨z,its,r,ob,e,c⟩ := x; exact ⟨z,its,r,ob,k _ _ (.inl rfl) e,c⟩
  | dK kvs => obtain ⟨z,y,vs,r,ob,es,ep,e,c⟩ := x; exact ⟨z,y,vs,r,ob,es,ep,k _ _ (.inl rfl) e,c⟩
  | dT kvs =>
    obtain ⟨z,y,xs,r,ob,es,ep,e,c⟩ := x
    exact ⟨z,y,xs,Paired.mapP r fun p q z => ⟨z.1,ht _ _ z.2.1,z.2.2⟩,ob,es,ep,k _ _ (.inl rfl) e,c⟩
  | set S n => obtain ⟨ob,es,ep,t,e,c⟩ := x; exact ⟨ob,es,ep,t,k _ _ (.inl rfl) e,c⟩
  | ins C dx fs =>
    obtain ⟨d,z,ne,e,mA,⟨od,es,ep,e2,c⟩,r⟩ := x
    exact ⟨ho _ d,z,ne,k _ _ (.inl rfl) e,mA,⟨od,es,ep,k _ _ (.inr d) e2,c⟩,r⟩
  | own y => obtain ⟨ob,e⟩ := x; exact ⟨ob,k _ _ (.inl rfl) e⟩
  | xd fs => obtain ⟨mA,⟨od,es,ep,e,c⟩,r⟩ := x; exact ⟨mA,⟨od,es,ep,k _ _ (.inl rfl) e,c⟩,r⟩
  | rng lo hi => obtain ⟨t,u,v,e⟩ := x; exact ⟨t,u,v,k _ _ (.inl rfl) e⟩
  | frz ob u ih => obtain ⟨e,q⟩ := x; exact ⟨k _ _ (.inl rfl) e,ih q⟩
  | tbl ps =>
    have e : h.get? a = some { cls := .none,data := .fields ps } := x
    show h'.get? a = some { cls := .none,data := .fields ps }
    exact k a _ (.inl rfl) e
  | met f y =>
    have e : h.get? a = some (PySem.W.methodObj (.ref f) (.ref y)) := x
    show h'.get? a = some (PySem.W.methodObj (.ref f) (.ref y))
    exact k a _ (.inl rfl) e
  | ext φ => obtain ⟨p,⟨o,e⟩,st⟩ := x; exact ⟨st _ _ p fun o q => k _ _ (.inl rfl) q,⟨o,k _ _ (.inl rfl) e⟩,st⟩
theorem HOk.lt (x : HOk P w H h) (e : H a = some o) : a < h.objs.size := (x a o e).lt
theorem HOk.fresh (x : HOk P w H h) (e : h.objs.size <= a) : H a = none := by
  cases q : H a with
  | none => rfl
  | some u => exact absurd (Nat.lt_of_lt_of_le (x.lt q) e) (Nat.lt_irrefl _)
theorem HOk.kept (x : HOk P w H h) (k : ∀ b u,h.get? b = some u -> h'.get? b = some u) : HOk P w H h' := fun a o e =>
  (x a o e).stay (fun b u _ q => k b u q) (fun _ q => q) fun _ _ q => q
theorem HOk.laid (x : HOk P w H h) (k : ∀ b u,h.get? b = some u -> h'.get? b = some u) (hp : h.objs.size <= a) (new : q2h P w (upd H a o) h' a o) : HOk P w (upd H a o) h' := fun b u e => by
  have hn := x.fresh hp
  by_cases hb : b = a
  . subst hb; rw [q24] at e; cases e; exact new
  . rw [q1e hb] at e
    exact (x b u e).stay (fun c v _ q => k c v q) (fun c q => by rw [q1e (q3i q hn)]; exact q) fun c xs q => by rw [q1e (q3i q hn)]; exact q
end
def Rd (H : Hp) (a : Addr) (u : HO) : Prop := H a = some u \/ ∃ o,H a = some (.frz o u)
theorem Rd.ok {P : Program} {w : World} {H : Hp} {h : Heap} {a : Addr} {u : HO} (r : Rd H a u) (x : HOk P w H h) : q2h P w H h a u := by
  rcases r with r | ⟨o,r⟩
  . exact x a u r
  . obtain ⟨_,q⟩ := x a _ r
    exact q
def Mut : Option HO -> Prop
  | some (.lst _) => True
  | some (.dK _) => True
  | some (.dT _) => True
  | some (.set _ _) => True
  | some (.ins _ _ _) => True
  | some (.ext _) => True
  | _ => False
section
variable {P : Program} {w : World} {H : Hp} {h h' : Heap} {x e : Addr} {o' : HO}
theorem HOk.write (ok : HOk P w H h) (mu : Mut (H x)) (he : e = x \/ H e = some (.own x)) (k : ∀ b u,b ≠ e -> h.get? b = some u -> h'.get? b = some u) (heo : ∃ u,h'.get? e = some u)
    (new : q2h P w (upd H x o') h' x o') : HOk P w (upd H x o') h' := fun b u q => by
  have nown : ∀ c y,H c = some (.own y) -> c ≠ x := fun c y r z => by subst z; rw [r] at mu; exact mu
  have ntup : ∀ c xs,H c = some (.tup xs) -> c ≠ x := fun c xs r z => by subst z; rw [r] at mu; exact mu
  by_cases hb : b = x
  . subst hb; rw [q24] at q; cases q; exact new
  . rw [q1e hb] at q
    by_cases hbe : b = e
    . have q' : H b = some (.own x) := by
        rcases he with z | z
        . exact absurd (hbe.trans z) hb
        . rw [hbe]; exact z
      rw [q] at q'; cases q'
      obtain ⟨v,hv⟩ := heo
      exact ⟨v,by rw [hbe]; exact hv⟩
    . refine (ok b u q).stay (fun c v hc r => k c v ?_ r) (fun c r => by rw [q1e (nown c b r)]; exact r) fun c xs r => by rw [q1e (ntup c xs r)]; exact r
      rcases hc with rfl | hc
      . exact hbe
      . rintro rfl
        rcases he with z | z
        . exact nown c b hc z
        . rw [hc] at z; cases z; exact hb rfl
end
structure Un (fs ex : List Addr) (H H' : Hp) (h h' : Heap) : Prop where
  keep : ∀ b o,h.get? b = some o -> H b = none -> b ∉ fs -> b ∉ ex -> h'.get? b = some o
  slot : ∀ b o,h.get? b = some o -> H b = none -> b ∈ fs -> b ∉ ex -> ∃ sl,h'.get? b = some { o with slots := sl }
  free : ∀ b o,h.get? b = some o -> H b = none -> b ∉ ex -> H' b = none
  there : ∀ b o,h.get? b = some o -> b ∉ ex -> ∃ o',h'.get? b = some o'
  tups : ∀ b xs,H b = some (.tup xs) -> H' b = some (.tup xs)
  frzs : ∀ b o u,H b = some (.frz o u) -> H' b = some (.frz o u)
  tbls : ∀ b ps,H b = some (.tbl ps) -> ∃ more,H' b = some (.tbl (ps ++ more))
section
variable {fs fs' ex ex' : List Addr} {H H1 H2 : Hp} {h h1 h2 h' : Heap} {a x e : Addr} {o : HO}
theorem Un.any (u : Un fs ex H H1 h h1) {b : Addr} {ob : Obj} (q : h.get? b = some ob) (n : H b = none) (hx : b ∉ ex) : ∃ sl,h1.get? b = some { ob with slots := sl } := by
  by_cases hb : b ∈ fs
  . exact u.slot b ob q n hb hx
  . exact ⟨ob.slots,u.keep b ob q n hb hx⟩
theorem Un.kept (k : ∀ b u,h.get? b = some u -> h'.get? b = some u) : Un fs ex H H h h' :=
  ⟨fun b ob q _ _ _ => k b ob q,fun b ob q _ _ _ => ⟨ob.slots,k b ob q⟩,fun _ _ _ n _ => n,fun b ob q _ => ⟨ob,k b ob q⟩,fun _ _ q => q,fun _ _ _ q => q,fun _ ps q => ⟨#[],by rw [q]; simp⟩⟩
theorem Un.refl : Un fs ex H H h h := Un.kept fun _ _ q => q
theorem Un.laid (k : ∀ b u,h.get? b = some u -> h'.get? b = some u) (hp : h.objs.size <= a) (hn : H a = none) : Un fs ex H (upd H a o) h h' where
  keep := fun b u q _ _ _ => k b u q
  slot := fun b u q _ _ _ => ⟨u.slots,k b u q⟩
  free := fun b u q n _ => by rw [q1e (Nat.ne_of_lt (Nat.lt_of_lt_of_le (Heap.lt_size q) hp))]; exact n
  there := fun b u q _ => ⟨u,k b u q⟩
  tups := fun b xs q => by rw [q1e (q3i q hn)]; exact q
  frzs := fun b u xs q => by rw [q1e (q3i q hn)]; exact q
  tbls := fun b ps q => ⟨#[],by rw [q1e (q3i q hn),q]; simp⟩
theorem Un.write (mu : Mut (H x)) (he : e = x \/ H e = some (.own x)) (k : ∀ b u,b ≠ e -> h.get? b = some u -> h'.get? b = some u) (heo : ∃ u,h'.get? e = some u) : Un fs ex H (upd H x o) h h' := by
  have hx : ∀ b,H b = none -> b ≠ x := fun b n z => by subst z; rw [n] at mu; exact mu
  have hb : ∀ b,H b = none -> b ≠ e := fun b n z => by
    subst z
    rcases he with r | r
    . exact hx b n r
    . rw [n] at r; cases r
  have hm : ∀ b u,H b = some u -> ¬ Mut (some u) -> b ≠ x := fun b u q nm z => by subst z; rw [q] at mu; exact nm mu
  refine ⟨fun b u q n _ _ => k b u (hb b n) q,fun b u q n _ _ => ⟨u.slots,k b u (hb b n) q⟩,fun b u q n _ => by rw [q1e (hx b n)]; exact n,fun b u q _ => ?_,
    fun b xs q => by rw [q1e (hm b _ q fun z => z)]; exact q,fun b u xs q => by rw [q1e (hm b _ q fun z => z)]; exact q,fun b ps q => ⟨#[],by rw [q1e (hm b _ q fun z => z),q]; simp⟩⟩
  by_cases hbe : b = e
  . subst hbe; exact heo
  . exact ⟨u,k b u hbe q⟩
end
def trk (h : Heap) (H : Hp) : List Addr := (List.range h.objs.size).filter fun a => (H a).isSome
def hidT (h : Heap) (H : Hp) : Heap := PySem.W.hideAll h (trk h H)
theorem qfy (h : Heap) (H : Hp) : (hidT h H).objs.size = h.objs.size := PySem.W.hideAll_size _ _
theorem qga {h : Heap} {H : Hp} {b : Addr} {o : Obj} (e : h.get? b = some o) (n : H b = none) : (hidT h H).get? b = some o :=
  PySem.W.hideAll_get _ e fun hm => by
    have q : (H b).isSome = true := (List.mem_filter.mp hm).2
    rw [n] at q; simp at q
theorem qir {h : Heap} {H : Hp} {b : Addr} {o : Obj} (e : (hidT h H).get? b = some o) : h.get? b = some o /\ H b = none := by
  have e' : h.get? b = some o := PySem.W.of_hideAll (trk h H) e
  refine ⟨e',?_⟩
  cases q : H b with
  | none => rfl
  | some x =>
    have hm : b ∈ trk h H := List.mem_filter.mpr ⟨List.mem_range.mpr (Heap.lt_size e'),by simp [q]⟩
    have z : (hidT h H).get? b = none := PySem.W.hideAll_none (trk h H) hm
    rw [z] at e; cases e
end L2
namespace L2
open PySem PySem.Spec PyProof.Rows
structure Mod (K : PySem.W.Frag) (mg : Str -> Option Value) (base : Heap) : Prop where
  kin : K.In base
  glob : base.Ns mainGlobals mg
  blt : ∃ mb,base.Ns builtinsNs mb /\ ∀ x : Str,x ≠ "__name__" -> mb x = bootBuiltins x
  nolimit : base.NoLimit
structure Cx where
  prog : Program
  w : World
  K : PySem.W.Frag
  mg : Str -> Option Value
  base : Heap
  A : Around
  N : List Str
  s₀ : Shared
  H₀ : Hp
  env : Env
  outer : List Env
  stack : List Env
  ex : List Addr
  fn : Str -> Bool
  calm : Bool
  pn : List (Addr × Obj)
  xe : Value -> Shared -> Prop
def frs (l : List Env) : List Addr := l.filterMap (·.frame)
abbrev Cx.fs (X : Cx) : List Addr := frs X.outer
def Vis (sc : Scope) (x : Str) : Prop := sc.names.lookup x = some .local \/ sc.names.lookup x = some .cell \/ sc.names.lookup x = some .free
def Loc (sc : Scope) (x : Str) : Prop := sc.names.lookup x = some .local \/ sc.names.lookup x = some .cell
def Look (env : Env) (h : Heap) (m : Str -> Option Value) (x : Str) (u : Value) : Prop :=
  (env.kindOf x = some .local /\ m x = some u) \/ ((env.kindOf x = some .cell \/ env.kindOf x = some .free) /\ ∃ c,env.cells.lookup x = some c /\ h.IsCell c (some u))
structure Cx.Ok (X : Cx) : Prop where
  mod : Mod X.K X.mg X.base
  kind : X.env.scope.kind = .function
  glob : X.env.globals = mainGlobals
  blt : X.env.builtins = builtinsNs
  above : X.s₀.heap.objs.size <= X.env.locals
  inj : ∀ x y c,X.env.cells.lookup x = some c -> X.env.cells.lookup y = some c -> x = y
  has : ∀ x,(X.env.kindOf x = some .cell \/ X.env.kindOf x = some .free) -> ∃ c,X.env.cells.lookup x = some c
  cab : ∀ x c,X.fn x = true -> X.env.cells.lookup x = some c -> X.s₀.heap.objs.size <= c
  hd : X.calm = true -> X.A.handled = none
  frames : X.A.frames = some X.stack
  stk : X.stack = X.outer \/ (X.stack = X.env :: X.outer /\ X.env.frame = some X.env.locals)
  exf : ∀ b ∈ X.ex,b ≠ X.env.locals /\ ∀ x c,X.env.cells.lookup x = some c -> c ≠ b
  bs : ∀ b o,X.base.get? b = some o -> X.s₀.heap.get? b = some o /\ X.H₀ b = none
  bsz : X.base.objs.size <= X.s₀.heap.objs.size
  noex : ∀ b o,X.base.get? b = some o -> b ∉ X.ex
  exfs : ∀ b ∈ X.ex,b ∉ X.fs
  funs : X.s₀.heap.FunFrames X.base X.outer
  frf : ∀ b ∈ X.fs,X.H₀ b = none
structure Inv (X : Cx) (pins : List (Addr × Obj)) (σ : List (Option V)) (H : Hp) (s : Shared) : Prop where
  ok : X.Ok
  os : s.os = X.s₀.os
  bare : AllBare s.gens
  base : Un X.fs X.ex X.H₀ H X.s₀.heap s.heap
  loc : ∃ m,s.heap.Ns X.env.locals m /\ ∀ (i : Nat) (x : Str) (v : V),X.N[i]? = some x -> σ[i]? = some (some v) -> Vis X.env.scope x -> ∃ u,RelV v u /\ Look X.env s.heap m x u
  cell : ∀ x c,X.env.cells.lookup x = some c -> ∃ v,s.heap.IsCell c v
  free : H X.env.locals = none
  freeC : ∀ x c,X.env.cells.lookup x = some c -> H c = none
  pin : ∀ p ∈ X.pn ++ pins,s.heap.get? p.1 = some p.2 /\ H p.1 = none /\ p.1 ≠ X.env.locals /\ p.1 ∉ X.fs /\ ∀ v,p.2.data ≠ .cell v
  hok : HOk X.prog X.w H s.heap
  len : σ.length = X.N.length
section
variable {X : Cx} {pins : List (Addr × Obj)} {σ : List (Option V)} {H H' : Hp} {s : Shared} {h' : Heap}
theorem Cx.Ok.nofr (ok : X.Ok) {b : Addr} {o : Obj} (e : X.base.get? b = some o) : b ∉ X.fs := fun hb => by
  have := (ok.funs.mem hb).1
  rw [e] at this; cases this
theorem Inv.bs (I : Inv X pins σ H s) : ∀ b o,X.base.get? b = some o -> s.heap.get? b = some o /\ H b = none := fun b o e =>
  ⟨I.base.keep b o (I.ok.bs b o e).1 (I.ok.bs b o e).2 (I.ok.nofr e) (I.ok.noex b o e),I.base.free b o (I.ok.bs b o e).1 (I.ok.bs b o e).2 (I.ok.noex b o e)⟩
theorem Inv.bk (I : Inv X pins σ H s) : ∀ b o,X.base.get? b = some o -> s.heap.get? b = some o := fun b o e => (I.bs b o e).1
theorem Inv.mod (I : Inv X pins σ H s) : Mod X.K X.mg X.base := I.ok.mod
theorem Inv.kIn (I : Inv X pins σ H s) : X.K.In s.heap := I.ok.mod.kin.keeps I.bk
theorem Inv.lt (I : Inv X pins σ H s) : X.env.locals < s.heap.objs.size := let ⟨_,hn,_⟩ := I.loc; hn.lt
theorem Inv.sz (I : Inv X pins σ H s) : X.s₀.heap.objs.size <= s.heap.objs.size := Nat.le_trans I.ok.above (Nat.le_of_lt I.lt)
theorem Inv.nofs (I : Inv X pins σ H s) {a : Addr} (h : s.heap.objs.size <= a) : a ∉ X.fs := fun hb => by
  obtain ⟨_,o,ho,_⟩ := I.ok.funs.mem hb
  exact absurd (Nat.lt_of_lt_of_le (Heap.lt_size ho) (Nat.le_trans I.sz h)) (Nat.lt_irrefl _)
theorem Inv.cne (I : Inv X pins σ H s) : ∀ x c,X.env.cells.lookup x = some c -> c ≠ X.env.locals := fun x c e z => by
  obtain ⟨v,o,ho,hd⟩ := I.cell x c e
  obtain ⟨m,⟨o',es,ep,ho',hd',_⟩,_⟩ := I.loc
  rw [z,ho'] at ho; cases ho; rw [hd'] at hd; cases hd
theorem Inv.funs (I : Inv X pins σ H s) : s.heap.FunFrames X.base X.outer := by
  have all : ∀ (l : List Env),(∀ b ∈ frs l,b ∈ X.fs) -> X.s₀.heap.FunFrames X.base l -> s.heap.FunFrames X.base l := by
    intro l
    induction l with
    | nil => intro _ _; trivial
    | cons env r ih =>
      intro hs hl
      obtain ⟨hk,⟨L,o,hf,hn,ho,hd⟩,hr⟩ := hl
      have hL : L ∈ X.fs := hs L (by unfold frs; rw [List.filterMap_cons,hf]; exact List.mem_cons_self)
      obtain ⟨sl,e⟩ := I.base.slot L o ho (I.ok.frf L hL) hL fun z => I.ok.exfs L z hL
      exact ⟨hk,⟨L,_,hf,hn,e,hd⟩,ih (fun b hb => hs b (by unfold frs; rw [List.filterMap_cons,hf]; exact List.mem_cons_of_mem _ hb)) hr⟩
  exact all X.outer (fun _ hb => hb) I.ok.funs
theorem Inv.stack (I : Inv X pins σ H s) : s.heap.FunFrames X.base X.stack := by
  rcases I.ok.stk with e | ⟨e,hf⟩
  . rw [e]; exact I.funs
  . rw [e]
    obtain ⟨m,hn,_⟩ := I.loc
    refine .cons (by rw [I.ok.kind]; decide) hf hn ?_ I.funs
    exact Heap.get?_none_of_le (Nat.le_trans I.ok.bsz I.ok.above)
theorem Inv.q4h (I : Inv X pins σ H s) : ∀ b ∈ frs X.stack,b ∈ X.env.locals :: X.fs := fun b hb => by
  rcases I.ok.stk with e | ⟨e,hf⟩
  . rw [e] at hb; exact List.mem_cons_of_mem _ hb
  . rw [e] at hb
    unfold frs at hb
    rw [List.filterMap_cons,hf] at hb
    exact hb
theorem Inv.q7f (I : Inv X pins σ H s) : ∀ b ∈ frs X.stack,H b = none := fun b hb => by
  rcases List.mem_cons.mp (I.q4h b hb) with e | hb
  . rw [e]; exact I.free
  . obtain ⟨_,o,ho,_⟩ := I.ok.funs.mem hb
    exact I.base.free b o ho (I.ok.frf b hb) fun z => I.ok.exfs b z hb
theorem Inv.step {g' : Array GenState} {t' : Nat} {d' : Drawn} {ch : List Addr} (I : Inv X pins σ H s)
    (hch : ∀ b ∈ ch,(b ∈ X.ex \/ X.s₀.heap.objs.size <= b) /\ b ≠ X.env.locals /\ (∀ x c,X.env.cells.lookup x = some c -> c ≠ b) /\ ∀ p ∈ X.pn ++ pins,p.1 ≠ b)
    (keep : ∀ b o,b ≠ X.env.locals -> b ∉ X.fs -> b ∉ ch -> s.heap.get? b = some o -> H b = none -> h'.get? b = some o)
    (slot : ∀ b o,b ≠ X.env.locals -> b ∈ X.fs -> b ∉ ch -> s.heap.get? b = some o -> H b = none -> ∃ sl,h'.get? b = some { o with slots := sl }) (free : ∀ b o,b ∉ ch -> s.heap.get? b = some o -> H b = none -> H' b = none)
    (there : ∀ b o,b ∉ ch -> s.heap.get? b = some o -> ∃ o',h'.get? b = some o')
    (tups : ∀ b xs,H b = some (.tup xs) -> H' b = some (.tup xs)) (frzs : ∀ b o u,H b = some (.frz o u) -> H' b = some (.frz o u)) (tbls : ∀ b ps,H b = some (.tbl ps) -> ∃ more,H' b = some (.tbl (ps ++ more)))
    (ns : ∀ m,s.heap.Ns X.env.locals m -> h'.Ns X.env.locals m) (hok : HOk X.prog X.w H' h') (hg : AllBare g') :
    Inv X pins σ H' { s with heap := h',gens := g',drawn := d',toks := t' } := by
  have neL : ∀ b o,X.s₀.heap.get? b = some o -> b ≠ X.env.locals := fun b o e => Nat.ne_of_lt (Nat.lt_of_lt_of_le (Heap.lt_size e) I.ok.above)
  have neC : ∀ b o,X.s₀.heap.get? b = some o -> b ∉ X.ex -> b ∉ ch := fun b o e hx hb => by
    rcases (hch b hb).1 with z | z
    . exact hx z
    . exact absurd (Nat.lt_of_lt_of_le (Heap.lt_size e) z) (Nat.lt_irrefl _)
  have cellK : ∀ x c,X.env.cells.lookup x = some c -> ∀ v,s.heap.IsCell c v -> h'.IsCell c v := fun x c e v ⟨o,ho,hd⟩ => by
    have nch : c ∉ ch := fun z => (hch c z).2.2.1 x c e rfl
    by_cases hc : c ∈ X.fs
    . obtain ⟨sl,q⟩ := slot c o (I.cne x c e) hc nch ho (I.freeC x c e)
      exact ⟨_,q,hd⟩
    . exact ⟨o,keep c o (I.cne x c e) hc nch ho (I.freeC x c e),hd⟩
  refine ⟨I.ok,I.os,hg,⟨fun b o e n hb hx => ?_,fun b o e n hb hx => ?_,fun b o e n hx => ?_,fun b o e hx => ?_,fun b xs e => tups b xs (I.base.tups b xs e),fun b o xs e => frzs b o xs (I.base.frzs b o xs e),fun b ps e => ?_⟩,?_,fun x c e => ?_,?_,fun x c e => ?_,fun p hp => ?_,hok,I.len⟩
  . exact keep b o (neL b o e) hb (neC b o e hx) (I.base.keep b o e n hb hx) (I.base.free b o e n hx)
  . obtain ⟨sl,e1⟩ := I.base.slot b o e n hb hx
    obtain ⟨sl',e2⟩ := slot b _ (neL b o e) hb (neC b o e hx) e1 (I.base.free b o e n hx)
    exact ⟨sl',e2⟩
  . obtain ⟨o',e1⟩ := I.base.there b o e hx
    exact free b o' (neC b o e hx) e1 (I.base.free b o e n hx)
  . obtain ⟨o',e1⟩ := I.base.there b o e hx
    exact there b o' (neC b o e hx) e1
  . obtain ⟨m1,e1⟩ := I.base.tbls b ps e
    obtain ⟨m2,e2⟩ := tbls b _ e1
    exact ⟨m1 ++ m2,by rw [e2,Array.append_assoc]⟩
  . obtain ⟨m,hn,hl⟩ := I.loc
    refine ⟨m,ns m hn,fun i x v e1 e2 e3 => ?_⟩
    obtain ⟨u,r,l⟩ := hl i x v e1 e2 e3
    refine ⟨u,r,?_⟩
    rcases l with l | ⟨k,c,e,z⟩
    . exact .inl l
    . exact .inr ⟨k,c,e,cellK x c e _ z⟩
  . obtain ⟨v,z⟩ := I.cell x c e
    exact ⟨v,cellK x c e v z⟩
  . obtain ⟨m,⟨o,_,_,ho,_⟩,_⟩ := I.loc
    exact free _ o (fun z => (hch _ z).2.1 rfl) ho I.free
  . obtain ⟨v,o,ho,hd⟩ := I.cell x c e
    exact free c o (fun z => (hch c z).2.2.1 x c e rfl) ho (I.freeC x c e)
  . obtain ⟨e,n,ne,nf,d⟩ := I.pin p hp
    have nch : p.1 ∉ ch := fun z => (hch p.1 z).2.2.2 p hp rfl
    exact ⟨keep p.1 p.2 ne nf nch e n,free p.1 p.2 nch e n,ne,nf,d⟩
theorem Inv.un {t' : Nat} (I : Inv X pins σ H s) (u : Un X.fs [] H H' s.heap h') (hok : HOk X.prog X.w H' h') : Inv X pins σ H' { s with heap := h',toks := t' } := by
  obtain ⟨m,⟨o,es,ep,ho,r⟩,_⟩ := id I.loc
  obtain ⟨sl,hL⟩ := u.any ho I.free (by simp)
  exact I.step (g' := s.gens) (d' := s.drawn) (ch := []) (fun _ z => nomatch z) (fun b o _ hb _ e n => u.keep b o e n hb (by simp)) (fun b o _ hb _ e n => u.slot b o e n hb (by simp)) (fun b o _ e n => u.free b o e n (by simp)) (fun b o _ e => u.there b o e (by simp)) u.tups u.frzs u.tbls (fun m' hm => by
    obtain ⟨o',es',ep',ho',r'⟩ := hm
    rw [ho] at ho'; cases ho'
    exact ⟨_,es',ep',hL,r'⟩) hok I.bare
theorem Inv.call {g' : Array GenState} {t' : Nat} {d' : Drawn} {ch : List Addr} (I : Inv X pins σ H s) (u : Un (frs X.stack) ch H H' s.heap h') (hok : HOk X.prog X.w H' h') (hg : AllBare g')
    (hch : ∀ b ∈ ch,(b ∈ X.ex \/ X.s₀.heap.objs.size <= b) /\ b ≠ X.env.locals /\ (∀ x c,X.env.cells.lookup x = some c -> c ≠ b) /\ ∀ p ∈ X.pn ++ pins,p.1 ≠ b) :
    Inv X pins σ H' { s with heap := h',gens := g',drawn := d',toks := t' } := by
  obtain ⟨m,⟨o,es,ep,ho,r⟩,_⟩ := id I.loc
  obtain ⟨sl,hL⟩ := u.any ho I.free fun z => (hch _ z).2.1 rfl
  exact I.step (ch := ch) hch (fun b o hL hb hc e n => u.keep b o e n (fun z => (List.mem_cons.mp (I.q4h b z)).elim hL hb) hc) (fun b o _ _ hc e n => u.any e n hc) (fun b o hc e n => u.free b o e n hc) (fun b o hc e => u.there b o e hc) u.tups u.frzs u.tbls (fun m' hm => by
    obtain ⟨o',es',ep',ho',r'⟩ := hm
    rw [ho] at ho'; cases ho'
    exact ⟨_,es',ep',hL,r'⟩) hok hg
theorem Inv.turned {t' : Nat} {it : Addr} (I : Inv X pins σ H s) (k : ∀ b o,b ≠ it -> s.heap.get? b = some o -> h'.get? b = some o) (hn : H it = none) (hL : it ≠ X.env.locals)
    (h1 : it ∈ X.ex \/ X.s₀.heap.objs.size <= it) (h2 : ∀ x c,X.env.cells.lookup x = some c -> c ≠ it) (h3 : ∀ p ∈ X.pn ++ pins,p.1 ≠ it) : Inv X pins σ H { s with heap := h',toks := t' } := by
  have nit : ∀ b u,H b = some u -> b ≠ it := fun b u e z => by rw [z,hn] at e; cases e
  refine I.step (g' := s.gens) (d' := s.drawn) (ch := [it]) (fun b hb => ?_) (fun b o _ _ hc e _ => k b o (fun z => hc (by simp [z])) e) (fun b o _ _ hc e _ => ⟨o.slots,k b o (fun z => hc (by simp [z])) e⟩) (fun _ _ _ _ n => n)
    (fun b o hc e => ⟨o,k b o (fun z => hc (by simp [z])) e⟩) (fun _ _ e => e) (fun _ _ _ e => e) (fun b ps e => ⟨#[],by rw [e]; simp⟩) (fun m hm => ?_) (fun b u e => ?_) I.bare
  . have e : b = it := by simpa using hb
    subst e
    exact ⟨h1,hL,h2,h3⟩
  . obtain ⟨o,es,ep,ho,r⟩ := hm
    exact ⟨o,es,ep,k _ o (Ne.symm hL) ho,r⟩
  . refine (I.hok b u e).stay (fun c v hc q => k c v ?_ q) (fun _ q => q) fun _ _ q => q
    rcases hc with z | z
    . rw [z]; exact nit b u e
    . exact nit c _ z
theorem Inv.tok (I : Inv X pins σ H s) (t : Nat) : Inv X pins σ H { s with toks := t } := I.un (h' := s.heap) (t' := t) Un.refl I.hok
theorem Inv.kept {t' : Nat} (I : Inv X pins σ H s) (k : ∀ b u,s.heap.get? b = some u -> h'.get? b = some u) : Inv X pins σ H { s with heap := h',toks := t' } := I.un (Un.kept k) (I.hok.kept k)
theorem Inv.laid {a : Addr} {o : HO} {t' : Nat} (I : Inv X pins σ H s) (k : ∀ b u,s.heap.get? b = some u -> h'.get? b = some u) (hp : s.heap.objs.size <= a) (new : q2h X.prog X.w (upd H a o) h' a o) :
    Inv X pins σ (upd H a o) { s with heap := h',toks := t' } := I.un (Un.laid k hp (I.hok.fresh hp)) (I.hok.laid k hp new)
theorem Inv.write {x e : Addr} {o : HO} {t' : Nat} (I : Inv X pins σ H s) (mu : Mut (H x)) (he : e = x \/ H e = some (.own x)) (k : ∀ b u,b ≠ e -> s.heap.get? b = some u -> h'.get? b = some u) (heo : ∃ u,h'.get? e = some u)
    (new : q2h X.prog X.w (upd H x o) h' x o) : Inv X pins σ (upd H x o) { s with heap := h',toks := t' } := I.un (Un.write mu he k heo) (I.hok.write mu he k heo new)
theorem Inv.weak {σ' : List (Option V)} (I : Inv X pins σ H s) (hl : σ'.length = σ.length) (w : ∀ (i : Nat) v, σ'[i]? = some (some v) -> σ[i]? = some (some v)) : Inv X pins σ' H s :=
  ⟨I.ok,I.os,I.bare,I.base,let ⟨m,hn,hl'⟩ := I.loc; ⟨m,hn,fun i x v e1 e2 e3 => hl' i x v e1 (w i v e2) e3⟩,I.cell,I.free,I.freeC,I.pin,I.hok,hl.trans I.len⟩
theorem Inv.q9d {pins' : List (Addr × Obj)} (I : Inv X pins σ H s) (h : ∀ p ∈ pins',s.heap.get? p.1 = some p.2 /\ H p.1 = none /\ p.1 ≠ X.env.locals /\ p.1 ∉ X.fs /\ ∀ v,p.2.data ≠ .cell v) : Inv X pins' σ H s :=
  ⟨I.ok,I.os,I.bare,I.base,I.loc,I.cell,I.free,I.freeC,fun p hp => (List.mem_append.mp hp).elim (fun z => I.pin p (List.mem_append_left _ z)) (h p),I.hok,I.len⟩
theorem q7y {N : List Str} (hN : N.Nodup) {i j : Nat} {x : Str} (a : N[i]? = some x) (b : N[j]? = some x) : i = j := by
  obtain ⟨h1,e1⟩ := List.getElem?_eq_some_iff.mp a
  obtain ⟨h2,e2⟩ := List.getElem?_eq_some_iff.mp b
  exact (List.getElem_inj hN).mp (e1.trans e2.symm)
theorem q6u {M : Model} {A : Around} {E : Value -> Shared -> Prop} {i : Nat} {x : Str} {v : V} {u : Value} {Q : Unit -> Shared -> Prop} (I : Inv X pins σ H s) (hN : X.N.Nodup) (hi : X.N[i]? = some x) (hx : Loc X.env.scope x) (r : RelV v u)
    (h : ∀ s',Inv X pins (σ.set i (some v)) H s' -> (∃ a,Heap.SameBut a s.heap s'.heap /\ (a = X.env.locals \/ X.env.cells.lookup x = some a)) -> Q () s') (hf : X.fn x = true \/ X.env.scope.names.lookup x = some .local := by first | exact .inl rfl | exact .inr rfl | assumption) : wpAny M A (storeName X.env x u) Q E s := by
  obtain ⟨m,hn,hl⟩ := id I.loc
  have hcls : (X.env.scope.kind == .class || (X.env.scope.kind == .module && X.env.locals != X.env.globals)) = false := by rw [I.ok.kind]; rfl
  have hiσ : i < σ.length := by rw [I.len]; exact (List.getElem?_eq_some_iff.mp hi).1
  have cne := I.cne
  have tracked : ∀ {a : Addr} {h' : Heap},(∃ o,s.heap.get? a = some o /\ H a = none) -> Heap.SameBut a s.heap h' -> HOk X.prog X.w H h' := fun {a h'} ha hs b ob e => by
    obtain ⟨_,_,hfree⟩ := ha
    refine (I.hok b ob e).stay (fun c w' hc q => (hs.2 c ?_).trans q) (fun _ q => q) fun _ _ q => q
    rintro rfl
    rcases hc with rfl | hc
    . rw [hfree] at e; cases e
    . rw [hfree] at hc; cases hc
  rcases hx with hk | hk
  . refine wpAny_storeName_local hk hn (fun h' hn' hs => ?_) hcls
    obtain ⟨oL,_,_,hoL,_⟩ := id hn
    refine h _ ⟨I.ok,I.os,I.bare,⟨fun b o e n hb hx => ?_,fun b o e n hb hx => ?_,I.base.free,fun b o e hx => ?_,I.base.tups,I.base.frzs,I.base.tbls⟩,⟨_,hn',fun j y v' e1 e2 e3 => ?_⟩,fun y c e => ?_,I.free,I.freeC,fun p hp => ?_,tracked ⟨oL,hoL,I.free⟩ hs,by simpa using I.len⟩ ⟨_,hs, .inl rfl⟩
    . exact (hs.2 b (Nat.ne_of_lt (Nat.lt_of_lt_of_le (Heap.lt_size e) I.ok.above))).trans (I.base.keep b o e n hb hx)
    . obtain ⟨sl,e1⟩ := I.base.slot b o e n hb hx
      exact ⟨sl,(hs.2 b (Nat.ne_of_lt (Nat.lt_of_lt_of_le (Heap.lt_size e) I.ok.above))).trans e1⟩
    . obtain ⟨o',e1⟩ := I.base.there b o e hx
      exact ⟨o',(hs.2 b (Nat.ne_of_lt (Nat.lt_of_lt_of_le (Heap.lt_size e) I.ok.above))).trans e1⟩
    . by_cases hj : j = i
      . subst hj
        rw [hi] at e1; cases e1
        rw [List.getElem?_set_self hiσ] at e2
        cases e2
        exact ⟨u,r, .inl ⟨hk,by simp⟩⟩
      . rw [List.getElem?_set_ne (Ne.symm hj)] at e2
        obtain ⟨u',r',q⟩ := hl j y v' e1 e2 e3
        refine ⟨u',r',?_⟩
        rcases q with ⟨k,e⟩ | ⟨k,c,e,z⟩
        . refine .inl ⟨k,?_⟩
          have : y ≠ x := fun e => hj (q7y hN e1 (e ▸ hi))
          simp [this,e]
        . exact .inr ⟨k,c,e,z.sameBut hs (cne y c e)⟩
    . obtain ⟨w',z⟩ := I.cell y c e
      exact ⟨w',z.sameBut hs (cne y c e)⟩
    . obtain ⟨e,n,ne,nf,d⟩ := I.pin p hp
      exact ⟨(hs.2 p.1 ne).trans e,n,ne,nf,d⟩
  . have hfn : X.fn x = true := by
      rcases hf with z | z
      . exact z
      . rw [z] at hk; cases hk
    obtain ⟨c,hc⟩ := I.ok.has x (.inl hk)
    obtain ⟨w',z⟩ := I.cell x c hc
    refine wpAny_storeName_cell I.ok.kind hk hc z (fun h' hc' hs => ?_)
    obtain ⟨oc,hoc,hocd⟩ := id z
    refine h { s with heap := h' } ⟨I.ok,I.os,I.bare,⟨fun b o e n hb hx => ?_,fun b o e n hb hx => ?_,I.base.free,fun b o e hx => ?_,I.base.tups,I.base.frzs,I.base.tbls⟩,⟨m,hn.sameBut hs (Ne.symm (cne x c hc)),fun j y v' e1 e2 e3 => ?_⟩,fun y c' e => ?_,I.free,I.freeC,fun p hp => ?_,tracked ⟨oc,hoc,I.freeC x c hc⟩ hs,by simpa using I.len⟩ ⟨c,hs, .inr hc⟩
    . exact (hs.2 b (Nat.ne_of_lt (Nat.lt_of_lt_of_le (Heap.lt_size e) (I.ok.cab x c hfn hc)))).trans (I.base.keep b o e n hb hx)
    . obtain ⟨sl,e1⟩ := I.base.slot b o e n hb hx
      exact ⟨sl,(hs.2 b (Nat.ne_of_lt (Nat.lt_of_lt_of_le (Heap.lt_size e) (I.ok.cab x c hfn hc)))).trans e1⟩
    . obtain ⟨o',e1⟩ := I.base.there b o e hx
      exact ⟨o',(hs.2 b (Nat.ne_of_lt (Nat.lt_of_lt_of_le (Heap.lt_size e) (I.ok.cab x c hfn hc)))).trans e1⟩
    . by_cases hj : j = i
      . subst hj
        rw [hi] at e1; cases e1
        rw [List.getElem?_set_self hiσ] at e2
        cases e2
        exact ⟨u,r, .inr ⟨.inl hk,c,hc,hc'⟩⟩
      . rw [List.getElem?_set_ne (Ne.symm hj)] at e2
        obtain ⟨u',r',q⟩ := hl j y v' e1 e2 e3
        refine ⟨u',r',?_⟩
        rcases q with q | ⟨k,c',e,z'⟩
        . exact .inl q
        . refine .inr ⟨k,c',e,z'.sameBut hs ?_⟩
          rintro rfl
          exact hj (q7y hN e1 (I.ok.inj _ _ _ e hc ▸ hi))
    . by_cases hcc : c' = c
      . subst hcc; exact ⟨_,hc'⟩
      . obtain ⟨w2,z2⟩ := I.cell y c' e
        exact ⟨w2,z2.sameBut hs hcc⟩
    . obtain ⟨e,n,ne,nf,d⟩ := I.pin p hp
      refine ⟨(hs.2 p.1 ?_).trans e,n,ne,nf,d⟩
      intro q
      rw [q,hoc] at e
      have q' : oc = p.2 := Option.some.inj e
      exact d w' (by rw [<- q']; exact hocd)
theorem q6d {M : Model} {A : Around} {E : Value -> Shared -> Prop} {i : Nat} {x : Str} {v : V} {u : Value} {Q : Unit -> Shared -> Prop} (I : Inv X pins σ H s) (hN : X.N.Nodup) (hi : X.N[i]? = some x) (hx : Loc X.env.scope x) (r : RelV v u)
    (h : ∀ s',Inv X pins (σ.set i (some v)) H s' -> Q () s') (hf : X.fn x = true \/ X.env.scope.names.lookup x = some .local := by first | exact .inl rfl | exact .inr rfl | assumption) : wpAny M A (storeName X.env x u) Q E s :=
  q6u I hN hi hx r (fun s' I' _ => h s' I') hf
theorem Inv.qa2 {s' : Shared} {ch : List Addr} (I : Inv X pins σ H s) (ho : s'.os = s.os) (u : Un (frs X.stack) ch H H' s.heap s'.heap) (hok : HOk X.prog X.w H' s'.heap) (hg : AllBare s'.gens)
    (hch : ∀ b ∈ ch,(b ∈ X.ex \/ X.s₀.heap.objs.size <= b) /\ b ≠ X.env.locals /\ (∀ x c,X.env.cells.lookup x = some c -> c ≠ b) /\ ∀ p ∈ X.pn ++ pins,p.1 ≠ b) : Inv X pins σ H' s' := by
  obtain ⟨h',g',d',t',o'⟩ := s'
  have e : o' = s.os := ho
  subst e
  exact I.call (g' := g') (t' := t') (d' := d') u hok hg hch
end
abbrev XK := Value -> Option Addr -> Hp -> Prop
abbrev St := List (Option V)
abbrev VK := V -> Hp -> Prop
abbrev TE := St -> Hp -> VK -> Prop
abbrev TT := St -> Hp -> (Bool -> Hp -> Prop) -> Prop
abbrev TA := St -> Hp -> (List V -> Hp -> Prop) -> Prop
structure Ends where
  nx : St -> Hp -> Prop
  rt : VK
  bk : St -> Hp -> Prop := fun _ _ => False
  ct : St -> Hp -> Prop := fun _ _ => False
abbrev TS := Ends -> St -> Hp -> Prop
def EP (X : Cx) (pins : List (Addr × Obj)) (σ : St) (Q : VK) (u : Value) (s' : Shared) : Prop := ∃ v H',Inv X pins σ H' s' /\ RelV v u /\ Q v H'
def TP (X : Cx) (pins : List (Addr × Obj)) (σ : St) (Q : Bool -> Hp -> Prop) (b : Bool) (s' : Shared) : Prop := ∃ H',Inv X pins σ H' s' /\ Q b H'
def AP (X : Cx) (pins : List (Addr × Obj)) (σ : St) (Q : List V -> Hp -> Prop) (us : List Value) (s' : Shared) : Prop := ∃ vs H',Inv X pins σ H' s' /\ Vals vs us /\ Q vs H'
def SP (X : Cx) (pins : List (Addr × Obj)) (D : Ends) (f : Flow) (s' : Shared) : Prop :=
  match f with
  | .next => ∃ σ' H',Inv X pins σ' H' s' /\ D.nx σ' H'
  | .brk => ∃ σ' H',Inv X pins σ' H' s' /\ D.bk σ' H'
  | .cont => ∃ σ' H',Inv X pins σ' H' s' /\ D.ct σ' H'
  | .ret u => ∃ v σ' H',Inv X pins σ' H' s' /\ RelV v u /\ D.rt v H'
def PE (X : Cx) (e : Expr) (t : TE) : Prop :=
  ∀ (pins : List (Addr × Obj)) (s : Shared) (σ : St) (H : Hp) (Q : VK),Inv X pins σ H s -> t σ H Q -> wpAny (model X.prog X.w) X.A (eval e X.env) (EP X pins σ Q) X.xe s
def PT (X : Cx) (e : Expr) (t : TT) : Prop :=
  ∀ (pins : List (Addr × Obj)) (s : Shared) (σ : St) (H : Hp) (Q : Bool -> Hp -> Prop),Inv X pins σ H s -> t σ H Q -> wpAny (model X.prog X.w) X.A (isTrue e X.env (eval e X.env)) (TP X pins σ Q) X.xe s
def PW (X : Cx) (e : Expr) (t : TT) : Prop :=
  ∀ (whole : Sem Value) (pins : List (Addr × Obj)) (s : Shared) (σ : St) (H : Hp) (Q : Bool -> Hp -> Prop),Inv X pins σ H s -> t σ H Q -> wpAny (model X.prog X.w) X.A (isTrue e X.env whole) (TP X pins σ Q) X.xe s
theorem PW.pt {X : Cx} {e : Expr} {t : TT} (h : PW X e t) : PT X e t := h _
def PA (X : Cx) (es : List Expr) (t : TA) : Prop :=
  ∀ (pos : Pos) (pins : List (Addr × Obj)) (s : Shared) (σ : St) (H : Hp) (Q : List V -> Hp -> Prop),Inv X pins σ H s -> t σ H Q -> wpAny (model X.prog X.w) X.A (spliced (backTo pos (starEach es X.env))) (AP X pins σ Q) X.xe s
def PS (X : Cx) (st : Stmt) (t : TS) : Prop :=
  ∀ (pins : List (Addr × Obj)) (s : Shared) (σ : St) (H : Hp) (D : Ends),Inv X pins σ H s -> t D σ H -> wpAny (model X.prog X.w) X.A (exec st X.env) (SP X pins D) X.xe s
def PSs (X : Cx) (st : List Stmt) (t : TS) : Prop :=
  ∀ (pins : List (Addr × Obj)) (s : Shared) (σ : St) (H : Hp) (D : Ends),Inv X pins σ H s -> t D σ H -> wpAny (model X.prog X.w) X.A (execs st X.env) (SP X pins D) X.xe s
theorem thn {α : Type} {t : Sem α} {Q Q' : α -> Shared -> Prop} {M : Model} {A : Around} {E : Value -> Shared -> Prop} {s : Shared} (h : wpAny M A t Q E s) (hQ : ∀ a s,Q a s -> Q' a s) : wpAny M A t Q' E s := wpAny_mono h hQ fun _ _ x => x
end L2
namespace L2
open PySem PySem.Spec PyProof.Rows
section
variable {X : Cx}
def tVar (i : Nat) : TE := fun σ H Q => ∃ v, σ[i]? = some (some v) /\ Q v H
def tC (v : V) : TE := fun _ H Q => Q v H
theorem pe_var {i : Nat} {x : Str} {pos : Pos} (hN : X.N[i]? = some x) (hv : Vis X.env.scope x) (hd : (x == ("__debug__" : Str)) = false := by decide) (hcd : (x == ("__classdict__" : Str)) = false := by decide) : PE X (.Name x pos) (tVar i) := by
  intro pins s σ H Q I h
  obtain ⟨v,e,h⟩ := h
  obtain ⟨m,hn,hl⟩ := I.loc
  obtain ⟨u,r,l⟩ := hl i x v hN e hv
  have fin : EP X pins σ Q u s := ⟨v,H,I,r,h⟩
  rcases l with ⟨hk,hm⟩ | ⟨hk,c,hc,hcell⟩
  . exact wpAny_Name (wpAny_loadName_local I.ok.kind hk hn hm fin) hd
  . rcases hk with hk | hk
    . exact wpAny_Name (wpAny_loadName_cell I.ok.kind hk hc hcell fin) hd
    . exact wpAny_Name (wpAny_loadName_free I.ok.kind hk hc hcell fin hcd) hd
theorem q14 {i j pos} : PE X (.Constant (.int i) j pos) (tC (.int i)) := fun _ _ _ H _ I h => wpAny_Constant_int ⟨.int i,H,I.tok _,⟨_,rfl⟩,h⟩
theorem q7c {b j pos} : PE X (.Constant (.bool b) j pos) (tC (.bl b)) := fun _ _ _ H _ I h => Constant_bool ⟨.bl b,H,I,rfl,h⟩
theorem pe_non {j pos} : PE X (.Constant .none j pos) (tC .non) := fun _ _ _ H _ I h => Constant_none ⟨.non,H,I,rfl,h⟩
theorem q1b {x j pos} : PE X (.Constant (.str x) j pos) (tC (.str x)) := fun _ _ _ H _ I h => Calls.Constant_str ⟨.str x,H,I.tok _,⟨_,rfl⟩,h⟩
def Gl (X : Cx) (x : Str) : Prop := X.env.kindOf x = some .globalImplicit
theorem q4d {E : Value -> Shared -> Prop} {pins : List (Addr × Obj)} {s : Shared} {σ : St} {H : Hp} {x : Str} {u : Value} {pos : Pos} {Q : Value -> Shared -> Prop} (I : Inv X pins σ H s) (hg : Gl X x) (hm : X.mg x = some u) (h : Q u s)
    (hd : (x == ("__debug__" : Str)) = false := by decide) : wpAny (model X.prog X.w) X.A (eval (.Name x pos) X.env) Q E s :=
  Calls.Name_function_global I.ok.kind hg (Calls.loadGlobal_global (by rw [I.ok.glob]; exact I.mod.glob.keeps I.bk) hm h) hd
theorem q6r {E : Value -> Shared -> Prop} {pins : List (Addr × Obj)} {s : Shared} {σ : St} {H : Hp} {x : Str} {u : Value} {pos : Pos} {Q : Value -> Shared -> Prop} (I : Inv X pins σ H s) (hg : Gl X x) (hm : X.mg x = none) (hv : bootBuiltins x = some u) (h : Q u s)
    (hn : x ≠ "__name__" := by decide) (hd : (x == ("__debug__" : Str)) = false := by decide) : wpAny (model X.prog X.w) X.A (eval (.Name x pos) X.env) Q E s := by
  obtain ⟨mb,h1,h2⟩ := I.mod.blt
  exact Calls.Name_function_global I.ok.kind hg (Calls.loadGlobal_builtin (by rw [I.ok.glob]; exact I.mod.glob.keeps I.bk) hm (by rw [I.ok.blt]; exact h1.keeps I.bk) ((h2 x hn).trans hv) h) hd
theorem q3f {x : Str} {v : V} {u : Value} {pos : Pos} (hg : Gl X x) (hm : X.mg x = some u) (r : RelV v u) (hd : (x == ("__debug__" : Str)) = false := by decide) : PE X (.Name x pos) (tC v) :=
  fun _ _ _ H _ I h => q4d I hg hm ⟨v,H,I,r,h⟩ hd
theorem q8z {x : Str} {v : V} {u : Value} {pos : Pos} (hg : Gl X x) (hm : X.mg x = none) (hv : bootBuiltins x = some u) (r : RelV v u) (hn : x ≠ "__name__" := by decide) (hd : (x == ("__debug__" : Str)) = false := by decide) : PE X (.Name x pos) (tC v) :=
  fun _ _ _ H _ I h => q6r I hg hm hv ⟨v,H,I,r,h⟩ hn hd
variable {a b : Expr} {ta tb : TE} {pos : Pos}
def PC (X : Cx) (op : CmpOp) (a b : Expr) (t : TE) : Prop :=
  ∀ (pins : List (Addr × Obj)) (s : Shared) (σ : St) (H : Hp) (Q : VK),Inv X pins σ H s -> t σ H Q ->
    wpAny (model X.prog X.w) X.A (eval a X.env) (fun v s₁ => wpAny (model X.prog X.w) X.A (eval b X.env) (fun u s₂ => wpAny (model X.prog X.w) X.A (compareOp op v u) (EP X pins σ Q) X.xe s₂) X.xe s₁) X.xe s
theorem qhg (b : Expr) {op : CmpOp} (h : op ≠ .In) (h2 : op ≠ .NotIn) : behindInMarks op b = false := by
  have e1 : (op == CmpOp.In) = false := by cases op <;> first | rfl | exact absurd rfl h
  have e2 : (op == CmpOp.NotIn) = false := by cases op <;> first | rfl | exact absurd rfl h2
  cases b <;> simp [behindInMarks,e1,e2]
def tIsN (ta : TE) : TE := fun σ H Q => ta σ H fun x H1 => Q (.bl (decide (x = .non))) H1
def tNotN (ta : TE) : TE := fun σ H Q => ta σ H fun x H1 => Q (.bl (!decide (x = .non))) H1
theorem RelV.qaz {x : V} {v : Value} (r : RelV x v) : (v == Value.none) = decide (x = .non) := by
  cases x with
  | non => cases r; rfl
  | bl _ => cases r; rfl
  | int _ => obtain ⟨t,rfl⟩ := r; rfl
  | str _ => obtain ⟨t,rfl⟩ := r; rfl
  | byt _ => obtain ⟨t,rfl⟩ := r; rfl
  | flt _ => obtain ⟨t,rfl⟩ := r; rfl
  | ref _ => cases r; rfl
  | ty _ => cases r; rfl
theorem pc_isN {j pos'} (ha : PE X a ta) : PC X .Is a (.Constant .none j pos') (tIsN ta) := by
  intro pins s σ H Q I h
  refine thn (ha pins s σ H _ I h) fun v s1 ⟨x,H1,I1,r1,q1⟩ => ?_
  exact Constant_none (is_none_gen ⟨.bl _,H1,I1,by rw [r1.qaz]; rfl,q1⟩)
theorem qiz {j pos'} (ha : PE X a ta) : PC X .IsNot a (.Constant .none j pos') (tNotN ta) := by
  intro pins s σ H Q I h
  refine thn (ha pins s σ H _ I h) fun v s1 ⟨x,H1,I1,r1,q1⟩ => ?_
  exact Constant_none (isnot_none_gen ⟨.bl _,H1,I1,by rw [r1.qaz]; rfl,q1⟩)
def tB (t : TE) : TT := fun σ H Q => t σ H fun x H1 => ∃ c,x = .bl c /\ Q c H1
theorem q8j {op : CmpOp} {t : TE} (h : PC X op a b t) (h1 : behindInMarks op b = false := by first | exact qhg _ (by decide) (by decide) | rfl) : PT X (.Compare a [op] [b] pos) (tB t) := by
  intro pins s σ H Q I hw
  refine wpAny_isTrue_Compare1 (thn (h pins s σ H _ I hw) fun v s1 h1 => thn h1 fun u s2 h2 => thn h2 fun c s3 ⟨x,H1,I1,r1,q1⟩ => ?_) h1
  obtain ⟨d,rfl,q⟩ := q1
  cases r1
  exact wpAny_truthy_bool ⟨H1,I1,q⟩
theorem q7z {e : Expr} {t : TE} (h : PE X e t) (he : ∀ whole,isTrue e X.env whole = (do let v <- whole; standAt e.pos; holding [v] (truthy v)) := by intro _; rfl) : PT X e (tB t) := by
  intro pins s σ H Q I hw
  refine isTrue_plain (thn (h pins s σ H _ I hw) fun v s1 ⟨x,H1,I1,r1,q1⟩ => ?_) (he _)
  obtain ⟨d,rfl,q⟩ := q1
  cases r1
  exact wpAny_truthy_bool ⟨H1,I1,q⟩
variable {tA tB' : TT} {rest : List Expr}
def tOr (t u : TT) : TT := fun σ H Q => t σ H fun c H1 => if c = true then Q true H1 else u σ H1 Q
def tNot (t : TT) : TT := fun σ H Q => t σ H fun c H1 => Q (!c) H1
theorem q86 (ha : PT X a tA) : PW X (.BoolOp .Or [a] pos) tA := by
  intro wh pins s σ H Q I h
  refine isTrue_or (thn (ha pins s σ H Q I h) fun c s1 e => ?_)
  cases c with
  | false => exact isTrue_or_nil e
  | true => exact e
theorem q7k (ha : PT X a tA) (hb : PW X (.BoolOp .Or (b :: rest) pos) tB') : PW X (.BoolOp .Or (a :: b :: rest) pos) (tOr tA tB') := by
  intro wh pins s σ H Q I h
  refine isTrue_or (thn (ha pins s σ H _ I h) fun c s1 ⟨H1,I1,q1⟩ => ?_)
  cases c with
  | true => exact ⟨H1,I1,q1⟩
  | false => exact hb wh pins s1 σ H1 Q I1 q1
theorem qbf (ha : PT X a tA) : PT X (.UnaryOp .Not a pos) (tNot tA) := by
  intro pins s σ H Q I h
  exact isTrue_not (ha pins s σ H (fun c H1 => Q (!c) H1) I h)
def tAndV (ta tb : TE) : TE := fun σ H Q => ta σ H fun x H1 => ∃ c,x = .bl c /\ if c = true then tb σ H1 Q else Q (.bl false) H1
def tOrV (ta tb : TE) : TE := fun σ H Q => ta σ H fun x H1 => ∃ c,x = .bl c /\ if c = true then Q (.bl true) H1 else tb σ H1 Q
def tNotV (ta : TE) : TE := fun σ H Q => ta σ H fun x H1 => ∃ c,x = .bl c /\ Q (.bl (!c)) H1
theorem qak {op} {t : TE} (h : PE X a t) : PE X (.BoolOp op [a] pos) t := fun pins s σ H Q I hw => BoolOp_one (h pins s σ H Q I hw)
theorem qfa (ha : PE X a ta) (hb : PE X (.BoolOp .And (b :: rest) pos) tb) : PE X (.BoolOp .And (a :: b :: rest) pos) (tAndV ta tb) := by
  intro pins s σ H Q I h
  refine BoolOp_and (thn (ha pins s σ H _ I h) fun v s1 ⟨x,H1,I1,r1,q1⟩ => ?_)
  obtain ⟨c,rfl,q1⟩ := q1
  cases r1
  refine wpAny_truthy_bool ?_
  cases c with
  | true => exact hb pins s1 σ H1 Q I1 q1
  | false => exact ⟨.bl false,H1,I1,rfl,q1⟩
theorem qe6 (ha : PE X a ta) (hb : PE X (.BoolOp .Or (b :: rest) pos) tb) : PE X (.BoolOp .Or (a :: b :: rest) pos) (tOrV ta tb) := by
  intro pins s σ H Q I h
  refine BoolOp_or (thn (ha pins s σ H _ I h) fun v s1 ⟨x,H1,I1,r1,q1⟩ => ?_)
  obtain ⟨c,rfl,q1⟩ := q1
  cases r1
  refine wpAny_truthy_bool ?_
  cases c with
  | false => exact hb pins s1 σ H1 Q I1 q1
  | true => exact ⟨.bl true,H1,I1,rfl,q1⟩
theorem qef (ha : PE X a ta) : PE X (.UnaryOp .Not a pos) (tNotV ta) := by
  intro pins s σ H Q I h
  refine UnaryOp_ (thn (ha pins s σ H _ I h) fun v s1 ⟨x,H1,I1,r1,q1⟩ => ?_)
  obtain ⟨c,rfl,q1⟩ := q1
  cases r1
  exact not_of (wpAny_truthy_bool ⟨.bl (!c),H1,I1,rfl,q1⟩)
end
end L2
namespace L2
open PySem PySem.Spec PyProof.Rows
def SqL (K : PySem.W.Frag) (H : Hp) (a : Addr) (xs : List V) : Prop :=
  Rd H a (.lst xs) \/
    ∃ (o : Obj) (its : Array Value) (n : Nat),K.lookup a = some o /\ o.cls = .type "list" /\ o.dict = none /\ o.data = .seq its n /\ its.size <= sizeLine /\ Vals xs its.toList
def SqT (K : PySem.W.Frag) (H : Hp) (a : Addr) (xs : List V) : Prop :=
  Rd H a (.tup xs) \/
    ∃ (o : Obj) (its : Array Value) (n : Nat),K.lookup a = some o /\ o.cls = .type "tuple" /\ o.data = .seq its n /\ its.size <= sizeLine /\ Vals xs its.toList
def absV : Value -> Option V
  | .none => some .non
  | .bool b => some (.bl b)
  | .int i _ => some (.int i)
  | .str x _ => some (.str x)
  | .bytes b _ => some (.byt b)
  | .float b _ => some (.flt b)
  | .ref a => some (.ref a)
  | .type n => some (.ty n)
  | _ => none
theorem RelV.abs {x : V} {u : Value} (r : RelV x u) : absV u = some x := by
  cases x with
  | non => cases r; rfl
  | bl _ => cases r; rfl
  | int _ => obtain ⟨t,rfl⟩ := r; rfl
  | str _ => obtain ⟨t,rfl⟩ := r; rfl
  | byt _ => obtain ⟨t,rfl⟩ := r; rfl
  | flt _ => obtain ⟨t,rfl⟩ := r; rfl
  | ref _ => cases r; rfl
  | ty _ => cases r; rfl
theorem RelV.inj {x y : V} {u : Value} (r : RelV x u) (q : RelV y u) : x = y := Option.some.inj (r.abs.symm.trans q.abs)
theorem Vals.inj : ∀ {xs ys : List V} {us : List Value},Vals xs us -> Vals ys us -> xs = ys
  | _,_,_, .nil, .nil => rfl
  | _,_,_, .cons r t, .cons r' t' => by rw [r.inj r',Vals.inj t t']
section
variable {X : Cx} {pins : List (Addr × Obj)} {σ : St} {H : Hp} {s : Shared} {a : Addr} {xs ys : List V}
theorem SqT.of {K : PySem.W.Frag} (h : H a = some (.tup xs)) : SqT K H a xs := .inl (.inl h)
theorem Inv.list (I : Inv X pins σ H s) (h : SqL X.K H a xs) : ∃ its : List Value,Vals xs its /\ PlainL s.heap a its.toArray /\ xs.length <= sizeLine := by
  rcases h with h | ⟨o,its,n,hk,hc,hd,hs,hz,r⟩
  . obtain ⟨z,its,n,r,e⟩ := h.ok I.hok
    exact ⟨its,r,⟨_,n,e,rfl,rfl,rfl⟩,z⟩
  . refine ⟨its.toList,r,⟨o,n,I.kIn a o hk,hc,hd,by simpa using hs⟩,?_⟩
    have e := r.length
    simp only [Array.length_toList] at e
    omega
theorem Inv.tuple (I : Inv X pins σ H s) (h : SqT X.K H a xs) : ∃ its : List Value,Vals xs its /\ IsTup s.heap a its.toArray /\ xs.length <= sizeLine := by
  rcases h with h | ⟨o,its,n,hk,hc,hs,hz,r⟩
  . obtain ⟨z,its,r,p⟩ := h.ok I.hok
    exact ⟨its,r,p,z⟩
  . refine ⟨its.toList,r,⟨o,I.kIn a o hk,hc,n,by simpa using hs⟩,?_⟩
    have e := r.length
    simp only [Array.length_toList] at e
    omega
theorem Inv.qbh (I : Inv X pins σ H s) (h : SqL X.K H a xs) (h' : SqL X.K H a ys) : xs = ys := by
  obtain ⟨its,r,⟨o,n,e,_,_,d⟩,_⟩ := I.list h
  obtain ⟨its',r',⟨o',n',e',_,_,d'⟩,_⟩ := I.list h'
  rw [e] at e'; cases e'
  rw [d] at d'
  injection d' with d1 _
  have : its = its' := by simpa using congrArg Array.toList d1
  subst this
  exact r.inj r'
end
abbrev Cx.wish (X : Cx) (E : Value -> Shared -> Prop) : Cx := { X with xe := E }
abbrev Cx.nox (X : Cx) : Cx := X.wish fun _ _ => False
theorem Cx.Ok.wish {X : Cx} (ok : X.Ok) (E : Value -> Shared -> Prop) : (X.wish E).Ok :=
  ⟨ok.mod,ok.kind,ok.glob,ok.blt,ok.above,ok.inj,ok.has,ok.cab,ok.hd,ok.frames,ok.stk,ok.exf,ok.bs,ok.bsz,ok.noex,ok.exfs,ok.funs,ok.frf⟩
theorem Cx.Ok.q3x {X : Cx} {E : Value -> Shared -> Prop} (ok : (X.wish E).Ok) : X.Ok :=
  ⟨ok.mod,ok.kind,ok.glob,ok.blt,ok.above,ok.inj,ok.has,ok.cab,ok.hd,ok.frames,ok.stk,ok.exf,ok.bs,ok.bsz,ok.noex,ok.exfs,ok.funs,ok.frf⟩
section
variable {X : Cx} {pins : List (Addr × Obj)} {σ : St} {H : Hp} {s : Shared} {E : Value -> Shared -> Prop}
theorem Inv.wish (I : Inv X pins σ H s) (E : Value -> Shared -> Prop) : Inv (X.wish E) pins σ H s := ⟨I.ok.wish E,I.os,I.bare,I.base,I.loc,I.cell,I.free,I.freeC,I.pin,I.hok,I.len⟩
theorem Inv.q3x (I : Inv (X.wish E) pins σ H s) : Inv X pins σ H s := ⟨I.ok.q3x,I.os,I.bare,I.base,I.loc,I.cell,I.free,I.freeC,I.pin,I.hok,I.len⟩
theorem SP.q3x {D : Ends} {f : Flow} {s' : Shared} (h : SP (X.wish E) pins D f s') : SP X pins D f s' := by
  cases f with
  | next => obtain ⟨σ',H',I,q⟩ := h; exact ⟨σ',H',I.q3x,q⟩
  | brk => obtain ⟨σ',H',I,q⟩ := h; exact ⟨σ',H',I.q3x,q⟩
  | cont => obtain ⟨σ',H',I,q⟩ := h; exact ⟨σ',H',I.q3x,q⟩
  | ret u => obtain ⟨v, σ',H',I,r,q⟩ := h; exact ⟨v, σ',H',I.q3x,r,q⟩
theorem PSs.nox {st : List Stmt} {t : TS} (h : PSs X.nox st t) : PSs X st t := fun pins s σ H D I hw =>
  wpAny_mono (h pins s σ H D (I.wish _) hw) (fun _ _ q => q.q3x) fun _ _ z => False.elim z
end
section
variable {X : Cx} {st : Stmt} {rest : List Stmt} {t u : TS} {e : Expr} {te : TE} {pos : Pos}
def tNext : TS := fun D σ H => D.nx σ H
def tSeq (t u : TS) : TS := fun D σ H => t { D with nx := u D } σ H
theorem q1s : PSs X [] tNext := fun _ _ σ H _ I h => wpAny_execs_nil ⟨σ,H,I,h⟩
theorem q19 (h1 : PS X st t) (h2 : PSs X rest u) : PSs X (st :: rest) (tSeq t u) := by
  intro pins s σ H D I h
  refine wpAny_execs_cons (thn (h1 pins s σ H { D with nx := u D } I h) fun f s1 q => ?_)
  cases f with
  | next =>
    obtain ⟨σ',H',I',q⟩ := q
    exact h2 pins s1 σ' H' D I' q
  | ret v => exact q
  | brk => exact q
  | cont => exact q
theorem q1a (h1 : PS X st t) : PSs X [st] t := by
  intro pins s σ H D I h
  refine wpAny_execs_cons (thn (h1 pins s σ H D I h) fun f s1 q => ?_)
  cases f with
  | next => exact wpAny_execs_nil q
  | ret v => exact q
  | brk => exact q
  | cont => exact q
theorem Inv.quiet {pins : List (Addr × Obj)} {σ : St} {H : Hp} {s : Shared} (I : Inv X pins σ H s) : interactive X.env = false := by simp [interactive,I.ok.kind]
def tDrop (te : TE) : TS := fun D σ H => te σ H fun _ H1 => D.nx σ H1
theorem q2l (he : PE X e te) (hs : swapsWith e none pos.line X.env = pure false := by rfl) : PS X (.Expr e pos) (tDrop te) := by
  intro pins s σ H D I h
  exact wpAny_Expr_any (thn (he pins s σ H _ I h) fun v s1 ⟨x,H1,I1,r1,q1⟩ => ⟨σ,H1,I1,q1⟩) I.quiet hs
def tRet (te : TE) : TS := fun D σ H => te σ H D.rt
theorem q1v (he : PE X e te) : PS X (.Return (some e) pos) (tRet te) := by
  intro pins s σ H D I h
  exact wpAny_Return_some (thn (he pins s σ H _ I h) fun v s1 ⟨x,H1,I1,r1,q1⟩ => ⟨x, σ,H1,I1,r1,q1⟩)
def tIfS (c : TT) (t u : TS) : TS := fun D σ H => c σ H fun b H1 => if b = true then t D σ H1 else u D σ H1
theorem q2e {c : Expr} {a b : List Stmt} {tc : TT} (hc : PT X c tc) (ha : PSs X a t) (hb : PSs X b u) : PS X (.If c a b pos) (tIfS tc t u) := by
  intro pins s σ H D I h
  refine wpAny_If (thn (hc pins s σ H _ I h) fun d s1 ⟨H1,I1,q1⟩ => ?_)
  cases d with
  | true => exact ha pins s1 σ H1 D I1 q1
  | false => exact hb pins s1 σ H1 D I1 q1
end
abbrev TG := V -> St -> Hp -> (St -> Hp -> Prop) -> Prop
abbrev TGs := List V -> St -> Hp -> (St -> Hp -> Prop) -> Prop
def PG (X : Cx) (target : Expr) (t : TG) : Prop :=
  ∀ (pins : List (Addr × Obj)) (s : Shared) (σ : St) (H : Hp) (v : V) (u : Value) (Q : St -> Hp -> Prop),Inv X pins σ H s -> RelV v u -> t v σ H Q ->
    wpAny (model X.prog X.w) X.A (assign target X.env u) (fun _ s' => ∃ σ' H',Inv X pins σ' H' s' /\ Q σ' H') X.xe s
def PGs (X : Cx) (ts : List Expr) (t : TGs) : Prop :=
  ∀ (pins : List (Addr × Obj)) (s : Shared) (σ : St) (H : Hp) (vs : List V) (us : List Value) (Q : St -> Hp -> Prop),Inv X pins σ H s -> Vals vs us -> t vs σ H Q ->
    wpAny (model X.prog X.w) X.A (assignInOrder ((assignEach ts X.env).map (·.2)) us) (fun _ s' => ∃ σ' H',Inv X pins σ' H' s' /\ Q σ' H') X.xe s
abbrev TSet := V -> V -> V -> Hp -> (Hp -> Prop) -> Prop
def PSet (X : Cx) (t : TSet) : Prop :=
  ∀ (pins : List (Addr × Obj)) (s : Shared) (σ : St) (H : Hp) (o i v : V) (ov iv u : Value) (Q : Hp -> Prop),Inv X pins σ H s -> RelV o ov -> RelV i iv -> RelV v u -> t o i v H Q ->
    wpAny (model X.prog X.w) X.A (setItem ov iv u) (fun _ s' => ∃ H',Inv X pins σ H' s' /\ Q H') X.xe s
section
variable {X : Cx} {pos : Pos}
def q54 (i : Nat) : TG := fun v σ H Q => Q (σ.set i (some v)) H
theorem q29 {i : Nat} {x : Str} (hN : X.N.Nodup) (hi : X.N[i]? = some x) (hx : Loc X.env.scope x) (hf : X.fn x = true \/ X.env.scope.names.lookup x = some .local := by first | exact .inl rfl | exact .inr rfl | assumption) : PG X (.Name x pos) (q54 i) := by
  intro pins s σ H v u Q I r h
  exact wpAny_assign_Name (q6d I hN hi hx r (fun s' I' => ⟨_,H,I',h⟩) hf)
def gNil : TGs := fun vs σ H Q => vs = [] /\ Q σ H
def qdg (t : TG) (u : TGs) : TGs := fun vs σ H Q => ∃ v r,vs = v :: r /\ t v σ H fun σ' H' => u r σ' H' Q
theorem q5a : PGs X [] gNil := by
  intro pins s σ H vs us Q I r h
  obtain ⟨e,h⟩ := h
  subst e
  cases r
  exact assignInOrder_nil ⟨σ,H,I,h⟩
theorem q2w {e : Expr} {es : List Expr} {t : TG} {u : TGs} (h1 : PG X e t) (h2 : PGs X es u)
    (hs : (assignEach (e :: es) X.env).map (·.2) = assign e X.env :: (assignEach es X.env).map (·.2) := by rfl) : PGs X (e :: es) (qdg t u) := by
  intro pins s σ H vs us Q I r h
  obtain ⟨v,vr,e1,h⟩ := h
  subst e1
  cases r with
  | cons r rr =>
    rw [hs]
    refine assignInOrder_cons (thn (h1 pins s σ H _ _ _ I r h) fun _ s1 ⟨σ1,H1,I1,q1⟩ => ?_)
    exact h2 pins s1 σ1 H1 _ _ Q I1 rr q1
def gTup (K : PySem.W.Frag) (n : Nat) (t : TGs) : TG := fun v σ H Q => ∃ a xs,v = .ref a /\ SqT K H a xs /\ xs.length = n /\ t xs σ H Q
theorem qej {es : List Expr} {k : Nat} {t : TGs} {n : Nat} (hc : X.calm = true) (h : PGs X es t)
    (hn : (assignEach es X.env).length = n := by rfl) (hst : (assignEach es X.env).findIdx? (·.1) = none := by rfl) : PG X (.Tuple es k pos) (gTup X.K n t) := by
  intro pins s σ H v u Q I r hw
  obtain ⟨a,xs,e1,hq,hl,hw⟩ := hw
  subst e1
  cases r
  obtain ⟨its,rv,ht,hz⟩ := I.tuple hq
  refine assign_Tuple_tuple (I.ok.hd hc) ht (by simp [hn, <- hl,rv.length]) hst fun h' hx => ?_
  have I1 : Inv X pins σ H { s with heap := h' } := I.kept (t' := s.toks) fun b o e => hx b o (Nat.ne_of_lt (Heap.lt_size e)) e
  exact h pins _ σ H xs _ Q I1 (by simpa using rv) hw
def gSub (to ti : TE) (t : TSet) : TG := fun v σ H Q => to σ H fun o H1 => ti σ H1 fun i H2 => t o i v H2 fun H3 => Q σ H3
theorem qek {o i : Expr} {to ti : TE} {t : TSet} (ho : PE X o to) (hi : PE X i ti) (hs : PSet X t)
    (ha : ∀ v,assign (.Subscript o i pos) X.env v = (do
      let ov <- holding [v] (eval o X.env)
      let iv <- holding [v,ov] (eval i X.env)
      standAt pos
      holding [v,ov,iv] (setItem ov iv v)
      release [v,ov,iv] []) := by intro _; rfl) : PG X (.Subscript o i pos) (gSub to ti t) := by
  intro pins s σ H v u Q I r h
  rw [ha]
  refine wpAny_bind (wpAny_holding (thn (ho pins s σ H _ I h) fun ov s1 ⟨x,H1,I1,r1,q1⟩ => ?_))
  refine wpAny_bind (wpAny_holding (thn (hi pins s1 σ H1 _ I1 q1) fun iv s2 ⟨y,H2,I2,r2,q2⟩ => ?_))
  refine wpAny_bind (wpAny_standAt (wpAny_bind (wpAny_holding (thn (hs pins s2 σ H2 x y v ov iv u _ I2 r1 r2 r q2) fun _ s3 ⟨H3,I3,q3⟩ => ?_))))
  exact wpAny_release ⟨σ,H3,I3,q3⟩
def tAsg (te : TE) (g : TG) : TS := fun D σ H => te σ H fun x H1 => g x σ H1 D.nx
theorem qec {tg e : Expr} {te : TE} {g : TG} (he : PE X e te) (hg : PG X tg g) (hs : swapsWithSole [tg] e pos.line X.env = pure false := by rfl) (hw : swappedStores [tg] e X.env = pure none := by rfl)
    (h1 : (assignEach [tg] X.env).map (·.2) = [assign tg X.env] := by rfl) : PS X (.Assign [tg] e pos) (tAsg te g) := by
  intro pins s σ H D I h
  refine wpAny_Assign_stores (thn (he pins s σ H _ I h) fun v s1 ⟨x,H1,I1,r1,q1⟩ => ?_) hs hw
  rw [h1]
  exact thn (hg pins s1 σ H1 x v _ I1 r1 q1) fun _ s2 q => q
theorem q2q {i : Nat} {x : Str} {e : Expr} {te : TE} {pos' : Pos} (hN : X.N.Nodup) (hi : X.N[i]? = some x) (hx : Loc X.env.scope x) (he : PE X e te) (hs : swapsWith e (some (.Name x pos')) pos.line X.env = pure false := by rfl) (hf : X.fn x = true \/ X.env.scope.names.lookup x = some .local := by first | exact .inl rfl | exact .inr rfl | assumption) :
    PS X (.Assign [.Name x pos'] e pos) (tAsg te (q54 i)) := by
  intro pins s σ H D I h
  refine wpAny_Assign_Name (thn (he pins s σ H _ I h) fun v s1 ⟨y,H1,I1,r1,q1⟩ => ?_) hs
  exact q6d I1 hN hi hx r1 (fun s2 I2 => ⟨_,H1,I2,q1⟩) hf
end
structure It where
  go : Nat -> Hp -> Prop
  yld : Nat -> Hp -> V -> Hp -> Prop
  stop : Nat -> Hp -> Prop
def FpOk (X : Cx) (pins : List (Addr × Obj)) (H : Hp) (b : Addr) : Prop :=
  H b = none /\ b ≠ X.env.locals /\ b ∉ X.fs /\ (b ∈ X.ex \/ X.s₀.heap.objs.size <= b) /\ (∀ x c,X.env.cells.lookup x = some c -> c ≠ b) /\ ∀ p ∈ X.pn ++ pins,p.1 ≠ b
theorem Inv.fpOk {X : Cx} {pins : List (Addr × Obj)} {σ : St} {H H' : Hp} {s : Shared} {b : Addr} (I : Inv X pins σ H s) (hb : s.heap.objs.size <= b) (hn : H' b = none) : FpOk X pins H' b := by
  refine ⟨hn,Nat.ne_of_gt (Nat.lt_of_lt_of_le I.lt hb),I.nofs hb, .inr (Nat.le_trans I.sz hb),fun x c e z => ?_,fun p hp z => ?_⟩
  . obtain ⟨v,q⟩ := I.cell x c e
    exact absurd (Nat.lt_of_lt_of_le q.lt (by rw [z]; exact hb)) (Nat.lt_irrefl _)
  . exact absurd (Nat.lt_of_lt_of_le (Heap.lt_size (I.pin p hp).1) (by rw [z]; exact hb)) (Nat.lt_irrefl _)
structure Turn (P : Program) (w : World) (K : PySem.W.Frag) (tg : Expr) (J : It) (fp : List Addr) (it : Addr) (tn : Nat -> Heap -> Prop) : Prop where
  mem : it ∈ fp
  obj : ∀ i h,tn i h -> ∀ b ∈ fp, ∃ o,h.get? b = some o /\ ∀ v,o.data ≠ .cell v
  keep : ∀ i h h',tn i h -> (∀ b ∈ fp, ∀ o,h.get? b = some o -> h'.get? b = some o) -> tn i h'
  item : ∀ (X : Cx),X.prog = P -> X.w = w -> X.K = K -> X.calm = true -> ∀ (i : Nat) (pins : List (Addr × Obj)) (s : Shared) (σ : St) (H : Hp) (E : Value -> Shared -> Prop),Inv X pins σ H s -> (∀ b ∈ fp,FpOk X pins H b) -> tn i s.heap -> J.go i H ->
    wpAny (model P w) X.A (pyNext (.ref it)) (fun r s1 => ∃ u,r = some u /\
      wpAny (model P w) X.A (letOwnedTupleGo tg (.ref it) u) (fun _ s2 => ∃ x H',Inv X pins σ H' s2 /\ RelV x u /\ J.yld i H x H' /\ tn (i + 1) s2.heap /\ ∀ b ∈ fp,H' b = none) E s1) E s
  done : ∀ (X : Cx),X.prog = P -> X.w = w -> X.K = K -> X.calm = true -> ∀ (i : Nat) (pins : List (Addr × Obj)) (s : Shared) (σ : St) (H : Hp) (E : Value -> Shared -> Prop),Inv X pins σ H s -> (∀ b ∈ fp,FpOk X pins H b) -> tn i s.heap -> J.stop i H ->
    wpAny (model P w) X.A (pyNext (.ref it)) (fun r s1 => r = none /\ Inv X pins σ H s1) E s
  self : ∀ (A : Around) (i : Nat) (s : Shared) (Q : Value -> Shared -> Prop) (E : Value -> Shared -> Prop),tn i s.heap -> Q (.ref it) s -> wpAny (model P w) A (pyIter (.ref it)) Q E s
abbrev TI := St -> Hp -> (It -> Hp -> Prop) -> Prop
def PIE (X : Cx) (pins : List (Addr × Obj)) (σ : St) (tg : Expr) (R : It -> Hp -> Prop) (itv : Value) (s2 : Shared) : Prop :=
  ∃ (it : Addr) (fp : List Addr) (tn : Nat -> Heap -> Prop) (J : It) (H' : Hp),itv = .ref it /\ Inv X pins σ H' s2 /\ Turn X.prog X.w X.K tg J fp it tn /\ tn 0 s2.heap /\ (∀ b ∈ fp,FpOk X pins H' b) /\ R J H'
def PI (X : Cx) (tg iter : Expr) (wi : TI) : Prop :=
  ∀ (pins : List (Addr × Obj)) (s : Shared) (σ : St) (H : Hp) (R : It -> Hp -> Prop),Inv X pins σ H s -> wi σ H R ->
    wpAny (model X.prog X.w) X.A (eval iter X.env) (fun v s1 => wpAny (model X.prog X.w) X.A (pyIter v) (PIE X pins σ tg R) X.xe s1) X.xe s
theorem qa8 {M : Model} {A : Around} {E : Value -> Shared -> Prop} {s : Shared} {tg : Expr} {it : Addr} {u : Value} {o : Obj} {n : String} {vs : Array Value} {Q : Unit -> Shared -> Prop} (ho : s.heap.get? it = some o) (hc : o.cls = .type n) (hd : o.data = .fields vs)
    (hn : ["enumerate", "zip", "dict_itemiterator", "dict_reverseitemiterator", "odict_iterator", "itertools.zip_longest", "itertools.pairwise"].contains n = false) (hQ : Q () s) : wpAny M A (letOwnedTupleGo tg (.ref it) u) Q E s := by
  unfold letOwnedTupleGo
  cases tg <;> first
    | exact wpAny_pure hQ
    | (cases u <;> first
        | exact wpAny_pure hQ
        | (refine wpAny_bind (wpAny_load ho ?_)
           rw [hc,hd]
           show wpAny M A (if (["enumerate", "zip", "dict_itemiterator", "dict_reverseitemiterator", "odict_iterator", "itertools.zip_longest", "itertools.pairwise"].contains n && vs[0]? == some (rawInt _)) = true then _ else _) Q E s
           rw [if_neg (by intro h; rw [hn,Bool.false_and] at h; cases h)]
           exact wpAny_pure hQ))
def Itl (K : PySem.W.Frag) (a : Addr) : It :=
  ⟨fun i H => ∃ xs x,SqL K H a xs /\ xs[i]? = some x,fun i H x H' => H' = H /\ ∀ xs,SqL K H a xs -> xs[i]? = some x,fun i H => ∃ xs,SqL K H a xs /\ xs.length <= i⟩
def Itr (lo : Int) (n : Nat) : It := ⟨fun i _ => i < n,fun i H x H' => H' = H /\ x = .int (lo + i),fun i _ => n <= i⟩
theorem qg1 {P : Program} {w : World} {K : PySem.W.Frag} {tg : Expr} (a it : Addr) : Turn P w K tg (Itl K a) [it] it (fun i h => h.IsListIter it a i) where
  mem := by simp
  obj := fun i h st b hb => by
    have e : b = it := by simpa using hb
    subst e
    obtain ⟨o,e,c,d⟩ := st
    exact ⟨o,e,fun v z => by rw [d] at z; cases z⟩
  keep := fun i h h' st k => st.at fun o e => k it (by simp) o e
  item := by
    intro X hP hw hK hc i pins s σ H E I hf st hg
    subst hP hw hK
    obtain ⟨xs,x,hq,hx⟩ := hg
    obtain ⟨its,rv,p,hz⟩ := I.list hq
    obtain ⟨u,hu,ru⟩ := rv.get hx
    obtain ⟨f0,f1,f2,f3,f4,f5⟩ := hf it (by simp)
    refine wpAny_pyNext_list_item st p.isList (x := u) (by simpa using hu) fun h' st' sb => ?_
    have I1 : Inv X pins σ H { s with heap := h' } := I.turned (t' := s.toks) (fun b o hb e => (sb.2 b hb).trans e) f0 f1 f3 f4 f5
    obtain ⟨o,e,c,d⟩ := id st'
    exact ⟨u,rfl,qa8 (s := { s with heap := h' }) e c d (by decide) ⟨x,H,I1,ru,⟨rfl,fun ys hy => by rw [I.qbh hy hq]; exact hx⟩,st',fun b hb => (hf b hb).1⟩⟩
  done := by
    intro X hP hw hK hc i pins s σ H E I hf st hg
    subst hP hw hK
    obtain ⟨xs,hq,hx⟩ := hg
    obtain ⟨its,rv,p,hz⟩ := I.list hq
    obtain ⟨f0,f1,f2,f3,f4,f5⟩ := hf it (by simp)
    have hl := rv.length
    exact wpAny_pyNext_list_end (I.ok.hd hc) st p.isList (by simp; omega) fun h' eb => ⟨rfl,I.turned (t' := s.toks) (fun b o hb e => eb b o hb e) f0 f1 f3 f4 f5⟩
  self := fun _ _ _ _ _ st h => wpAny_pyIter_listiter st h
theorem qe5 {P : Program} {w : World} {K : PySem.W.Frag} {tg : Expr} (it : Addr) (lo : Int) (n : Nat) : Turn P w K tg (Itr lo n) [it] it (fun i h => IsRangeIter h it (lo + (i : Nat) * 1) ((n : Int) - (i : Nat)) 1) where
  mem := by simp
  obj := fun i h st b hb => by
    have e : b = it := by simpa using hb
    subst e
    exact ⟨_,st,fun v z => by
      have z' : Data.fields _ = Data.cell v := z
      cases z'⟩
  keep := fun i h h' st k => k it (by simp) _ st
  item := by
    intro X hP hw hK hc i pins s σ H E I hf st hg
    subst hP hw hK
    obtain ⟨f0,f1,f2,f3,f4,f5⟩ := hf it (by simp)
    have W := Walks.range (prog := X.prog) (w := X.w) (I.ok.hd hc) it lo 1 n
    refine W.item i s _ _ hg st fun v h' tk hv st' kk => ?_
    obtain ⟨t,rfl⟩ := hv
    have I1 : Inv X pins σ H { s with heap := h',toks := tk } := I.turned (fun b o hb e => kk b o (by simpa using hb) e) f0 f1 f3 f4 f5
    refine ⟨_,rfl,qa8 (s := { s with heap := h',toks := tk }) (n := "range_iterator") st' rfl rfl (by decide) ⟨.int (lo + i),H,I1,⟨t,?_⟩,⟨rfl,rfl⟩,st',fun b hb => (hf b hb).1⟩⟩
    rw [Int.mul_one]
  done := by
    intro X hP hw hK hc i pins s σ H E I hf st hg
    subst hP hw hK
    obtain ⟨f0,f1,f2,f3,f4,f5⟩ := hf it (by simp)
    exact wpAny_pyNext_range_end (I.ok.hd hc) st (by have : n <= i := hg; omega) fun h' eb => ⟨rfl,I.turned (t' := s.toks) (fun b o hb e => eb b o hb e) f0 f1 f3 f4 f5⟩
  self := fun _ _ _ _ _ st h => wpAny_pyIter_rangeiter st h
end L2
namespace L2
open PySem PySem.Spec PyProof.Rows
section
variable {X : Cx} {tg : Expr}
def iList (K : PySem.W.Frag) (tl : TE) : TI := fun σ H R => tl σ H fun x H1 => ∃ a,x = .ref a /\ (∃ xs,SqL K H1 a xs) /\ R (Itl K a) H1
theorem q3t {l : Expr} {tl : TE} (hl : PE X l tl) : PI X tg l (iList X.K tl) := by
  intro pins s σ H R I h
  refine thn (hl pins s σ H _ I h) fun v s1 ⟨x,H1,I1,r1,q1⟩ => ?_
  obtain ⟨a,e,⟨xs,hq⟩,q⟩ := q1
  subst e
  cases r1
  obtain ⟨its,rv,p,hz⟩ := I1.list hq
  refine wpAny_pyIter_list p.isList ?_
  refine ⟨s1.heap.objs.size,[s1.heap.objs.size],_,_,H1,rfl,I1.kept (t' := s1.toks) fun b o e => Heap.get?_push_of_some _ e,qg1 a _,⟨_,Heap.get?_push_size _ rfl,rfl,rfl⟩,fun b hb => ?_,q⟩
  have e : b = s1.heap.objs.size := by simpa using hb
  subst e
  exact I1.fpOk (Nat.le_refl _) (I1.hok.fresh (Nat.le_refl _))
theorem qh1 {pins : List (Addr × Obj)} {σ : St} {H : Hp} {s : Shared} {R : It -> Hp -> Prop} {E : Value -> Shared -> Prop} {lo hi : Int} {t u v : Tok} {tk : Nat} (I : Inv X pins σ H s) (h1 : -(2 ^ 62) <= lo) (h2 : lo < 2 ^ 62) (h3 : -(2 ^ 62) <= hi) (h4 : hi < 2 ^ 62)
    (q : R (Itr lo (hi - lo).toNat) H) : wpAny (model X.prog X.w) X.A (pyIter (.ref s.heap.objs.size)) (PIE X pins σ tg R) E { s with heap := s.heap.push { cls := .type "range",data := .fields #[.int lo t, .int hi u, .int 1 v] },toks := tk } := by
  refine wpAny_pyIter_range (IsRange.new ..) (small_one h1 h2 h3 h4) ?_
  have I1 : Inv X pins σ H { s with heap := s.heap.push { cls := .type "range",data := .fields #[.int lo t, .int hi u, .int 1 v] },toks := tk } := I.kept fun b o e => Heap.get?_push_of_some _ e
  refine ⟨(s.heap.push { cls := .type "range",data := .fields #[.int lo t, .int hi u, .int 1 v] }).objs.size,[(s.heap.push { cls := .type "range",data := .fields #[.int lo t, .int hi u, .int 1 v] }).objs.size],_,_,H,rfl,
    I1.kept (t' := tk) fun b o e => Heap.get?_push_of_some _ e,qe5 _ lo (hi - lo).toNat,?_,fun b hb => ?_,q⟩
  . have e1 : lo + ((0 : Nat) : Int) * 1 = lo := by simp
    have e2 : (((hi - lo).toNat : Nat) : Int) - ((0 : Nat) : Int) = Builtin.Range.rangeSize lo hi 1 := by rw [rangeSize_one]; split <;> omega
    show IsRangeIter _ _ (lo + ((0 : Nat) : Int) * 1) ((((hi - lo).toNat : Nat) : Int) - ((0 : Nat) : Int)) 1
    rw [e1,e2]
    exact Heap.get?_push_size _ rfl
  . have e : b = (s.heap.push { cls := .type "range",data := .fields #[.int lo t, .int hi u, .int 1 v] }).objs.size := by simpa using hb
    subst e
    exact I1.fpOk (Nat.le_refl _) (I1.hok.fresh (Nat.le_refl _))
def iRng1 (ta : TA) : TI := fun σ H R => ta σ H fun vs H1 => ∃ j : Int,vs = [.int j] /\ -(2 ^ 62) <= j /\ j < 2 ^ 62 /\ R (Itr 0 j.toNat) H1
theorem qer {a : Expr} {ta : TA} {p pos : Pos} (hg : Gl X "range") (hm : X.mg "range" = none) (ha : PA X [a] ta) (hs : starEach [a] X.env = [(false,eval a X.env)] := by rfl) : PI X tg (.Call (.Name "range" p) [a] [] pos) (iRng1 ta) := by
  intro pins s σ H R I h
  refine Call_ (q6r I hg hm boot_range (PyProof.Rows.callWith_type1 (thn (ha pos pins s σ H _ I h) fun us s1 ⟨vs,H1,I1,r1,q1⟩ => ?_) hs rfl))
  obtain ⟨j,e,q1,q2,q⟩ := q1
  subst e
  cases r1 with
  | cons r rr =>
    cases rr
    obtain ⟨t,rfl⟩ := r
    exact call_range_1 (qh1 I1 (by omega) (by omega) q1 q2 (by simpa using q))
def tFor (wi : TI) (g : TG) (tb : TS) : TS := fun D σ H => wi σ H fun J H1 => ∃ W : Nat -> Nat -> St -> Hp -> Prop,(∃ m,W 0 m σ H1) /\ ∀ i m σ H,W i m σ H ->
  (J.stop i H /\ D.nx σ H) \/ (J.go i H /\ ∃ N : St -> Hp -> Prop,(∀ σ' H',N σ' H' -> ∃ m',m' < m /\ W (i + 1) m' σ' H') /\ ∀ x H',J.yld i H x H' -> g x σ H' fun σ2 H2 => tb { D with nx := N,ct := N,bk := D.nx } σ2 H2)
def q4u (fp : List Addr) (h : Heap) : List (Addr × Obj) := fp.filterMap fun b => (h.get? b).map fun o => (b,o)
theorem q3j {fp : List Addr} {h : Heap} {b : Addr} {o : Obj} (hb : b ∈ fp) (e : h.get? b = some o) : (b,o) ∈ q4u fp h := List.mem_filterMap.mpr ⟨b,hb,by rw [e]; rfl⟩
theorem qg3 {fp : List Addr} {h : Heap} {p : Addr × Obj} (hp : p ∈ q4u fp h) : p.1 ∈ fp /\ h.get? p.1 = some p.2 := by
  obtain ⟨b,hb,e⟩ := List.mem_filterMap.mp hp
  cases q : h.get? b with
  | none => rw [q] at e; cases e
  | some o =>
    rw [q] at e
    have e' : (b,o) = p := Option.some.inj e
    subst e'
    exact ⟨hb,q⟩
theorem Inv.pinned {pins : List (Addr × Obj)} {σ : St} {H : Hp} {s : Shared} {fp : List Addr} (I : Inv X pins σ H s) (hf : ∀ b ∈ fp,FpOk X pins H b) (ho : ∀ b ∈ fp, ∃ o,s.heap.get? b = some o /\ ∀ v,o.data ≠ .cell v) : Inv X (pins ++ q4u fp s.heap) σ H s :=
  I.q9d fun p hp => (List.mem_append.mp hp).elim (fun z => I.pin p (List.mem_append_right _ z)) fun z => by
    obtain ⟨hb,e⟩ := qg3 z
    obtain ⟨f0,f1,f2,_⟩ := hf p.1 hb
    obtain ⟨o,e',d⟩ := ho p.1 hb
    rw [e] at e'; cases e'
    exact ⟨e,f0,f1,f2,d⟩
theorem Inv.q4n {pins pl : List (Addr × Obj)} {σ : St} {H : Hp} {s : Shared} (I : Inv X (pins ++ pl) σ H s) : Inv X pins σ H s := I.q9d fun p hp => I.pin p (List.mem_append_right _ (List.mem_append_left _ hp))
theorem q5g {iter : Expr} {body : List Stmt} {wi : TI} {g : TG} {tb : TS} {pos : Pos} (hp : PassesOwn (model X.prog X.w) X.A X.env X.xe) (hc : X.calm = true) (hi : PI X tg iter wi) (hg : PG X tg g) (hb : PSs X body tb)
    (hs : ∀ x,foldedSetIterable iter X.env x = pure x := by intro _; rfl) : PS X (.For tg iter body [] pos) (tFor wi g tb) := by
  intro pins s σ H D I h
  refine wpAny_For (thn (hi pins s σ H _ I h) fun v s1 h1 => thn h1 fun itv s2 h2 => ?_) hs
  obtain ⟨it,fp,tn,J,H2,e,I2,T,st2,f2,W,⟨m0,w0⟩,turn⟩ := h2
  subst e
  have stat : ∀ {H' : Hp},(∀ b ∈ fp,H' b = none) -> ∀ b ∈ fp,FpOk X pins H' b := fun hn b hb => ⟨hn b hb,(f2 b hb).2⟩
  refine codeAny_forLoop_any (fun n s' => ∃ i σ' H',Inv X pins σ' H' s' /\ tn i s'.heap /\ (∀ b ∈ fp,H' b = none) /\ W i n σ' H') ?_ m0 ⟨0, σ,H2,I2,st2,fun b hb => (f2 b hb).1,w0⟩
  rintro n s3 ⟨i, σ3,H3,I3,st3,fr3,w3⟩
  rcases turn i n σ3 H3 w3 with ⟨stop,qn⟩ | ⟨go,N,hN,step⟩
  . refine wpAny_passesOwn hp (thn (T.done X rfl rfl rfl hc i pins s3 σ3 H3 X.xe I3 (stat fr3) st3 stop) fun r s4 ⟨hr,I4⟩ => ?_)
    subst hr
    exact wpAny_execs_nil ⟨σ3,H3,I4,qn⟩
  . refine wpAny_passesOwn hp (thn (T.item X rfl rfl rfl hc i pins s3 σ3 H3 X.xe I3 (stat fr3) st3 go) fun r s4 ⟨u,hr,h4⟩ => ?_)
    subst hr
    refine wpAny_passesOwn hp (thn h4 fun _ s5 ⟨x,H5,I5,r5,y5,st5,fr5⟩ => ?_)
    have I5' := I5.pinned (stat fr5) (T.obj _ _ st5)
    refine wpAny_passesOwn hp (thn (hg _ s5 σ3 H5 x u _ I5' r5 (step x H5 y5)) fun _ s6 ⟨σ6,H6,I6,q6⟩ => ?_)
    refine wpAny_passesOwn hp (thn (hb _ s6 σ6 H6 _ I6 q6) fun f s7 q7 => ?_)
    have again : ∀ {σ7 : St} {H7 : Hp},Inv X (pins ++ q4u fp s5.heap) σ7 H7 s7 -> N σ7 H7 -> ∃ m,m < n /\ ∃ i σ' H',Inv X pins σ' H' s7 /\ tn i s7.heap /\ (∀ b ∈ fp,H' b = none) /\ W i m σ' H' := fun {σ7 H7} I7 n7 => by
      obtain ⟨m',hm,w7⟩ := hN σ7 H7 n7
      refine ⟨m',hm,i + 1, σ7,H7,I7.q4n,T.keep _ _ _ st5 fun b hb o e => (I7.pin (b,o) (List.mem_append_right _ (List.mem_append_right _ (q3j hb e)))).1,fun b hb => ?_,w7⟩
      obtain ⟨o,e,d⟩ := T.obj _ _ st5 b hb
      exact (I7.pin (b,o) (List.mem_append_right _ (List.mem_append_right _ (q3j hb e)))).2.1
    cases f with
    | next => obtain ⟨σ7,H7,I7,n7⟩ := q7; exact again I7 n7
    | cont => obtain ⟨σ7,H7,I7,n7⟩ := q7; exact again I7 n7
    | brk => obtain ⟨σ7,H7,I7,q7⟩ := q7; exact ⟨σ7,H7,I7.q4n,q7⟩
    | ret v => obtain ⟨x7, σ7,H7,I7,r7,q7⟩ := q7; exact ⟨x7, σ7,H7,I7.q4n,r7,q7⟩
end
end L2
namespace L2
open PySem PySem.Spec PyProof.Rows
abbrev R2 := V -> V -> Hp -> VK -> Prop
def OpR (X : Cx) (f : Value -> Value -> Sem Value) (r : R2) : Prop :=
  ∀ (pins : List (Addr × Obj)) (s : Shared) (σ : St) (H : Hp) (x y : V) (v u : Value) (Q : VK),Inv X pins σ H s -> RelV x v -> RelV y u -> r x y H Q ->
    wpAny (model X.prog X.w) X.A (f v u) (EP X pins σ Q) X.xe s
def q33 (X : Cx) (f : Value) (r : List V -> Hp -> VK -> Prop) : Prop :=
  ∀ (pins : List (Addr × Obj)) (s : Shared) (σ : St) (H : Hp) (xs : List V) (us : List Value) (Q : VK),Inv X pins σ H s -> Vals xs us -> r xs H Q ->
    wpAny (model X.prog X.w) X.A (call f us) (EP X pins σ Q) X.xe s
def tOp (r : R2) (ta tb : TE) : TE := fun σ H Q => ta σ H fun x H1 => tb σ H1 fun y H2 => r x y H2 Q
def rI (C : Int -> Int -> Prop) (g : Int -> Int -> V) : R2 := fun x y H Q => ∃ i j,x = .int i /\ y = .int j /\ C i j /\ Q (g i j) H
def rI0 (g : Int -> Int -> V) : R2 := fun x y H Q => ∃ i j,x = .int i /\ y = .int j /\ Q (g i j) H
section
variable {X : Cx} {a b c : Expr} {ta tb tc : TE} {pos : Pos}
theorem binT (ha : PE X a ta) (hb : PE X b tb) {pins : List (Addr × Obj)} {s : Shared} {σ : St} {H : Hp} {R : V -> V -> Hp -> Prop} (I : Inv X pins σ H s)
    (h : ta σ H fun x H1 => tb σ H1 fun y H2 => R x y H2) {Q : Value -> Shared -> Prop} {f : Value -> Value -> Sem Value}
    (hf : ∀ v u s2 x y H2,Inv X pins σ H2 s2 -> RelV x v -> RelV y u -> R x y H2 -> wpAny (model X.prog X.w) X.A (f v u) Q X.xe s2) :
    wpAny (model X.prog X.w) X.A (eval a X.env) (fun v s₁ => wpAny (model X.prog X.w) X.A (eval b X.env) (fun u s₂ => wpAny (model X.prog X.w) X.A (f v u) Q X.xe s₂) X.xe s₁) X.xe s := by
  refine thn (ha pins s σ H _ I h) fun v s1 ⟨x,H1,I1,r1,q1⟩ => ?_
  refine thn (hb pins s1 σ H1 _ I1 q1) fun u s2 ⟨y,H2,I2,r2,q2⟩ => ?_
  exact hf v u s2 x y H2 I2 r1 r2 q2
theorem q1f {op : Operator} {r : R2} (ho : OpR X (binaryOp op) r) (ha : PE X a ta) (hb : PE X b tb) : PE X (.BinOp a op b pos) (tOp r ta tb) := by
  intro pins s σ H Q I h
  exact wpAny_BinOp (binT ha hb I h fun v u s2 x y H2 I2 rx ry q => ho pins s2 σ H2 x y v u Q I2 rx ry q)
theorem opI {f : Value -> Value -> Sem Value} {C : Int -> Int -> Prop} {g : Int -> Int -> Int}
    (rule : ∀ (i j : Int) (t u : Tok) (s : Shared) (Q : Value -> Shared -> Prop) (E : Value -> Shared -> Prop),C i j -> Q (.int (g i j) s.toks) { s with toks := s.toks + 1 } -> wpAny (model X.prog X.w) X.A (f (.int i t) (.int j u)) Q E s) :
    OpR X f (rI C fun i j => .int (g i j)) := by
  intro pins s σ H x y v u Q I rx ry h
  obtain ⟨i,j,rfl,rfl,hc,q⟩ := h
  obtain ⟨t,rfl⟩ := rx
  obtain ⟨t',rfl⟩ := ry
  exact rule i j t t' s _ _ hc ⟨.int (g i j),H,I.tok _,⟨_,rfl⟩,q⟩
theorem opI0 {f : Value -> Value -> Sem Value} {g : Int -> Int -> Int}
    (rule : ∀ (i j : Int) (t u : Tok) (s : Shared) (Q : Value -> Shared -> Prop) (E : Value -> Shared -> Prop),Q (.int (g i j) s.toks) { s with toks := s.toks + 1 } -> wpAny (model X.prog X.w) X.A (f (.int i t) (.int j u)) Q E s) :
    OpR X f (rI0 fun i j => .int (g i j)) := by
  intro pins s σ H x y v u Q I rx ry h
  obtain ⟨i,j,rfl,rfl,q⟩ := h
  obtain ⟨t,rfl⟩ := rx
  obtain ⟨t',rfl⟩ := ry
  exact rule i j t t' s _ _ ⟨.int (g i j),H,I.tok _,⟨_,rfl⟩,q⟩
theorem opB0 {f : Value -> Value -> Sem Value} {g : Int -> Int -> Bool}
    (rule : ∀ (i j : Int) (t u : Tok) (s : Shared) (Q : Value -> Shared -> Prop) (E : Value -> Shared -> Prop),Q (.bool (g i j)) s -> wpAny (model X.prog X.w) X.A (f (.int i t) (.int j u)) Q E s) :
    OpR X f (rI0 fun i j => .bl (g i j)) := by
  intro pins s σ H x y v u Q I rx ry h
  obtain ⟨i,j,rfl,rfl,q⟩ := h
  obtain ⟨t,rfl⟩ := rx
  obtain ⟨t',rfl⟩ := ry
  exact rule i j t t' s _ _ ⟨.bl (g i j),H,I,rfl,q⟩
def CDiv (i j : Int) : Prop := 0 < j /\ j < 1073741824
theorem q4t : OpR X (binaryOp .Add) (rI0 fun i j => .int (i + j)) := opI0 fun _ _ _ _ _ _ _ q => add_int q
theorem q5k : OpR X (binaryOp .Sub) (rI0 fun i j => .int (i - j)) := opI0 fun _ _ _ _ _ _ _ q => sub_int q
theorem q2v : OpR X (binaryOp .FloorDiv) (rI CDiv fun i j => .int (i / j)) := opI fun i j _ _ _ _ _ hc q => by
  have h1 : (0 : Int) < j := hc.1
  have h2 : j < 1073741824 := hc.2
  exact floordiv_int (by omega) (by rw [Int.fdiv_eq_ediv_of_nonneg i (by omega)]; exact q) (.inl (PyProof.noPylong_small (by omega)))
theorem q2j : OpR X (binaryOp .Mod) (rI (fun _ j => 0 < j) fun i j => .int (i % j)) := opI fun i j _ _ _ _ _ hc q => by
  have h1 : (0 : Int) < j := hc
  exact mod_int' (by omega) (by rw [Int.fmod_eq_emod_of_nonneg i (by omega)]; exact q)
end
def scal : V -> V -> Bool
  | .non, .non => true | .non, .int _ => true | .int _, .non => true | .non, .bl _ => true | .bl _, .non => true | .non, .str _ => true | .str _, .non => true
  | .int _, .int _ => true | .bl _, .bl _ => true | .str _, .str _ => true | .byt _, .byt _ => true
  | .int _, .str _ => true | .str _, .int _ => true | .bl _, .str _ => true | .str _, .bl _ => true
  | _,_ => false
def rEq : R2 := fun x y H Q => scal x y = true /\ Q (.bl (decide (x = y))) H
def rNe : R2 := fun x y H Q => scal x y = true /\ Q (.bl (!decide (x = y))) H
theorem qcz {i j : Int} : decide (V.int i = V.int j) = (i == j) := by
  rw [Bool.eq_iff_iff]
  simp
theorem qeu {i j : Bool} : decide (V.bl i = V.bl j) = (i == j) := by
  rw [Bool.eq_iff_iff]
  simp
theorem qcn {i j : Str} : decide (V.str i = V.str j) = (i == j) := by
  rw [Bool.eq_iff_iff]
  simp
theorem qcf {i j : Array UInt8} : decide (V.byt i = V.byt j) = (i.toList == j.toList) := by
  rw [Bool.eq_iff_iff]
  cases i
  cases j
  simp
section
variable {X : Cx} {a b c : Expr} {ta tb tc : TE} {pos : Pos}
theorem q28 {pins : List (Addr × Obj)} {σ : St} {H : Hp} {s : Shared} {Q : VK} {k k' : Bool} (I : Inv X pins σ H s) (q : Q (.bl k) H) (e : k = k') : EP X pins σ Q (.bool k') s := by
  subst e
  exact ⟨.bl k,H,I,rfl,q⟩
theorem q3e : OpR X (compareOp .Eq) rEq := by
  intro pins s σ H x y v u Q I rx ry h
  obtain ⟨hs,q⟩ := h
  cases x with
  | non =>
    cases rx
    cases y with
    | non => cases ry; exact PySem.EqNone.eq_none_none (q28 I q (by simp))
    | bl j => cases ry; exact PySem.EqNone.eq_none_bool (q28 I q (by simp))
    | int j => obtain ⟨t',rfl⟩ := ry; exact PySem.EqNone.eq_none_int (q28 I q (by simp))
    | str j => obtain ⟨t',rfl⟩ := ry; exact PySem.EqNone.eq_none_str (q28 I q (by simp))
    | _ => exact absurd (show false = true from hs) Bool.false_ne_true
  | bl i =>
    cases rx
    cases y with
    | non => cases ry; exact PySem.EqNone.eq_bool_none (q28 I q (by simp))
    | bl j => cases ry; exact eq_bool (q28 I q qeu)
    | str j => obtain ⟨t',rfl⟩ := ry; exact PySem.EqMixed.eq_bool_str (q28 I q (by simp))
    | _ => exact absurd (show false = true from hs) Bool.false_ne_true
  | int i =>
    obtain ⟨t,rfl⟩ := rx
    cases y with
    | non => cases ry; exact PySem.EqNone.eq_int_none (q28 I q (by simp))
    | int j => obtain ⟨t',rfl⟩ := ry; exact eq_int (q28 I q qcz)
    | str j => obtain ⟨t',rfl⟩ := ry; exact PySem.EqMixed.eq_int_str (q28 I q (by simp))
    | _ => exact absurd (show false = true from hs) Bool.false_ne_true
  | str i =>
    obtain ⟨t,rfl⟩ := rx
    cases y with
    | non => cases ry; exact PySem.EqNone.eq_str_none (q28 I q (by simp))
    | bl j => cases ry; exact PySem.EqMixed.eq_str_bool (q28 I q (by simp))
    | int j => obtain ⟨t',rfl⟩ := ry; exact PySem.EqMixed.eq_str_int (q28 I q (by simp))
    | str j => obtain ⟨t',rfl⟩ := ry; exact eq_str (q28 I q qcn)
    | _ => exact absurd (show false = true from hs) Bool.false_ne_true
  | byt i =>
    obtain ⟨t,rfl⟩ := rx
    cases y with
    | byt j => obtain ⟨t',rfl⟩ := ry; exact PySem.W.eq_bytes (q28 I q qcf)
    | _ => exact absurd (show false = true from hs) Bool.false_ne_true
  | _ => cases y <;> exact absurd (show false = true from hs) Bool.false_ne_true
theorem q81 : OpR X (compareOp .NotEq) rNe := by
  intro pins s σ H x y v u Q I rx ry h
  obtain ⟨hs,q⟩ := h
  cases x with
  | non =>
    cases rx
    cases y with
    | non => cases ry; exact PySem.EqNone.ne_none_none (q28 I q (by simp))
    | bl j => cases ry; exact PySem.EqNone.ne_none_bool (q28 I q (by simp))
    | int j => obtain ⟨t',rfl⟩ := ry; exact PySem.EqNone.ne_none_int (q28 I q (by simp))
    | str j => obtain ⟨t',rfl⟩ := ry; exact PySem.EqNone.ne_none_str (q28 I q (by simp))
    | _ => exact absurd (show false = true from hs) Bool.false_ne_true
  | bl i =>
    cases rx
    cases y with
    | non => cases ry; exact PySem.EqNone.ne_bool_none (q28 I q (by simp))
    | bl j => cases ry; exact ne_bool (q28 I q (congrArg not qeu))
    | str j => obtain ⟨t',rfl⟩ := ry; exact PySem.EqMixed.ne_bool_str (q28 I q (by simp))
    | _ => exact absurd (show false = true from hs) Bool.false_ne_true
  | int i =>
    obtain ⟨t,rfl⟩ := rx
    cases y with
    | non => cases ry; exact PySem.EqNone.ne_int_none (q28 I q (by simp))
    | int j => obtain ⟨t',rfl⟩ := ry; exact ne_int (q28 I q (congrArg not qcz))
    | str j => obtain ⟨t',rfl⟩ := ry; exact PySem.EqMixed.ne_int_str (q28 I q (by simp))
    | _ => exact absurd (show false = true from hs) Bool.false_ne_true
  | str i =>
    obtain ⟨t,rfl⟩ := rx
    cases y with
    | non => cases ry; exact PySem.EqNone.ne_str_none (q28 I q (by simp))
    | bl j => cases ry; exact PySem.EqMixed.ne_str_bool (q28 I q (by simp))
    | int j => obtain ⟨t',rfl⟩ := ry; exact PySem.EqMixed.ne_str_int (q28 I q (by simp))
    | str j => obtain ⟨t',rfl⟩ := ry; exact ne_str (q28 I q (congrArg not qcn))
    | _ => exact absurd (show false = true from hs) Bool.false_ne_true
  | byt i =>
    obtain ⟨t,rfl⟩ := rx
    cases y with
    | byt j => obtain ⟨t',rfl⟩ := ry; exact PySem.W.ne_bytes (q28 I q (congrArg not qcf))
    | _ => exact absurd (show false = true from hs) Bool.false_ne_true
  | _ => cases y <;> exact absurd (show false = true from hs) Bool.false_ne_true
theorem q5n : OpR X (compareOp .Lt) (rI0 fun i j => .bl (decide (i < j))) := opB0 fun _ _ _ _ _ _ _ q => lt_int q
theorem qa5 : OpR X (compareOp .LtE) (rI0 fun i j => .bl (decide (i <= j))) := opB0 fun _ _ _ _ _ _ _ q => le_int q
theorem q7i : OpR X (compareOp .Gt) (rI0 fun i j => .bl (decide (j < i))) := opB0 fun _ _ _ _ _ _ _ q => gt_int q
theorem qea : OpR X (compareOp .In) (fun x y H Q => ∃ i j,x = .str i /\ y = .str j /\ Q (.bl (!(Builtin.Str.occurrences j i 0 j.length 1).isEmpty)) H) := by
  intro pins s σ H x y v u Q I rx ry h
  obtain ⟨i,j,rfl,rfl,q⟩ := h
  obtain ⟨t,rfl⟩ := rx
  obtain ⟨t',rfl⟩ := ry
  exact in_str (q28 I q rfl)
theorem qam : OpR X (compareOp .NotIn) (fun x y H Q => ∃ i j,x = .str i /\ y = .str j /\ Q (.bl (!(!(Builtin.Str.occurrences j i 0 j.length 1).isEmpty))) H) := by
  intro pins s σ H x y v u Q I rx ry h
  obtain ⟨i,j,rfl,rfl,q⟩ := h
  obtain ⟨t,rfl⟩ := rx
  obtain ⟨t',rfl⟩ := ry
  exact notIn_str (q28 I q rfl)
theorem q1y (b : Expr) {op : CmpOp} (h : op ≠ .In := by decide) (h2 : op ≠ .NotIn := by decide) : behindInMarks op b = false := by
  have e1 : (op == CmpOp.In) = false := by cases op <;> first | rfl | exact absurd rfl h
  have e2 : (op == CmpOp.NotIn) = false := by cases op <;> first | rfl | exact absurd rfl h2
  cases b <;> simp [behindInMarks,e1,e2]
theorem q4p {op : CmpOp} {r : R2} (ho : OpR X (compareOp op) r) (ha : PE X a ta) (hb : PE X b tb) (hm : behindInMarks op b = false) : PE X (.Compare a [op] [b] pos) (tOp r ta tb) := by
  intro pins s σ H Q I h
  exact wpAny_Compare1 (binT ha hb I h fun v u s2 x y H2 I2 rx ry q => ho pins s2 σ H2 x y v u Q I2 rx ry q) hm
def qd7 (t : TE) : TT := fun σ H Q => t σ H fun x H' => ∃ k,x = .bl k /\ Q k H'
theorem q1x {op : CmpOp} {r : R2} (ho : OpR X (compareOp op) r) (ha : PE X a ta) (hb : PE X b tb) (hm : behindInMarks op b = false) : PT X (.Compare a [op] [b] pos) (qd7 (tOp r ta tb)) := by
  intro pins s σ H Q I h
  refine wpAny_isTrue_Compare1 (thn (ha pins s σ H _ I h) fun v s1 ⟨x,H1,I1,r1,q1⟩ => thn (hb pins s1 σ H1 _ I1 q1) fun u s2 ⟨y,H2,I2,r2,q2⟩ =>
    thn (ho pins s2 σ H2 x y v u _ I2 r1 r2 q2) fun c s3 ⟨z,H3,I3,r3,k,e,q3⟩ => ?_) hm
  subst e
  cases r3
  exact wpAny_truthy_bool ⟨H3,I3,q3⟩
def qbl (r r' : R2) (ta tb tc : TE) : TE := fun σ H Q => ta σ H fun x H1 => tb σ H1 fun y H2 => r x y H2 fun z H3 => ∃ k,z = .bl k /\
  (if k = true then tc σ H3 fun w' H4 => r' y w' H4 Q else Q (.bl false) H3)
theorem qh5 {op op' : CmpOp} {r r' : R2} (ho : OpR X (compareOp op) r) (ho' : OpR X (compareOp op') r') (ha : PE X a ta) (hb : PE X b tb) (hc : PE X c tc)
    (hm : lastMarks [op,op'] [b,c] = false := by with_unfolding_all rfl) : PE X (.Compare a [op,op'] [b,c] pos) (qbl r r' ta tb tc) := by
  intro pins s σ H Q I h
  refine Compare_chain (thn (ha pins s σ H _ I h) fun v s1 ⟨x,H1,I1,r1,q1⟩ => chain_link (thn (hb pins s1 σ H1 _ I1 q1) fun u s2 ⟨y,H2,I2,r2,q2⟩ =>
    thn (ho pins s2 σ H2 x y v u _ I2 r1 r2 q2) fun d s3 ⟨z,H3,I3,r3,k,e,q3⟩ => ?_)) hm
  subst e
  cases r3
  refine wpAny_truthy_bool ?_
  cases k with
  | false => exact ite_ff ⟨.bl false,H3,I3,rfl,q3⟩
  | true => exact ite_tt (chain_last (thn (hc pins s3 σ H3 _ I3 q3) fun w' s4 ⟨z',H4,I4,r4,q4⟩ => ho' pins s4 σ H4 y z' u w' Q I4 r2 r4 q4))
theorem qha {op op' : CmpOp} {r r' : R2} (ho : OpR X (compareOp op) r) (ho' : OpR X (compareOp op') r') (ha : PE X a ta) (hb : PE X b tb) (hc : PE X c tc)
    (hm : lastMarks [op,op'] [b,c] = false := by with_unfolding_all rfl) : PT X (.Compare a [op,op'] [b,c] pos) (qd7 (qbl r r' ta tb tc)) := by
  intro pins s σ H Q I h
  refine isTrue_chain (thn (ha pins s σ H _ I h) fun v s1 ⟨x,H1,I1,r1,q1⟩ => test_link (thn (hb pins s1 σ H1 _ I1 q1) fun u s2 ⟨y,H2,I2,r2,q2⟩ =>
    thn (ho pins s2 σ H2 x y v u _ I2 r1 r2 q2) fun d s3 ⟨z,H3,I3,r3,k,e,q3⟩ => ?_)) hm
  subst e
  cases r3
  refine wpAny_truthy_bool ?_
  cases k with
  | false =>
    obtain ⟨k',e',q'⟩ := q3
    cases e'
    exact ite_ff ⟨H3,I3,q'⟩
  | true =>
    refine ite_tt (test_last (thn (hc pins s3 σ H3 _ I3 q3) fun w' s4 ⟨z',H4,I4,r4,q4⟩ => thn (ho' pins s4 σ H4 y z' u w' _ I4 r2 r4 q4) fun d' s5 ⟨z2,H5,I5,r5,k2,e2,q5⟩ => ?_))
    subst e2
    cases r5
    exact wpAny_truthy_bool ⟨H5,I5,q5⟩
theorem q60 : (sizeLine : Nat) < 2 ^ 63 := by rw [sizeLine_eq]; decide
theorem q6k : OpR X (binaryOp .Add) (fun x y H Q => ∃ i j,x = .str i /\ y = .str j /\ i.length + j.length <= sizeLine /\ Q (.str (i ++ j)) H) := by
  intro pins s σ H x y v u Q I rx ry h
  obtain ⟨i,j,rfl,rfl,hz,q⟩ := h
  obtain ⟨t,rfl⟩ := rx
  obtain ⟨t',rfl⟩ := ry
  exact add_str (fun t' tk => ⟨.str (i ++ j),H,I.tok _,⟨_,rfl⟩,q⟩) hz
theorem vals1 {x : V} {us : List Value} (r : Vals [x] us) : ∃ u,us = [u] /\ RelV x u := by
  cases r with
  | cons r1 r2 => cases r2; exact ⟨_,rfl,r1⟩
theorem vals2 {x y : V} {us : List Value} (r : Vals [x,y] us) : ∃ u w',us = [u,w'] /\ RelV x u /\ RelV y w' := by
  cases r with
  | cons r1 r2 =>
    cases r2 with
    | cons r3 r4 => cases r4; exact ⟨_,_,rfl,r1,r3⟩
theorem qf7 (hc : X.calm = true) : q33 X (.builtin "min") (fun xs H Q => ∃ i j,xs = [.int i, .int j] /\ Q (.int (if j < i then j else i)) H) := by
  intro pins s σ H xs us Q I r h
  obtain ⟨i,j,rfl,q⟩ := h
  obtain ⟨u,w',rfl,⟨t,rfl⟩,⟨t',rfl⟩⟩ := vals2 r
  refine min_two_ints (I.ok.hd hc) fun h' tk k => ⟨_,H,I.kept k,?_,q⟩
  by_cases hj : j < i
  . rw [if_pos hj,if_pos hj]; exact ⟨_,rfl⟩
  . rw [if_neg hj,if_neg hj]; exact ⟨_,rfl⟩
end
end L2
namespace L2
open PySem PySem.Spec PyProof.Rows
structure ObjM (h : Heap) (x dx C : Addr) (mA : Str -> Option Value) : Prop where
  obj : h.get? x = some (PySem.W.instObj C dx)
  ns : h.Ns1 dx mA
  ne : dx ≠ x
theorem qet {h : Heap} {dx : Addr} {mA : Str -> Option Value} (n : h.Ns1 dx mA) : ∃ od,h.get? dx = some od /\ ∀ name,PySem.W.lookIn name od = some (mA name) := by
  obtain ⟨o,es,ep,ho,hd,hk,_,hm⟩ := n
  refine ⟨o,ho,fun name => ?_⟩
  have e := hm name
  unfold nsFind findBy at e
  rw [<- Array.find?_toList] at e
  unfold PySem.W.lookIn
  rw [hd]
  dsimp only
  split
  . rename_i y q
    rw [q] at e
    exact congrArg some e
  . rename_i q
    rw [q] at e
    have a : es.toList.any (·.refKey) = false := by
      rw [List.any_eq_false]
      intro y hy
      obtain ⟨z,t,hkey⟩ := hk y (Array.mem_toList_iff.mp hy)
      simp [DictEntry.refKey,hkey]
    have a' : ¬ es.toList.any (·.refKey) = true := by rw [a]; exact Bool.false_ne_true
    rw [if_neg a']
    exact congrArg some e
theorem ObjM.look {h : Heap} {x dx C : Addr} {mA : Str -> Option Value} (I : ObjM h x dx C mA) : ∃ od,PySem.W.InstAt h x (PySem.W.instObj C dx) C (some od) /\ ∀ name,PySem.W.lookIn name od = some (mA name) :=
  let ⟨od,ho,hl⟩ := qet I.ns
  ⟨od,⟨I.obj,rfl,rfl,ho⟩,hl⟩
section
variable {prog : Program} {w : World} {A : Around} {E : Value -> Shared -> Prop} {s : Shared} {K : PySem.W.Frag} {x dx C f : Addr} {mA : Str -> Option Value} {name : Str} {v : Value}
theorem get_map {expr : Bool} {Q : Value -> Shared -> Prop} (X : K.In s.heap) (I : ObjM s.heap x dx C mA) (hg : PySem.W.plainGet K C name = true) (hh : PySem.W.hasDictIn K C = true)
    (ha : PySem.W.findIn K (.ref C) name = some none) (hv : mA name = some v) (hv' : PySem.W.handedIn v = true) (h : Q v { s with toks := s.toks + 1 }) :
    wpAny (model prog w) A (getAttr (.ref x) name expr) Q E s := by
  obtain ⟨od,J,hl⟩ := I.look
  exact PySem.W.get_value X J (PySem.W.plainGet_of hg).1 (PySem.W.findObj_own hh ha rfl (by rw [hl,hv])) hv' h
theorem qhb {pl : Sem Bool} {Q : Value × List Value -> Shared -> Prop} (X : K.In s.heap) (I : ObjM s.heap x dx C mA) (hg : PySem.W.plainGet K C name = true)
    (hf : PySem.W.findIn K (.ref C) name = some (some (.ref f))) (ht : PySem.W.isFn K (.ref f) = true) (hv : mA name = none) (h : Q (.ref f,[.ref x]) s) :
    wpAny (model prog w) A (getMethod (.ref x) name pl) Q E s := by
  obtain ⟨od,J,hl⟩ := I.look
  exact PySem.W.method_fn X J (PySem.W.plainGet_of hg).1 (PySem.W.plainGet_of hg).2 hf (beq_iff_eq.mp ht) (by show (PySem.W.lookIn name od).map (·.isSome) = some false; rw [hl,hv]; rfl) h
theorem qit {ns : List Str} {Q : Unit -> Shared -> Prop} (X : K.In s.heap) (I : ObjM s.heap x dx C mA)
    (hs : PySem.W.findIn K (.ref C) "__setattr__" = some (some (.builtin "object.__setattr__"))) (hp : PySem.W.plainOver K C = true) (ht : PySem.W.takerIn K C name = some none) (hh : PySem.W.hasDictIn K C = true)
    (hw : PySem.Within mA ns) (hsz : ns.length <= sizeLine)
    (h : ∀ h',ObjM h' x dx C (fun y => if y = name then some v else mA y) -> Heap.SameBut dx s.heap h' -> Q () { s with heap := h',toks := s.toks + 2 }) :
    wpAny (model prog w) A (setAttr (.ref x) name v) Q E s := by
  obtain ⟨od,J,hl⟩ := I.look
  refine PySem.W.set_plain X J hs (PySem.W.osa_open (s := { s with toks := s.toks + 1 }) (r := none) X J hp ht fun b => ?_)
  obtain ⟨cd,hc,hd'⟩ := PySem.W.any_some hh
  have hx : s.heap.get? x = some ⟨.ref C,some dx, .plain, #[]⟩ := I.obj
  refine wpAny_bind (wpAny_pure (wpAny_bind (wpAny_bind (wpAny_loadPart hx (wpAny_bind (PySem.W.Looks.here (s := { s with toks := s.toks + 1 }) (PySem.W.looks_clsIn X hc) ?_))))))
  rw [hd']
  refine wpAny_pure (a := some dx) (wpAny_bind (wpAny_pure (wpAny_bind ?_)))
  refine wpAny_nsSet1 (s := { s with toks := s.toks + 1 }) I.ns fun h' hn2 hs2 => ?_
  obtain ⟨oD,esD,epD,hoD,hdD,hcD⟩ := hn2.count (PySem.Within.cons name v hw)
  refine wpAny_bind (wpAny_lookBehind hoD (by rw [hdD]; exact pastItsLine_dict (Nat.le_trans hcD (by rw [List.length_cons]; omega))) ?_)
  exact wpAny_pure (h _ ⟨(hs2.2 _ (Ne.symm I.ne)).trans I.obj,hn2,I.ne⟩ hs2)
theorem qgx {R : Result -> Shared -> Prop} {vs : List Value} {kw : List (Str × Value)} (X : K.In s.heap) (hm : PySem.W.makesIn K C = true)
    (hi : PySem.W.findIn K (.ref C) "__init__" = some (some (.ref f))) (hf : PySem.W.typeIn K (.ref f) = some (.type "function"))
    (h : codeAny (model prog w) (A.under (.builtin "type.__call__" ⟨.ref C :: vs,kw⟩)) (.call (.ref f) ⟨.ref (s.heap.objs.size + 1) :: vs,kw⟩) (PySem.W.InitBack (s.heap.objs.size + 1) R)
      { s with heap := (s.heap.push PySem.W.emptyDict).push (PySem.W.instObj C s.heap.objs.size) }) :
    codeAny (model prog w) A (.call (.ref C) ⟨vs,kw⟩) R s := by
  obtain ⟨hh,g,d,t,os⟩ := s
  exact PySem.W.make_core (PySem.W.makes_of X hm) (PySem.W.looks_findIn X hi) (fun self => PySem.W.bind_fn X self hf) (.inl rfl) h
end
def putF (f : Str) (v : V) : List (Str × V) -> List (Str × V)
  | [] => [(f,v)]
  | (g,x) :: r => if g = f then (g,v) :: r else (g,x) :: putF f v r
theorem q7o (f g : Str) (v : V) : ∀ fs : List (Str × V),(putF f v fs).lookup g = if g = f then some v else fs.lookup g
  | [] => by
    show List.lookup g [(f,v)] = _
    by_cases h : g = f
    . have hb : (g == f) = true := beq_iff_eq.mpr h
      simp only [List.lookup,hb,if_pos h]
    . have hb : (g == f) = false := beq_eq_false_iff_ne.mpr h
      simp only [List.lookup,hb,if_neg h]
  | (k,x) :: r => by
    have ih := q7o f g v r
    rw [show putF f v ((k,x) :: r) = (if k = f then (k,v) :: r else (k,x) :: putF f v r) from rfl]
    by_cases hk : k = f
    . rw [if_pos hk]
      by_cases h : g = k
      . have hb : (g == k) = true := beq_iff_eq.mpr h
        simp only [List.lookup,hb,if_pos (h.trans hk)]
      . have hb : (g == k) = false := beq_eq_false_iff_ne.mpr h
        simp only [List.lookup,hb,if_neg (fun e : g = f => h (e.trans hk.symm))]
    . rw [if_neg hk]
      by_cases h : g = k
      . have hb : (g == k) = true := beq_iff_eq.mpr h
        simp only [List.lookup,hb,if_neg (fun e : g = f => hk (h.symm.trans e))]
      . have hb : (g == k) = false := beq_eq_false_iff_ne.mpr h
        simp only [List.lookup,hb]
        exact ih
theorem q6y (f : Str) (v : V) : ∀ fs : List (Str × V),f ∈ (putF f v fs).map (·.1) /\ ∀ g,g ∈ fs.map (·.1) -> g ∈ (putF f v fs).map (·.1)
  | [] => ⟨by simp [putF],fun g h => by simp at h⟩
  | (k,x) :: r => by
    obtain ⟨i1,i2⟩ := q6y f v r
    rw [show putF f v ((k,x) :: r) = (if k = f then (k,v) :: r else (k,x) :: putF f v r) from rfl]
    by_cases hk : k = f
    . rw [if_pos hk]
      subst hk
      exact ⟨by simp,fun g h => by simpa using h⟩
    . rw [if_neg hk]
      refine ⟨?_,fun g h => ?_⟩
      . rw [List.map_cons]
        exact List.mem_cons_of_mem _ i1
      . rw [List.map_cons] at h ⊢
        rcases List.mem_cons.mp h with e | e
        . exact List.mem_cons.mpr (.inl e)
        . exact List.mem_cons_of_mem _ (i2 g e)
theorem q7l (f : Str) (v : V) : ∀ fs : List (Str × V),(putF f v fs).length <= fs.length + 1
  | [] => by simp [putF]
  | (k,x) :: r => by
    have ih := q7l f v r
    rw [show putF f v ((k,x) :: r) = (if k = f then (k,v) :: r else (k,x) :: putF f v r) from rfl]
    by_cases hk : k = f
    . rw [if_pos hk,List.length_cons,List.length_cons]; omega
    . rw [if_neg hk,List.length_cons,List.length_cons]; omega
theorem RelO.some_of {v : V} {o : Option Value} (r : RelO (some v) o) : ∃ u,o = some u /\ RelV v u := by
  cases o with
  | none => exact (show False from r).elim
  | some u => exact ⟨u,rfl,r⟩
theorem RelO.none_of {o : Option Value} (r : RelO none o) : o = none := by
  cases o with
  | none => rfl
  | some u => exact (show False from r).elim
theorem qfo {v : V} {u : Value} (r : RelV v u) : PySem.W.handedIn u = true := by
  cases v with
  | non => cases (show u = Value.none from r); rfl
  | bl b => cases (show u = Value.bool b from r); rfl
  | int i => obtain ⟨t,e⟩ := (show ∃ t,u = Value.int i t from r); cases e; rfl
  | str x => obtain ⟨t,e⟩ := (show ∃ t,u = Value.str x t from r); cases e; rfl
  | byt b => obtain ⟨t,e⟩ := (show ∃ t,u = Value.bytes b t from r); cases e; rfl
  | flt b => obtain ⟨t,e⟩ := (show ∃ t,u = Value.float b t from r); cases e; rfl
  | ref a => cases (show u = Value.ref a from r); rfl
  | ty n => cases (show u = Value.type n from r); rfl
section
variable {P : Program} {w : World} {H H' : Hp} {h h' : Heap} {a C dx : Addr} {fs fs' : List (Str × V)}
theorem q7e (hok : HOk P w H h) (e : H a = some (.ins C dx fs)) : ∃ mA,ObjM h a dx C mA /\ (∀ f,RelO (fs.lookup f) (mA f)) /\ PySem.Within mA (fs.map (·.1)) /\ fs.length <= 1000 /\ H dx = some (.own a) := by
  obtain ⟨d,z,ne,ob,mA,n,r,q⟩ := (show q2h P w H h a (.ins C dx fs) from hok a _ e)
  exact ⟨mA,⟨ob,n,ne⟩,r,q,z,d⟩
end
structure Cls (K : PySem.W.Frag) (C : Addr) : Prop where
  pg : PySem.W.plainGet K C Str.empty = true
  hd : PySem.W.hasDictIn K C = true
  po : PySem.W.plainOver K C = true
  sa : PySem.W.findIn K (.ref C) "__setattr__" = some (some (.builtin "object.__setattr__"))
theorem Cls.get {K : PySem.W.Frag} {C : Addr} (c : Cls K C) (f : Str) : PySem.W.plainGet K C f = true := c.pg
def q25 (K : PySem.W.Frag) (C : Addr) (f : Str) : Prop := PySem.W.findIn K (.ref C) f = some none
theorem q25.taker {K : PySem.W.Frag} {C : Addr} {f : Str} (n : q25 K C f) : PySem.W.takerIn K C f = some none := by
  unfold PySem.W.takerIn
  rw [show PySem.W.findIn K (.ref C) f = some none from n]
  rfl
structure Meth (K : PySem.W.Frag) (C : Addr) (m : Str) (f : Addr) : Prop where
  at_ : PySem.W.findIn K (.ref C) m = some (some (.ref f))
  fn : PySem.W.isFn K (.ref f) = true
  kp : PySem.W.keepIn K (.ref f) = true
section
variable {X : Cx} {pins : List (Addr × Obj)} {σ : St} {H : Hp} {s : Shared} {a C dx : Addr} {fs : List (Str × V)} {f : Str} {v : V} {A : Around} {E : Value -> Shared -> Prop}
theorem qds {b : Bool} {Q : Value -> Shared -> Prop} (I : Inv X pins σ H s) (e : H a = some (.ins C dx fs)) (c : Cls X.K C) (n : q25 X.K C f) (l : fs.lookup f = some v)
    (h : ∀ u s',Inv X pins σ H s' -> RelV v u -> Q u s') : wpAny (model X.prog X.w) A (getAttr (.ref a) f b) Q E s := by
  obtain ⟨mA,O,r,_,_,_⟩ := q7e I.hok e
  obtain ⟨u,hu,ru⟩ := RelO.some_of (v := v) (o := mA f) (by rw [<- l]; exact r f)
  exact get_map I.kIn O (c.get f) c.hd n hu (qfo ru) (h u _ (I.tok _) ru)
theorem q84 {m : Str} {g : Addr} {pl : Sem Bool} {Q : Value × List Value -> Shared -> Prop} (I : Inv X pins σ H s) (e : H a = some (.ins C dx fs)) (c : Cls X.K C) (k : Meth X.K C m g) (l : fs.lookup m = none)
    (h : Q (.ref g,[.ref a]) s) : wpAny (model X.prog X.w) A (getMethod (.ref a) m pl) Q E s := by
  obtain ⟨mA,O,r,_,_,_⟩ := q7e I.hok e
  have hn : mA m = none := RelO.none_of (by rw [<- l]; exact r m)
  exact qhb I.kIn O (c.get m) k.at_ k.fn hn h
theorem qe1 {y : V} {u : Value} {Q : Unit -> Shared -> Prop} (I : Inv X pins σ H s) (e : H a = some (.ins C dx fs)) (c : Cls X.K C) (n : q25 X.K C f) (hl : fs.length < 1000) (ry : RelV y u)
    (h : ∀ s',Inv X pins σ (upd H a (.ins C dx (putF f y fs))) s' -> Q () s') : wpAny (model X.prog X.w) A (setAttr (.ref a) f u) Q E s := by
  obtain ⟨mA,O,r,wi,_,ho⟩ := q7e I.hok e
  have hz : (fs.map (·.1)).length <= sizeLine := by rw [List.length_map,sizeLine_eq]; omega
  refine qit I.kIn O c.sa c.po n.taker c.hd wi hz fun h' O' sb => h _ ?_
  have hd : ∃ o,h'.get? dx = some o := let ⟨o,_,_,e',_⟩ := O'.ns; ⟨o,e'⟩
  refine I.write (x := a) (e := dx) (by rw [e]; exact True.intro) (.inr ho) (fun b q hb z => (sb.2 b hb).trans z) hd ?_
  refine ⟨by rw [q1e O.ne]; exact ho,?_,O.ne,O'.obj,_,O'.ns,fun g => ?_,fun g hg => ?_⟩
  . have := q7l f y fs; omega
  . show RelO ((putF f y fs).lookup g) (if g = f then some u else mA g)
    rw [q7o]
    by_cases q : g = f
    . rw [if_pos q,if_pos q]; exact ry
    . rw [if_neg q,if_neg q]; exact r g
  . by_cases q : g = f
    . rw [q]; exact (q6y f y fs).1
    . refine (q6y f y fs).2 g (wi g fun z => hg ?_)
      show (if g = f then some u else mA g) = none
      rw [if_neg q]; exact z
theorem Inv.made (I : Inv X pins σ H s) : Inv X pins σ (upd (upd H s.heap.objs.size (.own (s.heap.objs.size + 1))) (s.heap.objs.size + 1) (.ins C s.heap.objs.size []))
    { s with heap := (s.heap.push PySem.W.emptyDict).push (PySem.W.instObj C s.heap.objs.size) } := by
  have e1 : (s.heap.push PySem.W.emptyDict).get? s.heap.objs.size = some PySem.W.emptyDict := Heap.get?_push_size s.heap rfl
  have e2 : ((s.heap.push PySem.W.emptyDict).push (PySem.W.instObj C s.heap.objs.size)).get? (s.heap.objs.size + 1) = some (PySem.W.instObj C s.heap.objs.size) := by
    have := Heap.get?_push_size (s.heap.push PySem.W.emptyDict) (o := PySem.W.instObj C s.heap.objs.size) rfl
    rwa [Heap.size_push] at this
  have e3 : (s.heap.push PySem.W.emptyDict).Ns s.heap.objs.size (fun _ => none) := ⟨PySem.W.emptyDict, #[],_,e1,rfl,(fun e he => absurd he (by simp)),fun _ => rfl⟩
  have I1 := I.laid (a := s.heap.objs.size) (o := .own (s.heap.objs.size + 1)) (h' := s.heap.push PySem.W.emptyDict) (t' := s.toks) (fun b u q => Heap.get?_push_of_some _ q) (Nat.le_refl _) ⟨_,e1⟩
  refine I1.laid (a := s.heap.objs.size + 1) (o := .ins C s.heap.objs.size []) (t' := s.toks) (fun b u q => Heap.get?_push_of_some _ q) (Nat.le_of_eq (Heap.size_push _ _)) ?_
  have ne : s.heap.objs.size ≠ s.heap.objs.size + 1 := Nat.ne_of_lt (Nat.lt_succ_self _)
  refine ⟨by rw [q1e ne,q24],Nat.zero_le _,ne,e2,fun _ => none,(Heap.Ns1.of_empty e3).at fun o q => Heap.get?_push_of_some _ q,fun _ => True.intro,fun y hy => absurd rfl hy⟩
theorem qi7 {prog : Program} {w : World} {env : Env} {e : Expr} {f : Str} {pos : Pos} {s : Shared} {Q : Value -> Shared -> Prop} (hb : attributeBase e f env (eval e env) = eval e env)
    (h : wpAny (model prog w) A (eval e env) (fun o s₁ => wpAny (model prog w) A (getAttr o f true) Q E s₁) E s) : wpAny (model prog w) A (eval (.Attribute e f pos) env) Q E s :=
  Attribute_any_ h (by rw [arm_eval_Attribute,hb])
end
def tFld (K : PySem.W.Frag) (ta : TE) (f : Str) : TE := fun σ H Q => ta σ H fun x H1 => ∃ a C dx fs v,x = .ref a /\ H1 a = some (.ins C dx fs) /\ Cls K C /\ q25 K C f /\ fs.lookup f = some v /\ Q v H1
def sFld (K : PySem.W.Frag) (ta tv : TE) (f : Str) : TS := fun D σ H => tv σ H fun y H1 => ta σ H1 fun x H2 => ∃ a C dx fs,x = .ref a /\ H2 a = some (.ins C dx fs) /\ Cls K C /\ q25 K C f /\ fs.length < 1000 /\
  D.nx σ (upd H2 a (.ins C dx (putF f y fs)))
section
variable {X : Cx} {o e value : Expr} {f : Str} {pos pos' tpos : Pos} {ta tv : TE}
theorem q4j (he : PE X e ta) (hb : attributeBase e f X.env (eval e X.env) = eval e X.env) : PE X (.Attribute e f pos) (tFld X.K ta f) := by
  intro pins s σ H Q I h
  refine qi7 hb (thn (he pins s σ H _ I h) fun u s1 ⟨x,H1,I1,rx,a,C,dx,fs,v,ex,ea,c,n,l,q⟩ => ?_)
  subst ex
  obtain rfl : u = Value.ref a := rx
  exact qds I1 ea c n l fun u' s2 I2 ru => ⟨v,H1,I2,ru,q⟩
theorem q3c (ha : PE X o ta) (hv : PE X value tv) (hs : swapsWith value (some (.Attribute o f pos')) pos.line X.env = pure false) : PS X (.Assign [.Attribute o f pos'] value pos) (sFld X.K ta tv f) := by
  intro pins s σ H D I h
  refine plainObj_wpAny_Assign_Attribute (thn (hv pins s σ H _ I h) fun u s1 ⟨y,H1,I1,ry,q⟩ => thn (ha pins s1 σ H1 _ I1 q) fun ov s2 ⟨x,H2,I2,rx,a,C,dx,fs,ex,ea,c,n,l,q2⟩ => ?_) hs
  subst ex
  obtain rfl : ov = Value.ref a := rx
  exact qe1 I2 ea c n l ry fun s3 I3 => ⟨σ,_,I3,q2⟩
end
section
variable {X : Cx} {pins : List (Addr × Obj)} {σ : St} {H : Hp} {s : Shared} {A : Around} {E : Value -> Shared -> Prop} {Q : Value -> Shared -> Prop} {c : Value} {b : Bool}
inductive TyOf (K : PySem.W.Frag) (H : Hp) : V -> Value -> Prop where
  | non : TyOf K H .non (.type "NoneType")
  | bl (x : Bool) : TyOf K H (.bl x) (.type "bool")
  | int (i : Int) : TyOf K H (.int i) (.type "int")
  | str (x : Str) : TyOf K H (.str x) (.type "str")
  | flt (x : UInt64) : TyOf K H (.flt x) (.type "float")
  | lst {a : Addr} {xs : List V} (e : H a = some (.lst xs)) : TyOf K H (.ref a) (.type "list")
  | frz {a : Addr} {o : Obj} {xs : List V} (e : H a = some (.frz o (.lst xs))) : TyOf K H (.ref a) (.type "list")
  | tup {a : Addr} {xs : List V} (e : H a = some (.tup xs)) : TyOf K H (.ref a) (.type "tuple")
  | dK {a : Addr} {kvs : List (Key × V)} (e : H a = some (.dK kvs)) : TyOf K H (.ref a) (.type "dict")
  | dT {a : Addr} {kvs : List (List Key × V)} (e : H a = some (.dT kvs)) : TyOf K H (.ref a) (.type "dict")
  | ins {a C dx : Addr} {fs : List (Str × V)} (e : H a = some (.ins C dx fs)) (cl : Cls K C) (ha : PySem.W.findIn K (.ref C) "__class__" = some (some (.builtin "object.__class__")))
      (hn : PySem.W.specialIn K (.builtin "object.__class__") "__get__" = some (some (.builtin "getset_descriptor.__get__"))) (htk : PySem.W.takesIn K (.builtin "object.__class__") = some true)
      (hm : PySem.W.mroIn K C (.type "object") = some true) : TyOf K H (.ref a) (.ref C)
end
end L2
namespace L2
open PySem PySem.Spec PyProof.Rows
structure Room (k : Nat) (A : Around) : Prop where
  hd : A.handled = none
  dp : A.depth + 3 * k + 5 < recursionLimit
  un : A.units + 16 * k + 200 < cLine
theorem Room.mono {j k : Nat} {A : Around} (r : Room k A) (h : j <= k) : Room j A := ⟨r.hd,by have := r.dp; omega,by have := r.un; omega⟩
theorem Room.q9 {j k : Nat} {A : Around} (r : Room k A) (h : j <= k := by decide) : Room j A := r.mono h
theorem Room.deeper {k : Nat} {A : Around} (r : Room (k + 1) A) (env : Env) : Room k (A.deeper env) :=
  ⟨r.hd,by have := r.dp; show A.depth + 1 + 3 * k + 5 < _; omega,by have := r.un; show A.units + 3 + 16 * k + 200 < _; omega⟩
theorem qd5 {A : Around} {C : Addr} {us : List Value} {kw : List (Str × Value)} : (A.under (.builtin "type.__call__" ⟨.ref C :: us,kw⟩)).depth = A.depth + 1 := by
  first | rfl | simp [Around.under,Code.weight,Code.isCreation,Code.isGuard,Code.isCaller,Code.frames,Code.isFrame,guardIds]
theorem qdf {A : Around} {C : Addr} {us : List Value} {kw : List (Str × Value)} : (A.under (.builtin "type.__call__" ⟨.ref C :: us,kw⟩)).units = A.units + 1 := by
  first | rfl | simp [Around.under,Code.cUnits,Code.frames,Code.isFrame]
theorem Room.make {k : Nat} {A : Around} (r : Room (k + 1) A) (C : Addr) (us : List Value) (kw : List (Str × Value)) : Room k (A.under (.builtin "type.__call__" ⟨.ref C :: us,kw⟩)) :=
  ⟨r.hd,by have := r.dp; rw [qd5]; omega,by have := r.un; rw [qdf]; omega⟩
theorem Room.depth {k : Nat} {A : Around} (r : Room k A) : A.depth < recursionLimit := by have := r.dp; omega
theorem Room.units {k : Nat} {A : Around} (r : Room k A) : A.units + 64 < cLine := by have := r.un; omega
def tNil : TA := fun _ H Q => Q [] H
def q3w (ta : TE) (tr : TA) : TA := fun σ H Q => ta σ H fun x H1 => tr σ H1 fun xs H2 => Q (x :: xs) H2
section
variable {X : Cx} {e : Expr} {es : List Expr} {te : TE} {t : TA} {pos : Pos}
theorem q15 : PA X [] tNil := fun _ _ _ _ H Q I h => Calls.spliced_nil ⟨[],H,I, .nil,h⟩
theorem q0z (ha : PE X e te) (hr : PA X es t) (hs : starEach (e :: es) X.env = (false,eval e X.env) :: starEach es X.env := by rfl) : PA X (e :: es) (q3w te t) := by
  intro pos pins s σ H Q I h
  rw [hs]
  show wpAny _ _ (spliced ((false,eval e X.env) :: backTo pos (starEach es X.env))) _ _ s
  refine Calls.spliced_cons (thn (ha pins s σ H _ I h) fun u s1 ⟨x,H1,I1,r1,q1⟩ => ?_)
  exact thn (hr pos pins s1 σ H1 _ I1 q1) fun us s2 ⟨xs,H2,I2,r2,q2⟩ => ⟨x :: xs,H2,I2, .cons r1 r2,q2⟩
def tTup (t : TA) : TE := fun σ H Q => t σ H fun xs H1 => xs.length <= sizeLine /\ ∀ p,H1 p = none -> Q (.ref p) (upd H1 p (.tup xs))
def tLst (t : TA) : TE := fun σ H Q => t σ H fun xs H1 => xs.length <= sizeLine /\ ∀ p,H1 p = none -> Q (.ref p) (upd H1 p (.lst xs))
theorem q2b {x1} (h : PA X es t) : PE X (.Tuple es x1 pos) (tTup t) := by
  intro pins s σ H Q I hq
  refine wpAny_Tuple_spliced (thn (h pos pins s σ H _ I hq) fun us s1 ⟨xs,H1,I1,r,z,q⟩ => ⟨by rw [<- r.length]; exact z,?_⟩)
  have hf : H1 s1.heap.objs.size = none := I1.hok.fresh (Nat.le_refl _)
  refine ⟨.ref s1.heap.objs.size,upd H1 s1.heap.objs.size (.tup xs),I1.laid (t' := s1.toks) (fun b u e => Heap.get?_push_of_some _ e) (Nat.le_refl _) ?_,rfl,q _ hf⟩
  exact ⟨z,us,r,⟨_,Heap.get?_push_size _ rfl,rfl,_,rfl⟩⟩
theorem q31 (h : PA X es t) : PE X (.List es pos) (tLst t) := by
  intro pins s σ H Q I hq
  refine wpAny_List_spliced (thn (h pos pins s σ H _ I hq) fun us s1 ⟨xs,H1,I1,r,z,q⟩ => ⟨by rw [<- r.length]; exact z,?_⟩)
  have hf : H1 s1.heap.objs.size = none := I1.hok.fresh (Nat.le_refl _)
  refine ⟨.ref s1.heap.objs.size,upd H1 s1.heap.objs.size (.lst xs),I1.laid (t' := s1.toks) (fun b u e => Heap.get?_push_of_some _ e) (Nat.le_refl _) ?_,rfl,q _ hf⟩
  exact ⟨z,us,0,r,Heap.get?_push_size _ rfl⟩
end
abbrev Sp := List V -> Hp -> VK -> XK -> Prop
abbrev CXT := List Env -> Hp -> Shared -> XK -> Value -> Shared -> Prop
structure Env0 (P : Program) (w : World) (K : PySem.W.Frag) (mg : Str -> Option Value) (base : Heap) (A : Around) (outer : List Env) (s : Shared) (H : Hp) : Prop where
  frames : A.frames = some outer
  mod : Mod K mg base
  bs : ∀ b o,base.get? b = some o -> s.heap.get? b = some o /\ H b = none
  bsz : base.objs.size <= s.heap.objs.size
  funs : s.heap.FunFrames base outer
  frf : ∀ b ∈ frs outer,H b = none
  hok : HOk P w H s.heap
  bare : AllBare s.gens
def CE (outer : List Env) (P : Program) (w : World) (H : Hp) (s : Shared) (Q : VK) (u : Value) (s' : Shared) : Prop :=
  ∃ v H',s'.os = s.os /\ AllBare s'.gens /\ Un (frs outer) [] H H' s.heap s'.heap /\ HOk P w H' s'.heap /\ RelV v u /\ Q v H'
def CR (CX : CXT) (outer : List Env) (P : Program) (w : World) (H : Hp) (s : Shared) (Q : VK) (E : XK) (r : Result) (s' : Shared) : Prop :=
  match r with
  | .ok (.ret u) => CE outer P w H s Q u s'
  | .ok _ => False
  | .error e => CX outer H s E e s'
structure FnOk (P : Program) (w : World) (K : PySem.W.Frag) (mg : Str -> Option Value) (base : Heap) (CX : CXT) (k : Nat) (f : Addr) (fd : FuncData) (ps : List Str) (sp : Sp) : Prop where
  len : ∀ vs H Q E,sp vs H Q E -> vs.length = ps.length
  run : ∀ (A : Around) (outer : List Env) (s : Shared) (H : Hp) (args : Args) (us : List Value) (vs : List V) (Q : VK) (E : XK),Room k A -> Env0 P w K mg base A outer s H -> BindsTo s fd args (ps.zip us) -> Vals vs us -> sp vs H Q E ->
    codeAny (model P w) A (.call (.ref f) args) (CR CX outer P w H s Q E) s
theorem FnOk.imp {P : Program} {w : World} {K : PySem.W.Frag} {mg : Str -> Option Value} {base : Heap} {CX : CXT} {k : Nat} {f : Addr} {fd : FuncData} {ps : List Str} {sp sp' : Sp} (F : FnOk P w K mg base CX k f fd ps sp)
    (h : ∀ vs H Q E,sp' vs H Q E -> sp vs H Q E) : FnOk P w K mg base CX k f fd ps sp' :=
  ⟨fun vs H Q E q => F.len vs H Q E (h _ _ _ _ q),fun A outer s H args us vs Q E hr he hb hv hs => F.run A outer s H args us vs Q E hr he hb hv (h _ _ _ _ hs)⟩
theorem Env0.make {P : Program} {w : World} {K : PySem.W.Frag} {mg : Str -> Option Value} {base : Heap} {A : Around} {outer : List Env} {s : Shared} {H : Hp} (e : Env0 P w K mg base A outer s H) (C : Addr) (us : List Value) (kw : List (Str × Value)) :
    Env0 P w K mg base (A.under (.builtin "type.__call__" ⟨.ref C :: us,kw⟩)) outer s H := ⟨by first | exact e.frames | (simpa [Around.under,Code.envs,Code.isFrame,pushEnvs] using e.frames),e.mod,e.bs,e.bsz,e.funs,e.frf,e.hok,e.bare⟩
section
variable {X : Cx} {pins : List (Addr × Obj)} {σ : St} {H : Hp} {s s' : Shared}
theorem Inv.env0 (I : Inv X pins σ H s) : Env0 X.prog X.w X.K X.mg X.base X.A X.stack s H :=
  ⟨I.ok.frames,I.ok.mod,I.bs,Nat.le_trans I.ok.bsz I.sz,I.stack,I.q7f,I.hok,I.bare⟩
theorem Inv.after {Q : VK} {u : Value} (I : Inv X pins σ H s) (h : CE X.stack X.prog X.w H s Q u s') : EP X pins σ Q u s' := by
  obtain ⟨v,H',os,bare,un,hok,r,q⟩ := h
  obtain ⟨hh,g,d,t,os'⟩ := s'
  obtain rfl : os' = s.os := os
  exact ⟨v,H',I.call (h' := hh) (g' := g) (d' := d) (t' := t) (ch := []) un hok bare (fun b z => absurd z (by simp)),r,q⟩
end
def qda (sp : Sp) (dvs : List V) (E : XK) (t : TA) : TE := fun σ H Q => t σ H fun vs H1 => sp (vs ++ dvs) H1 Q E
def qdl (C : Addr) (m : Str) (sp : Sp) (dvs : List V) (E : XK) (ta : TE) (t : TA) : TE := fun σ H Q => ta σ H fun x H1 => ∃ a dx fs,x = .ref a /\ H1 a = some (.ins C dx fs) /\ fs.lookup m = none /\
  t σ H1 fun vs H2 => sp (x :: (vs ++ dvs)) H2 Q E
def qd3 (C : Addr) (sp : Sp) (dvs : List V) (E : XK) (t : TA) : TE := fun σ H Q => t σ H fun vs H1 => ∀ x dx,H1 x = none -> H1 dx = none -> dx ≠ x ->
  sp (.ref x :: (vs ++ dvs)) (upd (upd H1 dx (.own x)) x (.ins C dx [])) (fun v H2 => v = .non /\ Q (.ref x) H2) E
def Binds (K : PySem.W.Frag) (fd : FuncData) (ps : List Str) (ds : List Value) : Prop :=
  ∀ (s : Shared) (us : List Value),K.In s.heap -> (us ++ ds).length = ps.length -> BindsTo s fd ⟨us,[]⟩ (ps.zip (us ++ ds))
theorem Binds.all {K : PySem.W.Frag} {fd : FuncData} {ps : List Str} (h : ∀ us : List Value,us.length = ps.length -> bindArgs fd ⟨us,[]⟩ = pure (ps.zip us)) : Binds K fd ps [] := fun s us _ hl => by
  rw [List.append_nil] at hl ⊢
  exact .of_eq (h us hl)
def Passes (CX : CXT) (X : Cx) (E : XK) : Prop := ∀ (pins : List (Addr × Obj)) (σ : St) (H : Hp) (s : Shared) (e : Value) (s' : Shared),Inv X pins σ H s -> CX X.stack H s E e s' -> X.xe e s'
section
variable {X : Cx} {CX : CXT} {k : Nat} {f C : Addr} {fd : FuncData} {ps : List Str} {sp : Sp} {dvs : List V} {ds : List Value} {E : XK} {x m : Str} {p pos apos : Pos} {e o : Expr} {es : List Expr} {ta : TE} {t : TA}
theorem q8b {pins : List (Addr × Obj)} {σ : St} {H : Hp} {s : Shared} {Q : VK} {us : List Value} {vs : List V} (F : FnOk X.prog X.w X.K X.mg X.base CX k f fd ps sp) (hr : Room k X.A) (hb : Binds X.K fd ps ds) (hd : Vals dvs ds) (hx : Passes CX X E)
    (I : Inv X pins σ H s) (r : Vals vs us) (h : sp (vs ++ dvs) H Q E) : wpAny (model X.prog X.w) X.A (call (.ref f) us) (EP X pins σ Q) X.xe s := by
  have r2 : Vals (vs ++ dvs) (us ++ ds) := r.append hd
  have hl : (us ++ ds).length = ps.length := by rw [<- r2.length]; exact F.len _ _ _ _ h
  refine wpAny_call (codeAny_mono (F.run X.A X.stack s H ⟨us,[]⟩ (us ++ ds) (vs ++ dvs) Q E hr I.env0 (hb s us I.kIn hl) r2 h) fun r s' hq => ?_)
  cases r with
  | error e => exact hx pins σ H s e s' I hq
  | ok fl =>
    cases fl with
    | ret u => exact I.after hq
    | next => exact False.elim hq
    | brk => exact False.elim hq
    | cont => exact False.elim hq
theorem q2c (F : FnOk X.prog X.w X.K X.mg X.base CX k f fd ps sp) (hr : Room k X.A) (hg : Gl X x) (hm : X.mg x = some (.ref f)) (hk : PySem.W.keepIn X.K (.ref f) = true) (hb : Binds X.K fd ps ds) (hd : Vals dvs ds) (hx : Passes CX X E)
    (ha : PA X (e :: es) t) (hdb : (x == ("__debug__" : Str)) = false := by decide) (he : starEach (e :: es) X.env = (false,eval e X.env) :: starEach es X.env := by rfl) (hpl : (backTo pos (starEach es X.env)).any (·.1) = false := by rfl) :
    PE X (.Call (.Name x p) (e :: es) [] pos) (qda sp dvs E t) := by
  intro pins s σ H Q I h
  refine wpAny_Call_Name_kw (q4d I hg hm ?_ hdb)
  refine PySem.W.callWith_K (h₀ := X.base) I.ok.mod.kin hk (thn (ha pos pins s σ H _ I h) fun us s1 ⟨vs,H1,I1,r,q⟩ => ⟨I1.kIn,?_⟩) he hpl
  exact q8b F hr hb hd hx I1 r q
theorem q2s {pl : Sem Bool} (he : PE X o ta) (c : Cls X.K C) (hm : Meth X.K C m f) (F : FnOk X.prog X.w X.K X.mg X.base CX k f fd ps sp) (hr : Room k X.A) (hb : Binds X.K fd ps ds) (hd : Vals dvs ds) (hx : Passes CX X E) (ha : PA X (e :: es) t)
    (hst : starEach (e :: es) X.env = (false,eval e X.env) :: starEach es X.env := by rfl) (hpl : (backTo pos (starEach es X.env)).any (·.1) = false := by rfl)
    (ht : eval (.Call (.Attribute o m apos) (e :: es) [] pos) X.env = (do
      let ov <- eval o X.env
      standAt apos.atName
      let (f,first) <- holding [ov] (getMethod ov m pl)
      callWith pos f first (backTo pos (starEach (e :: es) X.env)) (backToKw pos (keywordEach [] X.env))) := by rfl) :
    PE X (.Call (.Attribute o m apos) (e :: es) [] pos) (qdl C m sp dvs E ta t) := by
  intro pins s σ H Q I h
  refine PySem.W.methodCall_KW (pl := pl) (thn (he pins s σ H _ I h) fun u s1 ⟨x,H1,I1,rx,a,dx,fs,ex,ea,l,q⟩ => ?_) ht
  subst ex
  obtain rfl : u = Value.ref a := rx
  refine q84 I1 ea c hm l ?_
  refine PySem.W.callWith_K (first := [.ref a]) (h₀ := X.base) I.ok.mod.kin hm.kp (thn (ha pos pins s1 σ H1 _ I1 q) fun us s2 ⟨vs,H2,I2,r,q2⟩ => ⟨I2.kIn,?_⟩) hst hpl
  exact q8b (us := .ref a :: us) (vs := .ref a :: vs) F hr hb hd hx I2 (.cons rfl r) q2
theorem qgb {pl : Sem Bool} (he : PE X o ta) (c : Cls X.K C) (hm : Meth X.K C m f) (F : FnOk X.prog X.w X.K X.mg X.base CX k f fd ps sp) (hr : Room k X.A) (hb : Binds X.K fd ps ds) (hd : Vals dvs ds) (hx : Passes CX X E)
    (ht : eval (.Call (.Attribute o m apos) [] [] pos) X.env = (do
      let ov <- eval o X.env
      standAt apos.atName
      let (f,first) <- holding [ov] (getMethod ov m pl)
      callWith pos f first (backTo pos (starEach [] X.env)) (backToKw pos (keywordEach [] X.env))) := by rfl) :
    PE X (.Call (.Attribute o m apos) [] [] pos) (qdl C m sp dvs E ta tNil) := by
  intro pins s σ H Q I h
  refine PySem.W.methodCall_KW (pl := pl) (thn (he pins s σ H _ I h) fun u s1 ⟨x,H1,I1,rx,a,dx,fs,ex,ea,l,q⟩ => ?_) ht
  subst ex
  obtain rfl : u = Value.ref a := rx
  refine q84 I1 ea c hm l ?_
  exact PySem.W.callWith_K0 (first := [.ref a]) I1.kIn hm.kp (q8b (us := [.ref a]) (vs := [.ref a]) F hr hb hd hx I1 (.cons rfl .nil) q)
structure Mk (K : PySem.W.Frag) (C f : Addr) : Prop where
  makes : PySem.W.makesIn K C = true
  init : PySem.W.findIn K (.ref C) "__init__" = some (some (.ref f))
  fn : PySem.W.isFn K (.ref f) = true
  kp : PySem.W.keepIn K (.ref C) = true
theorem qbm {pins : List (Addr × Obj)} {σ : St} {H : Hp} {s : Shared} {Q : VK} {us : List Value} {vs : List V} (M : Mk X.K C f) (F : FnOk X.prog X.w X.K X.mg X.base CX k f fd ps sp) (hr : Room (k + 1) X.A) (hb : Binds X.K fd ps ds) (hd : Vals dvs ds)
    (hx : Passes CX X E) (I : Inv X pins σ H s) (r : Vals vs us)
    (h : ∀ x dx,H x = none -> H dx = none -> dx ≠ x -> sp (.ref x :: (vs ++ dvs)) (upd (upd H dx (.own x)) x (.ins C dx [])) (fun v H2 => v = .non /\ Q (.ref x) H2) E) :
    wpAny (model X.prog X.w) X.A (call (.ref C) us) (EP X pins σ Q) X.xe s := by
  have hq := h (s.heap.objs.size + 1) s.heap.objs.size (I.hok.fresh (Nat.le_succ _)) (I.hok.fresh (Nat.le_refl _)) (Nat.ne_of_lt (Nat.lt_succ_self _))
  have I2 := Inv.made (C := C) I
  have r2 : Vals (V.ref (s.heap.objs.size + 1) :: (vs ++ dvs)) (Value.ref (s.heap.objs.size + 1) :: (us ++ ds)) := .cons rfl (r.append hd)
  have hl : (Value.ref (s.heap.objs.size + 1) :: us ++ ds).length = ps.length := by
    have e := r2.length
    rw [F.len _ _ _ _ hq] at e
    exact e.symm
  refine wpAny_call (qgx (f := f) I.kIn M.makes M.init (beq_iff_eq.mp M.fn) (codeAny_mono (F.run _ X.stack _ _ ⟨Value.ref (s.heap.objs.size + 1) :: us,[]⟩ (Value.ref (s.heap.objs.size + 1) :: (us ++ ds)) _ _ E (hr.make C us [])
    (I2.env0.make C us []) (hb _ (Value.ref (s.heap.objs.size + 1) :: us) I2.kIn hl) r2 hq) fun r s' hq' => ?_))
  cases r with
  | error e => exact hx pins σ _ _ e s' I2 hq'
  | ok fl =>
    cases fl with
    | ret u =>
      obtain ⟨v,H',I3,rv,ev,q3⟩ := I2.after hq'
      subst ev
      exact ⟨rv,⟨V.ref (s.heap.objs.size + 1),H',I3,rfl,q3⟩⟩
    | next => exact False.elim hq'
    | brk => exact False.elim hq'
    | cont => exact False.elim hq'
theorem q57 (M : Mk X.K C f) (F : FnOk X.prog X.w X.K X.mg X.base CX k f fd ps sp) (hr : Room (k + 1) X.A) (hg : Gl X x) (hm : X.mg x = some (.ref C)) (hb : Binds X.K fd ps ds) (hd : Vals dvs ds) (hx : Passes CX X E)
    (ha : PA X (e :: es) t) (hdb : (x == ("__debug__" : Str)) = false := by decide) (he : starEach (e :: es) X.env = (false,eval e X.env) :: starEach es X.env := by rfl) (hpl : (backTo pos (starEach es X.env)).any (·.1) = false := by rfl) :
    PE X (.Call (.Name x p) (e :: es) [] pos) (qd3 C sp dvs E t) := by
  intro pins s σ H Q I h
  refine wpAny_Call_Name_kw (q4d I hg hm ?_ hdb)
  refine PySem.W.callWith_K (h₀ := X.base) I.ok.mod.kin M.kp (thn (ha pos pins s σ H _ I h) fun us s1 ⟨vs,H1,I1,r,q⟩ => ⟨I1.kIn,?_⟩) he hpl
  exact qbm M F hr hb hd hx I1 r q
theorem qhd (M : Mk X.K C f) (F : FnOk X.prog X.w X.K X.mg X.base CX k f fd ps sp) (hr : Room (k + 1) X.A) (hg : Gl X x) (hm : X.mg x = some (.ref C)) (hb : Binds X.K fd ps ds) (hd : Vals dvs ds) (hx : Passes CX X E)
    (hdb : (x == ("__debug__" : Str)) = false := by decide) : PE X (.Call (.Name x p) [] [] pos) (qd3 C sp dvs E tNil) := by
  intro pins s σ H Q I h
  refine wpAny_Call_Name_kw (q4d I hg hm ?_ hdb)
  exact PySem.W.callWith_K0 I.kIn M.kp (qbm (us := []) M F hr hb hd hx I .nil h)
end
structure q1m (N P : List Str) (sc : Scope) : Prop where
  kind : sc.kind = .function
  co : sc.isCoroutine = false
  gen : sc.isGenerator = false
  nd : N.Nodup
  pre : N.take P.length = P
  par : ∀ x ∈ P,sc.names.lookup x = some .local \/ sc.names.lookup x = some .cell
  nofree : ∀ y ∈ sc.names,y.2 ≠ .free
theorem q9w {kindOf : Str -> Option NameKind} {x : Str} : ∀ {binds : List (Str × Value)} {m : Str -> Option Value},(∀ v,(x,v) ∉ binds) -> bindL kindOf binds m x = m x
  | [],_,_ => rfl
  | (n,v) :: r,m,h => by
    unfold bindL
    rw [q9w fun w hw => h w (List.mem_cons_of_mem _ hw)]
    split
    . have : x ≠ n := by rintro rfl; exact h v List.mem_cons_self
      simp [this]
    . rfl
theorem q9h {kindOf : Str -> Option NameKind} {x : Str} : ∀ {binds : List (Str × Value)} {m : Str -> Option Value},(∀ v,(x,v) ∉ binds) -> bindC kindOf binds m x = m x
  | [],_,_ => rfl
  | (n,v) :: r,m,h => by
    unfold bindC
    rw [q9h fun w hw => h w (List.mem_cons_of_mem _ hw)]
    split
    . rfl
    . have : x ≠ n := by rintro rfl; exact h v List.mem_cons_self
      simp [this]
theorem q9i {kindOf : Str -> Option NameKind} {x : Str} {v : Value} : ∀ {P : List Str} {vs : List Value} {i : Nat} {m : Str -> Option Value},P.Nodup -> P[i]? = some x -> vs[i]? = some v -> kindOf x = some .local ->
    bindL kindOf (P.zip vs) m x = some v
  | [],_,_,_,_,h,_,_ => by simp at h
  | _ :: _,[],_,_,_,_,h,_ => by simp at h
  | p :: P,w :: vs,0,m,nd,h1,h2,hk => by
    simp at h1 h2; subst h1; subst h2
    show bindL kindOf ((p,w) :: P.zip vs) m p = _
    unfold bindL
    rw [q9w fun v hv => (List.nodup_cons.mp nd).1 (List.of_mem_zip hv).1,if_pos hk]
    simp
  | p :: P,w :: vs,i + 1,m,nd,h1,h2,hk => by
    show bindL kindOf ((p,w) :: P.zip vs) m x = _
    unfold bindL
    exact q9i (i := i) (List.nodup_cons.mp nd).2 (by simpa using h1) (by simpa using h2) hk
theorem q9r {kindOf : Str -> Option NameKind} {x : Str} {v : Value} : ∀ {P : List Str} {vs : List Value} {i : Nat} {m : Str -> Option Value},P.Nodup -> P[i]? = some x -> vs[i]? = some v -> kindOf x ≠ some .local ->
    bindC kindOf (P.zip vs) m x = some v
  | [],_,_,_,_,h,_,_ => by simp at h
  | _ :: _,[],_,_,_,_,h,_ => by simp at h
  | p :: P,w :: vs,0,m,nd,h1,h2,hk => by
    simp at h1 h2; subst h1; subst h2
    show bindC kindOf ((p,w) :: P.zip vs) m p = _
    unfold bindC
    rw [q9h fun v hv => (List.nodup_cons.mp nd).1 (List.of_mem_zip hv).1,if_neg hk]
    simp
  | p :: P,w :: vs,i + 1,m,nd,h1,h2,hk => by
    show bindC kindOf ((p,w) :: P.zip vs) m x = _
    unfold bindC
    exact q9r (i := i) (List.nodup_cons.mp nd).2 (by simpa using h1) (by simpa using h2) hk
def start (N : List Str) (vs : List V) : St := vs.map some ++ List.replicate (N.length - vs.length) none
def cxOf (CX : CXT) (P : Program) (w : World) (K : PySem.W.Frag) (mg : Str -> Option Value) (base : Heap) (N : List Str) (qual : Str) (scope : Scope) (f : Addr) (cd : Value) (A : Around) (outer : List Env) (s : Shared) (H : Hp) (E : XK) : Cx where
  prog := P
  w := w
  K := K
  mg := mg
  base := base
  A := A.deeper (envOfC qual scope s.heap.objs.size f cd)
  N := N
  s₀ := s
  H₀ := H
  env := envOfC qual scope s.heap.objs.size f cd
  outer := outer
  stack := envOfC qual scope s.heap.objs.size f cd :: outer
  ex := []
  calm := true
  fn := fun _ => true
  pn := []
  xe := fun e s' => wpAny (model P w) (A.deeper (envOfC qual scope s.heap.objs.size f cd)) (leaving (envOfC qual scope s.heap.objs.size f cd) e) (fun _ s'' => CX outer H s E e s'') (fun e' s'' => CX outer H s E e' s'') s'
theorem qad {sc : Scope} {n : Nat} {x : Str} (h : sc.names.lookup x = some .cell) : ∃ c,(cellsFrom n sc.names []).lookup x = some c := by
  have q := PySem.W.cellsFrom_some sc.names n [] (.inl h)
  exact Option.isSome_iff_exists.mp q
theorem q9q {CX : CXT} {P : Program} {w : World} {K : PySem.W.Frag} {mg : Str -> Option Value} {base : Heap} {N ps : List Str} {qual : Str} {scope : Scope} {f : Addr} {cd : Value} {A : Around} {outer : List Env} {s s1 : Shared} {H : Hp} {E : XK} {us : List Value} {vs : List V}
    (S : q1m N ps scope) (hd : A.handled = none) (e0 : Env0 P w K mg base A outer s H) (hl : vs.length = ps.length) (r : Vals vs us)
    (x : InCallC s s.heap.objs.size (bindL (envOfC qual scope s.heap.objs.size f cd).kindOf (ps.zip us) fun _ => none) (cellsFrom (s.heap.objs.size + 1) scope.names []) (bindC (envOfC qual scope s.heap.objs.size f cd).kindOf (ps.zip us) fun _ => none) s1) :
    Inv (cxOf CX P w K mg base N qual scope f cd A outer s H E) [] (start N vs) H s1 := by
  have hpl : ps.length <= N.length := by have := congrArg List.length S.pre; rw [List.length_take] at this; omega
  obtain ⟨h1,tk,rfl,hk⟩ := x.done
  have noA : ∀ b : Addr,b ∉ (cxOf CX P w K mg base N qual scope f cd A outer s H E).ex := fun b z => absurd (show b ∈ ([] : List Addr) from z) (by simp)
  refine ⟨⟨e0.mod,S.kind,rfl,rfl,Nat.le_refl _,fun y z c h1 h2 => ?_,fun y hy => ?_,fun y c _ h => ?_,fun _ => hd,Around.frames_deeper e0.frames, .inr ⟨rfl,rfl⟩,fun b z => absurd z (noA b),e0.bs,e0.bsz,fun b _ _ => noA b,fun b z => absurd z (noA b),e0.funs,e0.frf⟩,
    rfl,e0.bare,Un.kept hk,⟨_,x.toInCall.ns,fun i y v h1 h2 h3 => ?_⟩,fun y c h => ⟨_,x.cell y c h⟩,e0.hok.fresh (Nat.le_refl _),fun y c h => ?_,fun p hp => absurd (show p ∈ ([] : List (Addr × Obj)) from hp) (by simp),e0.hok.kept hk,?_⟩
  . exact name_of_addr x.apart (PySem.mem_of_lookup h1) (PySem.mem_of_lookup h2)
  . have hy : scope.names.lookup y = some .cell \/ scope.names.lookup y = some .free := hy
    rcases hy with hy | hy
    . exact qad hy
    . exact absurd rfl (S.nofree _ (PySem.mem_of_lookup hy))
  . exact Nat.le_of_lt (x.above y c (PySem.mem_of_lookup h))
  . have hi : i < vs.length := by
      unfold start at h2
      by_cases hi : i < vs.length
      . exact hi
      . rw [List.getElem?_append_right (by simpa using hi)] at h2
        rw [List.getElem?_replicate] at h2
        split at h2 <;> cases h2
    have ha : vs[i]? = some v := by
      unfold start at h2
      rw [List.getElem?_append_left (by simpa using hi),List.getElem?_map] at h2
      cases e : vs[i]? with
      | none => rw [e] at h2; cases h2
      | some a => rw [e] at h2; cases h2; rfl
    obtain ⟨u,hu,rv⟩ := r.get ha
    have hp : ps[i]? = some y := by
      rw [<- S.pre,List.getElem?_take_of_lt (by omega)]; exact h1
    have ndP : ps.Nodup := by rw [<- S.pre]; exact S.nd.sublist (List.take_sublist _ _)
    refine ⟨u,rv,?_⟩
    rcases S.par y (List.mem_of_getElem? hp) with k | k
    . exact .inl ⟨k,q9i ndP hp hu k⟩
    . obtain ⟨c,e⟩ := qad (n := s.heap.objs.size + 1) k
      refine .inr ⟨.inl k,c,e,?_⟩
      have q := x.cell y c e
      rw [q9r ndP hp hu (by show scope.names.lookup y ≠ _; rw [k]; decide)] at q
      exact q
  . exact e0.hok.fresh (Nat.le_of_lt (x.above y c (PySem.mem_of_lookup h)))
  . unfold start
    show _ = N.length
    rw [List.length_append,List.length_map,List.length_replicate]
    omega
theorem fn_of {CX : CXT} {P : Program} {w : World} {K : PySem.W.Frag} {mg : Str -> Option Value} {base : Heap} {k : Nat} {f : Addr} {name qual : Str} {params : Arguments} {body : List Stmt} {scope : Scope} {dV kV doc pm cdv ct oc : Value} {an od : Option Addr}
    {osl : Array (Option Value)} {N ps : List Str} {sp : Sp} (lk : K.lookup f = some ⟨oc,od, .func (PySem.W.fnOf name qual params body scope dV kV doc pm an cdv ct),osl⟩) (hcd : PySem.W.codeIn K cdv qual = true) (S : q1m N ps scope)
    (len : ∀ vs H Q E,sp vs H Q E -> vs.length = ps.length)
    (hbody : ∀ (A : Around) (outer : List Env) (s : Shared) (H : Hp) (vs : List V) (Q : VK) (E : XK),Room k (A.deeper (envOfC qual scope s.heap.objs.size f cdv)) -> sp vs H Q E ->
      ∃ t,PSs (cxOf CX P w K mg base N qual scope f cdv A outer s H E) body t /\ t { nx := fun _ H' => Q .non H',rt := Q } (start N vs) H) :
    FnOk P w K mg base CX (k + 1) f (PySem.W.fnOf name qual params body scope dV kV doc pm an cdv ct) ps sp := by
  refine ⟨len,fun A outer s H args us vs Q E hr e0 hb r hsp => ?_⟩
  have hl := len _ _ _ _ hsp
  have KX : K.In s.heap := e0.mod.kin.keeps fun b o e => (e0.bs b o e).1
  have lim : s.heap.NoLimit := e0.mod.nolimit.keeps fun b o e => (e0.bs b o e).1
  have hkind : ∀ y ∈ ps.zip us,scope.names.lookup y.1 = some .local \/ (scope.names.lookup y.1 = some .cell /\ ((cellsFrom (s.heap.objs.size + 1) scope.names []).lookup y.1).isSome = true) := fun ⟨n,v⟩ hy => by
    rcases S.par n (List.of_mem_zip hy).1 with q | q
    . exact .inl q
    . exact .inr ⟨q,PySem.W.cellsFrom_some _ _ _ (.inl q)⟩
  refine codeAny_call_function hr.depth (KX _ _ lk) rfl S.co S.gen rfl (PySem.W.codeRec_of KX hcd) (hb _ _ _ _ ?_)
  refine wpAny_newFunctionEnv_cells S.kind hkind fun env he s1 x => ?_
  subst he
  refine ⟨lim.keeps x.toInCall.keep,codeAny_func ?_⟩
  obtain ⟨t,ht,hq⟩ := hbody A outer s H vs Q E (hr.deeper _) hsp
  have I : Inv (cxOf CX P w K mg base N qual scope f cdv A outer s H E) [] (start N vs) H s1 := q9q S hr.hd e0 hl r x
  refine wpAny_mono (ht [] s1 (start N vs) H _ I hq) (fun fl s' hs => ?_) fun e s' hs => hs
  have fin : ∀ {σ' : St} {H' : Hp} {v : V} {u : Value},Inv (cxOf CX P w K mg base N qual scope f cdv A outer s H E) [] σ' H' s' -> RelV v u -> Q v H' -> CE outer P w H s Q u s' :=
    fun {σ' H' v u} J rv q => ⟨v,H',J.os,J.bare,J.base,J.hok,rv,q⟩
  cases fl with
  | ret u =>
    obtain ⟨v, σ',H',J,rv,q⟩ := hs
    exact fin J rv q
  | next =>
    obtain ⟨σ',H',J,q⟩ := hs
    exact fin (v := V.non) (u := Value.none) J rfl q
  | brk =>
    obtain ⟨_,_,_,q⟩ := hs
    exact False.elim q
  | cont =>
    obtain ⟨_,_,_,q⟩ := hs
    exact False.elim q
end L2
namespace L2
open PySem PySem.Spec PyProof.Rows
section
variable {X : Cx} {x : Str} {p pos : Pos} {e : Expr} {es : List Expr} {t : TA} {id T : String} {r : List V -> Hp -> VK -> Prop}
def tCB (r : List V -> Hp -> VK -> Prop) (t : TA) : TE := fun σ H Q => t σ H fun vs H1 => r vs H1 Q
theorem q26 (hc : q33 X (.builtin id) r) (hg : Gl X x) (hm : X.mg x = none) (hv : bootBuiltins x = some (.builtin id)) (ha : PA X (e :: es) t) (hn : x ≠ "__name__" := by decide) (hdb : (x == ("__debug__" : Str)) = false := by decide)
    (he : starEach (e :: es) X.env = (false,eval e X.env) :: starEach es X.env := by rfl) (hpl : (backTo pos (starEach es X.env)).any (·.1) = false := by rfl) : PE X (.Call (.Name x p) (e :: es) [] pos) (tCB r t) := by
  intro pins s σ H Q I h
  refine wpAny_Call_Name_kw (q6r I hg hm hv ?_ hn hdb)
  exact PyProof.Rows.callWith_builtin1 (thn (ha pos pins s σ H _ I h) fun us s1 ⟨vs,H1,I1,r1,q1⟩ => hc pins s1 σ H1 vs us Q I1 r1 q1) he hpl
theorem q5o (hc : q33 X (.type T) r) (hg : Gl X x) (hm : X.mg x = none) (hv : bootBuiltins x = some (.type T)) (ha : PA X (e :: es) t) (hn : x ≠ "__name__" := by decide) (hdb : (x == ("__debug__" : Str)) = false := by decide)
    (he : starEach (e :: es) X.env = (false,eval e X.env) :: starEach es X.env := by rfl) (hpl : (backTo pos (starEach es X.env)).any (·.1) = false := by rfl) : PE X (.Call (.Name x p) (e :: es) [] pos) (tCB r t) := by
  intro pins s σ H Q I h
  refine wpAny_Call_Name_kw (q6r I hg hm hv ?_ hn hdb)
  exact PyProof.Rows.callWith_type1 (thn (ha pos pins s σ H _ I h) fun us s1 ⟨vs,H1,I1,r1,q1⟩ => hc pins s1 σ H1 vs us Q I1 r1 q1) he hpl
end
end L2
namespace HT
open PySem PyProof.Rows
section
variable {prog : Program} {w : World} {A : Around} {E : Value -> Shared -> Prop} {s : Shared}
theorem qhw {t b : Addr} {vs ws : List Value} {Q : Value -> Shared -> Prop} (ht : IsTup s.heap t vs.toArray) (hb : IsTup s.heap b ws.toArray) (hv : vs ≠ [])
    (h1 : ws = [] -> Q (.ref t) s) (h2 : ws ≠ [] -> Q (.ref s.heap.objs.size) { s with heap := s.heap.push { cls := .type "tuple",data := .seq (vs ++ ws).toArray } })
    (hsz : vs.length + ws.length <= sizeLine) : wpAny (model prog w) A (binaryOp .Add (.ref t) (.ref b)) Q E s := by
  obtain ⟨⟨cls,dd,data,sl⟩,ho,hc,n,hd⟩ := id ht
  obtain ⟨⟨cls2,dd2,data2,sl2⟩,ho2,hc2,n2,hd2⟩ := id hb
  simp only at hc hd hc2 hd2
  subst hc hd hc2 hd2
  have e : vs.toArray ++ ws.toArray = (vs ++ ws).toArray := by simp
  by_cases hw : ws = []
  . exact concat_meets ⟨_,ho,rfl⟩ ⟨_,ho2,rfl⟩ noFill_tuple_add seq_tuple_add PySem.F.slot_tuple_add PySem.F.entry_tuple_add (PySem.F.args_tuple_add_2 _ _)
      (tuple_addW1 t b vs.toArray ws.toArray n n2 dd dd2 sl sl2 (by simpa using hv) (by simp [hw])) ⟨ho,ho2,h1 hw⟩
  . refine concat_meets ⟨_,ho,rfl⟩ ⟨_,ho2,rfl⟩ noFill_tuple_add seq_tuple_add PySem.F.slot_tuple_add PySem.F.entry_tuple_add (PySem.F.args_tuple_add_2 _ _)
      (tuple_addW2 t b vs.toArray ws.toArray n n2 dd dd2 sl sl2 (by simpa using hv) (by simpa using hw) (by rw [List.size_toArray,List.size_toArray]; exact hsz)) ⟨ho,ho2,?_⟩
    rw [e]
    exact h2 hw
end
end HT
namespace L2
open PySem PySem.Spec PyProof.Rows
abbrev TO := St -> Hp -> (Option Int -> Hp -> Prop) -> Prop
def PO (X : Cx) (e : Option Expr) (t : TO) : Prop :=
  ∀ (pins : List (Addr × Obj)) (s : Shared) (σ : St) (H : Hp) (Q : Option Int -> Hp -> Prop),Inv X pins σ H s -> t σ H Q ->
    wpAny (model X.prog X.w) X.A (evalPart e X.env) (fun u s' => ∃ o H',Inv X pins σ H' s' /\ IsPart u o /\ Q o H') X.xe s
def qd1 : TO := fun _ H Q => Q none H
def tPart (t : TE) : TO := fun σ H Q => t σ H fun x H1 => ∃ i,x = .int i /\ Q (some i) H1
section
variable {X : Cx} {e : Expr} {te : TE} {lo hi : Option Expr} {tl th : TO} {pos p2 : Pos}
theorem q94 : PO X none qd1 := by
  intro pins s σ H Q I h
  rw [evalPart_none]
  exact wpAny_pure ⟨none,H,I, .none,h⟩
theorem q9b (h : PE X e te) : PO X (some e) (tPart te) := by
  intro pins s σ H Q I hw
  rw [evalPart_some]
  refine thn (h pins s σ H _ I hw) fun u s1 ⟨x,H1,I1,r1,q1⟩ => ?_
  obtain ⟨i,rfl,q⟩ := q1
  obtain ⟨t,rfl⟩ := r1
  exact ⟨some i,H1,I1, .int i t,q⟩
def SlR (X : Cx) (r : V -> Option Int -> Option Int -> Hp -> VK -> Prop) : Prop :=
  ∀ (pins : List (Addr × Obj)) (s : Shared) (σ : St) (H : Hp) (x : V) (v vl vu : Value) (lo hi : Option Int) (sl : Addr) (Q : VK),Inv X pins σ H s -> RelV x v -> s.heap.IsSliceOf sl vl vu .none -> IsPart vl lo -> IsPart vu hi -> r x lo hi H Q ->
    ∃ T id,typeLookup (.type T) "__getitem__" = pure (some (.builtin id)) /\ s.TypeIs v T /\ wpAny (model X.prog X.w) X.A (getItem v (.ref sl)) (EP X pins σ Q) X.xe s
def tSl (r : V -> Option Int -> Option Int -> Hp -> VK -> Prop) (te : TE) (tl th : TO) : TE := fun σ H Q => te σ H fun x H1 => tl σ H1 fun l H2 => th σ H2 fun u H3 => r x l u H3 Q
theorem q7t {r : V -> Option Int -> Option Int -> Hp -> VK -> Prop} (hr : SlR X r) (he : PE X e te) (hl : PO X lo tl) (hu : PO X hi th) : PE X (.Subscript e (.Slice lo hi none p2) pos) (tSl r te tl th) := by
  intro pins s σ H Q I h
  refine Subscript_ (thn (he pins s σ H _ I h) fun v s1 ⟨x,H1,I1,r1,q1⟩ => ?_)
  refine wpAny_Slice (thn (hl pins s1 σ H1 _ I1 q1) fun vl s2 ⟨l,H2,I2,pl,q2⟩ => thn (hu pins s2 σ H2 _ I2 q2) fun vu s3 ⟨u,H3,I3,pu,q3⟩ => ?_)
  rw [evalPart_none]
  refine wpAny_pure ?_
  have I4 : Inv X pins σ H3 { s3 with heap := s3.heap.push { cls := .type "slice",data := .fields #[vl,vu, .none] } } := I3.kept (t' := s3.toks) fun b ob q => Heap.get?_push_of_some _ q
  obtain ⟨T,id,hT,ht,hg⟩ := hr pins { s3 with heap := s3.heap.push { cls := .type "slice",data := .fields #[vl,vu, .none] } } σ H3 x v vl vu l u s3.heap.objs.size Q I4 r1 (Heap.IsSliceOf.new ..) pl pu q3
  show wpAny (model X.prog X.w) X.A (subscriptTail e (.Slice lo hi none p2) v (.ref s3.heap.objs.size)) (EP X pins σ Q) X.xe { s3 with heap := s3.heap.push { cls := .type "slice",data := .fields #[vl,vu, .none] } }
  exact tail_any (ops := [.ref s3.heap.objs.size,v]) ht hT hg (by with_unfolding_all rfl)
def qdk (K : PySem.W.Frag) : R2 := fun x y H Q => ∃ a b xs ys,x = .ref a /\ y = .ref b /\ SqT K H a xs /\ SqT K H b ys /\ xs ≠ [] /\ xs.length + ys.length <= sizeLine /\
  (ys = [] -> Q (.ref a) H) /\ (ys ≠ [] -> ∀ p,H p = none -> Q (.ref p) (upd H p (.tup (xs ++ ys))))
theorem Vals.q66 {xs : List V} {us : List Value} (r : Vals xs us) : us = [] ↔ xs = [] := by
  cases r with
  | nil => simp
  | cons _ _ => simp
theorem qhl : OpR X (binaryOp .Add) (qdk X.K) := by
  intro pins s σ H x y v u Q I rx ry h
  obtain ⟨a,b,xs,ys,rfl,rfl,ha,hb,hx,hz,q1,q2⟩ := h
  cases rx
  cases ry
  obtain ⟨its,r1,p1,_⟩ := I.tuple ha
  obtain ⟨its2,r2,p2,_⟩ := I.tuple hb
  refine HT.qhw p1 p2 (fun z => hx (r1.q66.mp z)) (fun z => ⟨.ref a,H,I,rfl,q1 (r2.q66.mp z)⟩) (fun z => ?_) (by rw [<- r1.length, <- r2.length]; exact hz)
  refine ⟨.ref s.heap.objs.size,_,I.laid (t' := s.toks) (o := .tup (xs ++ ys)) (fun b ob q => Heap.get?_push_of_some _ q) (Nat.le_refl _) ?_,rfl,q2 (fun w => z (r2.q66.mpr w)) _ (I.hok.fresh (Nat.le_refl _))⟩
  exact ⟨by rw [List.length_append]; exact hz,_,r1.append r2,IsTup.new _ _⟩
end
end L2
namespace L2
open PySem PySem.Spec PyProof.Rows
def ixN (n : Nat) (i : Int) : Option Nat := if 0 <= i then (if i < n then some i.toNat else none) else if -(n : Int) <= i then some (i + n).toNat else none
def atI {α : Type} (xs : List α) (i : Int) : Option α := (ixN xs.length i).bind fun j => xs[j]?
theorem qd0 {n : Nat} {i : Int} {j : Nat} (h : ixN n i = some j) : seqIndex? i n = some j /\ j < n /\ -(n : Int) <= i /\ i < n := by
  unfold ixN at h
  by_cases h0 : 0 <= i
  . rw [if_pos h0] at h
    by_cases h1 : i < n
    . rw [if_pos h1] at h
      have e : i.toNat = j := Option.some.inj h
      exact ⟨by rw [seqIndex_of h0 h1,e],by omega,by omega,h1⟩
    . rw [if_neg h1] at h; cases h
  . rw [if_neg h0] at h
    by_cases h1 : -(n : Int) <= i
    . rw [if_pos h1] at h
      have e : (i + n).toNat = j := Option.some.inj h
      exact ⟨by rw [seqIndex_neg (by omega) h1,e],by omega,h1,by omega⟩
    . rw [if_neg h1] at h; cases h
theorem q91 {α : Type} {xs : List α} {i : Int} {v : α} (h : atI xs i = some v) : ∃ j,seqIndex? i xs.length = some j /\ xs[j]? = some v /\ j < xs.length /\ -(xs.length : Int) <= i /\ i < xs.length := by
  unfold atI at h
  cases e : ixN xs.length i with
  | none => rw [e] at h; cases h
  | some j =>
    rw [e] at h
    obtain ⟨h1,h2,h3,h4⟩ := qd0 e
    exact ⟨j,h1,h,h2,h3,h4⟩
theorem q38 {α : Type} {xs : List α} {j : Nat} {v : α} (h : xs[j]? = some v) : atI xs (j : Int) = some v := by
  have hj : j < xs.length := (List.getElem?_eq_some_iff.mp h).1
  have e : ixN xs.length (j : Int) = some j := by
    unfold ixN
    rw [if_pos (by omega),if_pos (by omega)]; simp
  unfold atI; rw [e]; exact h
def qiw (b : Expr) : Prop := ∀ o i,subscripted b false o i = operate [o,i] (getItem o i)
def IxR (X : Cx) (r : R2) : Prop :=
  ∀ (value slice : Expr) (pins : List (Addr × Obj)) (s : Shared) (σ : St) (H : Hp) (x y : V) (v u : Value) (Q : VK),Inv X pins σ H s -> RelV x v -> RelV y u -> r x y H Q ->
    subscripted slice false v u = operate [v,u] (getItem v u) -> wpAny (model X.prog X.w) X.A (subscriptTail value slice v u) (EP X pins σ Q) X.xe s
def MtR (X : Cx) (id : String) (r : V -> List V -> Hp -> VK -> Prop) : Prop :=
  ∀ (pins : List (Addr × Obj)) (s : Shared) (σ : St) (H : Hp) (x : V) (xs : List V) (v : Value) (us : List Value) (Q : VK),Inv X pins σ H s -> RelV x v -> Vals xs us -> r x xs H Q ->
    wpAny (model X.prog X.w) X.A (call (.builtin id) (v :: us)) (EP X pins σ Q) X.xe s
section
variable {X : Cx} {a b : Expr} {ta tb : TE} {pos : Pos}
theorem IxR.or {r r' : R2} (h : IxR X r) (h' : IxR X r') : IxR X (fun x y H Q => r x y H Q \/ r' x y H Q) := by
  intro value slice pins s σ H x y v u Q I rx ry q hs
  rcases q with q | q
  . exact h value slice pins s σ H x y v u Q I rx ry q hs
  . exact h' value slice pins s σ H x y v u Q I rx ry q hs
theorem q1j {r : R2} (hr : IxR X r) (ha : PE X a ta) (hb : PE X b tb) (hs : qiw b) : PE X (.Subscript a b pos) (tOp r ta tb) := by
  intro pins s σ H Q I h
  exact Subscript_ (binT ha hb I h fun v u s2 x y H2 I2 rx ry q => hr a b pins s2 σ H2 x y v u Q I2 rx ry q (hs _ _))
def rIxL (K : PySem.W.Frag) : R2 := fun x y H Q => ∃ p xs i v,x = .ref p /\ y = .int i /\ SqL K H p xs /\ atI xs i = some v /\ Q v H
def rIxT (K : PySem.W.Frag) : R2 := fun x y H Q => ∃ p xs i v,x = .ref p /\ y = .int i /\ SqT K H p xs /\ atI xs i = some v /\ Q v H
def rIxS : R2 := fun x y H Q => ∃ z i c,x = .str z /\ y = .int i /\ z.length <= sizeLine /\ atI z.cps.toList i = some c /\ Q (.str ⟨#[c]⟩) H
theorem qib : IxR X (rIxL X.K) := by
  intro value slice pins s σ H x y v u Q I rx ry h hs
  obtain ⟨p,xs,i,z,rfl,rfl,hq,he,q⟩ := h
  cases rx
  obtain ⟨t,rfl⟩ := ry
  obtain ⟨its,r,pl,hz⟩ := I.list hq
  obtain ⟨j,h1,h2,h3,h4,h5⟩ := q91 he
  obtain ⟨w,ew,rw'⟩ := r.get h2
  have hl := r.length
  have hn := q60
  have fin : EP X pins σ Q w s := ⟨z,H,I,rw',q⟩
  by_cases h0 : 0 <= i
  . have hj : i.toNat = j := by
      rw [seqIndex_of h0 h5] at h1
      exact Option.some.inj h1
    exact item_listR pl.isList h0 (by omega) (by rw [hj]; simpa using ew) fin hs
  . have hj : (i + (its.toArray.size : Int)).toNat = j := by
      rw [seqIndex_neg (by omega) h4] at h1
      rw [List.size_toArray, <- hl]
      exact Option.some.inj h1
    exact subscriptTail_builtinR (x := w) pl.isList.typeIs slot_list_getitem.lookup
      (wpAny_getItem_list_neg (Q := fun r s' => r = w /\ EP X pins σ Q r s') pl.isList (by omega) (by rw [List.size_toArray] <;> omega) (by omega) (by rw [hj]; simpa using ew) ⟨rfl,fin⟩) hs
theorem ix_tup : IxR X (rIxT X.K) := by
  intro value slice pins s σ H x y v u Q I rx ry h hs
  obtain ⟨p,xs,i,z,rfl,rfl,hq,he,q⟩ := h
  cases rx
  obtain ⟨t,rfl⟩ := ry
  obtain ⟨its,r,pl,hz⟩ := I.tuple hq
  obtain ⟨j,h1,h2,h3,h4,h5⟩ := q91 he
  obtain ⟨w,ew,rw'⟩ := r.get h2
  have hl := r.length
  have hn := q60
  have fin : EP X pins σ Q w s := ⟨z,H,I,rw',q⟩
  exact subscriptTail_builtinR (x := w) pl.typeIs slot_tuple_getitem.lookup
    (getItem_tuple (j := j) (Q := fun r s' => r = w /\ EP X pins σ Q r s') pl (by omega) (by omega) (by rw [List.size_toArray, <- hl]; exact h1) (by simpa using ew) ⟨rfl,fin⟩) hs
theorem q6t : IxR X rIxS := by
  intro value slice pins s σ H x y v u Q I rx ry h hs
  obtain ⟨z,i,c,rfl,rfl,hz,he,q⟩ := h
  obtain ⟨t,rfl⟩ := rx
  obtain ⟨t',rfl⟩ := ry
  obtain ⟨j,h1,h2,h3,h4,h5⟩ := q91 he
  have hl : z.cps.toList.length = z.length := by simp [Str.length]
  rw [hl] at h1 h4 h5
  have hn := q60
  exact tail_any (typeIs_str s z t) slot_str_getitem.lookup (getItem_str (c := c) (by
    have e1 : decide (i < -(2 ^ 63 : Int)) = false := decide_eq_false (by omega)
    have e2 : decide (i ≥ 2 ^ 63) = false := decide_eq_false (by omega)
    rw [e1,e2,Bool.or_false]) (by rw [h1]; simpa using h2) ⟨.str ⟨#[c]⟩,H,I.tok _,⟨_,rfl⟩,q⟩) hs
def rIx (K : PySem.W.Frag) : R2 := fun x y H Q => rIxL K x y H Q \/ rIxT K x y H Q \/ rIxS x y H Q
theorem q1h : IxR X (rIx X.K) := qib.or (ix_tup.or q6t)
theorem qdo (its : List Value) (n j : Nat) (u : Value) : Obj.mapSeq (·.setIfInBounds j u) { cls := .type "list",data := .seq its.toArray n } = { cls := .type "list",data := .seq (its.set j u).toArray n } := by
  simp [Obj.mapSeq]
theorem Inv.lst {pins : List (Addr × Obj)} {σ : St} {H : Hp} {s : Shared} {p : Addr} {xs : List V} (I : Inv X pins σ H s) (h : H p = some (.lst xs)) :
    ∃ (its : List Value) (n : Nat),Vals xs its /\ s.heap.get? p = some { cls := .type "list",data := .seq its.toArray n } /\ xs.length <= sizeLine := by
  obtain ⟨z,its,n,r,e⟩ := I.hok p _ h
  exact ⟨its,n,r,e,z⟩
theorem Inv.lstUpd {pins : List (Addr × Obj)} {σ : St} {H : Hp} {s : Shared} {p : Addr} {xs ys : List V} {its its' : List Value} {n n' : Nat} {f : Obj -> Obj} (I : Inv X pins σ H s) (h : H p = some (.lst xs))
    (ho : s.heap.get? p = some { cls := .type "list",data := .seq its.toArray n }) (hf : f { cls := .type "list",data := .seq its.toArray n } = { cls := .type "list",data := .seq its'.toArray n' }) (r : Vals ys its') (hz : ys.length <= sizeLine) (t : Nat) :
    Inv X pins σ (upd H p (.lst ys)) { s with heap := s.heap.update p f,toks := t } := by
  have e : (s.heap.update p f).get? p = some { cls := .type "list",data := .seq its'.toArray n' } := by
    rw [Heap.get?_update_self f ho (by rw [hf] <;> rfl),hf]
  refine I.write (x := p) (e := p) (by rw [h]; trivial) (.inl rfl) (fun b u hb q => (Heap.get?_update_other _ _ (Ne.symm hb)).trans q) ⟨_,e⟩ ?_
  exact ⟨hz,its',n',r,e⟩
def rSetL : V -> V -> V -> Hp -> (Hp -> Prop) -> Prop := fun o i v H Q => ∃ p xs k j,o = .ref p /\ i = .int k /\ H p = some (.lst xs) /\ ixN xs.length k = some j /\ Q (upd H p (.lst (xs.set j v)))
theorem set_list : PSet X rSetL := by
  intro pins s σ H o i v ov iv u Q I ro ri rv h
  obtain ⟨p,xs,k,j,rfl,rfl,hp,hj,q⟩ := h
  cases ro
  obtain ⟨t,rfl⟩ := ri
  obtain ⟨its,n,r,ho,hz⟩ := I.lst hp
  obtain ⟨h1,h2,h3,h4⟩ := qd0 hj
  have hl := r.length
  have hn := q60
  have I' : Inv X pins σ (upd H p (.lst (xs.set j v))) { s with heap := s.heap.update p (Obj.mapSeq (·.setIfInBounds j u)) } :=
    I.lstUpd hp ho (qdo its n j u) (r.set rv j) (by rw [List.length_set]; exact hz) s.toks
  by_cases h0 : 0 <= k
  . have hk : k.toNat = j := by
      rw [seqIndex_of h0 h4] at h1
      exact Option.some.inj h1
    exact PySem.W.ki_setAt ho h0 (by omega) (by rw [List.size_toArray, <- hl]; exact h4) (by rw [hk]; exact ⟨_,I',q⟩)
  . have hk : (k + (its.toArray.size : Int)).toNat = j := by
      rw [seqIndex_neg (by omega) h3] at h1
      rw [List.size_toArray, <- hl]
      exact Option.some.inj h1
    exact PySem.W.ki_setBack ho (by omega) (by rw [List.size_toArray, <- hl]; exact h3) (by omega) (by rw [hk]; exact ⟨_,I',q⟩)
theorem qah : q33 X (.builtin "len") (fun xs H Q => ∃ p ys,xs = [.ref p] /\ (SqL X.K H p ys \/ SqT X.K H p ys) /\ Q (.int ys.length) H) := by
  intro pins s σ H xs us Q I r h
  obtain ⟨p,ys,rfl,hq,q⟩ := h
  obtain ⟨u,rfl,rx⟩ := vals1 r
  cases rx
  have hn := q60
  rcases hq with hq | hq
  . obtain ⟨its,r',pl,hz⟩ := I.list hq
    have hlen := r'.length
    exact Calls.call_len_list pl.isList (by simp only [List.size_toArray] <;> omega) ⟨.int ys.length,H,I.tok _,⟨s.toks + 1,by rw [List.size_toArray,hlen]⟩,q⟩
  . obtain ⟨its,r',pl,hz⟩ := I.tuple hq
    have hlen := r'.length
    exact len_tuple pl (by simp only [List.size_toArray] <;> omega) ⟨.int ys.length,H,I.tok _,⟨s.toks + 1,by rw [List.size_toArray,hlen]⟩,q⟩
theorem qbe : q33 X (.builtin "len") (fun xs H Q => ∃ z,xs = [.str z] /\ z.length <= sizeLine /\ Q (.int z.length) H) := by
  intro pins s σ H xs us Q I r h
  obtain ⟨z,rfl,hz,q⟩ := h
  obtain ⟨u,rfl,t,rfl⟩ := vals1 r
  have hn := q60
  exact len_str (by omega) ⟨.int z.length,H,I.tok _,⟨_,rfl⟩,q⟩
theorem q33.or {f : Value} {r r' : List V -> Hp -> VK -> Prop} (h : q33 X f r) (h' : q33 X f r') : q33 X f (fun xs H Q => r xs H Q \/ r' xs H Q) := by
  intro pins s σ H xs us Q I rs q
  rcases q with q | q
  . exact h pins s σ H xs us Q I rs q
  . exact h' pins s σ H xs us Q I rs q
theorem qbi : q33 X (.type "list") (fun xs H Q => ∃ p ys,xs = [.ref p] /\ (SqL X.K H p ys \/ SqT X.K H p ys) /\ ∀ l,H l = none -> Q (.ref l) (upd H l (.lst ys))) := by
  intro pins s σ H xs us Q I r h
  obtain ⟨p,ys,rfl,hq,q⟩ := h
  obtain ⟨u,rfl,rx⟩ := vals1 r
  cases rx
  have fin : ∀ (its : List Value),Vals ys its -> ys.length <= sizeLine -> ∀ (h' : Heap) (c' : Nat),(∀ b o',s.heap.get? b = some o' -> h'.get? b = some o') ->
      h'.get? s.heap.objs.size = some { cls := .type "list",dict := none,data := .seq its.toArray c',slots := #[] } -> EP X pins σ Q (.ref s.heap.objs.size) { s with heap := h' } := fun its r' hz h' c' kp e =>
    ⟨.ref s.heap.objs.size,_,I.laid (t' := s.toks) kp (Nat.le_refl _) (show q2h X.prog X.w _ h' _ (.lst ys) from ⟨hz,its,c',r',e⟩),rfl,q _ (I.hok.fresh (Nat.le_refl _))⟩
  rcases hq with hq | hq
  . obtain ⟨its,r',pl,hz⟩ := I.list hq
    have hlen := r'.length
    obtain ⟨o,ho,hc,n,hd⟩ := pl.isList
    exact call_list_seq p (.inl rfl) ho hc hd (fun h' c' kp e => fin its r' hz h' c' kp e) (by simp only [List.size_toArray] <;> omega)
  . obtain ⟨its,r',pl,hz⟩ := I.tuple hq
    have hlen := r'.length
    obtain ⟨o,ho,hc,n,hd⟩ := pl
    exact call_list_seq p (.inr rfl) ho hc hd (fun h' c' kp e => fin its r' hz h' c' kp e) (by simp only [List.size_toArray] <;> omega)
def tyV (K : PySem.W.Frag) (T : String) (x : V) (H : Hp) : Prop := match x with
  | .str _ => T = "str"
  | .int _ => T = "int"
  | .ref p => (T = "list" /\ ∃ xs,SqL K H p xs) \/ (T = "tuple" /\ ∃ o,K.lookup p = some o /\ o.cls = .type "tuple" /\ o.dict = none) \/
      (T = "dict" /\ ((∃ kvs,H p = some (.dK kvs)) \/ ∃ kvs,H p = some (.dT kvs))) \/ (T = "set" /\ ∃ S n,H p = some (.set S n))
  | _ => False
theorem tyV_is {pins : List (Addr × Obj)} {σ : St} {H : Hp} {s : Shared} {T : String} {x : V} {v : Value} (I : Inv X pins σ H s) (r : RelV x v) (ty : tyV X.K T x H) :
    s.TypeIs v T /\ ∀ a,v = .ref a -> ∃ ob,s.heap.get? a = some ob /\ ob.dict = none := by
  cases x with
  | str z =>
    obtain ⟨t,rfl⟩ := r
    cases (show T = "str" from ty)
    exact ⟨typeIs_str s z t,fun _ e => nomatch e⟩
  | int i =>
    obtain ⟨t,rfl⟩ := r
    cases (show T = "int" from ty)
    exact ⟨typeIs_int s i t,fun _ e => nomatch e⟩
  | ref p =>
    cases r
    rcases ty with ⟨rfl,xs,hq⟩ | ⟨rfl,o,hk,hc,hd⟩ | ⟨rfl,hk⟩ | ⟨rfl,S,n,hk⟩
    . obtain ⟨its,_,pl,_⟩ := I.list hq
      refine ⟨pl.isList.typeIs,fun a e => ?_⟩
      cases e
      obtain ⟨o,n,e,c,hd,_⟩ := pl
      exact ⟨o,e,hd⟩
    . refine ⟨⟨o,I.kIn p o hk,hc⟩,fun a e => ?_⟩
      cases e
      exact ⟨o,I.kIn _ o hk,hd⟩
    . have z : ∃ o,s.heap.get? p = some o /\ o.ExactDict := by
        rcases hk with ⟨kvs,hk⟩ | ⟨kvs,hk⟩
        . obtain ⟨_,_,_,_,o,_,_,e,ex,_⟩ := I.hok p _ hk
          exact ⟨o,e,ex⟩
        . obtain ⟨_,_,_,_,o,_,_,e,ex,_⟩ := I.hok p _ hk
          exact ⟨o,e,ex⟩
      obtain ⟨o,e,ex⟩ := z
      refine ⟨⟨o,e,ex.1⟩,fun a e2 => ?_⟩
      cases e2
      exact ⟨o,e,ex.2.1⟩
    . obtain ⟨o,_,_,_,e,ex,_⟩ := I.hok p _ hk
      refine ⟨⟨o,e,ex.1⟩,fun a e2 => ?_⟩
      cases e2
      exact ⟨o,e,ex.2.1⟩
  | _ => exact False.elim ty
def tBM (K : PySem.W.Frag) (T : String) (r : V -> List V -> Hp -> VK -> Prop) (to : TE) (t : TA) : TE := fun σ H Q => to σ H fun x H1 => tyV K T x H1 /\ t σ H1 fun xs H2 => r x xs H2 Q
variable {o e : Expr} {es : List Expr} {to : TE} {t : TA} {name : Str} {apos cpos : Pos} {T id : String} {r : V -> List V -> Hp -> VK -> Prop}
theorem qdz (pa : PlainAttrs T) (slot : Slot T name id) (hty : typeOf (.builtin id) = pure (.type "method_descriptor")) (hm : MtR X id r) (ho : PE X o to) (ha : PA X (e :: es) t)
    (hbase : attributeBase o name X.env (eval o X.env) = eval o X.env := by rfl)
    (hfew : ((backTo cpos (starEach (e :: es) X.env)).all (fun x => !x.1) && (backToKw cpos (keywordEach [] X.env)).all (fun x => x.1.isSome)
      && decide ((e :: es).length + ([] : List Keyword).length + (if ([] : List Keyword).isEmpty then 0 else 1) < 30)) = true := by rfl)
    (hline : (apos.endLine == cpos.line) = true := by rfl) (hs : starEach (e :: es) X.env = (false,eval e X.env) :: starEach es X.env := by rfl) (hplain : (backTo cpos (starEach es X.env)).any (·.1) = false := by rfl) :
    PE X (.Call (.Attribute o name apos) (e :: es) [] cpos) (tBM X.K T r to t) := by
  intro pins s σ H Q I h
  refine wpAny_Call_method_late hbase hfew hline rfl (thn (ho pins s σ H _ I h) fun v s1 ⟨x,H1,I1,r1,ty,q1⟩ => ?_)
  obtain ⟨h1,h2⟩ := tyV_is I1 r1 ty
  refine ⟨T,id,pa,slot,hty,h1,h2,?_⟩
  have hA := ha cpos pins s1 σ H1 _ I1 q1
  rw [hs] at hA ⊢
  refine Calls.callWith_builtin (by show (false || (backTo cpos (starEach es X.env)).any (·.1)) = false; rw [hplain] <;> rfl) (Calls.evalArgs_plain ?_)
  exact thn hA fun us s2 ⟨vs,H2,I2,r2,q2⟩ => hm pins s2 σ H2 x vs v us Q I2 r1 r2 q2
end
end L2
namespace L2
open PySem PySem.Spec PyProof.Rows
def MtM (X : Cx) (id : String) (r : V -> List V -> Hp -> VK -> Prop) : Prop :=
  ∀ (pins : List (Addr × Obj)) (s : Shared) (σ : St) (H : Hp) (x : V) (xs : List V) (v : Value) (us : List Value) (Q : VK),Inv X pins σ H s -> RelV x v -> Vals xs us -> r x xs H Q ->
    wpAny (model X.prog X.w) X.A (call (.builtin id) (v :: us)) (EP X pins σ Q) X.xe s
theorem Vals.one : ∀ {x : V} {us : List Value},Vals [x] us -> ∃ u,us = [u] /\ RelV x u
  | _,_, .cons r .nil => ⟨_,rfl,r⟩
theorem Vals.zero : ∀ {us : List Value},Vals [] us -> us = []
  | _, .nil => rfl
theorem Vals.dropLast {xs : List V} {us : List Value} (h : Vals xs us) : Vals xs.dropLast us.dropLast := by
  induction h with
  | nil => exact .nil
  | cons r t ih =>
    cases t with
    | nil => exact .nil
    | cons q t' => exact .cons r ih
theorem qdw {α : Type} (l : List α) : l.eraseIdx (l.length - 1) = l.dropLast := by
  induction l with
  | nil => rfl
  | cons a r ih =>
    cases r with
    | nil => rfl
    | cons b r =>
      have e : (a :: b :: r).length - 1 = ((b :: r).length - 1) + 1 := by
        have h1 : (a :: b :: r).length = r.length + 2 := rfl
        have h2 : (b :: r).length = r.length + 1 := rfl
        omega
      rw [e,List.eraseIdx_cons_succ,ih]
      all_goals rfl
section
variable {X : Cx} {pins : List (Addr × Obj)} {σ : St} {H : Hp} {s : Shared} {l b : Addr} {xs ys zs : List V}
theorem Inv.lset {its its' : List Value} {n : Nat} {f : Array Value -> Array Value} {t' : Nat} (I : Inv X pins σ H s) (hH : H l = some (.lst xs))
    (e : s.heap.get? l = some { cls := .type "list",data := .seq its.toArray n }) (hf : f its.toArray = its'.toArray) (hv : Vals ys its') (hz : ys.length <= sizeLine) :
    Inv X pins σ (upd H l (.lst ys)) { s with heap := s.heap.update l (Obj.mapSeq f),toks := t' } := by
  have q := PySem.IsL.update e f
  rw [hf] at q
  refine I.write (x := l) (e := l) (by rw [hH]; exact trivial) (.inl rfl) (fun b' u hb hu => (Heap.get?_update_other s.heap (Obj.mapSeq f) (Ne.symm hb)).trans hu) ⟨_,q⟩ ?_
  exact ⟨hz,its',_,hv,q⟩
theorem Inv.lnew {its : List Value} {t' : Nat} (I : Inv X pins σ H s) (hv : Vals ys its) (hz : ys.length <= sizeLine) :
    Inv X pins σ (upd H s.heap.objs.size (.lst ys)) { s with heap := s.heap.push { cls := .type "list",data := .seq its.toArray },toks := t' } :=
  I.laid (fun _ _ q => Heap.get?_push_of_some _ q) (Nat.le_refl _) ⟨hz,its,0,hv,Heap.get?_push_size _ rfl⟩
theorem Inv.fresh (I : Inv X pins σ H s) : H s.heap.objs.size = none := I.hok.fresh (Nat.le_refl _)
theorem Inv.lstM (I : Inv X pins σ H s) (hH : H l = some (.lst xs)) : xs.length <= sizeLine /\ ∃ (its : List Value) (n : Nat),Vals xs its /\ xs.length = its.length /\ s.heap.get? l = some { cls := .type "list",data := .seq its.toArray n } := by
  obtain ⟨z,its,n,r,e⟩ := I.hok l _ hH
  exact ⟨z,its,n,r,r.length,e⟩
end
section
variable {X : Cx}
def qcq : V -> List V -> Hp -> VK -> Prop := fun x vs H Q => ∃ l xs y,x = .ref l /\ vs = [y] /\ H l = some (.lst xs) /\ xs.length < sizeLine /\ Q .non (upd H l (.lst (xs ++ [y])))
theorem q4v : MtM X "list.append" qcq := by
  intro pins s σ H x vs v us Q I rx rv h
  obtain ⟨l,xs,y,rfl,rfl,hH,hz,q⟩ := h
  cases rx
  obtain ⟨u,rfl,ru⟩ := rv.one
  obtain ⟨z,its,n,r,hl,e⟩ := I.lstM hH
  refine call_meets F.slot_list_append ⟨_,e,rfl⟩ F.entry_list_append (F.args_list_append_2 _ _) (PySem.list_append l its.toArray n u (by rw [List.size_toArray]; omega)) ⟨e,?_⟩
  refine ⟨.non,_,I.lset (its' := its ++ [u]) hH e (by simp) (r.append (.cons ru .nil)) ?_,rfl,q⟩
  rw [List.length_append,List.length_singleton]
  omega
def rPop : V -> List V -> Hp -> VK -> Prop := fun x vs H Q => ∃ l xs y,x = .ref l /\ vs = [] /\ H l = some (.lst xs) /\ xs[xs.length - 1]? = some y /\ Q y (upd H l (.lst xs.dropLast))
theorem mt_pop : MtM X "list.pop" rPop := by
  intro pins s σ H x vs v us Q I rx rv h
  obtain ⟨l,xs,y,rfl,rfl,hH,hy,q⟩ := h
  cases rx
  have hus := rv.zero
  subst hus
  obtain ⟨z,its,n,r,hl,e⟩ := I.lstM hH
  obtain ⟨u,hu,ru⟩ := r.get hy
  have hy' : its.toArray[its.toArray.size - 1]? = some u := by
    show its.toArray[its.length - 1]? = some u
    rw [<- Array.getElem?_toList, <- hl]
    exact hu
  refine call_meets F.slot_list_pop ⟨_,e,rfl⟩ F.entry_list_pop (F.args_list_pop_1 _) (MeetsSeq.list_pop_last l its.toArray n u hy' (by rw [List.size_toArray]; omega)) ⟨e,?_⟩
  refine ⟨y,_,I.lset (its' := its.dropLast) hH e ?_ r.dropLast ?_,ru,q⟩
  . show its.toArray.eraseIdxIfInBounds (its.toArray.size - 1) = its.dropLast.toArray
    rw [List.size_toArray,List.eraseIdxIfInBounds_toArray,qdw]
  . rw [List.length_dropLast]
    omega
end
end L2
namespace Att
open PySem PySem.W PySem.Calls PyProof.Rows
theorem q8l {P : Params} {h : Heap} : ∀ (ns : List Int) (vs : List Value),WellAll P h vs (ns.map WData.int) -> IntsAre vs ns := by
  intro ns
  induction ns with
  | nil =>
    intro vs w
    rw [List.map_nil] at w
    cases w
    exact .nil
  | cons n ns ih =>
    intro vs w
    rw [List.map_cons] at w
    cases w with
    | cons a b =>
      cases a
      exact .cons _ _ (ih _ b)
theorem qf6 {l : OpenLaw} {n : Nat} (hn : l.most = some n) {P : Params} {h : Heap} {args : List WData} {vals : List Value}
    (hpre : l.row.toRowW.claim.pre args = true) (hwl : WellAll P h vals args) :
    ∃ a vs ns,vals = [Value.ref a] /\ args = [WData.list (ns.map WData.int)] /\ h.get? a = some { cls := .type "list",data := .seq vs.toArray } /\ IntsAre vs ns /\ ns.length <= n := by
  have hsh : WShape.hasAll [] args [.list .int] = true := (pre_splitW hpre).1
  have hc : l.pre.holds [] { args := args } = true := (pre_splitW hpre).2
  obtain ⟨d,r,rfl,h1,h2⟩ := hasAllW_cons hsh
  obtain rfl := hasAllW_nil h2
  obtain ⟨xs,rfl,h3⟩ := hasW_list h1
  obtain ⟨ns,rfl⟩ := items_int h3
  have hlen : ns.length <= n := by
    unfold OpenLaw.pre at hc
    have h4 : (WTm.not (.lt (.lit (.int (n : Int))) (.len (.arg 0)))).holds [] { args := [.list (ns.map .int)] } = true := by
      have h4 := (holds_andW hc).1
      rw [hn] at h4
      exact h4
    have h5 := condW_of h4 (w_not (w_lt w_lit (w_len_list (w_arg rfl))))
    rw [List.length_map] at h5
    refine Nat.le_of_not_lt fun q => ?_
    have q' : (n : Int) < ((ns.length : Nat) : Int) := by omega
    first
      | (rw [decide_eq_true q'] at h5; exact absurd h5 (by decide))
      | (simp at h5; omega)
  cases hwl with
  | cons w1 w2 =>
    cases w2
    cases w1 with
    | list ho hall => exact ⟨_,_,ns,rfl,rfl,ho,q8l ns _ hall,hlen⟩
theorem qes (l : OpenLaw) (args : List WData) : l.row.toRowW.claim.post args (.bool true) args = true :=
  postW_of (r := l.row.toRowW) (X := (true == true))
    (show WShape.has [] (.bool true) .bool = true by first | rfl | decide | simp [WShape.has,WShape.arms,WShape.armsAll])
    (show (WTm.eq .res (.lit (.bool true))).value [] { args := args,res := some (.bool true),after := args } = some (.bool (true == true)) from w_eq_bool (w_res rfl) w_lit) rfl
theorem qc7 {l : OpenLaw} {n : Nat} {q : Program} {loose : List Str} {XP : (Str -> Option Value) -> Heap -> Prop} {YP : World -> Heap -> Prop} {d : DefRec}
    (hn : l.most = some n) (hdf : d.params.defaults = [])
    (call : ∀ (w : World) (s₀ s₁ : Shared) (mg mb : Str -> Option Value) (fa : Addr) (o : Obj) (pm cd doc : Value) (a : Addr) (vs : List Value) (ns : List Int),
      Ground q loose [] XP w s₀ mg mb s₁.heap -> YP w s₁.heap ->
      s₁.heap.get? fa = some o -> o.data = .func (docDef d.name d.params d.body d.scope pm cd doc) -> s₁.heap.CodeRec cd d.name -> mg d.name = some (.ref fa) ->
      s₁.heap.get? a = some { cls := .type "list",data := .seq vs.toArray } -> IntsAre vs ns -> ns.length <= n -> s₁.gens = #[] ->
      codeAny (model l.prog w) callerA (.call (.ref fa) ⟨[.ref a],[]⟩) (fun r s' => r = .ok (.ret (.bool true)) /\ OldK s₁.heap s'.heap /\ s'.os = s₁.os /\ AllBare s'.gens) s₁) :
    WalkO q loose XP YP l.row.toRowW d [] (fun f vs => PySem.call f vs) := by
  intro w s₀ s₁ mg mb G Y fa o pm cd doc dV kV ho hd hcd hD hmg hg args vals as hpre hlay hrd hwl hlo
  obtain rfl : dV = .none := Dflts.none hD hdf
  obtain rfl : kV = .none := Dflts.noKw hD
  obtain ⟨a,vs,ns,rfl,rfl,hobj,hints,hlen⟩ := qf6 hn hpre hwl
  refine enter_call (codeAny_mono (call w s₀ s₁ mg mb fa o pm cd doc a vs ns G Y ho (fd_plain hd) hcd hmg hobj hints hlen hg) fun r s' hq => ?_)
  obtain ⟨rfl,h2,h3,h4⟩ := hq
  exact ⟨.inl ⟨.bool true, .bool true,[],rfl,fun _ => rfl, .bool true,qes l _,fun _ => ⟨List.Pairwise.nil,fun _ hm => (nomatch hm)⟩⟩,h2,h3,h4⟩
end Att
namespace L2
open PySem PySem.Spec PyProof.Rows
theorem q9k : ∀ {vs : List Value} {ns : List Int},IntsAre vs ns -> Vals (ns.map V.int) vs
  | _,_, .nil => .nil
  | _,_, .cons n t h => .cons ⟨t,rfl⟩ (q9k h)
def Only (H : Hp) : Prop := ∀ b,H b = none \/ ∃ o xs,H b = some (.frz o (.lst xs))
theorem qge {P : Program} {w : World} {K : PySem.W.Frag} {mg mb : Str -> Option Value} {CX : CXT} {k : Nat} {fa a : Addr} {fd : FuncData} {x : Str} {sp : Sp} {s₁ : Shared} {vs : List Value} {ns : List Int}
    (KX : K.In s₁.heap) (hns : s₁.heap.Ns mainGlobals mg) (hb : s₁.heap.Ns builtinsNs mb) (hbb : ∀ x : Str,x ≠ "__name__" -> mb x = bootBuiltins x) (hlim : s₁.heap.NoLimit) (hg : s₁.gens = #[])
    (ha : s₁.heap.get? a = some { cls := .type "list",data := .seq vs.toArray }) (hi : IntsAre vs ns) (hl : ns.length <= sizeLine) (hr : Room k callerA)
    (F : ∀ base : Heap,K.In base -> base.Ns mainGlobals mg -> FnOk P w K mg base CX k fa fd [x] sp) (hbind : ∀ (s : Shared) (u : Value),BindsTo s fd ⟨[u],[]⟩ [(x,u)])
    (hsp : ∀ H : Hp,Only H -> SqL K H a (ns.map V.int) -> sp [.ref a] H (fun v _ => v = .bl true) fun _ _ _ => False)
    (hCX : ∀ H e s',CX [] H s₁ (fun _ _ _ => False) e s' -> False) :
    codeAny (model P w) callerA (.call (.ref fa) ⟨[.ref a],[]⟩) (fun r s' => r = .ok (.ret (.bool true)) /\ OldK s₁.heap s'.heap /\ s'.os = s₁.os /\ AllBare s'.gens) s₁ := by
  have rv := q9k hi
  have lenV := hi.length
  have core : ∀ H : Hp,Only H -> SqL K H a (ns.map V.int) -> HOk P w H s₁.heap -> (∀ b,H b ≠ none -> b = a) -> (H a ≠ none -> K.lookup a = none) ->
      codeAny (model P w) callerA (.call (.ref fa) ⟨[.ref a],[]⟩) (fun r s' => r = .ok (.ret (.bool true)) /\ OldK s₁.heap s'.heap /\ s'.os = s₁.os /\ AllBare s'.gens) s₁ := by
    intro H hO hS hok hA hK
    have base_of : ∀ {b : Addr} {o : Obj},s₁.heap.get? b = some o -> H b = none -> (hidT s₁.heap H).get? b = some o := fun e n => qga e n
    have noA : ∀ {b : Addr} {o : Obj} {es : Array DictEntry} {ep : Nat},s₁.heap.get? b = some o -> o.data = .dict es ep -> H b = none := fun {b o es ep} e d => by
      cases q : H b with
      | none => rfl
      | some u =>
        have e' : b = a := hA b (by rw [q]; simp)
        subst e'
        rw [ha] at e; cases e
        have d' : Data.seq vs.toArray _ = Data.dict es ep := d
        cases d'
    have nsK : ∀ {b : Addr} {m : Str -> Option Value},s₁.heap.Ns b m -> (hidT s₁.heap H).Ns b m := fun {b m} ⟨o,es,ep,e,d,r⟩ => ⟨o,es,ep,base_of e (noA e d),d,r⟩
    have hKb : K.In (hidT s₁.heap H) := fun b o e => base_of (KX b o e) (by
      cases q : H b with
      | none => rfl
      | some u =>
        have e' : b = a := hA b (by rw [q]; simp)
        subst e'
        rw [hK (by rw [q]; simp)] at e; cases e)
    have hM : Mod K mg (hidT s₁.heap H) := ⟨hKb,nsK hns,⟨mb,nsK hb,hbb⟩,let ⟨mc,h1,h2⟩ := hlim; ⟨mc,nsK h1,h2⟩⟩
    have e0 : Env0 P w K mg (hidT s₁.heap H) callerA [] s₁ H := ⟨rfl,hM,fun b o e => qir e,Nat.le_of_eq (qfy _ _),trivial,fun b hb => absurd (show b ∈ ([] : List Addr) from hb) (by simp),hok, .of_eq hg⟩
    refine codeAny_mono ((F _ hKb (nsK hns)).run callerA [] s₁ H ⟨[.ref a],[]⟩ [.ref a] [.ref a] _ _ hr e0 (hbind s₁ (.ref a)) (.cons rfl .nil) (hsp H hO hS)) fun r s' h => ?_
    cases r with
    | error e => exact (hCX H e s' h).elim
    | ok fl =>
      cases fl with
      | next => exact False.elim h
      | brk => exact False.elim h
      | cont => exact False.elim h
      | ret u =>
        obtain ⟨v,H',os,bare,un,hok',r',q⟩ := h
        have q' : v = .bl true := q
        subst q'
        obtain rfl : u = Value.bool true := r'
        refine ⟨rfl,OldK.of_keep fun b o e => ?_,os,bare⟩
        cases q : H b with
        | none => exact un.keep b o e q (by intro z; exact absurd (show b ∈ ([] : List Addr) from z) (by simp)) (by simp)
        | some u =>
          rcases hO b with z | ⟨ob,xs,z⟩
          . rw [q] at z; cases z
          . have z2 := un.frzs b ob _ z
            obtain ⟨e1,_⟩ := hok b _ z
            obtain ⟨e2,_⟩ := hok' b _ z2
            rw [e] at e1; cases e1
            exact e2
  cases hk : K.lookup a with
  | some o =>
    have e := KX a o hk
    rw [ha] at e
    cases e
    refine core (fun _ => none) (fun _ => .inl rfl) (.inr ⟨_,vs.toArray,_,hk,rfl,rfl,rfl,by rw [List.size_toArray,lenV]; exact hl,by simpa using rv⟩) (fun b u z => by have z' : (none : Option HO) = some u := z; cases z') (fun b z => absurd rfl z) fun z => absurd rfl z
  | none =>
    refine core (fun b => if b = a then some (.frz { cls := .type "list",data := .seq vs.toArray } (.lst (ns.map V.int))) else none) (fun b => ?_) (.inl (.inr ⟨{ cls := .type "list",data := .seq vs.toArray },if_pos rfl⟩)) (fun b u z => ?_) (fun b z => ?_) fun _ => hk
    . by_cases hb : b = a
      . exact .inr ⟨_,_,if_pos hb⟩
      . exact .inl (if_neg hb)
    . by_cases hb : b = a
      . have z' := (if_pos hb).symm.trans z
        cases z'
        subst hb
        exact ⟨ha,by rw [List.length_map]; exact hl,vs,_,rv,ha⟩
      . have z' := (if_neg hb).symm.trans z
        cases z'
    . by_cases hb : b = a
      . exact hb
      . exact absurd (if_neg hb) z
end L2
namespace L2
open PySem PySem.Spec PyProof.Rows
theorem qi6 {l : PySem.W.OpenLaw} {n k : Nat} {q : Program} {loose : List Str} {XP : (Str -> Option Value) -> Heap -> Prop} {YP : World -> Heap -> Prop} {d : DefRec} {K : Params -> PySem.W.Frag} {CX : World -> CXT} {sp : World -> Sp} {x : Str}
    (hn : l.most = some n) (hn2 : n <= sizeLine) (hdf : d.params.defaults = []) (hr : Room k callerA)
    (hY : ∀ (w : World) (h : Heap),YP w h -> (K w.params).In h)
    (F : ∀ (w : World) (mg : Str -> Option Value) (fa : Addr) (h : Heap),(K w.params).In h -> h.Ns mainGlobals mg -> mg d.name = some (.ref fa) ->
      ∃ fd : FuncData,(∀ (s : Shared) (u : Value),BindsTo s fd ⟨[u],[]⟩ [(x,u)]) /\
        ∀ base : Heap,(K w.params).In base -> base.Ns mainGlobals mg -> FnOk l.prog w (K w.params) mg base (CX w) k fa fd [x] (sp w))
    (hsp : ∀ (w : World) (H : Hp) (a : Addr) (ns : List Int),ns.length <= n -> Only H -> SqL (K w.params) H a (ns.map V.int) -> sp w [.ref a] H (fun v _ => v = .bl true) fun _ _ _ => False)
    (hCX : ∀ (w : World) (H : Hp) (s : Shared) (e : Value) (s' : Shared),CX w [] H s (fun _ _ _ => False) e s' -> False) :
    PySem.W.WalkO q loose XP YP l.row.toRowW d [] (fun f vs => PySem.call f vs) := by
  refine Att.qc7 hn hdf fun w s₀ s₁ mg mb fa o pm cd doc a vs ns G Y ho hd hcd hmg hobj hints hlen hg => ?_
  have KX := hY w _ Y
  obtain ⟨fd,hb,hF⟩ := F w mg fa _ KX G.T.g hmg
  exact qge KX G.T.g G.T.b G.T.builtins G.T.nolimit hg hobj hints (Nat.le_trans hlen hn2) hr hF hb (fun H hO hS => hsp w H a ns hlen hO hS) fun H e s' => hCX w H s₁ e s'
end L2
namespace L2
open PySem PySem.Spec PyProof.Rows
def inClass (s : Stmt) (j : Nat) : Stmt := match s with
  | .ClassDef _ _ _ body _ _ _ _ _ _ _ => body.getD j (.Pass ⟨0,0,0,0⟩)
  | _ => .Pass ⟨0,0,0,0⟩
def q1o (s : Stmt) : Arguments := match s with
  | .FunctionDef _ a _ _ _ _ _ _ _ _ => a
  | _ => { posonlyargs := [],args := [],vararg := none,kwonlyargs := [],kw_defaults := [],kwarg := none,defaults := [] }
def q1k (s : Stmt) : List Stmt := match s with
  | .FunctionDef _ _ b _ _ _ _ _ _ _ => b
  | _ => []
def q18 (s : Stmt) : Scope := match s with
  | .FunctionDef _ _ _ _ _ _ sc _ _ _ => sc
  | _ => { kind := .function,names := [],isGenerator := false,isCoroutine := false }
abbrev CX0 : CXT := fun _ _ _ _ _ _ => False
abbrev E0 : XK := fun _ _ _ => False
theorem pass0 {X : Cx} : Passes CX0 X E0 := fun _ _ _ _ _ _ _ h => h.elim
structure Fun (K : PySem.W.Frag) (x qual : Str) (st : Stmt) (f : Addr) (fd : FuncData) : Prop where
  ex : ∃ (oc : Value) (od : Option Addr) (kV doc pm : Value) (an : Option Addr) (cdv ct : Value) (osl : Array (Option Value)),
    fd = PySem.W.fnOf x qual (q1o st) (q1k st) (q18 st) .none kV doc pm an cdv ct /\ K.lookup f = some ⟨oc,od, .func fd,osl⟩ /\ PySem.W.codeIn K cdv qual = true
  kp : PySem.W.keepIn K (.ref f) = true
section
variable {P : Program} {w : World} {K : PySem.W.Frag} {mg : Str -> Option Value} {base : Heap}
theorem Fun.ok {x qual : Str} {st : Stmt} {f : Addr} {fd : FuncData} {N ps : List Str} {k : Nat} {sp : Sp} (F : Fun K x qual st f fd) (S : q1m N ps (q18 st)) (len : ∀ vs H Q E,sp vs H Q E -> vs.length = ps.length)
    (hbody : ∀ (cdv : Value) (A : Around) (outer : List Env) (s : Shared) (H : Hp) (vs : List V) (Q : VK) (E : XK),Room k (A.deeper (envOfC qual (q18 st) s.heap.objs.size f cdv)) -> sp vs H Q E ->
      ∃ t,PSs (cxOf CX0 P w K mg base N qual (q18 st) f cdv A outer s H E).nox (q1k st) t /\ t { nx := fun _ H' => Q .non H',rt := Q } (start N vs) H) : FnOk P w K mg base CX0 (k + 1) f fd ps sp := by
  obtain ⟨oc,od,kV,doc,pm,an,cdv,ct,osl,rfl,lk,hcd⟩ := F.ex
  refine fn_of lk hcd S len fun A outer s H vs Q E hr hsp => ?_
  obtain ⟨t,h,q⟩ := hbody cdv A outer s H vs Q E hr hsp
  exact ⟨t,h.nox,q⟩
theorem Fun.binds {x qual : Str} {st : Stmt} {f : Addr} {fd : FuncData} {ps : List Str} (F : Fun K x qual st f fd)
    (h : ∀ (kV doc pm : Value) (an : Option Addr) (cdv ct : Value) (us : List Value),us.length = ps.length -> bindArgs (PySem.W.fnOf x qual (q1o st) (q1k st) (q18 st) .none kV doc pm an cdv ct) ⟨us,[]⟩ = pure (ps.zip us)) : Binds K fd ps [] := by
  obtain ⟨oc,od,kV,doc,pm,an,cdv,ct,osl,rfl,lk,hcd⟩ := F.ex
  exact .all (h kV doc pm an cdv ct)
theorem q27 {x qual : Str} {st : Stmt} {f : Addr} {oc : Value} {od an : Option Addr} {osl : Array (Option Value)} {kV doc pm cdv ct : Value} (l : K.lookup f = some ⟨oc,od, .func (PySem.W.fnOf x qual (q1o st) (q1k st) (q18 st) .none kV doc pm an cdv ct),osl⟩)
    (c : PySem.W.codeIn K cdv qual = true) (k : PySem.W.keepIn K (.ref f) = true) : Fun K x qual st f (PySem.W.fnOf x qual (q1o st) (q1k st) (q18 st) .none kV doc pm an cdv ct) := ⟨⟨oc,od,kV,doc,pm,an,cdv,ct,osl,rfl,l,c⟩,k⟩
end
theorem q2n {A : Around} {k : Nat} (hr : Room k A) : A.units + 1 < cLine := Nat.lt_of_le_of_lt (Nat.add_le_add_left (by decide : 1 <= 64) _) hr.units
section
variable {X : Cx}
theorem pv (i : Nat) {x : Str} {pos : Pos} (hN : X.N[i]? = some x := by rfl) (hv : Vis X.env.scope x := by first | exact Or.inl rfl | exact Or.inr (Or.inl rfl) | exact Or.inr (Or.inr rfl)) (hd : (x == ("__debug__" : Str)) = false := by decide)
    (hcd : (x == ("__classdict__" : Str)) = false := by decide) : PE X (.Name x pos) (tVar i) := pe_var hN hv hd hcd
end
theorem iteF {A B : Prop} (h : B) : if false = true then A else B := by
  rw [if_neg Bool.false_ne_true]
  exact h
theorem iteT {A B : Prop} (h : A) : if true = true then A else B := by
  rw [if_pos rfl]
  exact h
def Same (H H' : Hp) : Prop := ∀ b o,H b = some o -> H' b = some o
end L2
namespace L2
open PySem PySem.Spec PyProof.Rows
section
variable {κ : Type} [DecidableEq κ]
def valV (kvs : List (κ × V)) (k : κ) : Option V := (kvs.find? fun kv => decide (kv.1 = k)).map (·.2)
def putK (kvs : List (κ × V)) (k : κ) (v : V) : List (κ × V) :=
  if (kvs.any fun kv => decide (kv.1 = k)) = true then kvs.map (fun kv => if kv.1 = k then (kv.1,v) else kv) else kvs ++ [(k,v)]
theorem q6e {p : κ × V} {r : List (κ × V)} {k : κ} (e : p.1 = k) : valV (p :: r) k = some p.2 := by simp [valV,List.find?_cons,e]
theorem q6g {p : κ × V} {r : List (κ × V)} {k : κ} (e : ¬ p.1 = k) : valV (p :: r) k = valV r k := by simp [valV,List.find?_cons,e]
theorem qb3 (k : κ) : ∀ kvs : List (κ × V),(kvs.any fun kv => decide (kv.1 = k)) = (valV kvs k).isSome
  | [] => rfl
  | p :: r => by
    rw [List.any_cons]
    by_cases e : p.1 = k
    . simp only [q6e e,decide_eq_true e,Bool.true_or,Option.isSome_some]
    . rw [q6g e,decide_eq_false e,Bool.false_or]; exact qb3 k r
theorem q7m (kvs : List (κ × V)) (k : κ) (v : V) : (putK kvs k v).length <= kvs.length + 1 := by
  unfold putK
  split
  . rw [List.length_map]; omega
  . rw [List.length_append,List.length_cons,List.length_nil]; omega
theorem RelO.q6z {o : Option V} {u : Option Value} (r : RelO o u) : o.isSome = u.isSome := by
  cases o with
  | none => cases u with
    | none => rfl
    | some _ => exact (show False from r).elim
  | some _ => cases u with
    | none => exact (show False from r).elim
    | some _ => rfl
theorem RelO.getD {o : Option V} {u : Option Value} {d : V} {d' : Value} (r : RelO o u) (rd : RelV d d') : RelV (o.getD d) (u.getD d') := by
  cases o with
  | none => cases u with
    | none => exact rd
    | some _ => exact (show False from r).elim
  | some _ => cases u with
    | none => exact (show False from r).elim
    | some _ => exact r
theorem KV.val {kvs : List (κ × V)} {vs : List (κ × Value)} (r : KV kvs vs) (k : κ) : RelO (valV kvs k) (valueAt vs k) := by
  unfold KV at r
  induction r with
  | nil => exact True.intro
  | @cons p q ps qs h t ih =>
    obtain ⟨h1,h2⟩ := h
    by_cases e : p.1 = k
    . have e' : q.1 = k := h1.symm.trans e
      have b : valueAt (q :: qs) k = some q.2 := by simp [valueAt,List.find?_cons,e']
      rw [q6e e,b]; exact h2
    . have e' : ¬ q.1 = k := fun z => e (h1.trans z)
      have b : valueAt (q :: qs) k = valueAt qs k := by simp [valueAt,List.find?_cons,e']
      rw [q6g e,b]; exact ih
theorem KV.any {kvs : List (κ × V)} {vs : List (κ × Value)} (r : KV kvs vs) (k : κ) : (kvs.any fun kv => decide (kv.1 = k)) = vs.any fun kv => decide (kv.1 = k) := by
  unfold KV at r
  induction r with
  | nil => rfl
  | cons h t ih => rw [List.any_cons,List.any_cons,ih,h.1]
theorem KV.repl {kvs : List (κ × V)} {vs : List (κ × Value)} (r : KV kvs vs) (k : κ) {y : V} {u : Value} (ry : RelV y u) :
    KV (kvs.map fun kv => if kv.1 = k then (kv.1,y) else kv) (vs.map fun kv => if kv.1 = k then (kv.1,u) else kv) := by
  unfold KV at r ⊢
  induction r with
  | nil => exact .nil
  | @cons p q ps qs h t ih =>
    rw [List.map_cons,List.map_cons]
    refine .cons ?_ ih
    obtain ⟨h1,h2⟩ := h
    by_cases e : p.1 = k
    . rw [if_pos e,if_pos (h1.symm.trans e)]; exact ⟨h1,ry⟩
    . rw [if_neg e,if_neg (fun z => e (h1.trans z))]; exact ⟨h1,h2⟩
theorem KV.put {kvs : List (κ × V)} {vs : List (κ × Value)} (r : KV kvs vs) (k : κ) {y : V} {u : Value} (ry : RelV y u) : KV (putK kvs k y) (stored vs k u) := by
  unfold putK stored
  rw [r.any k]
  by_cases e : (vs.any fun kv => decide (kv.1 = k)) = true
  . rw [if_pos e,if_pos e]; exact r.repl k ry
  . rw [if_neg e,if_neg e]; exact Paired.snoc r ⟨rfl,ry⟩
theorem KV.length {kvs : List (κ × V)} {vs : List (κ × Value)} (r : KV kvs vs) : kvs.length = vs.length := Paired.length r
end
theorem qa7 {P : Program} {w : World} {k : Key} {u : Value} (r : RelV (kV k) u) : (q2y P w).is k u = true := by
  cases k with
  | inl i => obtain ⟨t,e⟩ := (show ∃ t,u = Value.int i t from r); subst e; exact qc0 P w i t
  | inr x => obtain ⟨t,e⟩ := (show ∃ t,u = Value.str x t from r); subst e; exact qc6 P w x t
theorem q9p {P : Program} {w : World} : ∀ {ks : List Key} {us : List Value},Vals (ks.map kV) us -> ItemsAre (q2y P w) ks us
  | [],_,r => by rw [List.map_nil] at r; cases r; exact .nil
  | k :: ks,_,r => by
    rw [List.map_cons] at r
    cases r with
    | cons h t => exact .cons (qa7 h) (q9p t)
abbrev KT (H : Hp) : List (List Key × V) -> List (List Key × Addr × Value) -> Prop := Paired fun p q => p.1 = q.1 /\ H q.2.1 = some (.tup (p.1.map kV)) /\ RelV p.2 q.2.2
theorem KT.val {H : Hp} {kvs : List (List Key × V)} {xs : List (List Key × Addr × Value)} (r : KT H kvs xs) (k : List Key) : RelO (valV kvs k) ((atKey xs k).map (·.2)) := by
  induction r with
  | nil => exact True.intro
  | @cons p q ps qs h t ih =>
    obtain ⟨h1,_,h2⟩ := h
    by_cases e : p.1 = k
    . have e' : q.1 = k := h1.symm.trans e
      have b : atKey (q :: qs) k = some q.2 := by simp [atKey,List.find?_cons,e']
      rw [q6e e,b]; exact h2
    . have e' : ¬ q.1 = k := fun z => e (h1.trans z)
      have b : atKey (q :: qs) k = atKey qs k := by simp [atKey,List.find?_cons,e']
      rw [q6g e,b]; exact ih
theorem KT.repl {H : Hp} {kvs : List (List Key × V)} {xs : List (List Key × Addr × Value)} (r : KT H kvs xs) (k : List Key) {y : V} {u : Value} (ry : RelV y u) :
    KT H (kvs.map fun kv => if kv.1 = k then (kv.1,y) else kv) (xs.map (putAt k u)) := by
  induction r with
  | nil => exact .nil
  | @cons p q ps qs h t ih =>
    rw [List.map_cons,List.map_cons]
    refine .cons ?_ ih
    obtain ⟨h1,h2,h3⟩ := h
    unfold putAt
    by_cases e : p.1 = k
    . rw [if_pos e,if_pos (h1.symm.trans e)]; exact ⟨h1,h2,ry⟩
    . rw [if_neg e,if_neg (fun z => e (h1.trans z))]; exact ⟨h1,h2,h3⟩
theorem KT.put {H : Hp} {kvs : List (List Key × V)} {xs : List (List Key × Addr × Value)} (r : KT H kvs xs) (k : List Key) {b : Addr} {y : V} {u : Value} (hb : H b = some (.tup (k.map kV))) (ry : RelV y u) :
    KT H (putK kvs k y) (storedH xs k b u) := by
  have e : (kvs.any fun kv => decide (kv.1 = k)) = (atKey xs k).isSome := by
    rw [qb3,(r.val k).q6z,Option.isSome_map]
  unfold putK storedH
  rw [e]
  by_cases q : (atKey xs k).isSome = true
  . rw [if_pos q,if_pos q]; exact r.repl k ry
  . rw [if_neg q,if_neg q]; exact Paired.snoc r ⟨rfl,hb,ry⟩
theorem KT.keeps {H H' : Hp} {kvs : List (List Key × V)} {xs : List (List Key × Addr × Value)} (r : KT H kvs xs) (ht : ∀ b ys,H b = some (.tup ys) -> H' b = some (.tup ys)) : KT H' kvs xs :=
  Paired.mapP r fun _ _ z => ⟨z.1,ht _ _ z.2.1,z.2.2⟩
section
variable {P : Program} {w : World} {H : Hp} {h : Heap} {a : Addr}
theorem rd_of {u : HO} (ok : HOk P w H h) (e : Rd H a u) : q2h P w H h a u := e.ok ok
theorem qa4 {kvs : List (Key × V)} (ok : HOk P w H h) (e : Rd H a (.dK kvs)) : kvs.length <= sizeLine /\ (a == sysModules) = false /\ ∃ vs,KV kvs vs /\ h.DictOf (q2y P w) a vs :=
  show q2h P w H h a (.dK kvs) from rd_of ok e
theorem dk_of {kvs : List (Key × V)} (ok : HOk P w H h) (e : H a = some (.dK kvs)) : kvs.length <= sizeLine /\ (a == sysModules) = false /\ ∃ vs,KV kvs vs /\ h.DictOf (q2y P w) a vs := qa4 ok (.inl e)
theorem q8e {ks : List Key} (ok : HOk P w H h) (e : H a = some (.tup (ks.map kV))) : (tupleKind (q2y P w)).is h ks a := by
  obtain ⟨_,its,r,o,h1,h2,n,h3⟩ := (show q2h P w H h a (.tup (ks.map kV)) from ok a _ e)
  exact ⟨o,its.toArray,n,h1,h2,h3,by simpa using q9p r⟩
theorem qab {kvs : List (List Key × V)} (ok : HOk P w H h) (e : Rd H a (.dT kvs)) : kvs.length <= sizeLine /\ (a == sysModules) = false /\
    ∃ xs,KT H kvs xs /\ h.DictOfH (tupleKind (q2y P w)) a xs := by
  obtain ⟨z,y,xs,r,o,es,ep,h1,h2,h3,h4,h5⟩ := (show q2h P w H h a (.dT kvs) from rd_of ok e)
  refine ⟨z,y,xs,r,o,es,ep,h1,h2,h3,h4,fun x hx => ?_,h5⟩
  have all : ∀ {l : List (List Key × V)} {m : List (List Key × Addr × Value)},KT H l m -> ∀ x ∈ m,(tupleKind (q2y P w)).is h x.1 x.2.1 := by
    intro l m q
    induction q with
    | nil => intro x hx; exact nomatch hx
    | @cons p q ps qs hq t ih =>
      intro x hx
      rcases List.mem_cons.mp hx with e | hx
      . subst e
        exact q8e ok (by rw [<- hq.1]; exact hq.2.1)
      . exact ih x hx
  exact all r x hx
theorem dt_of {kvs : List (List Key × V)} (ok : HOk P w H h) (e : H a = some (.dT kvs)) : kvs.length <= sizeLine /\ (a == sysModules) = false /\
    ∃ xs,KT H kvs xs /\ h.DictOfH (tupleKind (q2y P w)) a xs := qab ok (.inl e)
end
def DGet (H : Hp) (a : Addr) (y : V) (r : Option V) : Prop :=
  (∃ kvs k,Rd H a (.dK kvs) /\ y = kV k /\ r = valV kvs k) \/ ∃ kvs k b,Rd H a (.dT kvs) /\ y = .ref b /\ H b = some (.tup (k.map kV)) /\ r = valV kvs k
def DPut (H : Hp) (a : Addr) (y v : V) (H' : Hp) : Prop :=
  (∃ kvs k,H a = some (.dK kvs) /\ y = kV k /\ kvs.length < sizeLine /\ H' = upd H a (.dK (putK kvs k v))) \/
  ∃ kvs k b,H a = some (.dT kvs) /\ y = .ref b /\ H b = some (.tup (k.map kV)) /\ kvs.length < sizeLine /\ H' = upd H a (.dT (putK kvs k v))
section
variable {X : Cx} {pins : List (Addr × Obj)} {σ : St} {H : Hp} {s : Shared} {a : Addr} {y v : V} {u r : Value} {o : Option V} {A : Around} {E : Value -> Shared -> Prop}
theorem Inv.big (I : Inv X pins σ H s) : sysModules < s.heap.objs.size := by
  have h : mainGlobals < s.heap.objs.size := (I.mod.glob.keeps I.bk).lt
  exact Nat.lt_trans (by decide) h
theorem d_in {Q : Value -> Shared -> Prop} (hu : A.units + 1 < cLine) (I : Inv X pins σ H s) (g : DGet H a y o) (ry : RelV y u) (h : ∀ s',Inv X pins σ H s' -> Q (.bool o.isSome) s') :
    wpAny (model X.prog X.w) A (compareOp .In u (.ref a)) Q E s := by
  rcases g with ⟨kvs,k,e,ey,l⟩ | ⟨kvs,k,b,e,ey,eb,l⟩
  . subst ey
    obtain ⟨z,hd,vs,rel,dd⟩ := qa4 I.hok e
    refine wpAny_in_of (qa7 ry) hd dd.mapOf ?_
    rw [<- (rel.val k).q6z, <- l]
    exact h _ (I.tok _)
  . subst ey
    cases (show u = Value.ref b from ry)
    obtain ⟨z,hd,xs,rel,dd⟩ := qab I.hok e
    refine wpAny_in_heap (tupleKind_room_in1 hu) (q8e I.hok eb) hd dd ?_
    have q := (rel.val k).q6z
    rw [Option.isSome_map] at q
    rw [<- q, <- l]
    exact h _ (I.tok _)
theorem qcb {h' : Heap} {t' : Nat} {ob : HO} (I : Inv X pins σ H s) (mu : Mut (H a)) (hs : Heap.SameBut a s.heap h') (he : ∃ q,h'.get? a = some q) (new : q2h X.prog X.w (upd H a ob) h' a ob) :
    Inv X pins σ (upd H a ob) { s with heap := h',toks := t' } :=
  I.write (x := a) (e := a) mu (.inl rfl) (fun b q hb z => (hs.2 b hb).trans z) he new
theorem dk_new {P : Program} {w : World} {H' : Hp} {h' : Heap} {kvs : List (Key × V)} {vs : List (Key × Value)} (z : kvs.length <= sizeLine) (hd : (a == sysModules) = false) (rel : KV kvs vs) (dd : h'.DictOf (q2y P w) a vs) :
    q2h P w H' h' a (.dK kvs) := ⟨z,hd,vs,rel,dd⟩
theorem qfq {H' : Hp} {Q : Unit -> Shared -> Prop} (hu : A.units + 1 < cLine) (I : Inv X pins σ H s) (g : DPut H a y v H') (ry : RelV y u) (rv : RelV v r) (h : ∀ s',Inv X pins σ H' s' -> Q () s') :
    wpAny (model X.prog X.w) A (setItem (.ref a) u r) Q E s := by
  rcases g with ⟨kvs,k,e,ey,l,eH⟩ | ⟨kvs,k,b,e,ey,eb,l,eH⟩
  . subst ey eH
    obtain ⟨z,hd,vs,rel,dd⟩ := dk_of I.hok e
    have hz : vs.length <= sizeLine := by rw [<- rel.length]; exact z
    have hl : (putK kvs k v).length <= sizeLine := by have := q7m kvs k v; omega
    refine wpAny_setItem_pairs (hsz := hz) (qa7 ry) dd fun h' dd' hs => h _ ?_
    have he : ∃ q,h'.get? a = some q := let ⟨q,_,_,hq,_⟩ := dd'; ⟨q,hq⟩
    exact qcb I (by rw [e]; exact True.intro) hs he (dk_new hl hd (rel.put k rv) dd')
  . subst ey eH
    cases (show u = Value.ref b from ry)
    obtain ⟨z,hd,xs,rel,dd⟩ := dt_of I.hok e
    have hz : xs.length <= sizeLine := by rw [<- Paired.length rel]; exact z
    have hl : (putK kvs k v).length <= sizeLine := by have := q7m kvs k v; omega
    refine wpAny_setItem_heap (hsz := hz) (tupleKind_room_in1 hu) (q8e I.hok eb) dd fun h' dd' hs => h _ ?_
    obtain ⟨q,es,ep,hq,h2,h3,h4,_,h5⟩ := dd'
    refine qcb I (by rw [e]; exact True.intro) hs ⟨q,hq⟩ ⟨hl,hd,_,(rel.put k eb rv).keeps fun c ys ec => ?_,q,es,ep,hq,h2,h3,h4,h5⟩
    rw [q1e (ne_of ec e (fun z => nomatch z))]
    exact ec
end
def tDIn (ty td : TE) : TE := fun σ H Q => ty σ H fun y H1 => td σ H1 fun x H2 => ∃ a o,x = .ref a /\ DGet H2 a y o /\ Q (.bl o.isSome) H2
def sDPut (td ty tv : TE) : TS := fun D σ H => tv σ H fun v H1 => td σ H1 fun x H2 => ty σ H2 fun y H3 => ∃ a H4,x = .ref a /\ DPut H3 a y v H4 /\ D.nx σ H4
section
variable {X : Cx} {o i e value : Expr} {pos pos' tpos : Pos} {td ty tv : TE}
theorem qfk (hu : X.A.units + 1 < cLine) (hi : PE X i ty) (ho : PE X o td) : PC X .In i o (tDIn ty td) := by
  intro pins s σ H Q I h
  refine thn (hi pins s σ H _ I h) fun iv s1 ⟨y,H1,I1,ry,q1⟩ => thn (ho pins s1 σ H1 _ I1 q1) fun u s2 ⟨x,H2,I2,rx,a,ov,ex,g,q2⟩ => ?_
  subst ex
  obtain rfl : u = Value.ref a := rx
  exact d_in hu I2 g ry fun s3 I3 => ⟨.bl ov.isSome,H2,I3,rfl,q2⟩
theorem qco (hu : X.A.units + 1 < cLine) (ho : PE X o td) (hi : PE X i ty) (hv : PE X value tv) (hs : swapsWith value (some (.Subscript o i pos')) pos.line X.env = pure false) :
    PS X (.Assign [.Subscript o i pos'] value pos) (sDPut td ty tv) := by
  intro pins s σ H D I h
  refine wpAny_Assign_Subscript (thn (hv pins s σ H _ I h) fun r s1 ⟨v,H1,I1,rv,q1⟩ => thn (ho pins s1 σ H1 _ I1 q1) fun u s2 ⟨x,H2,I2,rx,q2⟩ => thn (hi pins s2 σ H2 _ I2 q2) fun iv s3 ⟨y,H3,I3,ry,a,H4,ex,g,q3⟩ => ?_) hs
  subst ex
  obtain rfl : u = Value.ref a := rx
  exact qfq hu I3 g ry rv fun s4 I4 => ⟨σ,H4,I4,q3⟩
end
theorem qg8 {P : Program} {w : World} {H : Hp} (h : Heap) (hb : sysModules < h.objs.size) : q2h P w H (h.push { cls := .type "dict",data := .dict #[] }) h.objs.size (.dK []) :=
  ⟨Nat.zero_le _,beq_eq_false_iff_ne.mpr (Ne.symm (Nat.ne_of_lt hb)),[], .nil,Heap.DictOf.new h⟩
def qen : TE := fun _ H Q => ∀ p,H p = none -> Q (.ref p) (upd H p (.dK []))
section
variable {X : Cx} {pos : Pos}
theorem qae : PE X (.Dict [] [] pos) qen := fun pins s σ H Q I h =>
  wpAny_Dict_empty ⟨.ref s.heap.objs.size,_,I.laid (a := s.heap.objs.size) (o := .dK []) (t' := s.toks) (fun _ _ q => Heap.get?_push_of_some _ q) (Nat.le_refl _) (qg8 s.heap I.big),rfl,h _ (I.hok.fresh (Nat.le_refl _))⟩
end
structure M1 (X : Cx) (o : Expr) (m : Str) (apos : Pos) (e : Expr) (cpos : Pos) : Prop where
  base : attributeBase o m X.env (eval o X.env) = eval o X.env
  few : ((backTo cpos (starEach [e] X.env)).all (fun x => !x.1) && (backToKw cpos (keywordEach [] X.env)).all (fun x => x.1.isSome)
    && decide (([e] : List Expr).length + ([] : List Keyword).length + (if ([] : List Keyword).isEmpty then 0 else 1) < 30)) = true
  line : (apos.endLine == cpos.line) = true
  trees : backTo cpos (starEach [e] X.env) = [(false,eval e X.env)]
def IsD (H : Hp) (a : Addr) : Prop := (∃ kvs,Rd H a (.dK kvs)) \/ ∃ kvs,Rd H a (.dT kvs)
theorem isD_at {X : Cx} {pins : List (Addr × Obj)} {σ : St} {H : Hp} {s : Shared} {a : Addr} (I : Inv X pins σ H s) (d : IsD H a) :
    s.TypeIs (.ref a) "dict" /\ (∀ b,Value.ref a = .ref b -> ∃ ob,s.heap.get? b = some ob /\ ob.dict = none) /\ (a == sysModules) = false := by
  rcases d with ⟨kvs,e⟩ | ⟨kvs,e⟩
  . obtain ⟨_,hd,vs,_,dd⟩ := qa4 I.hok e
    refine ⟨dd.typeIs,fun b q => ?_,hd⟩
    cases q
    obtain ⟨ob,_,_,h1,h2,_⟩ := dd
    exact ⟨ob,h1,h2.2.1⟩
  . obtain ⟨_,hd,xs,_,dd⟩ := qab I.hok e
    refine ⟨dd.typeIs,fun b q => ?_,hd⟩
    cases q
    obtain ⟨ob,_,_,h1,h2,_⟩ := dd
    exact ⟨ob,h1,h2.2.1⟩
section
variable {X : Cx} {pins : List (Addr × Obj)} {σ : St} {H : Hp} {s : Shared} {a : Addr} {y d : V} {u r : Value} {o : Option V} {A : Around} {E : Value -> Shared -> Prop}
theorem d_get1 {Q : Value -> Shared -> Prop} (hu : A.units + 1 < cLine) (I : Inv X pins σ H s) (g : DGet H a y o) (ry : RelV y u) (h : ∀ w' s',Inv X pins σ H s' -> RelV (o.getD .non) w' -> Q w' s') :
    wpAny (model X.prog X.w) A (call (.builtin "dict.get") [.ref a,u]) Q E s := by
  rcases g with ⟨kvs,k,e,ey,l⟩ | ⟨kvs,k,b,e,ey,eb,l⟩
  . subst ey
    obtain ⟨z,hd,vs,rel,dd⟩ := qa4 I.hok e
    refine call_meetsIn PySem.F.slot_dict_get dd.typeIs PySem.F.entry_dict_get (PySem.F.args_dict_get_2 _ _) (meets_dict_get (q2y X.prog X.w) a (qa7 ry) hd) ⟨_,dd.mapOf,h _ _ (I.tok _) ?_⟩
    rw [l]
    exact (rel.val k).getD rfl
  . subst ey
    cases (show u = Value.ref b from ry)
    obtain ⟨z,hd,xs,rel,dd⟩ := qab I.hok e
    refine call_meetsIn PySem.F.slot_dict_get dd.typeIs PySem.F.entry_dict_get (PySem.F.args_dict_get_2 _ _) (meetsH_dict_get (tupleKind (q2y X.prog X.w)) a b hd) ⟨tupleKind_room_in1 hu,k,xs,q8e I.hok eb,dd,h _ _ (I.tok _) ?_⟩
    rw [l]
    exact (rel.val k).getD rfl
end
def qf5 (td ty : TE) : TE := fun σ H Q => td σ H fun x H1 => ∃ a,x = .ref a /\ IsD H1 a /\ ty σ H1 fun y H2 => ∃ o,DGet H2 a y o /\ Q (o.getD .non) H2
section
variable {X : Cx} {o e f : Expr} {apos cpos : Pos} {td ty tx : TE}
theorem qag (hu : X.A.units + 1 < cLine) (ho : PE X o td) (he : PE X e ty) (m : M1 X o "get" apos e cpos) : PE X (.Call (.Attribute o "get" apos) [e] [] cpos) (qf5 td ty) := by
  intro pins s σ H Q I h
  refine wpAny_Call_method m.base m.few m.line PySem.F.plainAttrs_dict PySem.F.slot_dict_get PySem.F.type_dict_get (thn (ho pins s σ H _ I h) fun u s1 ⟨x,H1,I1,rx,a,ex,d,q1⟩ => ?_)
  subst ex
  obtain rfl : u = Value.ref a := rx
  obtain ⟨t1,t2,_⟩ := isD_at I1 d
  refine ⟨t1,t2,?_⟩
  rw [m.trees]
  refine Calls.callWith_builtin rfl (Calls.evalArgs_plain (Calls.spliced_cons (thn (he pins s1 σ H1 _ I1 q1) fun iv s2 ⟨y,H2,I2,ry,ov,g,q2⟩ => Calls.spliced_nil ?_)))
  exact d_get1 hu I2 g ry fun w' s3 I3 rw' => ⟨_,H2,I3,rw',q2⟩
end
end L2
set_option maxHeartbeats 4000000
namespace L2
open PySem PySem.Spec PyProof.Rows
theorem q5i {α β : Type} {f : α -> β -> Sem (ForInStep β)} {g : β -> α -> β} : ∀ (l : List α) (c : β),(∀ x ∈ l, ∀ c,f x c = pure (.yield (g c x))) -> forIn l c f = (pure (l.foldl g c) : Sem β)
  | [],c,_ => rfl
  | x :: l,c,h => by
    rw [List.forIn_cons,h x List.mem_cons_self c,pure_bind]
    exact q5i l (g c x) fun y hy c => h y (List.mem_cons_of_mem _ hy) c
def q4s (cells : List (Str × Addr)) (cs : List (Str × Addr)) (x : Str × NameKind) : List (Str × Addr) :=
  if (x.2 == .free) = true then match cells.lookup x.1 with | some c => (x.1,c) :: cs | none => cs else cs
def clos (names : List (Str × NameKind)) (cells : List (Str × Addr)) : List (Str × Addr) := names.foldl (q4s cells) []
theorem q9z {scope : Scope} {env : Env} (h : ∀ x ∈ scope.names,x.2 = .free -> ∃ c,env.cells.lookup x.1 = some c) : closureFor scope env = pure (clos scope.names env.cells) := by
  simp only [closureFor]
  rw [q5i (g := q4s env.cells) scope.names [] (fun x hx c => by
    obtain ⟨n,kind⟩ := x
    by_cases hk : kind = .free
    . subst hk
      obtain ⟨a,ha⟩ := h _ hx rfl
      simp only [q4s,cellOf,ha,beq_self_eq_true,if_true,pure_bind]
    . have : (kind == NameKind.free) = false := by simpa using hk
      simp only [q4s,this,Bool.false_eq_true,if_false])]
  rfl
theorem q6q {cells : List (Str × Addr)} {x : Str} {c : Addr} : ∀ (names : List (Str × NameKind)) (acc : List (Str × Addr)),(x,c) ∈ names.foldl (q4s cells) acc -> (x,c) ∈ acc \/ cells.lookup x = some c
  | [],acc,h => .inl h
  | y :: r,acc,h => by
    rcases q6q r _ h with h | h
    . unfold q4s at h
      split at h
      . cases e : cells.lookup y.1 with
        | none => rw [e] at h; exact .inl h
        | some d =>
          rw [e] at h
          rcases List.mem_cons.mp h with h | h
          . cases h; exact .inr e
          . exact .inl h
      . exact .inl h
    . exact .inr h
theorem q6m {cells : List (Str × Addr)} {p : Str × Addr} : ∀ (names : List (Str × NameKind)) (acc : List (Str × Addr)),p ∈ acc -> p ∈ names.foldl (q4s cells) acc
  | [],acc,h => h
  | y :: r,acc,h => by
    refine q6m r _ ?_
    unfold q4s
    split
    . cases e : cells.lookup y.1 with
      | none => exact h
      | some d => exact List.mem_cons_of_mem _ h
    . exact h
theorem q7n {cells : List (Str × Addr)} {x : Str} {c : Addr} (hc : cells.lookup x = some c) : ∀ (names : List (Str × NameKind)) (acc : List (Str × Addr)),(x,NameKind.free) ∈ names -> (x,c) ∈ names.foldl (q4s cells) acc
  | [],acc,h => by simp at h
  | y :: r,acc,h => by
    rcases List.mem_cons.mp h with h | h
    . subst h
      refine q6m r _ ?_
      simp only [q4s,beq_self_eq_true,if_true,hc]
      exact List.mem_cons_self
    . exact q7n hc r _ h
theorem q6n {x : Str} {c : Addr} : ∀ {l : List (Str × Addr)},(x,c) ∈ l -> ∃ d,l.lookup x = some d
  | [],h => by simp at h
  | (y,d) :: r,h => by
    by_cases e : x = y
    . subst e; exact ⟨d,by simp [List.lookup_cons]⟩
    . rcases List.mem_cons.mp h with h | h
      . cases h; exact absurd rfl e
      . obtain ⟨d',q⟩ := q6n h
        have : (x == y) = false := by simpa using e
        exact ⟨d',by simp [List.lookup_cons,this,q]⟩
theorem q3r {names : List (Str × NameKind)} {cells : List (Str × Addr)} {x : Str} {c : Addr} (h : (clos names cells).lookup x = some c) : cells.lookup x = some c := by
  rcases q6q names [] (PySem.mem_of_lookup h) with h | h
  . simp at h
  . exact h
theorem qbq {names : List (Str × NameKind)} {cells : List (Str × Addr)} {x : Str} {c : Addr} (hn : (x,NameKind.free) ∈ names) (hc : cells.lookup x = some c) : (clos names cells).lookup x = some c := by
  obtain ⟨d,q⟩ := q6n (q7n hc names [] hn)
  have := q3r (names := names) q
  rw [hc] at this
  cases this
  exact q
theorem q7q {g : Str -> NameKind -> NameKind} {x : Str} : ∀ (l : List (Str × NameKind)),(l.map fun p => (p.1,g p.1 p.2)).lookup x = (l.lookup x).map (g x)
  | [] => rfl
  | (y,k) :: r => by
    by_cases e : x = y
    . subst e; simp [List.lookup_cons]
    . have : (x == y) = false := by simpa using e
      simp only [List.map_cons,List.lookup_cons,this]
      exact q7q r
theorem q62 {scope : Scope} {env : Env} {x : Str} : (relabel scope env).names.lookup x = (scope.names.lookup x).map fun k => if (k == .free && env.scope.kind == .function && env.kindOf x == some .cell) = true then .cell else k := by
  rw [<- q7q (g := fun x k => if (k == .free && env.scope.kind == .function && env.kindOf x == some .cell) = true then .cell else k)]
  unfold relabel
  congr 1
  apply List.map_congr_left
  rintro ⟨n,k⟩ _
  dsimp only
  split <;> rfl
structure Blk (osc : Scope) (N : List Str) (scope : Scope) (own : List Str) (fv : List (Str × Nat)) : Prop where
  kind : scope.kind = .function
  nocell : ∀ y ∈ scope.names,y.2 ≠ .cell
  loc : ∀ y ∈ scope.names,y.2 = .local -> scope.names.lookup y.1 = some .local
  free : ∀ y ∈ scope.names,y.2 = .free -> (osc.names.lookup y.1 = some .cell \/ osc.names.lookup y.1 = some .free)
  at' : ∀ p ∈ fv,N[p.2]? = some p.1 /\ scope.names.lookup p.1 = some .free
  hown : ∀ x ∈ own,scope.names.lookup x = some .local
def blk (X : Cx) (scope : Scope) (own : List Str) (fv : List (Str × Nat)) (s : Shared) (H : Hp) (fp : List Addr) : Cx :=
  { X with N := own ++ fv.map (·.1),s₀ := s,H₀ := H,env := compEnvC scope (clos scope.names X.env.cells) s.heap.objs.size X.env,outer := X.stack,ex := fp,fn := fun _ => false,pn := [],xe := fun _ _ => False }
def q53 (fv : List (Str × Nat)) (σ : St) : St := fv.map fun p => (σ[p.2]?).join
def bσ (own : List Str) (fv : List (Str × Nat)) (σ : St) : St := own.map (fun _ => none) ++ q53 fv σ
def PTs (X : Cx) (ifs : List Expr) (t : TT) : Prop :=
  ∀ (pins : List (Addr × Obj)) (s : Shared) (σ : St) (H : Hp) (Q : Bool -> Hp -> Prop),Inv X pins σ H s -> t σ H Q ->
    wpAny (model X.prog X.w) X.A (forIn ifs true fun c r => if r = true then do let ok <- isTrue c X.env (eval c X.env); pure (ForInStep.yield ok) else pure (ForInStep.yield r)) (TP X pins σ Q) X.xe s
def tYes : TT := fun _ H Q => Q true H
theorem q41 {X : Cx} : PTs X [] tYes := fun pins s σ H Q I h => wpAny_tests_nil ⟨H,I,h⟩
theorem qiu {X : Cx} {c : Expr} {t : TT} (h : PT X c t) : PTs X [c] t := fun pins s σ H Q I q => wpAny_tests_one (h pins s σ H Q I q)
def LcW (own : List Str) (fv : List (Str × Nat)) (J : It) (g : TG) (tc : TT) (te : TE) (σ : St) (D : Addr) (Q : VK) (H0 : Hp) : Prop := ∃ W : Nat -> Nat -> Hp -> Prop,
  (∃ m,W 0 m H0) /\ ∀ i m H,W i m H -> (J.stop i H /\ Q (.ref D) H) \/ (J.go i H /\ ∃ (NE : VK) (NF : Hp -> Prop),(∀ v H5,NE v H5 -> ∃ ys,H5 D = some (.lst ys) /\ ys.length < sizeLine /\ ∃ m',m' < m /\ W (i + 1) m' (upd H5 D (.lst (ys ++ [v])))) /\
    (∀ H4,NF H4 -> ∃ m',m' < m /\ W (i + 1) m' H4) /\ ∀ x H2,J.yld i H x H2 -> g x (bσ own fv σ) H2 fun σ3 H3 =>
    (∃ os : St,os.length = own.length /\ σ3 = os ++ q53 fv σ) /\ tc σ3 H3 fun b H4 => if b = true then te σ3 H4 NE else NF H4)
def tLc (own : List Str) (fv : List (Str × Nat)) (wi : TI) (g : TG) (tc : TT) (te : TE) : TE := fun σ H Q => wi σ H fun J H1 => ∀ D,H1 D = none -> LcW own fv J g tc te σ D Q (upd H1 D (.lst []))
section
variable {prog : Program} {w : World} {A : Around} {R : Result -> Shared -> Prop} {s : Shared}
theorem q4k {elt target iter : Expr} {ifs : List Expr} {scope : Scope} {pos : Pos} {it acc : Value} {env : Env} (I : Nat -> Shared -> Prop)
    (turn : ∀ n s,I n s -> wpAny (model prog w) A (pyNext it) (fun r s₁ => match r with
      | none => R (.ok .next) s₁
      | some v => wpAny (model prog w) A (letOwnedTupleGo target it v) (fun _ s₁' => wpAny (model prog w) A (assign target env v) (fun _ s₂ =>
          wpAny (model prog w) A (forIn ifs true fun c r => if r = true then do let ok <- isTrue c env (eval c env); pure (ForInStep.yield ok) else pure (ForInStep.yield r)) (fun ok s₃ =>
            if ok = true then wpAny (model prog w) A (eval elt env) (fun x s₄ =>
              wpAny (model prog w) A (call (.builtin "list.append") [acc,x]) (fun _ s₅ => ∃ m,m < n /\ I m s₅) (fun _ _ => False) s₄) (fun _ _ => False) s₃
            else ∃ m,m < n /\ I m s₃) (fun _ _ => False) s₂) (fun _ _ => False) s₁') (fun _ _ => False) s₁) (fun _ _ => False) s)
    (n : Nat) (h : I n s) :
    codeAny (model prog w) A (.compLoop (.ListComp elt [⟨target,iter,ifs,0⟩] scope pos) 0 it acc env) R s := by
  refine codeAny_loop rfl I (fun n s hI => ?_) n h
  show wpAny _ A ((compTurn (.ListComp elt [⟨target,iter,ifs,0⟩] scope pos) 0 it acc env).onRaise (fun x => do noteFrame x env; theTreesLotGoes x)) _ _ s
  refine wpAny_noted ?_
  rw [compTurn_list]
  refine wpAny_bind (wpAny_standAt (wpAny_bind (wpAny_mono (turn n s hI) (fun r s₁ h₁ => ?_) fun _ _ h' => h'.elim)))
  cases r with
  | none => exact wpAny_pure h₁
  | some v =>
    refine wpAny_bind (wpAny_mono h₁ (fun _ s₁' h₁' => ?_) fun _ _ h' => h'.elim)
    refine wpAny_bind (wpAny_mono h₁' (fun _ s₂ h₂ => wpAny_bind (wpAny_mono h₂ (fun ok s₃ h₃ => ?_) fun _ _ h' => h'.elim)) fun _ _ h' => h'.elim)
    cases ok with
    | false => exact wpAny_pure ⟨rfl,h₃⟩
    | true =>
      exact wpAny_bind (wpAny_bind (wpAny_mono h₃ (fun x s₄ h₄ => wpAny_bind (wpAny_mono h₄ (fun _ s₅ h₅ => wpAny_pure (wpAny_pure ⟨rfl,h₅⟩)) fun _ _ h' => h'.elim)) fun _ _ h' => h'.elim))
end
section
variable {X : Cx} {pins : List (Addr × Obj)} {σ : St} {H : Hp} {s : Shared} {scope : Scope} {own : List Str} {fv : List (Str × Nat)}
theorem blk_ok (I : Inv X pins σ H s) (B : Blk X.env.scope X.N scope own fv) {fp : List Addr} {H0 : Hp} (hf : ∀ b ∈ fp,FpOk X pins H0 b) (hlt : ∀ b ∈ fp,b < s.heap.objs.size) : (blk X scope own fv s H fp).Ok where
  mod := I.ok.mod
  kind := B.kind
  glob := I.ok.glob
  blt := I.ok.blt
  above := Nat.le_refl _
  inj := fun x y c h1 h2 => I.ok.inj x y c (q3r h1) (q3r h2)
  has := fun x h => by
    have h : (relabel scope X.env).names.lookup x = some .cell \/ (relabel scope X.env).names.lookup x = some .free := h
    rw [q62] at h
    cases e : scope.names.lookup x with
    | none => rw [e] at h; rcases h with h | h <;> cases h
    | some k =>
      have hm := PySem.mem_of_lookup e
      have hk : k = .free := by
        rw [e] at h
        by_cases hk : k = .free
        . exact hk
        . have hb : (k == NameKind.free) = false := by simpa using hk
          have nc := B.nocell _ hm
          simp only [hb,Bool.false_and,Bool.false_eq_true,if_false,Option.map_some,Option.some.injEq] at h
          rcases h with h | h
          . exact absurd h nc
          . exact h
      subst hk
      have hc : X.env.kindOf x = some .cell \/ X.env.kindOf x = some .free := B.free _ hm rfl
      obtain ⟨c,hc⟩ := I.ok.has x hc
      exact ⟨c,qbq hm hc⟩
  cab := fun x c h => by cases h
  hd := I.ok.hd
  frames := I.ok.frames
  stk := .inl rfl
  exf := fun b hb => ⟨Nat.ne_of_lt (hlt b hb),fun x c h => (hf b hb).2.2.2.2.1 x c (q3r h)⟩
  bs := I.bs
  bsz := Nat.le_trans I.ok.bsz I.sz
  noex := fun b o e hb => by
    rcases (hf b hb).2.2.2.1 with z | z
    . exact I.ok.noex b o e z
    . exact absurd (Nat.lt_of_lt_of_le (Heap.lt_size e) (Nat.le_trans I.ok.bsz z)) (Nat.lt_irrefl _)
  exfs := fun b hb z => by
    rcases List.mem_cons.mp (I.q4h b z) with e | e
    . exact (hf b hb).2.1 e
    . exact (hf b hb).2.2.1 e
  funs := I.stack
  frf := I.q7f
theorem q6o (I : Inv X pins σ H s) (B : Blk X.env.scope X.N scope own fv) {fp : List Addr} {H0 : Hp} (hf : ∀ b ∈ fp,FpOk X pins H0 b) (hlt : ∀ b ∈ fp,b < s.heap.objs.size) {h' : Heap} {tk : Nat} {m : Str -> Option Value}
    (hn : h'.Ns s.heap.objs.size m) (k : ∀ b o,s.heap.get? b = some o -> h'.get? b = some o) : Inv (blk X scope own fv s H fp) [] (bσ own fv σ) H { s with heap := h',toks := tk } := by
  refine ⟨blk_ok I B hf hlt,rfl,I.bare,Un.kept k,⟨m,hn,fun i x v e1 e2 e3 => ?_⟩,fun x c e => ?_,I.hok.fresh (Nat.le_refl _),fun x c e => I.freeC x c (q3r e),fun p hp => absurd (show p ∈ ([] : List (Addr × Obj)) from hp) (by simp),I.hok.kept k,?_⟩
  . have e1 : (own ++ fv.map (·.1))[i]? = some x := e1
    have hi : own.length <= i := by
      by_cases hi : i < own.length
      . unfold bσ at e2
        rw [List.getElem?_append_left (by simpa using hi),List.getElem?_map] at e2
        cases q : own[i]? with
        | none => rw [q] at e2; cases e2
        | some y => rw [q] at e2; cases e2
      . omega
    rw [List.getElem?_append_right hi,List.getElem?_map] at e1
    unfold bσ at e2
    rw [List.getElem?_append_right (by simpa using hi),List.length_map] at e2
    unfold q53 at e2
    rw [List.getElem?_map] at e2
    cases q : fv[i - own.length]? with
    | none => rw [q] at e1; cases e1
    | some p =>
      rw [q] at e1 e2
      have e1 : p.1 = x := Option.some.inj e1
      subst e1
      have e2 : (σ[p.2]?).join = some v := Option.some.inj e2
      have e2 : σ[p.2]? = some (some v) := by
        cases z : σ[p.2]? with
        | none => rw [z] at e2; cases e2
        | some o => rw [z] at e2; rw [show o = some v from e2]
      obtain ⟨hN,hfree⟩ := B.at' p (List.mem_of_getElem? q)
      have hm := PySem.mem_of_lookup hfree
      have hc := B.free _ hm rfl
      have hvis : Vis X.env.scope p.1 := hc.elim (fun z => .inr (.inl z)) fun z => .inr (.inr z)
      obtain ⟨mo,hno,hl⟩ := I.loc
      obtain ⟨u,r,l⟩ := hl p.2 p.1 v hN e2 hvis
      refine ⟨u,r,?_⟩
      rcases l with ⟨z,_⟩ | ⟨_,c,ec,hcell⟩
      . have z : X.env.scope.names.lookup p.1 = some .local := z
        rcases hc with q | q <;> · rw [q] at z; cases z
      . refine .inr ⟨?_,c,qbq hm ec,?_⟩
        . show (relabel scope X.env).names.lookup p.1 = some .cell \/ (relabel scope X.env).names.lookup p.1 = some .free
          rw [q62,hfree,Option.map_some]
          by_cases z : ((NameKind.free == NameKind.free && X.env.scope.kind == .function && X.env.kindOf p.1 == some .cell) = true)
          . rw [if_pos z]; exact .inl rfl
          . rw [if_neg z]; exact .inr rfl
        . obtain ⟨o,ho,hd⟩ := hcell
          exact ⟨o,k _ _ ho,hd⟩
  . obtain ⟨v,o,ho,hd⟩ := I.cell x c (q3r e)
    exact ⟨v,o,k _ _ ho,hd⟩
  . unfold bσ q53
    simp [blk]
theorem q76 {H' : Hp} {s' : Shared} {σ' : St} {fp : List Addr} {H0 : Hp} (I : Inv X pins σ H s) (hf : ∀ b ∈ fp,FpOk X pins H0 b) (J : Inv (blk X scope own fv s H fp) [] σ' H' s') : Inv X pins σ H' s' /\ FpOk X pins H' s.heap.objs.size /\ ∃ m,s'.heap.Ns s.heap.objs.size m := by
  have C : FpOk X pins H' s.heap.objs.size := I.fpOk (Nat.le_refl _) J.free
  refine ⟨I.qa2 (ch := fp) J.os J.base J.hok J.bare fun b hb => ⟨(hf b hb).2.2.2.1,(hf b hb).2.1,(hf b hb).2.2.2.2.1,(hf b hb).2.2.2.2.2⟩,C,?_⟩
  obtain ⟨m,hn,_⟩ := J.loc
  exact ⟨m,hn⟩
theorem q6c {C : Addr} {h' : Heap} (I : Inv X pins σ H s) (c : FpOk X pins H C) (hs : Heap.SameBut C s.heap h') : Inv X pins σ H { s with heap := h' } :=
  I.turned (t' := s.toks) (fun b o hb e => (hs.2 b hb).trans e) c.1 c.2.1 c.2.2.2.1 c.2.2.2.2.1 c.2.2.2.2.2
theorem qex {elt tg iter : Expr} {ifs : List Expr} {pos : Pos} {g : TG} {tc : TT} {te : TE} {R : Value -> Addr -> Result -> Shared -> Prop} {E : Value -> Shared -> Prop}
    (hc : X.calm = true) (B : Blk X.env.scope X.N scope own fv) (hg : ∀ s H fp,PG (blk X scope own fv s H fp) tg g) (ht : ∀ s H fp,PTs (blk X scope own fv s H fp) ifs tc) (he : ∀ s H fp,PE (blk X scope own fv s H fp) elt te)
    {it : Addr} {fp : List Addr} {tn : Nat -> Heap -> Prop} {J : It} (I : Inv X pins σ H s) (T : Turn X.prog X.w X.K tg J fp it tn) (st : tn 0 s.heap) (hf : ∀ b ∈ fp,FpOk X pins H b) {Q : VK}
    (hw : ∀ D,H D = none -> LcW own fv J g tc te σ D Q (upd H D (.lst [])))
    (hR : ∀ D C H' s',Inv X pins σ H' s' -> FpOk X pins H' C -> (∃ m,s'.heap.Ns C m) -> Q (.ref D) H' -> R (.ref D) C (.ok .next) s') :
    wpAny (model X.prog X.w) X.A (newList []) (fun acc s₃ => wpAny (model X.prog X.w) X.A (newFunctionEnv scope X.env.globals (clos scope.names X.env.cells) [] X.env.qual none .none (some X.env)) (fun cenv s₄ =>
      codeAny (model X.prog X.w) X.A (.compStart (.ListComp elt [⟨tg,iter,ifs,0⟩] scope pos) 0 (.ref it) acc { cenv with scope := relabel scope X.env }) (R acc cenv.locals) s₄) E s₃) E s := by
  refine wpAny_newObj_type (wpAny_newFunctionEnv B.nocell (by intro y hy; simp at hy) (fun h₁ hns₁ hsb₁ => ?_) B.kind)
  dsimp only at hns₁ hsb₁ ⊢
  have I3 : Inv X pins σ (upd H s.heap.objs.size (.lst [])) { s with heap := s.heap.push { cls := .type "list",data := .seq ([] : List Value).toArray } } := I.lnew (t' := s.toks) .nil (Nat.zero_le _)
  obtain ⟨W,⟨m0,w0⟩,turn⟩ := hw s.heap.objs.size I.fresh
  have fpl : ∀ b ∈ fp,b < s.heap.objs.size := fun b hb => by
    obtain ⟨o,e,_⟩ := T.obj _ _ st b hb
    exact Heap.lt_size e
  have hf3 : ∀ b ∈ fp,FpOk X pins (upd H s.heap.objs.size (.lst [])) b := fun b hb => ⟨by rw [q1e (Nat.ne_of_lt (fpl b hb))]; exact (hf b hb).1,(hf b hb).2⟩
  generalize hS3 : ({ s with heap := s.heap.push { cls := .type "list",data := .seq ([] : List Value).toArray } } : Shared) = s3 at I3
  have hS3h : s.heap.push { cls := .type "list",data := .seq ([] : List Value).toArray } = s3.heap := by rw [<- hS3]
  have fpl3 : ∀ b ∈ fp,b < s3.heap.objs.size := fun b hb => by
    rw [<- hS3h,Heap.size_push]
    exact Nat.lt_succ_of_lt (fpl b hb)
  have e3 : ∀ (h : Heap) (tk : Nat),({ s with heap := h,toks := tk } : Shared) = { s3 with heap := h,toks := tk } := fun h tk => by rw [<- hS3]
  rw [hS3h] at hns₁ hsb₁ ⊢
  rw [e3]
  have k3 : ∀ b o,s3.heap.get? b = some o -> h₁.get? b = some o := fun b o e => hsb₁.extBut b o (Nat.ne_of_lt (Heap.lt_size e)) (Heap.get?_push_of_some _ e)
  have J0 := q6o (σ := σ) I3 B hf3 fpl3 (tk := s.toks + ([] : List (Str × Value)).length) hns₁ k3
  have ksz : ∀ b o,s.heap.get? b = some o -> h₁.get? b = some o := fun b o e => k3 b o (by rw [<- hS3h]; exact Heap.get?_push_of_some _ e)
  have st1 : tn 0 h₁ := T.keep _ _ _ st fun b _ o e => ksz b o e
  have stat : ∀ {H' : Hp},(∀ b ∈ fp,H' b = none) -> ∀ b ∈ fp,FpOk (blk X scope own fv s3 (upd H s.heap.objs.size (.lst [])) fp) [] H' b := fun hn b hb =>
    ⟨hn b hb,Nat.ne_of_lt (fpl3 b hb),fun z => (by
      rcases List.mem_cons.mp (I.q4h b z) with e | e
      . exact (hf b hb).2.1 e
      . exact (hf b hb).2.2.1 e), .inl hb,fun x c e => (hf b hb).2.2.2.2.1 x c (q3r e),fun p hp => absurd (show p ∈ ([] : List (Addr × Obj)) from hp) (by simp)⟩
  generalize hX' : blk X scope own fv s3 (upd H s.heap.objs.size (.lst [])) fp = X' at J0 stat
  have eP : X'.prog = X.prog := by rw [<- hX']; rfl
  have eW : X'.w = X.w := by rw [<- hX']; rfl
  have eK : X'.K = X.K := by rw [<- hX']; rfl
  have eA : X'.A = X.A := by rw [<- hX']; rfl
  have eE : X'.xe = fun _ _ => False := by rw [<- hX']; rfl
  have eC : X'.calm = true := by rw [<- hX']; exact hc
  have eEnv : compEnvC scope (clos scope.names X.env.cells) s3.heap.objs.size X.env = X'.env := by rw [<- hX']; rfl
  have Hg : PG X' tg g := by rw [<- hX']; exact hg _ _ _
  have Ht : PTs X' ifs tc := by rw [<- hX']; exact ht _ _ _
  have He : PE X' elt te := by rw [<- hX']; exact he _ _ _
  have loop : codeAny (model X.prog X.w) X.A (.compLoop (.ListComp elt [⟨tg,iter,ifs,0⟩] scope pos) 0 (.ref it) (.ref s.heap.objs.size) X'.env) (R (.ref s.heap.objs.size) s3.heap.objs.size) { s3 with heap := h₁,toks := s.toks + ([] : List (Str × Value)).length } := by
    refine q4k (fun n s' => ∃ i H',Inv X' [] (bσ own fv σ) H' s' /\ tn i s'.heap /\ (∀ b ∈ fp,H' b = none) /\ W i n H') ?_ m0 ⟨0,_,J0,st1,fun b hb => (hf3 b hb).1,w0⟩
    rintro n s4 ⟨i,H4,J4,st4,fr4,w4⟩
    rcases turn i n H4 w4 with ⟨stop,q⟩ | ⟨go,NE,NF,hNE,hNF,step⟩
    . have key := T.done X' eP eW eK eC i [] s4 _ H4 (fun _ _ => False) J4 (stat fr4) st4 stop
      rw [eA] at key
      refine thn key fun r s5 ⟨hr,J5⟩ => ?_
      subst hr
      rw [<- hX'] at J5
      obtain ⟨I5,c5,m5⟩ := q76 I3 hf3 J5
      exact hR _ _ _ _ I5 c5 m5 q
    . have key := T.item X' eP eW eK eC i [] s4 _ H4 (fun _ _ => False) J4 (stat fr4) st4 go
      rw [eA] at key
      refine thn key fun r s5 ⟨u,hr,h5⟩ => ?_
      subst hr
      refine thn h5 fun _ s6 ⟨x,H6,J6,r6,y6,st6,fr6⟩ => ?_
      have J6' := J6.pinned (stat fr6) (T.obj _ _ st6)
      have kg := Hg _ s6 _ H6 x u _ J6' r6 (step x H6 y6)
      rw [eP,eW,eA,eE] at kg
      refine thn kg fun _ s7 ⟨σ7,H7,J7,⟨os,ol,eσ⟩,q7⟩ => ?_
      have kt := Ht _ s7 σ7 H7 _ J7 q7
      rw [eP,eW,eA,eE] at kt
      refine thn kt fun ok s8 ⟨H8,J8,q8⟩ => ?_
      have again : ∀ {s9 : Shared} {H9 : Hp} {mm : Nat},Inv X' ([] ++ q4u fp s6.heap) σ7 H9 s9 -> mm < n -> W (i + 1) mm H9 -> ∃ m,m < n /\ ∃ i H',Inv X' [] (bσ own fv σ) H' s9 /\ tn i s9.heap /\ (∀ b ∈ fp,H' b = none) /\ W i m H' := fun {s9 H9 mm} J9 hm w9 => by
        refine ⟨mm,hm,i + 1,H9,(J9.q4n).weak ?_ ?_,T.keep _ _ _ st6 fun b hb o e => (J9.pin (b,o) (List.mem_append_right _ (List.mem_append_right _ (q3j hb e)))).1,fun b hb => ?_,w9⟩
        . rw [eσ]; unfold bσ; rw [List.length_append,List.length_append,List.length_map,ol]
        . intro j v e
          rw [eσ]
          unfold bσ at e
          by_cases hj : j < own.length
          . rw [List.getElem?_append_left (by simpa using hj),List.getElem?_map] at e
            cases q : own[j]? with
            | none => rw [q] at e; cases e
            | some y => rw [q] at e; cases e
          . rw [List.getElem?_append_right (by simpa using hj),List.length_map] at e
            rw [List.getElem?_append_right (by omega),ol]
            exact e
        . obtain ⟨o,e,d⟩ := T.obj _ _ st6 b hb
          exact (J9.pin (b,o) (List.mem_append_right _ (List.mem_append_right _ (q3j hb e)))).2.1
      cases ok with
      | false =>
        rw [if_neg Bool.false_ne_true] at q8 ⊢
        obtain ⟨m',hm,w8⟩ := hNF _ q8
        exact again J8 hm w8
      | true =>
        rw [if_pos rfl] at q8 ⊢
        have ke := He _ s8 σ7 H8 _ J8 q8
        rw [eP,eW,eA,eE] at ke
        refine thn ke fun xv s9 ⟨v,H9,J9,r9,q9⟩ => ?_
        obtain ⟨ys,hD,hz,m',hm,w9⟩ := hNE v H9 q9
        have := (q4v (X := X')) _ s9 σ7 H9 (.ref s.heap.objs.size) [v] (.ref s.heap.objs.size) [xv] (fun _ H10 => W (i + 1) m' H10) J9 rfl (.cons r9 .nil) ⟨_,ys,v,rfl,rfl,hD,hz,w9⟩
        rw [eP,eW,eA,eE] at this
        exact thn this fun _ s10 ⟨_,H10,J10,_,w10⟩ => again J10 hm w10
  rw [<- eEnv] at loop
  exact codeAny_compStart_list loop (T.self _ 0 _ _ _ st1 loop)
end
section
variable {X : Cx} {scope : Scope} {own : List Str} {fv : List (Str × Nat)} {elt tg iter : Expr} {ifs : List Expr} {pos : Pos} {wi : TI} {g : TG} {tc : TT} {te : TE}
theorem Blk.clos (B : Blk X.env.scope X.N scope own fv) (ok : X.Ok) : closureFor scope X.env = pure (L2.clos scope.names X.env.cells) :=
  q9z fun y hy hk => ok.has y.1 (B.free y hy hk)
theorem q73 {osc : Scope} {N0 : List Str} (hc : X.calm = true) (hsc : X.env.scope = osc) (hN0 : X.N = N0) (B : Blk osc N0 scope own fv) (hi : PI X tg iter wi) (hg : ∀ s H fp,PG (blk X scope own fv s H fp) tg g) (ht : ∀ s H fp,PTs (blk X scope own fv s H fp) ifs tc) (he : ∀ s H fp,PE (blk X scope own fv s H fp) elt te)
    (hs : ∀ x,foldedSetIterable iter X.env x = pure x := by intro _; rfl) : PE X (.ListComp elt [⟨tg,iter,ifs,0⟩] scope pos) (tLc own fv wi g tc te) := by
  subst hsc hN0
  intro pins s σ H Q I h
  rw [eval_ListComp]
  refine wpAny_comprehension_free (use := none) rfl hs (B.clos I.ok) B.kind B.loc (thn (hi pins s σ H _ I h) fun v s1 h1 => thn h1 fun itv s2 h2 => ?_)
  obtain ⟨it,fp,tn,J,H2,rfl,I2,T,st2,f2,hw⟩ := h2
  refine qex hc B hg ht he I2 T st2 f2 hw fun D C H' s' I' c' m' q => ?_
  obtain ⟨m,hn⟩ := m'
  exact ⟨m,hn,fun h' hs' => ⟨.ref D,H',q6c I' c' hs',rfl,q⟩⟩
theorem qbr {osc : Scope} {N0 : List Str} {i : Nat} {x : Str} {pos' spos : Pos} (hc : X.calm = true) (hsc : X.env.scope = osc) (hN0 : X.N = N0) (hN : X.N.Nodup) (hi' : X.N[i]? = some x) (hx : Loc X.env.scope x) (B : Blk osc N0 scope own fv) (hi : PI X tg iter wi) (hg : ∀ s H fp,PG (blk X scope own fv s H fp) tg g) (ht : ∀ s H fp,PTs (blk X scope own fv s H fp) ifs tc) (he : ∀ s H fp,PE (blk X scope own fv s H fp) elt te)
    (hsw : swapsWith (.ListComp elt [⟨tg,iter,ifs,0⟩] scope pos) (some (.Name x pos')) spos.line X.env = pure true := by rfl)
    (hs : ∀ x,foldedSetIterable iter X.env x = pure x := by intro _; rfl) (hf : X.fn x = true \/ X.env.scope.names.lookup x = some .local := by first | exact .inl rfl | exact .inr rfl | assumption) :
    PS X (.Assign [.Name x pos'] (.ListComp elt [⟨tg,iter,ifs,0⟩] scope pos) spos) (tAsg (tLc own fv wi g tc te) (q54 i)) := by
  subst hsc hN0
  intro pins s σ H D I h
  rw [exec_Assign_Name_used _ _ _ _ hsw]
  refine wpAny_bind (wpAny_standAt (wpAny_bind ?_))
  show wpAny _ X.A (do let _ <- comprehension (.ListComp elt [⟨tg,iter,ifs,0⟩] scope pos) scope X.env _ (newList []) false (eval iter X.env) (some (assign (.Name x pos') X.env))) _ _ s
  refine wpAny_bind (wpAny_mono (wpAny_comprehension_free (use := some (assign (.Name x pos') X.env)) (Q := fun _ s' => SP X pins D .next s') rfl hs (B.clos I.ok) B.kind B.loc
    (thn (hi pins s σ H _ I h) fun v s1 h1 => thn h1 fun itv s2 h2 => ?_)) (fun _ s' hq => wpAny_pure (wpAny_pure hq)) fun _ _ e => e)
  obtain ⟨it,fp,tn,J,H2,rfl,I2,T,st2,f2,hw⟩ := h2
  refine qex (Q := fun x H1 => q54 i x σ H1 D.nx) hc B hg ht he I2 T st2 f2 hw fun L C H' s' I' c' m' q => ?_
  obtain ⟨m,hn⟩ := m'
  show wpAny _ X.A (assign (.Name x pos') X.env (.ref L)) _ _ _
  refine wpAny_assign_Name (q6u I' hN hi' hx (v := .ref L) rfl (fun s'' I'' ⟨a,hsb,ha⟩ => ?_) hf)
  have hCa : C ≠ a := by
    rcases ha with ha | ha
    . rw [ha]; exact c'.2.1
    . exact (c'.2.2.2.2.1 x a ha).symm
  exact ⟨m,hn.sameBut hsb hCa,fun h' hs' => ⟨_,H',q6c I'' c' hs',q⟩⟩
end
end L2
namespace L2
open PySem PySem.Spec PyProof.Rows
def Its (x : Str) : It := ⟨fun i _ => i < x.cps.toList.length,fun i H v H' => H' = H /\ ∃ c,x.cps.toList[i]? = some c /\ v = .str ⟨#[c]⟩,fun i _ => i = x.cps.toList.length⟩
theorem go_str {M : Model} {A : Around} {E : Value -> Shared -> Prop} {s : Shared} {tg : Expr} {it : Addr} {x : Str} {t : Tok} {Q : Unit -> Shared -> Prop} (hQ : Q () s) : wpAny M A (letOwnedTupleGo tg (.ref it) (.str x t)) Q E s := by
  unfold letOwnedTupleGo
  cases tg <;> exact wpAny_pure hQ
theorem qh2 {P : Program} {w : World} {K : PySem.W.Frag} {tg : Expr} (it : Addr) (x : Str) (t : Tok) (ty : String) (hty : ty = "str_ascii_iterator" \/ ty = "str_iterator") : Turn P w K tg (Its x) [it] it (fun i h => h.IsStrIter it ty x t i) where
  mem := by simp
  obj := fun i h st b hb => by
    have e : b = it := by simpa using hb
    subst e
    obtain ⟨o,e,c,d⟩ := st
    exact ⟨o,e,fun v z => by rw [d] at z; cases z⟩
  keep := fun i h h' st k => let ⟨o,ho,r⟩ := st; ⟨o,k it (by simp) o ho,r⟩
  item := by
    intro X hP hw hK hc i pins s σ H E I hf st hg
    subst hP hw hK
    obtain ⟨f0,f1,f2,f3,f4,f5⟩ := hf it (by simp)
    have hg : i < x.cps.toList.length := hg
    have hg' : i < x.cps.size := by simpa using hg
    have W : Walks X.prog X.w X.A it [it] [it] x.cps.size (SignAt x) (fun i h => h.IsStrIter it ty x t i) := by
      rcases hty with rfl | rfl
      . exact Walks.strAscii (I.ok.hd hc) it x t
      . exact Walks.strWide (I.ok.hd hc) it x t
    refine W.item i s _ _ hg' st fun v h' tk hv st' kk => ?_
    obtain ⟨c,u,hcx,rfl⟩ := hv
    have I1 : Inv X pins σ H { s with heap := h',toks := tk } := I.turned (fun b o hb e => kk b o (by simpa using hb) e) f0 f1 f3 f4 f5
    exact ⟨_,rfl,go_str ⟨.str ⟨#[c]⟩,H,I1,⟨u,rfl⟩,⟨rfl,c,by simpa using hcx,rfl⟩,st',fun b hb => (hf b hb).1⟩⟩
  done := by
    intro X hP hw hK hc i pins s σ H E I hf st hg
    subst hP hw hK
    obtain ⟨f0,f1,f2,f3,f4,f5⟩ := hf it (by simp)
    have hg : i = x.cps.toList.length := hg
    have hg' : i = x.cps.size := by simpa using hg
    subst hg'
    have W : Walks X.prog X.w X.A it [it] [it] x.cps.size (SignAt x) (fun i h => h.IsStrIter it ty x t i) := by
      rcases hty with rfl | rfl
      . exact Walks.strAscii (I.ok.hd hc) it x t
      . exact Walks.strWide (I.ok.hd hc) it x t
    exact W.done s _ _ st fun h' tk kk => ⟨rfl,I.turned (fun b o hb e => kk b o (by simpa using hb) e) f0 f1 f3 f4 f5⟩
  self := fun A i s Q E st h => by
    rcases hty with rfl | rfl
    . exact wpAny_pyIter_striter_ascii st h
    . exact wpAny_pyIter_striter_wide st h
section
variable {X : Cx} {tg : Expr}
def iStr (tl : TE) : TI := fun σ H R => tl σ H fun x H1 => ∃ y,x = .str y /\ R (Its y) H1
theorem qb9 {l : Expr} {tl : TE} (hl : PE X l tl) : PI X tg l (iStr tl) := by
  intro pins s σ H R I h
  refine thn (hl pins s σ H _ I h) fun v s1 ⟨x,H1,I1,r1,q1⟩ => ?_
  obtain ⟨y,e,q⟩ := q1
  subst e
  obtain ⟨t,rfl⟩ := r1
  have fin : ∀ (ty : String),(ty = "str_ascii_iterator" \/ ty = "str_iterator") -> PIE X pins σ tg R (.ref s1.heap.objs.size) { s1 with heap := s1.heap.push { cls := .type ty,data := .fields #[.str y t, .int 0 0] } } := fun ty hty => by
    refine ⟨s1.heap.objs.size,[s1.heap.objs.size],_,_,H1,rfl,I1.kept (t' := s1.toks) fun b o e => Heap.get?_push_of_some _ e,qh2 _ y t ty hty,⟨_,Heap.get?_push_size _ rfl,rfl,rfl⟩,fun b hb => ?_,q⟩
    have e : b = s1.heap.objs.size := by simpa using hb
    subst e
    exact I1.fpOk (Nat.le_refl _) (I1.hok.fresh (Nat.le_refl _))
  cases ha : y.cps.all (· < 128)
  . exact wpAny_pyIter_wide ha (fin _ (.inr rfl))
  . exact wpAny_pyIter_ascii ha (fin _ (.inl rfl))
end
section
variable {X : Cx}
theorem qa1 (bs : List Bool) : ((List.range bs.length).all fun i => bs.getD i false) = bs.all id := by
  rw [Bool.eq_iff_iff,List.all_eq_true,List.all_eq_true]
  constructor
  . intro h x hx
    obtain ⟨i,hi⟩ := List.getElem?_of_mem hx
    have hlt := (List.getElem?_eq_some_iff.mp hi).1
    have := h i (List.mem_range.mpr hlt)
    rw [List.getD_eq_getElem?_getD,hi] at this
    exact this
  . intro h i hi
    have hlt := List.mem_range.mp hi
    rw [List.getD_eq_getElem?_getD,List.getElem?_eq_getElem hlt]
    exact h _ (List.getElem_mem hlt)
theorem qgh (hc : X.calm = true) : q33 X (.builtin "all") (fun xs H Q => ∃ p, ∃ bs : List Bool,xs = [.ref p] /\ SqL X.K H p (bs.map V.bl) /\ Q (.bl (bs.all id)) H) := by
  intro pins s σ H xs us Q I r h
  obtain ⟨p,bs,rfl,hq,q⟩ := h
  obtain ⟨u,rfl,ru⟩ := vals1 r
  cases ru
  obtain ⟨its,rv,pl,hz⟩ := I.list hq
  have hlen : bs.length = its.length := by have := rv.length; simpa using this
  have hv : ∀ (i : Nat) v,its[i]? = some v -> v = .bool (bs.getD i false) := fun i v hi => by
    have hib : i < bs.length := by rw [hlen]; exact (List.getElem?_eq_some_iff.mp hi).1
    have hb : (bs.map V.bl)[i]? = some (.bl (bs.getD i false)) := by
      rw [List.getElem?_map,List.getElem?_eq_getElem hib,List.getD_eq_getElem?_getD,List.getElem?_eq_getElem hib]; rfl
    obtain ⟨u,hu,ru⟩ := rv.get hb
    rw [hi] at hu; cases hu
    exact ru
  have hne : p ≠ s.heap.objs.size := Nat.ne_of_lt (by obtain ⟨o,n,e,_⟩ := pl; exact Heap.lt_size e)
  refine call_all_walk ?_
  refine wpAny_pyIter_list pl.isList ?_
  refine ⟨s.heap.objs.size,_,_,its.toArray.size,_,_,fun i => bs.getD i false,rfl,Walks.list (A := X.A.in1) (I.ok.hd hc) s.heap.objs.size p hne its.toArray,⟨⟨_,Heap.get?_push_size _ rfl,rfl,rfl⟩,?_⟩,?_,?_⟩
  . exact pl.isList.at fun o e => Heap.get?_push_of_some _ e
  . intro i v s' Q' E' hP hQ'
    have hP : its.toArray[i]? = some v := hP
    rw [hv i v (by simpa using hP)]
    exact wpAny_truthy_bool hQ'
  . intro h' tk kk
    rw [List.size_toArray, <- hlen,qa1]
    refine ⟨.bl _,H,I.kept fun b o e => kk b o ?_ (Heap.get?_push_of_some _ e),rfl,q⟩
    intro z
    have z : b = s.heap.objs.size := by simpa using z
    exact absurd (z ▸ Heap.lt_size e) (Nat.lt_irrefl _)
def rSlS : V -> Option Int -> Option Int -> Hp -> VK -> Prop := fun x lo hi H Q => ∃ z,x = .str z /\ z.length <= sizeLine /\ Q (.str (Txt.slice z lo hi)) H
theorem qba : SlR X rSlS := by
  intro pins s σ H x v vl vu lo hi sl Q I rx hs pl pu h
  obtain ⟨z,rfl,hz,q⟩ := h
  obtain ⟨t,rfl⟩ := rx
  refine ⟨"str",_,F.slot_str_getitem.lookup,typeIs_str _ _ _,?_⟩
  obtain ⟨o,ho,hc,hd⟩ := hs
  have fin : ∀ (l u : Option (Int × Tok)),l.map (·.1) = lo -> u.map (·.1) = hi -> s.heap.IsSlice sl l u none -> wpAny (model X.prog X.w) X.A (getItem (.str z t) (.ref sl)) (EP X pins σ Q) X.xe s := fun l u hl hu hsl => by
    refine wpAny_getItem_str_slice hsl rfl ?_
    have e : sliceMade z t l u none = (if ((1 : Int) == 1 && (Builtin.Str.strSliceIndices lo hi 1 z.length).length == z.length) = true then Made.val (.str z t) else Made.str ⟨((Builtin.Str.strSliceIndices lo hi 1 z.length).filterMap (z.cps[·]?)).toArray⟩) := by
      unfold sliceMade slicePicked
      rw [hl,hu]
      rfl
    rw [e]
    refine post_val_or_str ⟨Nat.le_trans (Txt.slice_le z lo hi) hz,fun t' k => ⟨.str (Txt.slice z lo hi),H,I.tok k,⟨t',rfl⟩,q⟩⟩
  cases pl with
  | none =>
    cases pu with
    | none => exact fin none none rfl rfl ⟨o,ho,hc,hd⟩
    | int j tj => exact fin none (some (j,tj)) rfl rfl ⟨o,ho,hc,hd⟩
  | int i ti =>
    cases pu with
    | none => exact fin (some (i,ti)) none rfl rfl ⟨o,ho,hc,hd⟩
    | int j tj => exact fin (some (i,ti)) (some (j,tj)) rfl rfl ⟨o,ho,hc,hd⟩
theorem qf3 : OpR X (compareOp .In) (fun x y H Q => ∃ c z,x = .str ⟨#[c]⟩ /\ y = .str z /\ Q (.bl (decide (c ∈ z.cps.toList))) H) := by
  intro pins s σ H x y v u Q I rx ry h
  obtain ⟨c,z,rfl,rfl,q⟩ := h
  exact qea pins s σ H _ _ v u Q I rx ry ⟨_,_,rfl,rfl,by rw [PySem.StrLaws.found_one]; exact q⟩
theorem TyOf.kit {pins : List (Addr × Obj)} {σ : St} {H : Hp} {s : Shared} {x : V} {u t : Value} (I : Inv X pins σ H s) (rx : RelV x u) (ty : TyOf X.K H x t) : ∃ HH,PySem.W.KitX X.K u t HH /\ HH s.heap /\ u ≠ .builtin "__main__.__loader__#opaque" := by
  cases ty with
  | non => cases (show u = Value.none from rx); exact ⟨_,PySem.W.kitx_none,True.intro,fun z => nomatch z⟩
  | bl y => cases (show u = Value.bool y from rx); exact ⟨_,PySem.W.kitx_bool,True.intro,fun z => nomatch z⟩
  | int i => obtain ⟨t,q⟩ := (show ∃ t,u = Value.int i t from rx); cases q; exact ⟨_,PySem.W.kitx_int,True.intro,fun z => nomatch z⟩
  | str y => obtain ⟨t,q⟩ := (show ∃ t,u = Value.str y t from rx); cases q; exact ⟨_,PySem.W.kitx_str,True.intro,fun z => nomatch z⟩
  | flt y => obtain ⟨t,q⟩ := (show ∃ t,u = Value.float y t from rx); cases q; exact ⟨_,PySem.W.kitx_float,True.intro,fun z => nomatch z⟩
  | @lst a xs ea =>
    cases (show u = Value.ref a from rx)
    obtain ⟨_,_,n,_,h1⟩ := (show q2h X.prog X.w H s.heap a (.lst xs) from I.hok a _ ea)
    exact ⟨_,PySem.W.kitx_list,⟨_,h1,rfl⟩,fun z => nomatch z⟩
  | @frz a ob xs ea =>
    cases (show u = Value.ref a from rx)
    obtain ⟨_,_,_,n,_,h1⟩ := (show q2h X.prog X.w H s.heap a (.frz ob (.lst xs)) from I.hok a _ ea)
    exact ⟨_,PySem.W.kitx_list,⟨_,h1,rfl⟩,fun z => nomatch z⟩
  | @tup a xs ea =>
    cases (show u = Value.ref a from rx)
    obtain ⟨_,_,_,p⟩ := (show q2h X.prog X.w H s.heap a (.tup xs) from I.hok a _ ea)
    obtain ⟨o,h1,h2,_⟩ := p
    exact ⟨_,PySem.W.kitx_tuple,⟨o,h1,h2⟩,fun z => nomatch z⟩
  | @dK a kvs ea =>
    cases (show u = Value.ref a from rx)
    obtain ⟨_,_,vs,_,p⟩ := (show q2h X.prog X.w H s.heap a (.dK kvs) from I.hok a _ ea)
    obtain ⟨o,es,ep,h1,h2,_⟩ := p
    exact ⟨_,PySem.W.kitx_dict,⟨o,h1,h2.1⟩,fun z => nomatch z⟩
  | @dT a kvs ea =>
    cases (show u = Value.ref a from rx)
    obtain ⟨_,_,xs,_,o,es,ep,h1,h2,_⟩ := (show q2h X.prog X.w H s.heap a (.dT kvs) from I.hok a _ ea)
    exact ⟨_,PySem.W.kitx_dict,⟨o,h1,h2.1⟩,fun z => nomatch z⟩
  | @ins a C dx fs ea cl ha hn htk hm =>
    cases (show u = Value.ref a from rx)
    obtain ⟨mA,O,_⟩ := q7e I.hok ea
    obtain ⟨od,J,_⟩ := O.look
    exact ⟨_,PySem.W.kitx_own (cl.get _) cl.hd ha hn htk hm,J,fun z => nomatch z⟩
end
end L2
namespace L2
open PySem PySem.Spec PyProof.Rows
section
variable {X : Cx}
theorem q6h {x : Str} {i : Int} {pos : Pos} (hg : Gl X x) (hm : ∃ t,X.mg x = some (.int i t)) (hd : (x == ("__debug__" : Str)) = false := by decide) : PE X (.Name x pos) (tC (.int i)) :=
  let ⟨t,e⟩ := hm; q3f (v := .int i) hg e ⟨t,rfl⟩ hd
theorem qhf {x y : Str} {pos : Pos} (hg : Gl X x) (hm : ∃ t,X.mg x = some (.str y t)) (hd : (x == ("__debug__" : Str)) = false := by decide) : PE X (.Name x pos) (tC (.str y)) :=
  let ⟨t,e⟩ := hm; q3f (v := .str y) hg e ⟨t,rfl⟩ hd
end
end L2
namespace L2
open PySem PySem.Spec PyProof.Rows
section
variable {X : Cx} {K : PySem.W.Frag}
theorem q65 (h : X.K = K) : IxR X (rIx K) := h ▸ q1h
end
end L2
namespace L2
open PySem PySem.Spec PyProof.Rows
def TrQ (h B : Heap) (e : Addr) (cls fl : Value) : Prop :=
  ∃ oe vs T oT ts,h.get? e = some oe /\ oe.cls = cls /\ oe.data = .fields vs /\ vs[1]? = some (.ref T) /\ vs[2]? = some .none /\ B.get? T = none /\ T ≠ e /\ h.get? T = some oT /\ oT.data = .fields ts /\ ts[3]? = some fl
structure At (B : Heap) (l : List Env) (e : Addr) (cls fl : Value) (h : Heap) : Prop where
  st : B.StaysIn h
  nw : B.get? e = none
  fr : h.FunFrames B l
  tr : TrQ h B e cls fl
theorem TrQ.first {h B : Heap} {e : Addr} {cls fl : Value} (x : TrQ h B e cls fl) : ∃ o vs,h.get? e = some o /\ o.cls = cls /\ o.data = .fields vs /\ vs[2]? = some .none :=
  let ⟨oe,vs,_,_,_,h1,h2,h3,_,h4,_⟩ := x; ⟨oe,vs,h1,h2,h3,h4⟩
section
variable {M : Model} {A : Around} {E : Value -> Shared -> Prop} {s : Shared} {B : Heap} {env : Env} {outer : List Env} {L e : Addr} {oe : Obj} {vs : Array Value} {head cls fl : Value} {hadNext : Bool} {Q : Unit -> Shared -> Prop}
theorem qau (hfr : A.frames = some (env :: outer)) (hl : s.heap.FunFrames B (env :: outer)) (hf : env.frame = some L) (he : s.heap.get? e = some oe) (hkb : B.StaysIn s.heap) (hen : B.get? e = none) (hd : oe.data = .fields vs)
    (hsz : 1 < vs.size) (h2 : vs[2]? = some .none) (h : ∀ h',At B (env :: outer) e oe.cls (rawInt L) h' -> s.heap.UpToSlots h' -> Q () { s with heap := h' }) :
    wpAny M A (do let a <- frameOf env; let pl <- entryPlaceOf L hadNext; let b <- EntryCells.newEntry head a .none (rawInt L) .none pl; setField (.ref e) 1 b) Q E s := by
  have hene : e ∉ (env :: outer).filterMap (·.frame) := fun hm => by
    obtain ⟨_,o,ho,hnf⟩ := hl.mem hm
    rw [he] at ho; cases ho; exact hnf vs hd
  refine wpAny_bind (wpAny_frameOf_fun hfr hl hf fun h₁ hs₁ => ?_)
  refine wpAny_bind (wpAny_entryPlaceOf fun pl hpl => ?_)
  unfold EntryCells.newEntry newFields
  refine wpAny_bind (wpAny_newObj_type ?_ (hpl.sizeOk5 _ _ _ _ _))
  have he₁ : h₁.get? e = some oe := (hs₁.2.1 e hene).trans he
  have kb₁ : B.StaysIn h₁ := fun b o hbo => (hs₁.2.1 b fun hm => by rw [(hl.mem hm).1] at hbo; cases hbo).trans (hkb b o hbo)
  generalize hT : ([head, .ref L, .none,rawInt L, .none] ++ (if pl.isEmpty then List.replicate 6 Value.none else pl)).toArray = tb
  have htb : tb[3]? = some (rawInt L) := by subst hT; rcases hpl with rfl | ⟨_,_,_,_,_,_,_,rfl⟩ <;> simp
  have he₂ := Heap.get?_push_of_some (h := h₁) { cls := .type "traceback",dict := none,data := .fields tb } he₁
  refine wpAny_setField he₂ hd hsz (h _ ?_ fun b o hb hnf => ?_)
  . have hTe : h₁.objs.size ≠ e := Nat.ne_of_gt (Heap.lt_size he₁)
    have hd₃ := Obj.data_mapFields hd (·.setIfInBounds 1 (Value.ref h₁.objs.size))
    have he₃ := Heap.get?_update_self (Obj.mapFields (·.setIfInBounds 1 (Value.ref h₁.objs.size))) he₂ (Obj.isFreed_of_fields hd₃)
    have hT₃ := (Heap.get?_update_other (h₁.push { cls := .type "traceback",dict := none,data := .fields tb }) (Obj.mapFields (·.setIfInBounds 1 (Value.ref h₁.objs.size))) (Ne.symm hTe)).trans (Heap.get?_push_size h₁ rfl)
    have keep : ∀ b o,b ≠ e -> h₁.get? b = some o -> ((h₁.push { cls := .type "traceback",dict := none,data := .fields tb }).update e (Obj.mapFields (·.setIfInBounds 1 (Value.ref h₁.objs.size)))).get? b = some o := fun b o hbe hb => by
      rw [Heap.get?_update_other _ _ (Ne.symm hbe)]
      exact Heap.get?_push_of_some _ hb
    refine ⟨fun b o hbo => keep b o (fun q => by rw [q,hen] at hbo; cases hbo) (kb₁ b o hbo),hen,hl.of_keeps fun b o hb hnf => ?_,?_⟩
    . obtain ⟨sl,hs⟩ := hs₁.2.2 b o hb
      exact ⟨_,keep b _ (fun q => by rw [q,he] at hb; cases hb; exact hnf vs hd) hs,rfl⟩
    . exact ⟨_,_,h₁.objs.size,_,_,he₃,Obj.cls_mapFields _ _,hd₃,by simp [hsz],by rw [Array.getElem?_setIfInBounds_ne (by decide)]; exact h2,kb₁.fresh,hTe,hT₃,rfl,htb⟩
  . obtain ⟨sl,hs⟩ := hs₁.2.2 b o hb
    refine ⟨sl,?_⟩
    rw [Heap.get?_update_other _ _ (fun q => by rw [<- q,he] at hb; cases hb; exact hnf vs hd)]
    exact Heap.get?_push_of_some _ hs
theorem qc5 (hfr : A.frames = some (env :: outer)) (hl : s.heap.FunFrames B (env :: outer)) (hf : env.frame = some L) (he : s.heap.get? e = some oe) (hkb : B.StaysIn s.heap) (hen : B.get? e = none) (hd : oe.data = .fields vs)
    (h1 : vs[1]? = some .none) (h2 : vs[2]? = some .none) (h : ∀ h',At B (env :: outer) e oe.cls (rawInt L) h' -> s.heap.UpToSlots h' -> Q () { s with heap := h' }) : wpAny M A (noteFrame (.ref e) env) Q E s := by
  unfold noteFrame
  simp only [hf]
  refine wpAny_bind (wpAny_field he hd h1 ?_)
  rw [if_neg (by decide)]
  exact qau hfr hl hf he hkb hen hd (Array.getElem?_eq_some_iff.mp h1).1 h2 h
theorem q8x (hfr : A.frames = some (env :: outer)) (hf : env.frame = some L) (x : At B (env :: outer) e cls .none s.heap)
    (h : ∀ h',At B (env :: outer) e cls (rawInt L) h' -> s.heap.UpToSlots h' -> Q () { s with heap := h' }) : wpAny M A (noteFrame (.ref e) env) Q E s := by
  obtain ⟨hkb,hen,hl,oe,vs,T,oT,ts,he,hcls,hd,h1,h2,hnT,hTe,hT,hdT,h3⟩ := x
  subst hcls
  unfold noteFrame
  simp only [hf]
  refine wpAny_bind (wpAny_field he hd h1 ?_)
  rw [if_pos (show (Value.ref T != Value.none) = true from by simp)]
  refine wpAny_bind (wpAny_field hT hdT h3 ?_)
  rw [if_neg (show ¬ ((Value.none == rawInt L) = true) from by simp [rawInt])]
  refine wpAny_bind (wpAny_setField hT hdT (Array.getElem?_eq_some_iff.mp h3).1 ?_)
  have other : ∀ b,b ≠ T -> (s.heap.update T (Obj.mapFields (·.setIfInBounds 3 Value.none))).get? b = s.heap.get? b := fun b hb => Heap.get?_update_other _ _ (Ne.symm hb)
  have noRecord : ∀ b o,s.heap.get? b = some o -> (∀ vs,o.data ≠ .fields vs) -> b ≠ T := fun b o hb hnf q => by
    rw [q,hT] at hb; cases hb; exact hnf ts hdT
  refine qau hfr (hl.of_keeps fun b o hb hnf => ⟨o,(other b (noRecord b o hb hnf)).trans hb,rfl⟩) hf ((other e (Ne.symm hTe)).trans he)
    (fun b o hbo => (other b fun q => by rw [q,hnT] at hbo; cases hbo).trans (hkb b o hbo)) hen hd (Array.getElem?_eq_some_iff.mp h1).1 h2 fun h' x1 x2 => h h' x1 fun b o hb hnf => x2 b o ((other b (noRecord b o hb hnf)).trans hb) hnf
theorem q5y {l : List Env} (x : At B l e cls fl s.heap) (h : ∀ h',At B l e cls .none h' -> s.heap.UpToSlots h' -> Q () { s with heap := h' }) : wpAny M A (setFlight (.ref e) none) Q E s := by
  obtain ⟨hkb,hen,hl,oe,vs,T,oT,ts,he,hcls,hd,h1,h2,hnT,hTe,hT,hdT,h3⟩ := x
  have hsz3 : 3 < ts.size := (Array.getElem?_eq_some_iff.mp h3).1
  have other : ∀ b,b ≠ T -> (s.heap.update T (Obj.mapFields (·.setIfInBounds 3 ((none : Option Addr).elim Value.none fun f => rawInt f)))).get? b = s.heap.get? b := fun b hb => Heap.get?_update_other _ _ (Ne.symm hb)
  have noRecord : ∀ b o,s.heap.get? b = some o -> (∀ vs,o.data ≠ .fields vs) -> b ≠ T := fun b o hb hnf q => by
    rw [q,hT] at hb; cases hb; exact hnf ts hdT
  unfold setFlight
  refine wpAny_bind (wpAny_field he hd h1 ?_)
  rw [if_pos (show (Value.ref T != Value.none) = true from by simp)]
  refine wpAny_setField hT hdT hsz3 (h _ ⟨fun b o hbo => (other b fun q => by rw [q,hnT] at hbo; cases hbo).trans (hkb b o hbo),hen,
    hl.of_keeps fun b o hb hnf => ⟨o,(other b (noRecord b o hb hnf)).trans hb,rfl⟩,?_⟩ fun b o hb hnf => ⟨o.slots,(other b (noRecord b o hb hnf)).trans hb⟩)
  exact ⟨oe,vs,T,_,_,(other e (Ne.symm hTe)).trans he,hcls,hd,h1,h2,hnT,hTe,Heap.get?_update_self _ hT (Obj.isFreed_of_fields (Obj.data_mapFields hdT _)),Obj.data_mapFields hdT _,by simp [hsz3]⟩
theorem At.pop {l : List Env} {h : Heap} (x : At B (env :: l) e cls fl h) : At B l e cls fl h := ⟨x.st,x.nw,x.fr.2.2,x.tr⟩
theorem qc3 {h : Heap} {args : List Value} (hfr : A.frames = some (env :: outer)) (hf : env.frame = some L) (hkb : B.StaysIn h) (hl : h.FunFrames B (env :: outer)) (hx : Heap.MadeExcOf h s.heap e cls args)
    (hQ : ∀ h',At B outer e cls .none h' -> s.heap.UpToSlots h' -> Q () { s with heap := h' }) : wpAny M A (leaving env (.ref e)) Q E s := by
  obtain ⟨t,he,htn,ht⟩ := hx.there
  have fresh : ∀ b,h.get? b = none -> B.get? b = none := fun b hb => by
    cases hq : B.get? b with
    | none => rfl
    | some o' => have := hkb b o' hq; rw [hb] at this; cases this
  unfold leaving
  refine wpAny_bind (qc5 hfr (hl.of_keeps fun b o hb _ => ⟨o,hx.keeps b o hb,rfl⟩) hf he (fun b o hb => hx.keeps b o (hkb b o hb)) (fresh e hx.new) rfl rfl rfl fun h' x up => ?_)
  exact q5y x fun h'' x' up' => hQ h'' x'.pop (up.trans up')
theorem qfu (hfr : A.frames = some (env :: outer)) (hf : env.frame = some L) (x : At B (env :: outer) e cls .none s.heap) (hQ : ∀ h',At B outer e cls .none h' -> s.heap.UpToSlots h' -> Q () { s with heap := h' }) :
    wpAny M A (leaving env (.ref e)) Q E s := by
  unfold leaving
  refine wpAny_bind (q8x hfr hf x fun h' x up => ?_)
  exact q5y x fun h'' x' up' => hQ h'' x'.pop (up.trans up')
end
end L2
namespace L2
open PySem PySem.Spec PyProof.Rows
structure Fly (P : Program) (w : World) (outer : List Env) (H : Hp) (s : Shared) (a C : Addr) (H' : Hp) (B : Heap) (s' : Shared) : Prop where
  os : s'.os = s.os
  bare : AllBare s'.gens
  hok : HOk P w H' B
  kp : ∀ b o,s.heap.get? b = some o -> H b = none -> b ∉ frs outer -> B.get? b = some o
  th : ∀ b o,s.heap.get? b = some o -> b ∉ frs outer -> ∃ o',B.get? b = some o'
  un : Un (frs outer) [] H H' s.heap s'.heap
  fly : At B outer a (.ref C) .none s'.heap
def CX1 (P : Program) (w : World) : CXT := fun outer H s E e s' => ∃ a C H' B,e = .ref a /\ Fly P w outer H s a C H' B s' /\ E (.ref C) none H'
section
variable {P : Program} {w : World} {outer : List Env} {H H' : Hp} {s s' : Shared} {a C : Addr} {B : Heap}
theorem Fly.on (F : Fly P w outer H s a C H' B s') (ff : ∀ b ∈ frs outer,H b = none /\ ∃ o,s.heap.get? b = some o /\ ∀ vs,o.data ≠ .fields vs) {h' : Heap} (fl : At B outer a (.ref C) .none h') (up : s'.heap.UpToSlots h') :
    Fly P w outer H s a C H' B { s' with heap := h' } where
  os := F.os
  bare := F.bare
  hok := F.hok
  kp := F.kp
  th := F.th
  fly := fl
  un := by
    have sl : ∀ b o,s.heap.get? b = some o -> b ∈ frs outer -> ∃ sl,h'.get? b = some { o with slots := sl } := fun b o q hf => by
      obtain ⟨n,o1,q1,nd⟩ := ff b hf
      rw [q] at q1; cases q1
      obtain ⟨sl,e⟩ := F.un.slot b o q n hf (by simp)
      obtain ⟨sl',e'⟩ := up b _ e nd
      exact ⟨sl',e'⟩
    refine ⟨fun b o q n nf _ => fl.st b o (F.kp b o q n nf),fun b o q n hf _ => sl b o q hf,F.un.free,fun b o q hx => ?_,F.un.tups,F.un.frzs,F.un.tbls⟩
    by_cases hb : b ∈ frs outer
    . obtain ⟨sl',e⟩ := sl b o q hb
      exact ⟨_,e⟩
    . obtain ⟨o',e⟩ := F.th b o q hb
      exact ⟨o',fl.st b o' e⟩
end
section
variable {X : Cx} {pins : List (Addr × Obj)} {σ : St} {H H' : Hp} {s s' : Shared} {a C : Addr} {B : Heap}
theorem Inv.ff (I : Inv X pins σ H s) : ∀ b ∈ frs X.stack,H b = none /\ ∃ o,s.heap.get? b = some o /\ ∀ vs,o.data ≠ .fields vs := fun b hb => ⟨I.q7f b hb,(I.stack.mem hb).2⟩
theorem Inv.ff0 (I : Inv X pins σ H s) : ∀ b ∈ frs X.outer,X.H₀ b = none /\ ∃ o,X.s₀.heap.get? b = some o /\ ∀ vs,o.data ≠ .fields vs := fun b hb => ⟨I.ok.frf b hb,(I.ok.funs.mem hb).2⟩
theorem Fly.inv (I : Inv X pins σ H s) (F : Fly X.prog X.w X.stack H s a C H' B s') : Inv X pins σ H' s' := by
  exact I.qa2 F.os F.un (F.hok.kept F.fly.st) F.bare fun b hb => absurd hb (by simp)
theorem qcx (I : Inv X pins σ H s) (st : X.stack = X.env :: X.outer) (ex : X.ex = []) (os : s'.os = s.os) (bare : AllBare s'.gens) (hok : HOk X.prog X.w H' B)
    (k1 : ∀ b o,s.heap.get? b = some o -> H b = none -> b ∉ frs X.stack -> B.get? b = some o) (k2 : ∀ b o,s.heap.get? b = some o -> b ∉ frs X.stack -> ∃ o',B.get? b = some o')
    (un : Un (frs X.stack) [] H H' s.heap s'.heap) (st' : B.StaysIn s'.heap) {h'' : Heap} (fl : At B X.outer a (.ref C) .none h'') (up : s'.heap.UpToSlots h'') : Fly X.prog X.w X.outer X.H₀ X.s₀ a C H' B { s' with heap := h'' } := by
  have I' : Inv X pins σ H' s' := I.qa2 os un (hok.kept st') bare fun b hb => absurd hb (by simp)
  have nst : ∀ b o,X.s₀.heap.get? b = some o -> b ∉ frs X.outer -> b ∉ frs X.stack := fun b o q nf hb => by
    rcases List.mem_cons.mp (I.q4h b hb) with z | z
    . have e1 := Heap.lt_size q
      have e2 := I.ok.above
      rw [z] at e1
      exact absurd e1 (Nat.not_lt.mpr e2)
    . exact nf z
  have nex : ∀ b,b ∉ X.ex := fun b => by rw [ex]; simp
  have kk : ∀ b o,X.s₀.heap.get? b = some o -> X.H₀ b = none -> b ∉ frs X.outer -> B.get? b = some o := fun b o q n nf =>
    k1 b o (I.base.keep b o q n nf (nex b)) (I.base.free b o q n (nex b)) (nst b o q nf)
  have tt : ∀ b o,X.s₀.heap.get? b = some o -> b ∉ frs X.outer -> ∃ o',B.get? b = some o' := fun b o q nf => by
    obtain ⟨o1,e1⟩ := I.base.there b o q (nex b)
    exact k2 b o1 e1 (nst b o q nf)
  have sl : ∀ b o,X.s₀.heap.get? b = some o -> b ∈ frs X.outer -> ∃ sl,h''.get? b = some { o with slots := sl } := fun b o q hf => by
    obtain ⟨n,o1,q1,nd⟩ := I.ff0 b hf
    rw [q] at q1; cases q1
    obtain ⟨sl,e⟩ := I'.base.slot b o q n hf (nex b)
    obtain ⟨sl',e'⟩ := up b _ e nd
    exact ⟨sl',e'⟩
  refine ⟨os.trans I.os,bare,hok,kk,tt,?_,fl⟩
  refine ⟨fun b o q n nf _ => fl.st b o (kk b o q n nf),fun b o q n hf _ => sl b o q hf,fun b o q n _ => I'.base.free b o q n (nex b),fun b o q hx => ?_,I'.base.tups,I'.base.frzs,I'.base.tbls⟩
  by_cases hb : b ∈ frs X.outer
  . obtain ⟨sl',e⟩ := sl b o q hb
    exact ⟨_,e⟩
  . obtain ⟨o',e⟩ := tt b o q hb
    exact ⟨o',fl.st b o' e⟩
structure Out (X : Cx) (E : XK) : Prop where
  st : X.stack = X.env :: X.outer
  fr : X.env.frame = some X.env.locals
  ex : X.ex = []
  pass : ∀ a s',wpAny (model X.prog X.w) X.A (leaving X.env (.ref a)) (fun _ s'' => CX1 X.prog X.w X.outer X.H₀ X.s₀ E (.ref a) s'') (fun _ _ => False) s' -> X.xe (.ref a) s'
theorem Out.passes {E : XK} (O : Out X E) : Passes (CX1 X.prog X.w) X E := by
  intro pins σ H s e s' I hx
  obtain ⟨a,C,H',B,rfl,F,q⟩ := hx
  refine O.pass a s' (qfu (by rw [I.ok.frames,O.st]) O.fr (by rw [<- O.st]; exact F.fly) fun h' fl' up => ?_)
  exact ⟨a,C,H',B,rfl,qcx I O.st O.ex F.os F.bare F.hok F.kp F.th F.un F.fly.st fl' up,q⟩
theorem Out.raised {E : XK} (O : Out X E) (I : Inv X pins σ H s) {h1 : Heap} {vs : List Value} (hx : Heap.MadeExcOf s.heap h1 a (.ref C) vs) (q : E (.ref C) none H) : X.xe (.ref a) { s with heap := h1 } := by
  have keep : ∀ b o,s.heap.get? b = some o -> b ∉ frs X.stack -> (PySem.W.hideAll s.heap (frs X.stack)).get? b = some o := fun b o e nb => PySem.W.hideAll_get _ e nb
  have hst : (PySem.W.hideAll s.heap (frs X.stack)).StaysIn s.heap := fun b o e => PySem.W.of_hideAll _ e
  have hff : s.heap.FunFrames (PySem.W.hideAll s.heap (frs X.stack)) (X.env :: X.outer) := by
    rw [<- O.st]
    exact PySem.W.funFrames_hide I.stack fun env he b hb => List.mem_filterMap.mpr ⟨env,he,hb⟩
  refine O.pass a _ (qc3 (h := s.heap) (B := PySem.W.hideAll s.heap (frs X.stack)) (by rw [I.ok.frames,O.st]) O.fr hst hff hx fun h' fl up => ?_)
  refine ⟨a,C,H,_,rfl,qcx (s' := { s with heap := h1 }) (H' := H) I O.st O.ex rfl I.bare (fun b u e => ?_) (fun b o e n nb => keep b o e nb) (fun b o e nb => ⟨o,keep b o e nb⟩) (Un.kept hx.keeps) (fun b o e => hx.keeps b o (hst b o e)) fl up,q⟩
  refine (I.hok b u e).stay (fun c v hc z => keep c v z ?_) (fun _ z => z) fun _ _ z => z
  intro hm
  have n := I.q7f c hm
  rcases hc with rfl | hc
  . rw [e] at n; cases n
  . rw [hc] at n; cases n
end
end L2
namespace L2
open PySem PySem.Spec PyProof.Rows
theorem qhz {K : PySem.W.Frag} {h : Heap} {C : Addr} {bmB : List Value} {newId : String} (X : K.In h) (q : PySem.W.excIn K C bmB newId = true) :
    ∃ bm N nm q bs hdct sn sub ab col dd k0 k1 k2 k3 k5 mN,h.get? C = some (excClassObj nm q C N bs bm hdct sn sub ab col dd k0 k1 k2 k3 k5 newId) /\ h.Ns N mN /\ mN "__init__" = none /\ OwnTail h bmB bm := by
  unfold PySem.W.excIn at q
  split at q
  . rename_i dd cd sl ho
    split at q
    . rename_i C' bm k0 k1 k2 k3 n k5 hm hs
      simp only [Bool.and_eq_true,beq_iff_eq,Bool.not_eq_true'] at q
      obtain ⟨⟨⟨⟨⟨rfl,rfl⟩,hdel⟩,ht⟩,hok⟩,hni⟩ := q
      obtain ⟨nm,bs,mro,ns,qn,hd,sn,sub,ab,col,del⟩ := cd
      dsimp only at hm hdel hok hni
      subst hm hdel
      have hsl : sl = #[k0,k1,k2,k3,some (.builtin n),k5] := by
        obtain ⟨l⟩ := sl
        simp only at hs
        rw [hs]
      subst hsl
      exact ⟨bm,ns,nm,qn,bs,hd,sn,sub,ab,col,dd,k0,k1,k2,k3,k5,_,X _ _ ho, .of_isNs (PySem.W.isNs_of_in X hok),PySem.W.nsMap_none_of_in X hok hni,PySem.W.tail_of_in X ht⟩
    . cases q
  . cases q
def qfw (C : Addr) (E : XK) (t : TA) : TS := fun _ σ H => t σ H fun vs H1 => vs.length <= sizeLine /\ E (.ref C) none H1
section
variable {X : Cx} {E : XK} {x : Str} {C : Addr} {B Bn newId nid initId inN : String} {bmN bmB : List Value} {e : Expr} {es : List Expr} {t : TA} {np cpos pos : Pos}
theorem q5l (O : Out X E) (hh : X.A.handled = none) (hg : Gl X x) (hm : X.mg x = some (.ref C)) (hx : PySem.W.excIn X.K C bmB newId = true) (Fn : ExcBaseFacts Bn newId inN bmN) (hBn : bmB.contains (.type Bn) = true)
    (FB : ExcBaseFacts B nid initId bmB) (ha : PA X (e :: es) t) (hdb : (x == ("__debug__" : Str)) = false := by decide) (he : starEach (e :: es) X.env = (false,eval e X.env) :: starEach es X.env := by rfl)
    (hpl : (backTo cpos (starEach es X.env)).any (·.1) = false := by rfl) : PS X (.Raise (some (.Call (.Name x np) (e :: es) [] cpos)) none pos) (qfw C E t) := by
  intro pins s σ H D I h
  obtain ⟨tl,N,nm,q,bs,hdct,sn,sub,ab,col,dd,k0,k1,k2,k3,k5,mN,hC,hN,hni,T⟩ := qhz I.ok.mod.kin hx
  refine wpAny_Raise_call_subU (C := C) (nm := nm) (q := q) (N := N) (bs := bs) (bm := tl) (hdct := hdct) (sn := sn) (sub := sub) (ab := ab) (col := col) (dd := dd) (k0 := k0) (k1 := k1) (k2 := k2) (k3 := k3) (k5 := k5)
    Fn hBn FB (mN := mN) (T.hasType FB.hasBase) hh (by rw [he]; show (false || (backTo cpos (starEach es X.env)).any (·.1)) = false; rw [hpl]; rfl) hni (q4d I hg hm ⟨rfl,?_⟩ hdb)
  have h' := ha cpos pins s σ H _ I h
  rw [he] at h' ⊢
  refine Calls.evalArgs_plain (wpAny_mono h' (fun us s₂ h₂ => ?_) fun _ _ y => y)
  obtain ⟨vs,H2,I2,r,hl,qE⟩ := h₂
  exact ⟨rfl,by rw [<- r.length]; exact hl,I2.bk _ _ hC,hN.keeps I2.bk,T.keeps I2.bk,fun h1 a mx => O.raised I2 mx qE⟩
end
abbrev TX := St -> Hp -> VK -> XK -> Prop
def PX (X : Cx) (e : Expr) (t : TX) : Prop :=
  ∀ (pins : List (Addr × Obj)) (s : Shared) (σ : St) (H : Hp) (Q : VK) (E : XK),Inv X pins σ H s -> t σ H Q E ->
    wpAny (model X.prog X.w) X.A (eval e X.env) (EP X pins σ Q) (fun e s' => ∃ H1 s1,Inv X pins σ H1 s1 /\ CX1 X.prog X.w X.stack H1 s1 E e s') s
def qep (sp : Sp) (dvs : List V) (t : TA) : TX := fun σ H Q E => t σ H fun vs H1 => sp (vs ++ dvs) H1 Q E
section
variable {X : Cx} {k : Nat} {f C : Addr} {fd : FuncData} {ps : List Str} {sp : Sp} {dvs : List V} {ds : List Value} {x m : Str} {p pos apos : Pos} {e o : Expr} {es : List Expr} {ta : TE} {t : TA}
theorem qhp {pins : List (Addr × Obj)} {σ : St} {H : Hp} {s : Shared} {Q : VK} {E : XK} {us : List Value} {vs : List V} (F : FnOk X.prog X.w X.K X.mg X.base (CX1 X.prog X.w) k f fd ps sp) (hr : Room k X.A) (hb : Binds X.K fd ps ds) (hd : Vals dvs ds)
    (I : Inv X pins σ H s) (r : Vals vs us) (h : sp (vs ++ dvs) H Q E) : wpAny (model X.prog X.w) X.A (call (.ref f) us) (EP X pins σ Q) (fun e s' => ∃ H1 s1,Inv X pins σ H1 s1 /\ CX1 X.prog X.w X.stack H1 s1 E e s') s := by
  have r2 : Vals (vs ++ dvs) (us ++ ds) := r.append hd
  have hl : (us ++ ds).length = ps.length := by rw [<- r2.length]; exact F.len _ _ _ _ h
  refine wpAny_call (codeAny_mono (F.run X.A X.stack s H ⟨us,[]⟩ (us ++ ds) (vs ++ dvs) Q E hr I.env0 (hb s us I.kIn hl) r2 h) fun r s' hq => ?_)
  cases r with
  | error e => exact ⟨H,s,I,hq⟩
  | ok fl =>
    cases fl with
    | ret u => exact I.after hq
    | next => exact False.elim hq
    | brk => exact False.elim hq
    | cont => exact False.elim hq
theorem qie (F : FnOk X.prog X.w X.K X.mg X.base (CX1 X.prog X.w) k f fd ps sp) (hr : Room k X.A) (hg : Gl X x) (hm : X.mg x = some (.ref f)) (hk : PySem.W.keepIn X.K (.ref f) = true) (hb : Binds X.K fd ps ds) (hd : Vals dvs ds)
    (ha : PA X.nox (e :: es) t) (hdb : (x == ("__debug__" : Str)) = false := by decide) (he : starEach (e :: es) X.env = (false,eval e X.env) :: starEach es X.env := by rfl) (hpl : (backTo pos (starEach es X.env)).any (·.1) = false := by rfl) :
    PX X (.Call (.Name x p) (e :: es) [] pos) (qep sp dvs t) := by
  intro pins s σ H Q E I h
  refine wpAny_Call_Name_kw (q4d I hg hm ?_ hdb)
  refine PySem.W.callWith_K (h₀ := X.base) I.ok.mod.kin hk (wpAny_mono (ha pos pins s σ H _ (I.wish _) h) (fun us s1 ⟨vs,H1,I1,r,q⟩ => ⟨I1.kIn,?_⟩) fun _ _ z => False.elim z) he hpl
  exact qhp F hr hb hd I1.q3x r q
end
def excO (a C : Addr) : HO := .ext fun h => ∃ o vs,h.get? a = some o /\ o.cls = .ref C /\ o.data = .fields vs /\ vs[2]? = some .none
abbrev Cx.inx (X : Cx) (a : Addr) : Cx := { X with A := X.A.mark (some (.ref a)),calm := false,xe := fun _ _ => False }
section
variable {X : Cx} {pins : List (Addr × Obj)} {σ : St} {H : Hp} {s : Shared} {a : Addr}
theorem Inv.inx (I : Inv X pins σ H s) (a : Addr) : Inv (X.inx a) pins σ H s :=
  have ok := I.ok
  ⟨⟨ok.mod,ok.kind,ok.glob,ok.blt,ok.above,ok.inj,ok.has,ok.cab,(fun z => by cases z),ok.frames,ok.stk,ok.exf,ok.bs,ok.bsz,ok.noex,ok.exfs,ok.funs,ok.frf⟩,I.os,I.bare,I.base,I.loc,I.cell,I.free,I.freeC,I.pin,I.hok,I.len⟩
theorem Inv.uninx {a : Addr} (J : X.Ok) (I : Inv (X.inx a) pins σ H s) : Inv X pins σ H s := ⟨J,I.os,I.bare,I.base,I.loc,I.cell,I.free,I.freeC,I.pin,I.hok,I.len⟩
theorem Inv.track2 {o : HO} (I : Inv X pins σ H s) (ha : H a = none) (h0 : X.s₀.heap.get? a = none) (hL : a ≠ X.env.locals) (hc : ∀ x c,X.env.cells.lookup x = some c -> c ≠ a) (hp : ∀ p ∈ X.pn ++ pins,p.1 ≠ a)
    (new : q2h X.prog X.w (upd H a o) s.heap a o) : Inv X pins σ (upd H a o) s := by
  have un : ∀ {b u},H b = some u -> upd H a o b = some u := fun {b u} e => by rw [q1e (q3i e ha)]; exact e
  refine ⟨I.ok,I.os,I.bare,⟨I.base.keep,I.base.slot,fun b ob q n hx => ?_,I.base.there,fun b xs q => un (I.base.tups b xs q),fun b ob u q => un (I.base.frzs b ob u q),fun b ps q => ?_⟩,I.loc,I.cell,?_,fun x c e => ?_,fun p hpp => ?_,fun b u e => ?_,I.len⟩
  . rw [q1e (fun z => by rw [z,h0] at q; cases q)]; exact I.base.free b ob q n hx
  . obtain ⟨more,e⟩ := I.base.tbls b ps q
    exact ⟨more,un e⟩
  . rw [q1e (Ne.symm hL)]; exact I.free
  . rw [q1e (hc x c e)]; exact I.freeC x c e
  . obtain ⟨e,n,r⟩ := I.pin p hpp
    exact ⟨e,by rw [q1e (hp p hpp)]; exact n,r⟩
  . by_cases hb : b = a
    . subst hb
      rw [q24] at e; cases e
      exact new
    . rw [q1e hb] at e
      exact (I.hok b u e).stay (fun c v _ q => q) (fun c q => un q) fun c xs q => un q
theorem Inv.unset {j : Nat} {y : Str} {m : Str -> Option Value} {h' : Heap} {v : Option Value} {t' : Nat} (I : Inv X pins σ H s) (hN : X.N.Nodup) (hj : X.N[j]? = some y) (hn : s.heap.Ns X.env.locals m)
    (hl : ∀ (i : Nat) (x : Str) (v : V),X.N[i]? = some x -> σ[i]? = some (some v) -> Vis X.env.scope x -> ∃ u,RelV v u /\ Look X.env s.heap m x u)
    (hn' : h'.Ns X.env.locals (fun x => if x = y then v else m x)) (hs : Heap.SameBut X.env.locals s.heap h') : Inv X pins (σ.set j none) H { s with heap := h',toks := t' } := by
  have hjσ : j < σ.length := by rw [I.len]; exact (List.getElem?_eq_some_iff.mp hj).1
  have cne := I.cne
  refine ⟨I.ok,I.os,I.bare,⟨fun b o e n hb hx => ?_,fun b o e n hb hx => ?_,I.base.free,fun b o e hx => ?_,I.base.tups,I.base.frzs,I.base.tbls⟩,⟨_,hn',fun i x v' e1 e2 e3 => ?_⟩,fun x c e => ?_,I.free,I.freeC,fun p hp => ?_,fun b ob e => ?_,by simpa using I.len⟩
  . exact (hs.2 b (Nat.ne_of_lt (Nat.lt_of_lt_of_le (Heap.lt_size e) I.ok.above))).trans (I.base.keep b o e n hb hx)
  . obtain ⟨sl,e1⟩ := I.base.slot b o e n hb hx
    exact ⟨sl,(hs.2 b (Nat.ne_of_lt (Nat.lt_of_lt_of_le (Heap.lt_size e) I.ok.above))).trans e1⟩
  . obtain ⟨o',e1⟩ := I.base.there b o e hx
    exact ⟨o',(hs.2 b (Nat.ne_of_lt (Nat.lt_of_lt_of_le (Heap.lt_size e) I.ok.above))).trans e1⟩
  . by_cases hij : i = j
    . subst hij
      rw [List.getElem?_set_self hjσ] at e2
      cases e2
    . rw [List.getElem?_set_ne (Ne.symm hij)] at e2
      obtain ⟨u',r',q⟩ := hl i x v' e1 e2 e3
      refine ⟨u',r',?_⟩
      rcases q with ⟨k,e⟩ | ⟨k,c,e,z⟩
      . refine .inl ⟨k,?_⟩
        have : x ≠ y := fun e => hij (q7y hN e1 (e ▸ hj))
        simp [this,e]
      . exact .inr ⟨k,c,e,z.sameBut hs (cne x c e)⟩
  . obtain ⟨w',z⟩ := I.cell x c e
    exact ⟨w',z.sameBut hs (cne x c e)⟩
  . obtain ⟨e,n,ne,nf,d⟩ := I.pin p hp
    exact ⟨(hs.2 p.1 ne).trans e,n,ne,nf,d⟩
  . refine (I.hok b ob e).stay (fun c w' hc q => (hs.2 c ?_).trans q) (fun _ q => q) fun _ _ q => q
    rintro rfl
    rcases hc with rfl | hc
    . rw [I.free] at e; cases e
    . rw [I.free] at hc; cases hc
end
theorem qg4 {M : Model} {A : Around} {K : PySem.W.Frag} {s : Shared} {a C D : Addr} {oe : Obj} {Q : Bool -> Shared -> Prop} {E : Value -> Shared -> Prop} {b : Bool} (X : K.In s.heap) (he : s.heap.get? a = some oe) (hc : oe.cls = .ref C)
    (h1 : PySem.W.instIn K (.ref D) (.type "tuple") = some false) (h2 : PySem.W.isClsIn K D = true) (h3 : PySem.W.subIn K (.ref D) (.type "BaseException") = some true) (h4 : PySem.W.subIn K (.ref C) (.ref D) = some b) (q : Q b s) :
    wpAny M A (excMatches (.ref a) (.ref D)) Q E s := by
  have L1 := PySem.W.looks_instIn (M := M) X h1
  have L3 := PySem.W.looks_subIn (M := M) X h3
  have L4 := PySem.W.looks_subIn (M := M) X h4
  have L2 : PySem.W.Looks M s.heap (isType (.ref D)) true := by
    unfold PySem.W.isClsIn PySem.W.clsIn at h2
    split at h2
    . rename_i ho
      intro A' Q' E' s' k q
      unfold isType loadHead
      exact wpAny_bind (wpAny_loadPart (k _ _ (X _ _ ho)) (wpAny_pure q))
    . cases h2
  have L5 : PySem.W.Looks M s.heap (typeOf (.ref a)) (.ref C) := by
    have := (PySem.W.Looks.ld (M := M) (part := none) he).andThen (f := fun o => pure o.cls) .now
    rw [hc] at this
    exact this
  have L6 : PySem.W.Looks M s.heap (isExcClass (.ref D)) true := L2.andThen (by simpa using L3)
  unfold excMatches
  refine wpAny_bind (L1.here ?_)
  rw [if_neg Bool.false_ne_true]
  refine wpAny_bind (wpAny_pure ?_)
  simp only [List.forIn_cons,List.forIn_nil]
  refine wpAny_bind (wpAny_bind (wpAny_bind (L6.here ?_)))
  rw [if_neg (by decide)]
  refine wpAny_pure (wpAny_pure ?_)
  refine wpAny_bind (L5.here ?_)
  refine wpAny_bind (wpAny_bind (wpAny_bind (L4.here ?_)))
  cases b with
  | true =>
    rw [if_pos rfl]
    exact wpAny_pure (wpAny_pure (wpAny_pure q))
  | false =>
    rw [if_neg Bool.false_ne_true]
    exact wpAny_pure (wpAny_pure (wpAny_pure q))
end L2
namespace L2
open PySem PySem.Spec PyProof.Rows
def tTry (K : PySem.W.Frag) (Dc : Addr) (i j : Nat) (tx : TX) (tb : Addr -> TS) : TS := fun D σ H =>
  tx σ H (fun v H1 => D.nx (σ.set i (some v)) H1) fun cv _ H1 => ∃ C,cv = .ref C /\ PySem.W.subIn K (.ref C) (.ref Dc) = some true /\
    ∀ a,H1 a = none -> tb a ⟨fun σ' H' => D.nx (σ'.set j none) H',D.rt,fun σ' H' => D.bk (σ'.set j none) H',fun σ' H' => D.ct (σ'.set j none) H'⟩ (σ.set j (some (.ref a))) (upd H1 a (excO a C))
section
variable {X : Cx} {i j : Nat} {x y v : Str} {Dc : Addr} {tx : TX} {tb : Addr -> TS} {e : Expr} {b₀ : Stmt} {suite : List Stmt} {np pos' apos hpos pos : Pos}
theorem Fly.new {pins : List (Addr × Obj)} {σ : St} {H H' : Hp} {s s' : Shared} {a C : Addr} {B : Heap} (I : Inv X pins σ H s) (F : Fly X.prog X.w X.stack H s a C H' B s') : s.heap.get? a = none /\ H' a = none := by
  have fl := F.fly
  obtain ⟨oe,vs,h1,h2,h3,h4⟩ := fl.tr.first
  refine ⟨?_,?_⟩
  . cases q : s.heap.get? a with
    | none => rfl
    | some o =>
      exfalso
      by_cases hb : a ∈ frs X.stack
      . obtain ⟨n,o1,q1,nd⟩ := I.ff a hb
        obtain ⟨sl,e⟩ := F.un.slot a o q n hb (by simp)
        rw [q] at q1; cases q1
        rw [h1] at e
        cases e
        exact nd vs h3
      . obtain ⟨o',e'⟩ := F.th a o q hb
        rw [fl.nw] at e'; cases e'
  . cases q : H' a with
    | none => rfl
    | some u =>
      exfalso
      have z := F.hok a u q
      have : ∃ o,B.get? a = some o := by
        cases u with
        | lst xs => obtain ⟨_,its,n,_,h⟩ := z; exact ⟨_,h⟩
        | tup xs => obtain ⟨_,its,_,o,h,_⟩ := z; exact ⟨_,h⟩
        | dK kvs => obtain ⟨_,_,vs,_,o,es,ep,h,_⟩ := z; exact ⟨_,h⟩
        | dT kvs => obtain ⟨_,_,xs,_,o,es,ep,h,_⟩ := z; exact ⟨_,h⟩
        | set S n => obtain ⟨ob,es,ep,t,e,c⟩ := z; exact ⟨_,e⟩
        | ins C dx fs => obtain ⟨_,_,_,h,_⟩ := z; exact ⟨_,h⟩
        | own x => exact z
        | xd fs => obtain ⟨mA,⟨o,es,ep,h,_⟩,_⟩ := z; exact ⟨_,h⟩
        | rng lo hi => obtain ⟨t,u,v,h⟩ := z; exact ⟨_,h⟩
        | frz o u => exact ⟨_,z.1⟩
        | tbl ps => exact ⟨_,z⟩
        | met f x => exact ⟨_,z⟩
        | ext φ => exact z.2.1
      obtain ⟨o,e⟩ := this
      rw [fl.nw] at e; cases e
theorem ps_try (st : X.stack = X.env :: X.outer) (fr : X.env.frame = some X.env.locals) (ex : X.ex = []) (hN : X.N.Nodup) (hi : X.N[i]? = some v) (hv : Loc X.env.scope v) (hj : X.N[j]? = some y) (hy : X.env.scope.names.lookup y = some .local)
    (hg : Gl X x) (hm : X.mg x = some (.ref Dc)) (h1 : PySem.W.instIn X.K (.ref Dc) (.type "tuple") = some false) (h2 : PySem.W.isClsIn X.K Dc = true) (h3 : PySem.W.subIn X.K (.ref Dc) (.type "BaseException") = some true)
    (hx : PX X e tx) (hs : ∀ a,PSs (X.inx a) (b₀ :: suite) (tb a)) (hdb : (x == ("__debug__" : Str)) = false := by decide) (hsw : swapsWith e (some (.Name v pos')) apos.line X.env = pure false := by rfl)
    (hf : X.fn v = true \/ X.env.scope.names.lookup v = some .local := by first | exact .inl rfl | exact .inr rfl | assumption) :
    PS X (.Try [.Assign [.Name v pos'] e apos] [.ExceptHandler (some (.Name x np)) (some y) (b₀ :: suite) hpos] [] [] pos) (tTry X.K Dc i j tx tb) := by
  intro pins s σ H D I h
  refine wpAny_Try_except (wpAny_execs_cons (wpAny_Assign_Name (wpAny_mono (hx pins s σ H _ _ I h) (fun u s1 ⟨z,H1,I1,r1,q1⟩ => ?ok) (fun e0 s1 hex => ?exc)) hsw))
  case ok =>
    exact q6d I1 hN hi hv r1 (fun s2 I2 => wpAny_execs_nil (wpAny_execs_nil ⟨_,H1,I2,q1⟩)) hf
  case exc =>
    obtain ⟨H0,s0,I0,a,C,H1,B,rfl,F,C',eC,hsub,k⟩ := hex
    cases eC
    refine q8x (by rw [I0.ok.frames,st]) fr (by rw [<- st]; exact F.fly) fun h4 hd4 up4 => ?_
    refine q5y hd4 fun h5 fl5 up5 => ?_
    have F5 := F.on I0.ff (by rw [st]; exact fl5) (up4.trans up5)
    have I5 : Inv X pins σ H1 { s1 with heap := h5 } := F5.inv I0
    obtain ⟨ob,_,hob,hobc,_⟩ := fl5.tr.first
    refine wpAny_handleBy_cons (codeAny_handlers_test (q4d (X := X.inx a) (I5.inx a) hg hm ?_ hdb)) (by intro q; cases q)
    refine qg4 (X := I5.kIn) hob hobc h1 h2 h3 hsub ?_
    show codeAny _ _ _ _ _
    refine codeAny_handlers_suite_as ?_
    refine q5y fl5 fun h6 fl6 up6 => ?_
    have F6 := F5.on I0.ff (by rw [st]; exact fl6) up6
    have I6 : Inv X pins σ H1 { s1 with heap := h6 } := F6.inv I0
    obtain ⟨n0,n1⟩ := F6.new I0
    obtain ⟨oe,vs,g1,g2,g3,g4⟩ := fl6.tr.first
    have I7 : Inv X pins σ (upd H1 a (excO a C)) { s1 with heap := h6 } := by
      refine I6.track2 n1 ?_ ?_ (fun x c e z => ?_) (fun p hp z => ?_) ⟨⟨oe,vs,g1,g2,g3,g4⟩,⟨oe,g1⟩,fun ha hb ⟨o,vs,e1,e2,e3,e4⟩ kk => ⟨o,vs,kk _ e1,e2,e3,e4⟩⟩
      . cases q : X.s₀.heap.get? a with
        | none => rfl
        | some o =>
          obtain ⟨o',e'⟩ := I0.base.there a o q (by rw [ex]; simp)
          rw [n0] at e'; cases e'
      . rintro rfl
        obtain ⟨m,⟨o,es,ep,ho,_⟩,_⟩ := I0.loc
        rw [n0] at ho; cases ho
      . subst z
        obtain ⟨w',o,ho,_⟩ := I0.cell x c e
        rw [n0] at ho; cases ho
      . have := (I0.pin p hp).1
        rw [z,n0] at this; cases this
    refine q6d I7 hN hj (.inl hy) (v := .ref a) rfl (fun s8 I8 => ?_) (.inr hy)
    refine wpAny_mono (hs a pins s8 _ _ _ (I8.inx a) (k a n1)) (fun f s9 q => ?_) fun _ _ z => False.elim z
    have go : ∀ {σ' : St} {H' : Hp},Inv (X.inx a) pins σ' H' s9 -> ∀ {Q : Shared -> Prop},(∀ s',Inv X pins (σ'.set j none) H' s' -> Q s') -> wpAny (model X.prog X.w) X.A (do bindName X.env y .none; unbindBehindTheSuite X.env y hpos) (fun _ s₃ => Q s₃) X.xe s9 := fun {σ' H'} I9 {Q} hQ => by
      have I9' := I9.uninx I.ok
      obtain ⟨m,hn,hl⟩ := id I9'.loc
      refine wpAny_nameGoes_keeps hy hn (by rw [I.ok.kind]; rfl) fun h' v ns' sb => hQ _ (I9'.unset hN hj hn hl ns' sb)
    cases f with
    | next =>
      obtain ⟨σ',H',I9,q⟩ := q
      exact go I9 fun s' I' => ⟨_,_,I',q⟩
    | brk =>
      obtain ⟨σ',H',I9,q⟩ := q
      exact go I9 fun s' I' => ⟨_,_,I',q⟩
    | cont =>
      obtain ⟨σ',H',I9,q⟩ := q
      exact go I9 fun s' I' => ⟨_,_,I',q⟩
    | ret u =>
      obtain ⟨v', σ',H',I9,rv,q⟩ := q
      exact go I9 fun s' I' => ⟨v',_,_,I',rv,q⟩
end
end L2
namespace L2
open PySem PySem.Spec PyProof.Rows Builtin Builtin.ObjectAttr Builtin.Getset_descriptor
structure q3k (k : Nat) (A : Around) : Prop where
  dp : A.depth + 3 * k + 5 < recursionLimit
  un : A.units + 16 * k + 200 < cLine
theorem Room.x {k : Nat} {A : Around} (r : Room k A) : q3k k A := ⟨r.dp,r.un⟩
theorem q3k.mono {j k : Nat} {A : Around} (r : q3k k A) (h : j <= k) : q3k j A := ⟨by have := r.dp; omega,by have := r.un; omega⟩
theorem q3k.deeper {k : Nat} {A : Around} (r : q3k (k + 1) A) (env : Env) : q3k k (A.deeper env) :=
  ⟨by have := r.dp; show A.depth + 1 + 3 * k + 5 < _; omega,by have := r.un; show A.units + 3 + 16 * k + 200 < _; omega⟩
theorem q3k.depth {k : Nat} {A : Around} (r : q3k k A) : A.depth < recursionLimit := by have := r.dp; omega
theorem q3k.mark {k : Nat} {A : Around} {v : Option Value} (r : q3k k A) : q3k k (A.mark v) := ⟨r.dp,r.un⟩
def qaa (CX : CXT) (P : Program) (w : World) (K : PySem.W.Frag) (mg : Str -> Option Value) (base : Heap) (N : List Str) (qual : Str) (scope : Scope) (f : Addr) (cd : Value) (A : Around) (outer : List Env) (s : Shared) (H : Hp) (E : XK) : Cx :=
  { cxOf CX P w K mg base N qual scope f cd A outer s H E with calm := false }
section
variable {P : Program} {w : World} {K : PySem.W.Frag} {mg : Str -> Option Value} {base : Heap} {x qual : Str} {st : Stmt} {f : Addr} {fd : FuncData} {N ps : List Str} {k : Nat} {sp : Sp}
theorem q1i {qual : Str} {sc : Scope} {cdv : Value} {A : Around} {outer : List Env} {s : Shared} {H : Hp} {E : XK} : Out (cxOf (CX1 P w) P w K mg base N qual sc f cdv A outer s H E) E :=
  ⟨rfl,rfl,rfl,fun a s' h => wpAny_mono h (fun _ _ q => q) fun _ _ z => False.elim z⟩
theorem Fun.okR (F : Fun K x qual st f fd) (S : q1m N ps (q18 st)) (len : ∀ vs H Q E,sp vs H Q E -> vs.length = ps.length)
    (hbody : ∀ (cdv : Value) (A : Around) (outer : List Env) (s : Shared) (H : Hp) (vs : List V) (Q : VK) (E : XK),Room k (A.deeper (envOfC qual (q18 st) s.heap.objs.size f cdv)) -> sp vs H Q E ->
      ∃ t,PSs (cxOf (CX1 P w) P w K mg base N qual (q18 st) f cdv A outer s H E) (q1k st) t /\ t { nx := fun _ H' => Q .non H',rt := Q } (start N vs) H) : FnOk P w K mg base (CX1 P w) (k + 1) f fd ps sp := by
  obtain ⟨oc,od,kV,doc,pm,an,cdv,ct,osl,rfl,lk,hcd⟩ := F.ex
  exact fn_of lk hcd S len fun A outer s H vs Q E hr hsp => hbody cdv A outer s H vs Q E hr hsp
end
section
variable {K : PySem.W.Frag} {a C : Addr}
theorem q8m {M : Model} {h : Heap} (H : ∃ o vs,h.get? a = some o /\ o.cls = .ref C /\ o.data = .fields vs) : PySem.W.Looks M h (typeOf (.ref a)) (.ref C) := by
  obtain ⟨o,vs,he,hc,_⟩ := H
  have := (PySem.W.Looks.ld (M := M) (part := none) he).andThen (f := fun o => pure o.cls) .now
  rw [hc] at this
  exact this
theorem qb6 {prog : Program} {w : World} {A : Around} {s : Shared} {tp : Value} {R : Result -> Shared -> Prop} (X : K.In s.heap) (I : ∃ o vs,s.heap.get? a = some o /\ o.cls = .ref C /\ o.data = .fields vs) (hm : PySem.W.mroIn K C (.type "object") = some true)
    (h : R (.ok (.ret (.ref C))) s) : codeAny (model prog w) A (.call (.builtin "getset_descriptor.__get__") ⟨[.builtin "object.__class__", .ref a,tp],[]⟩) R s := by
  obtain ⟨hh,g,dr,t,os⟩ := s
  have L0 := q8m (M := model prog w) I
  have L1 := PySem.W.looks_mroIn (M := model prog w) X hm
  refine codeAny_call_builtin PySem.W.KF.slot_gs.plain PySem.W.KF.entry_gs (PySem.W.KF.slot_gs.check _ _ _ _ _ _ _ _ PySem.W.KF.type_class (PySem.W.KF.args_gs _ _ _) ?_)
  unfold Builtin.«getset_descriptor.__get__» descrGet
  rw [PySem.W.dga_obj]
  refine wpAny_bind (wpAny_pure ?_)
  unfold descrGetter descrCheckInstance descrNameAndClass isInstance
  simp only [PySem.W.KF.owner_class]
  repeat lk
  refine ⟨Code.quiet_builtin _ (by decide +kernel),codeAny_builtin PySem.W.KF.entry_class ?_⟩
  unfold Builtin.«object.__class__» shownTypeOf
  repeat lk
  exact h
structure ExcK (K : PySem.W.Frag) (C : Addr) : Prop where
  cls : PySem.W.isClsIn K C = true
  ga : PySem.W.findIn K (.ref C) "__getattribute__" = some (some (.builtin "BaseException.__getattribute__"))
  gt : PySem.W.findIn K (.ref C) "__getattr__" = some none
  cl : PySem.W.findIn K (.ref C) "__class__" = some (some (.builtin "object.__class__"))
  gg : PySem.W.specialIn K (.builtin "object.__class__") "__get__" = some (some (.builtin "getset_descriptor.__get__"))
  tk : PySem.W.takesIn K (.builtin "object.__class__") = some true
  mo : PySem.W.mroIn K C (.type "object") = some true
  mb : PySem.W.mroIn K C (.type "BaseException") = some true
theorem qik : builtinKind "BaseException.__getattribute__" = some .slot := by decide +kernel
theorem qh4 : splitId "BaseException.__getattribute__" = some ("BaseException", "__getattribute__") := by decide +kernel
theorem qfb {M : Model} {A : Around} {E : Value -> Shared -> Prop} {s : Shared} {nameV : Value} {Q : Unit -> Shared -> Prop} (Z : ExcK K C) (X : K.In s.heap) (I : ∃ o vs,s.heap.get? a = some o /\ o.cls = .ref C /\ o.data = .fields vs) (hq : Q () s) :
    wpAny M A (checkBuiltinCall "BaseException.__getattribute__" ⟨[.ref a,nameV],[]⟩) Q E s := by
  have LI : PySem.W.Looks M s.heap (isInstance (.ref a) (.type "BaseException")) true := (q8m I).andThen (PySem.W.looks_mroIn X Z.mb)
  have ha := F.args_bexc_ga (.ref a) nameV
  simp only [checkBuiltinCall,qik,qh4]
  refine wpAny_bind (LI.here ?_)
  rw [if_neg (by decide)]
  exact wpAny_of_eq ha hq
theorem qfp {prog : Program} {w : World} {A : Around} {E : Value -> Shared -> Prop} {s : Shared} {Q : Option Value -> Shared -> Prop} (Z : ExcK K C) (X : K.In s.heap) (I : ∃ o vs,s.heap.get? a = some o /\ o.cls = .ref C /\ o.data = .fields vs)
    (h : Q (some (.ref C)) { s with toks := s.toks + 1 }) : wpAny (model prog w) A (getAttr? (.ref a) "__class__") Q E s := by
  obtain ⟨hh,g,d,t,os⟩ := s
  have L0 := q8m (M := model prog w) I
  have L1 := PySem.W.looks_findIn (M := model prog w) X Z.ga
  have L2 := PySem.W.looks_findIn (M := model prog w) X Z.gt
  have L3 := PySem.W.looks_findIn (M := model prog w) X Z.cl
  have L4 := PySem.W.looks_specialIn (M := model prog w) X Z.gg
  have L5 := PySem.W.looks_takesIn (M := model prog w) X Z.tk
  have f3 := F.attr_ValueError.ga.bind (.ref a)
  unfold getAttr? getAttrBy? getAttrBy
  refine wpAny_bind (wpAny_mkText (wpAny_bind (wpAny_attempt (wpAny_holding (wpAny_bind (L0.at (wpAny_bind (L1.at ?_))))))))
  show wpAny _ _ (getAttrByItsOwn _ _ _ _ _ _) _ _ _
  unfold getAttrByItsOwn
  refine wpAny_bind (L2.at ?_)
  refine wpAny_bind (wpAny_attempt (wpAny_holding ?_))
  show wpAny _ _ (boundAndCalled _ _ _) _ _ _
  unfold boundAndCalled
  refine wpAny_bind (wpAny_of_eq f3 ?_)
  refine wpAny_call (codeAny_call_builtin F.attr_ValueError.ga.plain F.entry_bexc_ga (qfb Z X I ?_))
  have LF : PySem.W.Looks (model prog w) hh (find (.ref a) (.ref C) "__class__") (.bind (.builtin "getset_descriptor.__get__") (.builtin "object.__class__")) :=
    L3.andThen (L4.andThen ((show PySem.W.Looks (model prog w) hh (dataDescriptor? (some (.builtin "object.__class__")) (some (.builtin "getset_descriptor.__get__"))) (some (.builtin "getset_descriptor.__get__", .builtin "object.__class__")) from L5.andThen .now).andThen (PySem.W.Looks.tag .now)))
  refine wpAny_bind (wpAny_pure (wpAny_bind (wpAny_pure (wpAny_bind (L0.at (wpAny_bind (LF.at ?_)))))))
  show wpAny _ _ (holding [Value.builtin "object.__class__"] (call (.builtin "getset_descriptor.__get__") [.builtin "object.__class__", .ref a, .ref C]) >>= ret) _ _ _
  refine wpAny_bind (wpAny_holding (wpAny_call (qb6 X I Z.mo ?_)))
  exact wpAny_pure (wpAny_pure (wpAny_pure h))
theorem qg6 (Z : ExcK K C) : PySem.W.KitX K (.ref a) (.ref C) (fun h => ∃ o vs,h.get? a = some o /\ o.cls = .ref C /\ o.data = .fields vs) where
  ty := fun _ _ _ I => q8m I
  it := fun _ _ X _ => by
    have h2 := Z.cls
    unfold PySem.W.isClsIn PySem.W.clsIn at h2
    split at h2
    . rename_i ho
      intro A' Q' E' s' k q
      unfold isType loadHead
      exact wpAny_bind (wpAny_loadPart (k _ _ (X _ _ ho)) (wpAny_pure q))
    . cases h2
  ne := fun h tp dd its n sl X htp => by
    have h2 := Z.cls
    refine Bool.eq_false_iff.mpr fun q => ?_
    have e : C = tp := Value.ref.inj (beq_iff_eq.mp q)
    subst e
    unfold PySem.W.isClsIn PySem.W.clsIn at h2
    split at h2
    . rename_i ho
      have z := (X _ _ ho).symm.trans htp
      cases z
    . cases h2
  ca := fun X I k => qfp Z X I k
end
def q8d : V -> Bool | .ref _ => true | .ty _ => true | _ => false
def clsU : V -> Value | .ref a => .ref a | .ty n => .type n | _ => .none
theorem qh6 {v : V} {u : Value} (h : q8d v = true) (r : RelV v u) : u = clsU v := by
  cases v <;> first | exact r | cases h
section
variable {X : Cx}
theorem q37 : q33 X (.builtin "isinstance") (fun xs H Q => ∃ a C cv b,xs = [.ref a,cv] /\ q8d cv = true /\ H a = some (excO a C) /\ ExcK X.K C /\ PySem.W.kitOne X.K (.ref C) (clsU cv) = some b /\ Q (.bl b) H) := by
  intro pins s σ H xs us Q I r h
  obtain ⟨a,C,cv,b,rfl,rc,ha,Z,e,q⟩ := h
  obtain ⟨u,w',rfl,ru,rw'⟩ := vals2 r
  cases (show u = Value.ref a from ru)
  cases qh6 rc rw'
  obtain ⟨⟨zo,zv,z1,z2,z3,_⟩,_⟩ := (show q2h X.prog X.w H s.heap a (excO a C) from I.hok a _ ha)
  have hz : ∃ o vs,s.heap.get? a = some o /\ o.cls = .ref C /\ o.data = .fields vs := ⟨zo,zv,z1,z2,z3⟩
  exact PySem.W.kia_one (qg6 Z) I.kIn hz e (fun z => nomatch z) fun tk => ⟨.bl b,H,I.tok tk,rfl,q⟩
end
end L2
namespace L2
open PySem PySem.Spec PyProof.Rows
section
variable {X : Cx}
abbrev TJ := Str -> TE
def PJ (X : Cx) (es : List Expr) (t : TJ) : Prop := ∀ (acc : Str) (pins : List (Addr × Obj)) (s : Shared) (σ : St) (H : Hp) (Q : VK),Inv X pins σ H s -> t acc σ H Q ->
  wpAny (model X.prog X.w) X.A (joinParts acc (evalEach es X.env)) (EP X pins σ Q) X.xe s
def jNil : TJ := fun acc _ H Q => acc.length <= sizeLine /\ Q (.str acc) H
def q83 (t : TE) (u : TJ) : TJ := fun acc σ H Q => t σ H fun v H1 => ∃ y,v = .str y /\ (acc ++ y).length <= sizeLine /\ u (acc ++ y) σ H1 Q
theorem q8y : PJ X [] jNil := fun acc pins s σ H Q I h => joinParts_nil (out := acc) ⟨.str acc,H,I.tok _,⟨_,rfl⟩,h.2⟩ h.1
theorem q34 {e : Expr} {es : List Expr} {t : TE} {u : TJ} (he : PE X e t) (hr : PJ X es u) (hev : evalEach (e :: es) X.env = eval e X.env :: evalEach es X.env := by rfl) : PJ X (e :: es) (q83 t u) := by
  intro acc pins s σ H Q I h
  rw [hev]
  refine joinParts_cons (thn (he pins s σ H _ I h) fun v s1 ⟨x,H1,I1,r,y,e1,hl,q⟩ => ?_)
  subst e1
  obtain ⟨t,rfl⟩ := r
  exact ⟨hl,hr _ pins s1 σ H1 Q I1 q⟩
theorem q7b {v1 v2 : Expr} {rest : List Expr} {pos : Pos} {u : TJ} (h : PJ X (v1 :: v2 :: rest) u) : PE X (.JoinedStr (v1 :: v2 :: rest) pos) (u Str.empty) := by
  intro pins s σ H Q I hw
  rw [arm_eval_JoinedStr]
  exact h Str.empty pins s σ H Q I hw
def tFmtI (t : TE) : TE := fun σ H Q => t σ H fun v H1 => ∃ i : Int,v = .int i /\ i.natAbs.log2 < 1920 /\ Q (.str (toString i)) H1
theorem q96 {e : Expr} {t : TE} {pos : Pos} (he : PE X e t) : PE X (.FormattedValue e (-1) none pos) (tFmtI t) := by
  intro pins s σ H Q I h
  refine FormattedValue_plain (thn (he pins s σ H _ I h) fun v s1 ⟨x,H1,I1,r,i,e1,hl,q⟩ => ?_)
  subst e1
  obtain ⟨t,rfl⟩ := r
  exact formatField_int_small hl ⟨.str _,H1,I1.tok _,⟨_,rfl⟩,q⟩
def tFmtS (t : TE) : TE := fun σ H Q => t σ H fun v H1 => ∃ y,v = .str y /\ y.length <= sizeLine /\ Q (.str y) H1
theorem qcl {e : Expr} {t : TE} {pos : Pos} (he : PE X e t) : PE X (.FormattedValue e (-1) none pos) (tFmtS t) := by
  intro pins s σ H Q I h
  refine FormattedValue_plain (thn (he pins s σ H _ I h) fun v s1 ⟨x,H1,I1,r,y,e1,hl,q⟩ => ?_)
  subst e1
  obtain ⟨t,rfl⟩ := r
  exact formatField_str (fun t' tk => ⟨.str _,H1,I1.tok _,⟨_,rfl⟩,q⟩) hl
def tFmtR (t : TE) : TE := fun σ H Q => t σ H fun v H1 => ∃ y,v = .str y /\ (reprText y).length <= sizeLine /\ Q (.str (reprText y)) H1
theorem qca {e : Expr} {t : TE} {pos : Pos} (he : PE X e t) : PE X (.FormattedValue e 114 none pos) (tFmtR t) := by
  intro pins s σ H Q I h
  refine wpAny_FormattedValue_repr (thn (he pins s σ H _ I h) fun v s1 ⟨x,H1,I1,r,y,e1,hl,q⟩ => ?_)
  subst e1
  obtain ⟨t,rfl⟩ := r
  refine wpAny_pyReprObj_str ?_ hl
  exact formatField_str (fun t' tk => ⟨.str _,H1,(I1.tok _).tok _,⟨_,rfl⟩,q⟩) hl
end
structure ClsK (K : PySem.W.Frag) (C : Addr) : Prop where
  is : PySem.W.isClsIn K C = true
  ty : PySem.W.typeIn K (.ref C) = some (.type "type")
theorem q1g {K : PySem.W.Frag} {r c : Addr} {b : Bool} (C : ClsK K c) (self : PySem.W.subIn K (.ref r) (.ref r) = some true) (s : PySem.W.subIn K (.ref r) (.ref c) = some b) : PySem.W.kitOne K (.ref r) (.ref c) = some b := by
  unfold PySem.W.kitOne
  by_cases h : (Value.ref r == Value.ref c) = true
  . rw [if_pos h]
    have e : r = c := Value.ref.inj (beq_iff_eq.mp h)
    subst e
    rw [self] at s
    exact s
  . rw [if_neg h]
    unfold PySem.W.kitCls
    have h1 : ((PySem.W.clsIn K c).isSome && PySem.W.typeIn K (.ref c) == some (.type "type")) = true := by
      rw [C.ty,show (PySem.W.clsIn K c).isSome = true from C.is]; rfl
    dsimp only
    rw [if_pos h1]
    exact s
theorem q5f {K : PySem.W.Frag} {r : Addr} {T : String} {b : Bool} (m : PySem.W.kitMeta T = true) (s : PySem.W.subIn K (.ref r) (.type T) = some b) : PySem.W.kitOne K (.ref r) (.type T) = some b := by
  unfold PySem.W.kitOne
  rw [if_neg (by simp)]
  unfold PySem.W.kitCls
  dsimp only
  rw [if_pos m]
  exact s
abbrev bmVE : List Value := [.type "ValueError", .type "Exception", .type "BaseException", .type "object"]
end L2
namespace L2
open PySem PySem.Spec PyProof.Rows
section
variable {X : Cx} {pins : List (Addr × Obj)} {σ : St} {H : Hp} {s : Shared} {d : Addr}
theorem qgq {H : Hp} {a : Addr} {o : HO} (h : H a = some o) : upd H a o = H := by
  funext b
  by_cases e : b = a
  . subst e; rw [q24,h]
  . rw [q1e e]
theorem Inv.freeze {kvs : List (Key × V)} {ob : Obj} (I : Inv X pins σ H s) (hd : H d = some (.dK kvs)) (ho : s.heap.get? d = some ob) : Inv X pins σ (upd H d (.frz ob (.dK kvs))) s := by
  have ne : ∀ {b u},H b = some u -> (∀ l,u ≠ .dK l) -> b ≠ d := fun {b u} e n z => by
    subst z; rw [hd] at e; cases e; exact n _ rfl
  refine ⟨I.ok,I.os,I.bare,⟨I.base.keep,I.base.slot,fun b o q n hx => ?_,I.base.there,fun b xs q => ?_,fun b o u q => ?_,fun b ps q => ?_⟩,I.loc,I.cell,?_,fun x c e => ?_,fun p hpp => ?_,fun b u e => ?_,I.len⟩
  . have := I.base.free b o q n hx
    rw [q1e (fun z => by rw [z,hd] at this; cases this)]; exact this
  . have := I.base.tups b xs q
    rw [q1e (ne this (fun l z => nomatch z))]; exact this
  . have := I.base.frzs b o u q
    rw [q1e (ne this (fun l z => nomatch z))]; exact this
  . obtain ⟨more,this⟩ := I.base.tbls b ps q
    exact ⟨more,by rw [q1e (ne this (fun l z => nomatch z))]; exact this⟩
  . rw [q1e (fun z => by have := I.free; rw [z,hd] at this; cases this)]; exact I.free
  . rw [q1e (fun z => by have := I.freeC x c e; rw [z,hd] at this; cases this)]; exact I.freeC x c e
  . obtain ⟨e,n,r⟩ := I.pin p hpp
    exact ⟨e,by rw [q1e (fun z => by rw [z,hd] at n; cases n)]; exact n,r⟩
  . have st : ∀ {b : Addr} {u : HO},q2h X.prog X.w H s.heap b u -> q2h X.prog X.w (upd H d (.frz ob (.dK kvs))) s.heap b u := fun {b u} q =>
      q.stay (fun c v _ z => z) (fun c z => by rw [q1e (ne z (fun l z => nomatch z))]; exact z) fun c xs z => by rw [q1e (ne z (fun l z => nomatch z))]; exact z
    by_cases hb : b = d
    . subst hb
      rw [q24] at e; cases e
      exact ⟨ho,st (I.hok b _ hd)⟩
    . rw [q1e hb] at e
      exact st (I.hok b u e)
end
theorem q8s {α β : Type} {R : α -> β -> Prop} : ∀ {xs : List α} {ys : List β},Paired R xs ys -> ∀ {i : Nat} {x : α},xs[i]? = some x -> ∃ y,ys[i]? = some y /\ R x y
  | [],_, .nil,i,x,h => by simp at h
  | a :: xs,b :: ys, .cons r rs,0,x,h => by
    cases h
    exact ⟨b,rfl,r⟩
  | a :: xs,b :: ys, .cons r rs,i + 1,x,h => q8s rs (i := i) h
def epO (o : Obj) : Nat := match o.data with | .dict _ ep => ep | _ => 0
theorem kv_rel {k : Key} {v : Value} (h : q6b k v = true) : RelV (kV k) v := by
  rcases q30 h with ⟨i,t,rfl,rfl⟩ | ⟨x,t,rfl,rfl⟩
  . exact ⟨t,rfl⟩
  . exact ⟨t,rfl⟩
theorem qcu {P : Program} {w : World} {H : Hp} {h : Heap} {d : Addr} {ob : Obj} {kvs : List (Key × V)} (q : q2h P w H h d (.frz ob (.dK kvs))) : ∃ vs,KV kvs vs /\ h.DictAt (q2y P w) d vs (epO ob) := by
  obtain ⟨ho,_,_,vs,kv,o,es,ep,e,r1,r2,r3⟩ := q
  rw [ho] at e; cases e
  refine ⟨vs,kv,ob,es,ho,r1,?_,r3⟩
  have : epO ob = ep := by unfold epO; rw [r2]
  rw [this]; exact r2
end L2
namespace L2
open PySem PySem.Spec PyProof.Rows
section
variable {X : Cx}
theorem q7h {K : PySem.W.Frag} {ts : List Expr} {t : TGs} {kk : Nat} {tpos : Pos} {n : Nat} (hK : X.K = K) (hn : n = ts.length) (hc : X.calm = true) (h : PGs X ts t) (h1 : (assignEach ts X.env).length = n := by rfl) (h2 : (assignEach ts X.env).findIdx? (·.1) = none := by rfl) : PG X (.Tuple ts kk tpos) (gTup K n t) := by
  subst hK
  subst h1
  exact qej hc h rfl h2
end
end L2
namespace L2
open PySem PySem.Spec PyProof.Rows
structure Hq (A : Around) (a : Addr) (h : Heap) : Prop where
  hd : A.handled = some (.ref a)
  ob : ∃ o vs,h.get? a = some o /\ o.data = .fields vs /\ vs[2]? = some .none
theorem Hq.in1 {A : Around} {a : Addr} {h : Heap} (q : Hq A a h) : Hq A.in1 a h := ⟨q.hd,q.ob⟩
theorem Hq.keep {A : Around} {a : Addr} {h h' : Heap} (q : Hq A a h) (k : ∀ o,h.get? a = some o -> h'.get? a = some o) : Hq A a h' :=
  let ⟨o,vs,h1,h2,h3⟩ := q.ob; ⟨q.hd,o,vs,k _ h1,h2,h3⟩
theorem qa0 : entryFor table "proto.unchain" = some Builtin.«proto.unchain» := entryFor_of_fast (by kernel_rfl)
section
variable {prog : Program} {w : World} {A : Around} {E : Value -> Shared -> Prop} {s : Shared} {a : Addr}
theorem qf2 {α : Type} {e : Addr} {oe : Obj} {ve : Array Value} {Q : α -> Shared -> Prop} (q : Hq A a s.heap) (ne : a ≠ e) (he : s.heap.get? e = some oe) (hde : oe.data = .fields ve) (hz : 2 < ve.size)
    (h : ∀ h',Heap.SameBut e s.heap h' -> (∃ o',h'.get? e = some o' /\ o'.cls = oe.cls) -> E (.ref e) { s with heap := h' }) : wpAny (model prog w) A (raiseNew (.ref e) : Sem α) Q E s := by
  obtain ⟨hh,oa,va,ha,hda,h2⟩ := q
  unfold raiseNew
  refine wpAny_bind (wpAny_handled ?_)
  rw [hh]
  have hne : (Value.ref a != Value.ref e) = true := by simp [ne]
  dsimp only
  rw [if_pos hne]
  refine wpAny_bind (wpAny_holding (wpAny_runValue (codeAny_builtin qa0 ?_)))
  unfold Builtin.«proto.unchain»
  dsimp only
  refine wpAny_bind (wpAny_field ha hda h2 ?_)
  rw [if_pos (by rfl)]
  refine wpAny_pure ?_
  refine wpAny_bind (wpAny_setField (i := 2) (x := .ref a) he hde hz (wpAny_throw ?_))
  refine h _ (Heap.SameBut.update ..) ⟨_,Heap.get?_update_self _ he (Obj.isFreed_of_fields (Obj.data_mapFields hde _)),Obj.cls_mapFields ..⟩
theorem stopQ {α : Type} {Q : α -> Shared -> Prop} (q : Hq A a s.heap) (h : ∀ h' e,(∀ b o,s.heap.get? b = some o -> h'.get? b = some o) -> (∃ o,h'.get? e = some o /\ o.cls = .type "StopIteration") -> E (.ref e) { s with heap := h' }) :
    wpAny (model prog w) A (newExc (.type "StopIteration") [] >>= fun e => (raiseNew e : Sem α)) Q E s := by
  refine wpAny_bind ?_
  simp only [newExc,newTuple]
  refine wpAny_bind (wpAny_newObj_type ?_ (by size_fits))
  refine wpAny_bind (m := firstArgMember _ _) (wpAny_of_eq (a := Value.none) (by first | rfl | (simp only [firstArgMember]; rfl)) ?_)
  refine wpAny_newObj_type ?_ (by size_fits)
  obtain ⟨_,oa,va,ha,_⟩ := id q
  have hlt := Heap.lt_size ha
  have keep : ∀ (o1 o2 : Obj) b o,s.heap.get? b = some o -> ((s.heap.push o1).push o2).get? b = some o := fun o1 o2 b o e => Heap.get?_push_of_some _ (Heap.get?_push_of_some _ e)
  refine qf2 (q.keep fun o e => keep _ _ _ _ e) (by rw [Heap.size_push]; exact Nat.ne_of_lt (Nat.lt_succ_of_lt hlt)) (Heap.get?_push_size _ rfl) rfl (by show 2 < 6; decide) fun h' sb ho => ?_
  refine h h' _ (fun b o e => ?_) ho
  exact sb.extBut b o (by rw [Heap.size_push]; exact Nat.ne_of_lt (Nat.lt_succ_of_lt (Heap.lt_size e))) (keep _ _ b o e)
theorem q98 {it l : Addr} {i : Nat} {items} {Q : Option Value -> Shared -> Prop} (q : Hq A a s.heap) (ne : a ≠ it) (hit : s.heap.IsListIter it l i) (hl : s.heap.IsList l items) (hx : items[i]? = none)
    (hQ : ∀ h',(∀ b o,b ≠ it -> s.heap.get? b = some o -> h'.get? b = some o) -> Q none { s with heap := h' }) : wpAny (model prog w) A (pyNext (.ref it)) Q E s := by
  obtain ⟨o,ho,hc,hd⟩ := id hit
  obtain ⟨ol,hol,_,nl,hdl⟩ := hl
  unfold pyNext
  refine wpAny_bind (wpAny_attempt (wpAny_callSpecial?_slot (name := Str.ofString "__next__") hit.typeIs slot_listiter_next (wpAny_call_entry slot_listiter_next hit.typeIs entry_listiter_next ?_ (args_listiter_next _))))
  show wpAny _ _ (field (.ref it) 0 >>= _) _ _ s
  refine wpAny_bind (wpAny_field ho hd (x := .ref l) rfl ?_)
  show wpAny _ _ (if (Value.ref l == Value.none) = true then _ else _) _ _ s
  rw [if_neg (show ¬ ((Value.ref l == Value.none) = true) from Bool.false_ne_true)]
  show wpAny _ _ (field (.ref it) 1 >>= _) _ _ s
  refine wpAny_bind (wpAny_field ho hd (x := .int i 0) rfl ?_)
  show wpAny _ _ (seqItems? (.ref l) >>= _) _ _ s
  refine wpAny_bind (wpAny_seqItems hol hdl ?_)
  simp only [Int.toNat_natCast,hx]
  refine wpAny_bind (wpAny_rule (wpAny_bind (wpAny_setField ho hd (by simp) ?_)))
  have other : ∀ b,b ≠ it -> (s.heap.update it (Obj.mapFields (·.setIfInBounds 0 Value.none))).get? b = s.heap.get? b := fun b hb => Heap.get?_update_other _ _ (Ne.symm hb)
  refine stopQ (q.in1.keep fun o e => (other a ne).trans e) fun h' e k te => ?_
  obtain ⟨oe,e1,e2⟩ := te
  refine wpAny_bind (wpAny_isInstance (T := "StopIteration") (b := true) ⟨oe,e1,e2⟩ isSubtype_stop ?_)
  exact wpAny_pure (hQ _ fun b o hb e => k b o ((other b hb).trans e))
theorem q8g {it t : Addr} {i : Nat} {items} {Q : Option Value -> Shared -> Prop} (q : Hq A a s.heap) (ne : a ≠ it) (hit : IsTupIter s.heap it t i) (ht : IsTup s.heap t items) (hx : items[i]? = none)
    (hQ : ∀ h',(∀ b o,b ≠ it -> s.heap.get? b = some o -> h'.get? b = some o) -> Q none { s with heap := h' }) : wpAny (model prog w) A (pyNext (.ref it)) Q E s := by
  obtain ⟨o,ho,hc,hd⟩ := id hit
  obtain ⟨ol,hol,_,nl,hdl⟩ := ht
  unfold pyNext
  refine wpAny_bind (wpAny_attempt (wpAny_callSpecial?_slot (name := Str.ofString "__next__") hit.typeIs slot_tupleiter_next (wpAny_call_entry slot_tupleiter_next hit.typeIs entry_tupleiter_next ?_ (args_tupleiter_next _))))
  show wpAny _ _ (field (.ref it) 0 >>= _) _ _ s
  refine wpAny_bind (wpAny_field ho hd (x := .ref t) rfl ?_)
  show wpAny _ _ (if (Value.ref t == Value.none) = true then _ else _) _ _ s
  rw [if_neg (show ¬ ((Value.ref t == Value.none) = true) from Bool.false_ne_true)]
  show wpAny _ _ (field (.ref it) 1 >>= _) _ _ s
  refine wpAny_bind (wpAny_field ho hd (x := .int i 0) rfl ?_)
  show wpAny _ _ (seqItems? (.ref t) >>= _) _ _ s
  refine wpAny_bind (wpAny_seqItems hol hdl ?_)
  simp only [Int.toNat_natCast,hx]
  refine wpAny_bind (wpAny_rule (wpAny_bind (wpAny_setField ho hd (by simp) ?_)))
  have other : ∀ b,b ≠ it -> (s.heap.update it (Obj.mapFields (·.setIfInBounds 0 Value.none))).get? b = s.heap.get? b := fun b hb => Heap.get?_update_other _ _ (Ne.symm hb)
  refine stopQ (q.in1.keep fun o e => (other a ne).trans e) fun h' e k te => ?_
  obtain ⟨oe,e1,e2⟩ := te
  refine wpAny_bind (wpAny_isInstance (T := "StopIteration") (b := true) ⟨oe,e1,e2⟩ isSubtype_stop ?_)
  exact wpAny_pure (hQ _ fun b o hb e => k b o ((other b hb).trans e))
theorem qhj {t : Addr} {items : Array Value} {targets : List (Bool × (Value -> Sem Unit))} {Q : Unit -> Shared -> Prop} (q : Hq A a s.heap) (ht : IsTup s.heap t items)
    (hn : targets.length = items.size) (hstar : targets.findIdx? (·.1) = none)
    (h : ∀ h',Heap.ExtBut s.heap.objs.size s.heap h' -> wpAny (model prog w) A (assignInOrder (targets.map (·.2)) items.toList) Q E { s with heap := h' }) :
    wpAny (model prog w) A (unpack (.ref t) targets) Q E s := by
  have hlt : t ≠ s.heap.objs.size := by obtain ⟨o,ho,_⟩ := ht; exact Nat.ne_of_lt (Heap.lt_size ho)
  have hla : a ≠ s.heap.objs.size := by obtain ⟨_,o,_,ho,_⟩ := id q; exact Nat.ne_of_lt (Heap.lt_size ho)
  unfold unpack
  rw [hn,hstar]
  refine wpAny_bind (wpAny_holding ?_)
  unfold unpackItems
  refine wpAny_bind ?_
  unfold notIterableAtAll
  refine wpAny_bind (wpAny_specialOf ht.typeIs slot_tuple_iter.lookup ?_)
  refine wpAny_pure ?_
  simp only [Bool.false_eq_true,if_false]
  refine wpAny_bind (wpAny_holding (iter_tuple ht ?_))
  refine wpAny_bind (wpAny_holding (draw_tuple hlt items.size 0 _ _ ⟨_,Heap.get?_push_size _ rfl,rfl,rfl⟩ (ht.push _) (by omega) fun h₁ hit₁ hs₁ => ?_))
  have hall : List.take items.size (List.drop 0 items.toList) = items.toList := by
    rw [List.drop_zero]; exact List.take_of_length_le (by simp)
  rw [hall]
  rw [if_neg (by simp)]
  have ht₁ : IsTup h₁ t items := (ht.push _).extBut hs₁.extBut hlt
  have q₁ : Hq A a h₁ := q.keep fun o e => hs₁.extBut a o hla (Heap.get?_push_of_some _ e)
  refine wpAny_bind (wpAny_holding (q8g q₁ hla hit₁ ht₁ (by simp) fun h₂ he₂ => ?_))
  simp only [Option.isSome_none,Bool.false_eq_true,if_false]
  refine wpAny_pure (h h₂ fun b o hb e => he₂ b o hb (hs₁.extBut b o hb (Heap.get?_push_of_some _ e)))
end
end L2
namespace L2
open PySem PySem.Spec PyProof.Rows
structure qdx (P : Program) (w : World) (K : PySem.W.Frag) (ah : Addr) (tg : Expr) (J : It) (fp : List Addr) (it : Addr) (tn : Nat -> Heap -> Prop) : Prop where
  mem : it ∈ fp
  obj : ∀ i h,tn i h -> ∀ b ∈ fp, ∃ o,h.get? b = some o /\ ∀ v,o.data ≠ .cell v
  keep : ∀ i h h',tn i h -> (∀ b ∈ fp, ∀ o,h.get? b = some o -> h'.get? b = some o) -> tn i h'
  item : ∀ (X : Cx),X.prog = P -> X.w = w -> X.K = K -> X.A.handled = some (.ref ah) -> ∀ (i : Nat) (pins : List (Addr × Obj)) (s : Shared) (σ : St) (H : Hp) (E : Value -> Shared -> Prop),Inv X pins σ H s -> (∀ b ∈ fp,FpOk X pins H b) -> tn i s.heap -> J.go i H ->
    wpAny (model P w) X.A (pyNext (.ref it)) (fun r s1 => ∃ u,r = some u /\
      wpAny (model P w) X.A (letOwnedTupleGo tg (.ref it) u) (fun _ s2 => ∃ x H',Inv X pins σ H' s2 /\ RelV x u /\ J.yld i H x H' /\ tn (i + 1) s2.heap /\ ∀ b ∈ fp,H' b = none) E s1) E s
  done : ∀ (X : Cx),X.prog = P -> X.w = w -> X.K = K -> X.A.handled = some (.ref ah) -> ∀ (i : Nat) (pins : List (Addr × Obj)) (s : Shared) (σ : St) (H : Hp) (E : Value -> Shared -> Prop),Inv X pins σ H s -> (∀ b ∈ fp,FpOk X pins H b) -> tn i s.heap -> J.stop i H ->
    wpAny (model P w) X.A (pyNext (.ref it)) (fun r s1 => r = none /\ Inv X pins σ H s1) E s
  self : ∀ (A : Around) (i : Nat) (s : Shared) (Q : Value -> Shared -> Prop) (E : Value -> Shared -> Prop),tn i s.heap -> Q (.ref it) s -> wpAny (model P w) A (pyIter (.ref it)) Q E s
def PIEQ (X : Cx) (ah : Addr) (pins : List (Addr × Obj)) (σ : St) (tg : Expr) (R : It -> Hp -> Prop) (itv : Value) (s2 : Shared) : Prop :=
  ∃ (it : Addr) (fp : List Addr) (tn : Nat -> Heap -> Prop) (J : It) (H' : Hp),itv = .ref it /\ Inv X pins σ H' s2 /\ qdx X.prog X.w X.K ah tg J fp it tn /\ tn 0 s2.heap /\ (∀ b ∈ fp,FpOk X pins H' b) /\ R J H'
def PIQ (X : Cx) (ah : Addr) (tg iter : Expr) (wi : TI) : Prop :=
  ∀ (pins : List (Addr × Obj)) (s : Shared) (σ : St) (H : Hp) (R : It -> Hp -> Prop),Inv X pins σ H s -> wi σ H R ->
    wpAny (model X.prog X.w) X.A (eval iter X.env) (fun v s1 => wpAny (model X.prog X.w) X.A (pyIter v) (PIEQ X ah pins σ tg R) X.xe s1) X.xe s
theorem Inv.hq {X : Cx} {pins : List (Addr × Obj)} {σ : St} {H : Hp} {s : Shared} {ah C : Addr} (I : Inv X pins σ H s) (hc : X.A.handled = some (.ref ah)) (he : H ah = some (excO ah C)) : Hq X.A ah s.heap := by
  obtain ⟨⟨o,vs,h1,h2,h3,h4⟩,_⟩ := (show q2h X.prog X.w H s.heap ah (excO ah C) from I.hok ah _ he)
  exact ⟨hc,o,vs,h1,h3,h4⟩
def ItlQ (K : PySem.W.Frag) (ah C l : Addr) : It :=
  ⟨fun i H => (∃ xs x,SqL K H l xs /\ xs[i]? = some x) /\ H ah = some (excO ah C),fun i H x H' => H' = H /\ ∀ xs,SqL K H l xs -> xs[i]? = some x,fun i H => (∃ xs,SqL K H l xs /\ xs.length <= i) /\ H ah = some (excO ah C)⟩
theorem qe2 {P : Program} {w : World} {K : PySem.W.Frag} {tg : Expr} (ah C l it : Addr) : qdx P w K ah tg (ItlQ K ah C l) [it] it (fun i h => h.IsListIter it l i) where
  mem := by simp
  obj := fun i h st b hb => by
    have e : b = it := by simpa using hb
    subst e
    obtain ⟨o,e,c,d⟩ := st
    exact ⟨o,e,fun v z => by rw [d] at z; cases z⟩
  keep := fun i h h' st k => st.at fun o e => k it (by simp) o e
  item := by
    intro X hP hw hK hc i pins s σ H E I hf st hg
    subst hP hw hK
    obtain ⟨⟨xs,x,hq,hx⟩,_⟩ := hg
    obtain ⟨its,rv,p,hz⟩ := I.list hq
    obtain ⟨u,hu,ru⟩ := rv.get hx
    obtain ⟨f0,f1,f2,f3,f4,f5⟩ := hf it (by simp)
    refine wpAny_pyNext_list_item st p.isList (x := u) (by simpa using hu) fun h' st' sb => ?_
    have I1 : Inv X pins σ H { s with heap := h' } := I.turned (t' := s.toks) (fun b o hb e => (sb.2 b hb).trans e) f0 f1 f3 f4 f5
    obtain ⟨o,e,c,d⟩ := id st'
    exact ⟨u,rfl,qa8 (s := { s with heap := h' }) e c d (by decide) ⟨x,H,I1,ru,⟨rfl,fun ys hy => by rw [I.qbh hy hq]; exact hx⟩,st',fun b hb => (hf b hb).1⟩⟩
  done := by
    intro X hP hw hK hc i pins s σ H E I hf st hg
    subst hP hw hK
    obtain ⟨⟨xs,hq,hx⟩,he⟩ := hg
    obtain ⟨its,rv,p,hz⟩ := I.list hq
    obtain ⟨f0,f1,f2,f3,f4,f5⟩ := hf it (by simp)
    have hl := rv.length
    exact q98 (I.hq hc he) (q3i he f0) st p.isList (by simp; omega) fun h' eb => ⟨rfl,I.turned (t' := s.toks) (fun b o hb e => eb b o hb e) f0 f1 f3 f4 f5⟩
  self := fun _ _ _ _ _ st h => wpAny_pyIter_listiter st h
def qel (K : PySem.W.Frag) (ah : Addr) (tl : TE) : TI := fun σ H R => tl σ H fun x H1 => ∃ a C,x = .ref a /\ (∃ xs,SqL K H1 a xs) /\ R (ItlQ K ah C a) H1
theorem qgk {X : Cx} {ah : Addr} {tg l : Expr} {tl : TE} (hl : PE X l tl) : PIQ X ah tg l (qel X.K ah tl) := by
  intro pins s σ H R I h
  refine thn (hl pins s σ H _ I h) fun v s1 ⟨x,H1,I1,r1,q1⟩ => ?_
  obtain ⟨a,C,e,⟨xs,hq⟩,q⟩ := q1
  subst e
  cases r1
  obtain ⟨its,rv,p,hz⟩ := I1.list hq
  refine wpAny_pyIter_list p.isList ?_
  refine ⟨s1.heap.objs.size,[s1.heap.objs.size],_,_,H1,rfl,I1.kept (t' := s1.toks) fun b o e => Heap.get?_push_of_some _ e,qe2 ah C a _,⟨_,Heap.get?_push_size _ rfl,rfl,rfl⟩,fun b hb => ?_,q⟩
  have e : b = s1.heap.objs.size := by simpa using hb
  subst e
  exact I1.fpOk (Nat.le_refl _) (I1.hok.fresh (Nat.le_refl _))
section
variable {X : Cx} {pins : List (Addr × Obj)} {σ : St} {H : Hp} {s : Shared} {scope : Scope} {own : List Str} {fv : List (Str × Nat)}
theorem qil {ah : Addr} {elt tg iter : Expr} {ifs : List Expr} {pos : Pos} {g : TG} {tc : TT} {te : TE} {R : Value -> Addr -> Result -> Shared -> Prop} {E : Value -> Shared -> Prop}
    (hc : X.A.handled = some (.ref ah)) (B : Blk X.env.scope X.N scope own fv) (hg : ∀ s H fp,PG (blk X scope own fv s H fp) tg g) (ht : ∀ s H fp,PTs (blk X scope own fv s H fp) ifs tc) (he : ∀ s H fp,PE (blk X scope own fv s H fp) elt te)
    {it : Addr} {fp : List Addr} {tn : Nat -> Heap -> Prop} {J : It} (I : Inv X pins σ H s) (T : qdx X.prog X.w X.K ah tg J fp it tn) (st : tn 0 s.heap) (hf : ∀ b ∈ fp,FpOk X pins H b) {Q : VK}
    (hw : ∀ D,H D = none -> LcW own fv J g tc te σ D Q (upd H D (.lst [])))
    (hR : ∀ D C H' s',Inv X pins σ H' s' -> FpOk X pins H' C -> (∃ m,s'.heap.Ns C m) -> Q (.ref D) H' -> R (.ref D) C (.ok .next) s') :
    wpAny (model X.prog X.w) X.A (newList []) (fun acc s₃ => wpAny (model X.prog X.w) X.A (newFunctionEnv scope X.env.globals (clos scope.names X.env.cells) [] X.env.qual none .none (some X.env)) (fun cenv s₄ =>
      codeAny (model X.prog X.w) X.A (.compStart (.ListComp elt [⟨tg,iter,ifs,0⟩] scope pos) 0 (.ref it) acc { cenv with scope := relabel scope X.env }) (R acc cenv.locals) s₄) E s₃) E s := by
  refine wpAny_newObj_type (wpAny_newFunctionEnv B.nocell (by intro y hy; simp at hy) (fun h₁ hns₁ hsb₁ => ?_) B.kind)
  dsimp only at hns₁ hsb₁ ⊢
  have I3 : Inv X pins σ (upd H s.heap.objs.size (.lst [])) { s with heap := s.heap.push { cls := .type "list",data := .seq ([] : List Value).toArray } } := I.lnew (t' := s.toks) .nil (Nat.zero_le _)
  obtain ⟨W,⟨m0,w0⟩,turn⟩ := hw s.heap.objs.size I.fresh
  have fpl : ∀ b ∈ fp,b < s.heap.objs.size := fun b hb => by
    obtain ⟨o,e,_⟩ := T.obj _ _ st b hb
    exact Heap.lt_size e
  have hf3 : ∀ b ∈ fp,FpOk X pins (upd H s.heap.objs.size (.lst [])) b := fun b hb => ⟨by rw [q1e (Nat.ne_of_lt (fpl b hb))]; exact (hf b hb).1,(hf b hb).2⟩
  generalize hS3 : ({ s with heap := s.heap.push { cls := .type "list",data := .seq ([] : List Value).toArray } } : Shared) = s3 at I3
  have hS3h : s.heap.push { cls := .type "list",data := .seq ([] : List Value).toArray } = s3.heap := by rw [<- hS3]
  have fpl3 : ∀ b ∈ fp,b < s3.heap.objs.size := fun b hb => by
    rw [<- hS3h,Heap.size_push]
    exact Nat.lt_succ_of_lt (fpl b hb)
  have e3 : ∀ (h : Heap) (tk : Nat),({ s with heap := h,toks := tk } : Shared) = { s3 with heap := h,toks := tk } := fun h tk => by rw [<- hS3]
  rw [hS3h] at hns₁ hsb₁ ⊢
  rw [e3]
  have k3 : ∀ b o,s3.heap.get? b = some o -> h₁.get? b = some o := fun b o e => hsb₁.extBut b o (Nat.ne_of_lt (Heap.lt_size e)) (Heap.get?_push_of_some _ e)
  have J0 := q6o (σ := σ) I3 B hf3 fpl3 (tk := s.toks + ([] : List (Str × Value)).length) hns₁ k3
  have ksz : ∀ b o,s.heap.get? b = some o -> h₁.get? b = some o := fun b o e => k3 b o (by rw [<- hS3h]; exact Heap.get?_push_of_some _ e)
  have st1 : tn 0 h₁ := T.keep _ _ _ st fun b _ o e => ksz b o e
  have stat : ∀ {H' : Hp},(∀ b ∈ fp,H' b = none) -> ∀ b ∈ fp,FpOk (blk X scope own fv s3 (upd H s.heap.objs.size (.lst [])) fp) [] H' b := fun hn b hb =>
    ⟨hn b hb,Nat.ne_of_lt (fpl3 b hb),fun z => (by
      rcases List.mem_cons.mp (I.q4h b z) with e | e
      . exact (hf b hb).2.1 e
      . exact (hf b hb).2.2.1 e), .inl hb,fun x c e => (hf b hb).2.2.2.2.1 x c (q3r e),fun p hp => absurd (show p ∈ ([] : List (Addr × Obj)) from hp) (by simp)⟩
  generalize hX' : blk X scope own fv s3 (upd H s.heap.objs.size (.lst [])) fp = X' at J0 stat
  have eP : X'.prog = X.prog := by rw [<- hX']; rfl
  have eW : X'.w = X.w := by rw [<- hX']; rfl
  have eK : X'.K = X.K := by rw [<- hX']; rfl
  have eA : X'.A = X.A := by rw [<- hX']; rfl
  have eE : X'.xe = fun _ _ => False := by rw [<- hX']; rfl
  have eC : X'.A.handled = some (.ref ah) := by rw [eA]; exact hc
  have eEnv : compEnvC scope (clos scope.names X.env.cells) s3.heap.objs.size X.env = X'.env := by rw [<- hX']; rfl
  have Hg : PG X' tg g := by rw [<- hX']; exact hg _ _ _
  have Ht : PTs X' ifs tc := by rw [<- hX']; exact ht _ _ _
  have He : PE X' elt te := by rw [<- hX']; exact he _ _ _
  have loop : codeAny (model X.prog X.w) X.A (.compLoop (.ListComp elt [⟨tg,iter,ifs,0⟩] scope pos) 0 (.ref it) (.ref s.heap.objs.size) X'.env) (R (.ref s.heap.objs.size) s3.heap.objs.size) { s3 with heap := h₁,toks := s.toks + ([] : List (Str × Value)).length } := by
    refine q4k (fun n s' => ∃ i H',Inv X' [] (bσ own fv σ) H' s' /\ tn i s'.heap /\ (∀ b ∈ fp,H' b = none) /\ W i n H') ?_ m0 ⟨0,_,J0,st1,fun b hb => (hf3 b hb).1,w0⟩
    rintro n s4 ⟨i,H4,J4,st4,fr4,w4⟩
    rcases turn i n H4 w4 with ⟨stop,q⟩ | ⟨go,NE,NF,hNE,hNF,step⟩
    . have key := T.done X' eP eW eK eC i [] s4 _ H4 (fun _ _ => False) J4 (stat fr4) st4 stop
      rw [eA] at key
      refine thn key fun r s5 ⟨hr,J5⟩ => ?_
      subst hr
      rw [<- hX'] at J5
      obtain ⟨I5,c5,m5⟩ := q76 I3 hf3 J5
      exact hR _ _ _ _ I5 c5 m5 q
    . have key := T.item X' eP eW eK eC i [] s4 _ H4 (fun _ _ => False) J4 (stat fr4) st4 go
      rw [eA] at key
      refine thn key fun r s5 ⟨u,hr,h5⟩ => ?_
      subst hr
      refine thn h5 fun _ s6 ⟨x,H6,J6,r6,y6,st6,fr6⟩ => ?_
      have J6' := J6.pinned (stat fr6) (T.obj _ _ st6)
      have kg := Hg _ s6 _ H6 x u _ J6' r6 (step x H6 y6)
      rw [eP,eW,eA,eE] at kg
      refine thn kg fun _ s7 ⟨σ7,H7,J7,⟨os,ol,eσ⟩,q7⟩ => ?_
      have kt := Ht _ s7 σ7 H7 _ J7 q7
      rw [eP,eW,eA,eE] at kt
      refine thn kt fun ok s8 ⟨H8,J8,q8⟩ => ?_
      have again : ∀ {s9 : Shared} {H9 : Hp} {mm : Nat},Inv X' ([] ++ q4u fp s6.heap) σ7 H9 s9 -> mm < n -> W (i + 1) mm H9 -> ∃ m,m < n /\ ∃ i H',Inv X' [] (bσ own fv σ) H' s9 /\ tn i s9.heap /\ (∀ b ∈ fp,H' b = none) /\ W i m H' := fun {s9 H9 mm} J9 hm w9 => by
        refine ⟨mm,hm,i + 1,H9,(J9.q4n).weak ?_ ?_,T.keep _ _ _ st6 fun b hb o e => (J9.pin (b,o) (List.mem_append_right _ (List.mem_append_right _ (q3j hb e)))).1,fun b hb => ?_,w9⟩
        . rw [eσ]; unfold bσ; rw [List.length_append,List.length_append,List.length_map,ol]
        . intro j v e
          rw [eσ]
          unfold bσ at e
          by_cases hj : j < own.length
          . rw [List.getElem?_append_left (by simpa using hj),List.getElem?_map] at e
            cases q : own[j]? with
            | none => rw [q] at e; cases e
            | some y => rw [q] at e; cases e
          . rw [List.getElem?_append_right (by simpa using hj),List.length_map] at e
            rw [List.getElem?_append_right (by omega),ol]
            exact e
        . obtain ⟨o,e,d⟩ := T.obj _ _ st6 b hb
          exact (J9.pin (b,o) (List.mem_append_right _ (List.mem_append_right _ (q3j hb e)))).2.1
      cases ok with
      | false =>
        rw [if_neg Bool.false_ne_true] at q8 ⊢
        obtain ⟨m',hm,w8⟩ := hNF _ q8
        exact again J8 hm w8
      | true =>
        rw [if_pos rfl] at q8 ⊢
        have ke := He _ s8 σ7 H8 _ J8 q8
        rw [eP,eW,eA,eE] at ke
        refine thn ke fun xv s9 ⟨v,H9,J9,r9,q9⟩ => ?_
        obtain ⟨ys,hD,hz,m',hm,w9⟩ := hNE v H9 q9
        have := (q4v (X := X')) _ s9 σ7 H9 (.ref s.heap.objs.size) [v] (.ref s.heap.objs.size) [xv] (fun _ H10 => W (i + 1) m' H10) J9 rfl (.cons r9 .nil) ⟨_,ys,v,rfl,rfl,hD,hz,w9⟩
        rw [eP,eW,eA,eE] at this
        exact thn this fun _ s10 ⟨_,H10,J10,_,w10⟩ => again J10 hm w10
  rw [<- eEnv] at loop
  exact codeAny_compStart_list loop (T.self _ 0 _ _ _ st1 loop)
end
section
variable {X : Cx} {scope : Scope} {own : List Str} {fv : List (Str × Nat)} {elt tg iter : Expr} {ifs : List Expr} {pos : Pos} {wi : TI} {g : TG} {tc : TT} {te : TE}
theorem pe_lcQ {ah : Addr} {osc : Scope} {N0 : List Str} (hc : X.A.handled = some (.ref ah)) (hsc : X.env.scope = osc) (hN0 : X.N = N0) (B : Blk osc N0 scope own fv) (hi : PIQ X ah tg iter wi) (hg : ∀ s H fp,PG (blk X scope own fv s H fp) tg g) (ht : ∀ s H fp,PTs (blk X scope own fv s H fp) ifs tc) (he : ∀ s H fp,PE (blk X scope own fv s H fp) elt te)
    (hs : ∀ x,foldedSetIterable iter X.env x = pure x := by intro _; rfl) : PE X (.ListComp elt [⟨tg,iter,ifs,0⟩] scope pos) (tLc own fv wi g tc te) := by
  subst hsc hN0
  intro pins s σ H Q I h
  rw [eval_ListComp]
  refine wpAny_comprehension_free (use := none) rfl hs (B.clos I.ok) B.kind B.loc (thn (hi pins s σ H _ I h) fun v s1 h1 => thn h1 fun itv s2 h2 => ?_)
  obtain ⟨it,fp,tn,J,H2,rfl,I2,T,st2,f2,hw⟩ := h2
  refine qil hc B hg ht he I2 T st2 f2 hw fun D C H' s' I' c' m' q => ?_
  obtain ⟨m,hn⟩ := m'
  exact ⟨m,hn,fun h' hs' => ⟨.ref D,H',q6c I' c' hs',rfl,q⟩⟩
end
def gTupQ (K : PySem.W.Frag) (ah : Addr) (n : Nat) (t : TGs) : TG := fun v σ H Q => ∃ a C xs,v = .ref a /\ H ah = some (excO ah C) /\ SqT K H a xs /\ xs.length = n /\ t xs σ H Q
theorem qhv {X : Cx} {K : PySem.W.Frag} {ah : Addr} {ts : List Expr} {t : TGs} {kk : Nat} {tpos : Pos} {n : Nat} (hK : X.K = K) (hc : X.A.handled = some (.ref ah)) (h : PGs X ts t) (h1 : (assignEach ts X.env).length = n := by rfl) (h2 : (assignEach ts X.env).findIdx? (·.1) = none := by rfl) :
    PG X (.Tuple ts kk tpos) (gTupQ K ah n t) := by
  subst hK
  intro pins s σ H v u Q I r hw
  obtain ⟨a,C,xs,e1,he,hq,hl,hw⟩ := hw
  subst e1
  cases r
  obtain ⟨its,rv,ht,hz⟩ := I.tuple hq
  rw [assign_Tuple]
  refine wpAny_bind (wpAny_standAt (qhj (I.hq hc he) ht (by simp [h1, <- hl,rv.length]) h2 fun h' hx => ?_))
  have I1 : Inv X pins σ H { s with heap := h' } := I.kept (t' := s.toks) fun b o e => hx b o (Nat.ne_of_lt (Heap.lt_size e)) e
  exact h pins _ σ H xs _ Q I1 (by simpa using rv) hw
end L2
namespace L2
open PySem PySem.Spec PyProof.Rows
structure q8n (P : Program) (w : World) (K : PySem.W.Frag) (mg : Str -> Option Value) (base : Heap) (CX : CXT) (k : Nat) (f : Addr) (fd : FuncData) (ps : List Str) (sp : Sp) : Prop where
  len : ∀ vs H Q E,sp vs H Q E -> vs.length = ps.length
  run : ∀ (A : Around) (outer : List Env) (s : Shared) (H : Hp) (args : Args) (us : List Value) (vs : List V) (Q : VK) (E : XK),q3k k A -> (∃ ah,A.handled = some (.ref ah) /\ vs.head? = some (.ref ah)) -> Env0 P w K mg base A outer s H -> BindsTo s fd args (ps.zip us) -> Vals vs us -> sp vs H Q E ->
    codeAny (model P w) A (.call (.ref f) args) (CR CX outer P w H s Q E) s
theorem fn_ofQ {CX : CXT} {P : Program} {w : World} {K : PySem.W.Frag} {mg : Str -> Option Value} {base : Heap} {k : Nat} {f : Addr} {name qual : Str} {params : Arguments} {body : List Stmt} {scope : Scope} {dV kV doc pm cdv ct oc : Value} {an od : Option Addr}
    {osl : Array (Option Value)} {N ps : List Str} {sp : Sp} (lk : K.lookup f = some ⟨oc,od, .func (PySem.W.fnOf name qual params body scope dV kV doc pm an cdv ct),osl⟩) (hcd : PySem.W.codeIn K cdv qual = true) (S : q1m N ps scope)
    (len : ∀ vs H Q E,sp vs H Q E -> vs.length = ps.length)
    (hbody : ∀ (A : Around) (outer : List Env) (s : Shared) (H : Hp) (vs : List V) (Q : VK) (E : XK) (ah : Addr),q3k k (A.deeper (envOfC qual scope s.heap.objs.size f cdv)) -> A.handled = some (.ref ah) -> vs.head? = some (.ref ah) -> sp vs H Q E ->
      ∃ t,PSs (qaa CX P w K mg base N qual scope f cdv A outer s H E) body t /\ t { nx := fun _ H' => Q .non H',rt := Q } (start N vs) H) :
    q8n P w K mg base CX (k + 1) f (PySem.W.fnOf name qual params body scope dV kV doc pm an cdv ct) ps sp := by
  refine ⟨len,fun A outer s H args us vs Q E hr ⟨ah,hA,hv⟩ e0 hb r hsp => ?_⟩
  have hl := len _ _ _ _ hsp
  have KX : K.In s.heap := e0.mod.kin.keeps fun b o e => (e0.bs b o e).1
  have lim : s.heap.NoLimit := e0.mod.nolimit.keeps fun b o e => (e0.bs b o e).1
  have hkind : ∀ y ∈ ps.zip us,scope.names.lookup y.1 = some .local \/ (scope.names.lookup y.1 = some .cell /\ ((cellsFrom (s.heap.objs.size + 1) scope.names []).lookup y.1).isSome = true) := fun ⟨n,v⟩ hy => by
    rcases S.par n (List.of_mem_zip hy).1 with q | q
    . exact .inl q
    . exact .inr ⟨q,PySem.W.cellsFrom_some _ _ _ (.inl q)⟩
  refine codeAny_call_function hr.depth (KX _ _ lk) rfl S.co S.gen rfl (PySem.W.codeRec_of KX hcd) (hb _ _ _ _ ?_)
  refine wpAny_newFunctionEnv_cells S.kind hkind fun env he s1 x => ?_
  subst he
  refine ⟨lim.keeps x.toInCall.keep,codeAny_func ?_⟩
  obtain ⟨t,ht,hq⟩ := hbody A outer s H vs Q E ah (hr.deeper _) hA hv hsp
  have e1 : Env0 P w K mg base { A with handled := none } outer s H := ⟨e0.frames,e0.mod,e0.bs,e0.bsz,e0.funs,e0.frf,e0.hok,e0.bare⟩
  have I0 : Inv (cxOf CX P w K mg base N qual scope f cdv { A with handled := none } outer s H E) [] (start N vs) H s1 := q9q S rfl e1 hl r x
  have I : Inv (qaa CX P w K mg base N qual scope f cdv A outer s H E) [] (start N vs) H s1 := by
    have ok := I0.ok
    exact ⟨⟨ok.mod,ok.kind,ok.glob,ok.blt,ok.above,ok.inj,ok.has,ok.cab,(fun z => by cases z),ok.frames,ok.stk,ok.exf,ok.bs,ok.bsz,ok.noex,ok.exfs,ok.funs,ok.frf⟩,I0.os,I0.bare,I0.base,I0.loc,I0.cell,I0.free,I0.freeC,I0.pin,I0.hok,I0.len⟩
  refine wpAny_mono (ht [] s1 (start N vs) H _ I hq) (fun fl s' hs => ?_) fun e s' hs => hs
  have fin : ∀ {σ' : St} {H' : Hp} {v : V} {u : Value},Inv (qaa CX P w K mg base N qual scope f cdv A outer s H E) [] σ' H' s' -> RelV v u -> Q v H' -> CE outer P w H s Q u s' :=
    fun {σ' H' v u} J rv q => ⟨v,H',J.os,J.bare,J.base,J.hok,rv,q⟩
  cases fl with
  | ret u =>
    obtain ⟨v, σ',H',J,rv,q⟩ := hs
    exact fin J rv q
  | next =>
    obtain ⟨σ',H',J,q⟩ := hs
    exact fin (v := V.non) (u := Value.none) J rfl q
  | brk =>
    obtain ⟨_,_,_,q⟩ := hs
    exact False.elim q
  | cont =>
    obtain ⟨_,_,_,q⟩ := hs
    exact False.elim q
section
variable {P : Program} {w : World} {K : PySem.W.Frag} {mg : Str -> Option Value} {base : Heap} {x qual : Str} {st : Stmt} {f : Addr} {fd : FuncData} {N ps : List Str} {k : Nat} {sp : Sp}
theorem Fun.okQ (F : Fun K x qual st f fd) (S : q1m N ps (q18 st)) (len : ∀ vs H Q E,sp vs H Q E -> vs.length = ps.length)
    (hbody : ∀ (cdv : Value) (A : Around) (outer : List Env) (s : Shared) (H : Hp) (vs : List V) (Q : VK) (E : XK) (ah : Addr),q3k k (A.deeper (envOfC qual (q18 st) s.heap.objs.size f cdv)) -> A.handled = some (.ref ah) -> vs.head? = some (.ref ah) -> sp vs H Q E ->
      ∃ t,PSs (qaa CX0 P w K mg base N qual (q18 st) f cdv A outer s H E).nox (q1k st) t /\ t { nx := fun _ H' => Q .non H',rt := Q } (start N vs) H) : q8n P w K mg base CX0 (k + 1) f fd ps sp := by
  obtain ⟨oc,od,kV,doc,pm,an,cdv,ct,osl,rfl,lk,hcd⟩ := F.ex
  refine fn_ofQ lk hcd S len fun A outer s H vs Q E ah hr hA hv hsp => ?_
  obtain ⟨t,h,q⟩ := hbody cdv A outer s H vs Q E ah hr hA hv hsp
  exact ⟨t,h.nox,q⟩
end
section
variable {X : Cx} {CX : CXT} {k : Nat} {f C ah : Addr} {fd : FuncData} {ps : List Str} {sp : Sp} {dvs : List V} {ds : List Value} {E : XK} {x m : Str} {p pos apos : Pos} {e o : Expr} {es : List Expr} {ta : TE} {t : TA}
def qft (ah : Addr) (sp : Sp) (dvs : List V) (E : XK) (t : TA) : TE := fun σ H Q => t σ H fun vs H1 => (vs ++ dvs).head? = some (.ref ah) /\ sp (vs ++ dvs) H1 Q E
theorem qgf (F : q8n X.prog X.w X.K X.mg X.base CX k f fd ps sp) (hr : q3k k X.A) (hc : X.A.handled = some (.ref ah)) (hg : Gl X x) (hm : X.mg x = some (.ref f)) (hk : PySem.W.keepIn X.K (.ref f) = true) (hb : Binds X.K fd ps ds) (hd : Vals dvs ds) (hx : Passes CX X E)
    (ha : PA X (e :: es) t) (hdb : (x == ("__debug__" : Str)) = false := by decide) (he : starEach (e :: es) X.env = (false,eval e X.env) :: starEach es X.env := by rfl) (hpl : (backTo pos (starEach es X.env)).any (·.1) = false := by rfl) :
    PE X (.Call (.Name x p) (e :: es) [] pos) (qft ah sp dvs E t) := by
  intro pins s σ H Q I h
  refine wpAny_Call_Name_kw (q4d I hg hm ?_ hdb)
  refine PySem.W.callWith_K (h₀ := X.base) I.ok.mod.kin hk (thn (ha pos pins s σ H _ I h) fun us s1 ⟨vs,H1,I1,r,hv,q⟩ => ⟨I1.kIn,?_⟩) he hpl
  have r2 : Vals (vs ++ dvs) (us ++ ds) := r.append hd
  have hl : (us ++ ds).length = ps.length := by rw [<- r2.length]; exact F.len _ _ _ _ q
  refine wpAny_call (codeAny_mono (F.run X.A X.stack s1 H1 ⟨us,[]⟩ (us ++ ds) (vs ++ dvs) Q E hr ⟨ah,hc,hv⟩ I1.env0 (hb s1 us I1.kIn hl) r2 q) fun r s' hq => ?_)
  cases r with
  | error e => exact hx pins σ H1 s1 e s' I1 hq
  | ok fl =>
    cases fl with
    | ret u => exact I1.after hq
    | next => exact False.elim hq
    | brk => exact False.elim hq
    | cont => exact False.elim hq
end
theorem q8k : ∀ {ys : List Str} {us : List Value},Vals (ys.map V.str) us -> StrsAre us ys
  | [],_, .nil => .nil
  | y :: ys,_, .cons r rs => by
    obtain ⟨t,rfl⟩ := r
    exact .cons y t (q8k rs)
def rJoin (K : PySem.W.Frag) : V -> List V -> Hp -> VK -> Prop := fun x vs H Q => ∃ (sep : Str) (p : Addr) (ys : List Str),x = .str sep /\ vs = [.ref p] /\ SqL K H p (ys.map V.str) /\ sep.length <= 16 /\ (ys.map (·.length)).sum + ys.length <= 1048576 /\ Q (.str (Txt.join sep ys)) H
theorem qhs {X : Cx} : MtM X "str.join" (rJoin X.K) := by
  intro pins s σ H x vs v us Q I rx rv h
  obtain ⟨sep,p,ys,rfl,rfl,hS,h1,h2,q⟩ := h
  obtain ⟨t,rfl⟩ := rx
  obtain ⟨u,rfl,ru⟩ := rv.one
  cases ru
  obtain ⟨its,r,pl,_⟩ := I.list hS
  exact join_listW pl.isList (q8k r) h1 h2 fun t' k => ⟨.str _,H,I.tok k,⟨t',rfl⟩,q⟩
end L2
set_option maxHeartbeats 8000000
namespace L2
open PySem PySem.Spec PyProof.Rows
def meet {κ : Type} [DecidableEq κ] (acc : List κ) (x : κ) : List κ := if x ∈ acc then acc else acc ++ [x]
def metK {κ : Type} [DecidableEq κ] (xs : List κ) : List κ := xs.foldl meet []
theorem qeg {κ : Type} [DecidableEq κ] (xs : List κ) (x : κ) : metK (xs ++ [x]) = meet (metK xs) x := by unfold metK; rw [List.foldl_append]; rfl
theorem qgg {κ : Type} [DecidableEq κ] {acc : List κ} {x y : κ} : y ∈ meet acc x ↔ y ∈ acc \/ y = x := by
  unfold meet
  split
  . rename_i h
    constructor
    . exact .inl
    . rintro (h' | rfl)
      . exact h'
      . exact h
  . rw [List.mem_append,List.mem_singleton]
theorem qif {κ : Type} [DecidableEq κ] (xs : List κ) : ∀ acc : List κ,(xs.foldl meet acc).length <= acc.length + xs.length := by
  induction xs with
  | nil => intro acc; exact Nat.le_refl _
  | cons x r ih =>
    intro acc
    have h1 := ih (meet acc x)
    have h2 : (meet acc x).length <= acc.length + 1 := by
      unfold meet; split
      . omega
      . rw [List.length_append]; exact Nat.le_refl _
    rw [List.foldl_cons,List.length_cons]; omega
theorem q82 {κ : Type} [DecidableEq κ] : ∀ (xs acc : List κ),xs.Nodup -> (∀ x ∈ xs,x ∉ acc) -> xs.foldl meet acc = acc ++ xs
  | [],acc,_,_ => by simp
  | x :: r,acc,hn,hd => by
    rw [List.foldl_cons]
    have hx : meet acc x = acc ++ [x] := by unfold meet; rw [if_neg (hd x List.mem_cons_self)]
    rw [hx,q82 r _ (List.nodup_cons.mp hn).2 fun y hy hm => ?_,List.append_assoc]; rfl
    rcases List.mem_append.mp hm with h | h
    . exact hd y (List.mem_cons_of_mem _ hy) h
    . rw [List.mem_singleton] at h; subst h; exact (List.nodup_cons.mp hn).1 hy
section
variable {prog : Program} {w : World} {A : Around} {R : Result -> Shared -> Prop} {I : Addr} {fp wr : List Addr} {G : Array GenState -> Array GenState -> Prop} {P : Nat -> Value -> Prop} {St : Nat -> Shared -> Prop} {xs : List Str}
theorem qgv (W : WalksS prog w A.in1 I fp wr G xs.length P St) (S : Addr) (nf : S ∉ fp) (hv : ∀ i v,P i v -> ∃ x t,xs[i]? = some x /\ v = .str x t) (hb : xs.length + 1 < scanBound) : ∀ (k i : Nat) (s : Shared),xs.length - i = k -> i <= xs.length -> St i s ->
      s.heap.SetOf (PySem.strKind prog w) S (fun y => decide (y ∈ metK (xs.take i))) (metK (xs.take i)).length ->
      (∀ s',Moved (S :: wr) G s s' -> s'.heap.SetOf (PySem.strKind prog w) S (fun y => decide (y ∈ metK xs)) (metK xs).length -> R (.ok (.ret .none)) s') ->
      codeAny (model prog w) A (.builtin "set.update.loop" ⟨[.ref S, .ref I],[]⟩) R s := by
  have nw : S ∉ wr := fun z => nf (W.sub _ z)
  have up : ∀ b ∈ wr,b ∈ S :: wr := fun b z => List.mem_cons_of_mem _ z
  have stay : ∀ {s s' : Shared} {S' : Str -> Bool} {n : Nat},Moved wr G s s' -> s.heap.SetOf (PySem.strKind prog w) S S' n -> s'.heap.SetOf (PySem.strKind prog w) S S' n := fun m ⟨o,es,ep,t,ho,rest⟩ => ⟨o,es,ep,t,m.heap S _ nw ho,rest⟩
  intro k
  induction k with
  | zero =>
    intro i s hk hi st hS hR
    obtain rfl : i = xs.length := by omega
    refine codeAny_builtin F.entry_set_update_loop ?_
    rw [Around.under_plainId F.plain_set_update_loop _]
    show wpAny _ A.in1 (pyNext (.ref I) >>= _) _ _ s
    rw [List.take_length] at hS
    refine wpAny_bind (W.done s _ _ st fun s' m => ?_)
    exact wpAny_pure (hR s' (m.mono up) (stay m hS))
  | succ k ih =>
    intro i s hk hi st hS hR
    have lt : i < xs.length := by omega
    refine codeAny_builtin F.entry_set_update_loop ?_
    rw [Around.under_plainId F.plain_set_update_loop _]
    show wpAny _ A.in1 (pyNext (.ref I) >>= _) _ _ s
    refine wpAny_bind (W.item i s _ _ lt st fun v s1 hP st1 m1 => ?_)
    obtain ⟨x,t,hx,rfl⟩ := hv i v hP
    have hS1 := stay m1 hS
    have tk : metK (xs.take (i + 1)) = meet (metK (xs.take i)) x := by rw [List.take_add_one,hx]; exact qeg _ _
    have le : (metK (xs.take i)).length <= i := by
      have := qif (xs.take i) ([] : List Str)
      rw [List.length_take] at this
      unfold metK
      simp at this; omega
    show wpAny _ A.in1 (holding [Value.str x t] (setAdd S (.str x t)) >>= _) _ _ s1
    refine wpAny_bind (wpAny_holding ?_)
    unfold setAdd
    refine wpAny_holding (wpAny_bind ((PySem.strKind prog w).pyHash (k := x) (strKind_is _ _ _ _) ?_))
    refine wpAny_setAddHashed_of (knd := PySem.strKind prog w) (s := { s1 with toks := s1.toks + 1 }) (strKind_is _ _ _ _) rfl hS1 (by omega) fun h' sb hS2 => ?_
    have hS3 : h'.SetOf (PySem.strKind prog w) S (fun y => decide (y ∈ metK (xs.take (i + 1)))) (metK (xs.take (i + 1))).length := by
      refine SetOf_congr hS2 (fun y => ?_) ?_
      . rw [tk,Bool.eq_iff_iff]
        simp only [Bool.or_eq_true,decide_eq_true_eq]
        exact qgg.symm
      . rw [tk]; unfold meet
        by_cases z : x ∈ metK (xs.take i)
        . rw [if_pos (by exact decide_eq_true z),if_pos z]
        . rw [if_neg (by simpa using z),if_neg z,List.length_append]; rfl
    refine wpAny_pure ⟨plainId_quiet F.plain_set_update_loop _,ih (i + 1) _ (by omega) lt (W.frame _ s1 _ _ st1 (Nat.le_succ _) fun b hb' o e => ?_) hS3 fun s2 m2 hS4 => ?_⟩
    . rw [sb.2 b fun z => nf (z ▸ hb')]; exact e
    . refine hR s2 (Moved.trans W.gtrans ((m1.mono up).then_heap (Nat.le_succ _) fun b o hb' e => ?_) m2) hS4
      rw [sb.2 b fun z => hb' (z ▸ List.mem_cons_self)]; exact e
end
section
variable {prog : Program} {w : World} {A : Around} {E : Value -> Shared -> Prop} {s : Shared}
theorem qbg {l : Addr} {its : Array Value} {xs : List Str} {Q : Value -> Shared -> Prop} (hh : A.handled = none) (hl : s.heap.IsList l its) (hi : ∀ (i : Nat) v,its[i]? = some v -> ∃ x t,xs[i]? = some x /\ v = .str x t) (hz : its.size = xs.length) (hb : xs.length + 1 < scanBound)
    (h : ∀ (h' : Heap) (tk : Nat),h'.SetOf (PySem.strKind prog w) s.heap.objs.size (fun y => decide (y ∈ metK xs)) (metK xs).length ->
      (∀ b o,b < s.heap.objs.size -> s.heap.get? b = some o -> h'.get? b = some o) -> Q (.ref s.heap.objs.size) { s with heap := h',toks := tk }) : wpAny (model prog w) A (call (.type "set") [.ref l]) Q E s := by
  obtain ⟨c,tl,hmro⟩ := F.called_set.mro
  have hmade := F.called_set.made
  have hsub := F.called_set.sub
  refine wpAny_call (codeAny_of_tree (by
    show wpAny _ _ (callAny (.type "set") _) _ _ _
    refine wpAny_pure ⟨Code.quiet_builtin _ (by decide +kernel),codeAny_builtin F.entry_type_call ?_⟩
    rw [Around.under_plain (weight_type_call_type "set" [.ref l] []) rfl]
    have n1 := F.called_set.notType
    have n2 := F.called_set.canCreate
    have n3 := F.typeCall_set_1 (.ref l)
    repeat (any_goals (first | wp_step | assumption))
    refine codeAny_mono (code_set_new_1 (.ref l) (E := E) (Q₁ := fun ob s1 => ∃ led : Bool,ob = .ref s.heap.objs.size /\ s1 = { s with heap := s.heap.push ({ cls := .type "set",dict := none,data := .set #[] 0 (.fresh 0 0 led) }) }) fun led => ⟨led,rfl,rfl⟩) fun r s1 hr => ?_
    cases r with
    | error e => exact hr
    | ok fl =>
      cases fl with
      | ret ob =>
        obtain ⟨led,rfl,rfl⟩ := hr
        have gS : (s.heap.push ({ cls := .type "set",dict := none,data := .set #[] 0 (.fresh 0 0 led) })).get? s.heap.objs.size = some ({ cls := .type "set",dict := none,data := .set #[] 0 (.fresh 0 0 led) }) := Heap.get?_push_size _ rfl
        have tS : Shared.TypeIs { s with heap := s.heap.push ({ cls := .type "set",dict := none,data := .set #[] 0 (.fresh 0 0 led) }) } (.ref s.heap.objs.size) "set" := ⟨_,gS,rfl⟩
        have i1 := F.called_set.init.lookup
        have i2 := F.called_set.init.bind (.ref s.heap.objs.size)
        repeat (any_goals (first | wp_step | assumption))
        refine codeAny_mono (codeAny_call_builtin (R := wants (fun r s2 => r = .none /\ ∃ h' tk,s2 = { s with heap := h',toks := tk } /\ h'.SetOf (PySem.strKind prog w) s.heap.objs.size (fun y => decide (y ∈ metK xs)) (metK xs).length /\
            (∀ b o,b < s.heap.objs.size -> s.heap.get? b = some o -> h'.get? b = some o)) E) F.called_set.init.plain F.entry_set_init (check_set_init_1 tS ?_)) fun r2 s2 hr2 => ?_
        . obtain ⟨ol,q1,q2,nl,q3⟩ := hl
          obtain ⟨oc,od,oda,os⟩ := ol
          simp only at q2 q3
          subst q2; subst q3
          have q4 : (s.heap.push ({ cls := .type "set",dict := none,data := .set #[] 0 (.fresh 0 0 led) })).get? l = some { cls := .type "list",dict := od,data := .seq its nl,slots := os } := Heap.get?_push_of_some _ q1
          have u1 := F.sub_list_set
          have u2 := F.sub_list_frozenset
          have u3 : (Value.type "list" == Value.type "dict") = false := by decide
          have L1 : (s.heap.push ({ cls := .type "set",dict := none,data := .set #[] 0 (.fresh 0 0 led) })).IsList l its := ⟨_,q4,rfl,nl,rfl⟩
          unfold Builtin.«set.__init__» noKeywords Builtin.Frozenset.updateFrom
          generalize hPI : pyIter = PI
          wp_walk
          subst hPI
          refine wpAny_pyIter_list L1 ?_
          refine (wpAny_bind (wpAny_runValue ?_))
          have ls : l < s.heap.objs.size := Heap.lt_size q1
          have hd3 : A.in1.in1.in1.handled = none := by simp [hh]
          have ne : l ≠ (s.heap.push ({ cls := .type "set",dict := none,data := .set #[] 0 (.fresh 0 0 led) })).objs.size := by rw [Heap.size_push]; exact Nat.ne_of_lt (Nat.lt_succ_of_lt ls)
          have nS : s.heap.objs.size ∉ [(s.heap.push ({ cls := .type "set",dict := none,data := .set #[] 0 (.fresh 0 0 led) })).objs.size,l] := by
            rw [Heap.size_push]
            intro z
            rcases List.mem_cons.mp z with z | z
            . exact absurd z (Nat.ne_of_lt (Nat.lt_succ_self _))
            . rw [List.mem_singleton] at z; exact absurd z (Nat.ne_of_gt ls)
          have WK := (Walks.list (prog := prog) (w := w) hd3 (s.heap.push ({ cls := .type "set",dict := none,data := .set #[] 0 (.fresh 0 0 led) })).objs.size l ne its).toS
          rw [hz] at WK
          refine qgv (xs := xs) WK s.heap.objs.size nS (fun i v z => hi i v z) hb (xs.length - 0) 0 _ (by omega) (Nat.zero_le _) ⟨⟨_,Heap.get?_push_size _ rfl,rfl,rfl⟩,(L1.push _)⟩ ?_ ?_
          . have gg : ((s.heap.push ({ cls := .type "set",dict := none,data := .set #[] 0 (.fresh 0 0 led) })).push { cls := .type "list_iterator",data := .fields #[.ref l, .int 0 0] }).get? s.heap.objs.size = some { cls := .type "set",dict := none,data := .set #[] 0 (.fresh 0 0 led) } := Heap.get?_push_of_some _ gS
            exact SetOf_congr ((setObjOf_fresh (knd := PySem.strKind prog w) led).setOf gg (by unfold scanBound; omega)) (fun _ => rfl) rfl
          . intro s' m hS'
            obtain ⟨h',g',d',tk',os'⟩ := s'
            obtain rfl : g' = s.gens := m.gens
            obtain rfl : d' = s.drawn := m.drawn
            obtain rfl : os' = s.os := m.os
            refine wpAny_pure (wpAny_pure ⟨rfl,h',tk',rfl,hS',fun b o hb' e => ?_⟩)
            refine m.heap b o (fun z => ?_) (Heap.get?_push_of_some _ (Heap.get?_push_of_some _ e))
            rcases List.mem_cons.mp z with z | z
            . exact absurd z (Nat.ne_of_lt hb')
            . rw [List.mem_singleton,Heap.size_push] at z; exact absurd z (Nat.ne_of_lt (Nat.lt_succ_of_lt hb'))
        . cases r2 with
          | error e => exact hr2
          | ok f2 =>
            cases f2 with
            | ret r =>
              obtain ⟨rfl,h',tk,rfl,hS',hk'⟩ := hr2
              repeat (any_goals (first | wp_step | assumption))
              exact h _ _ hS' hk'
            | _ => exact hr2.elim
      | _ => exact hr.elim))
end
end L2
namespace L2
open PySem PySem.Spec PyProof.Rows
section
variable {X : Cx}
def SetS (P : Program) (w : World) (a : Addr) (ts : List Str) : HO := .ext fun h => h.SetOf (PySem.strKind P w) a (fun y => decide (y ∈ metK ts)) (metK ts).length
theorem q9g (hc : X.calm = true) : q33 X (.type "set") (fun xs H Q => ∃ p, ∃ ts : List Str,xs = [.ref p] /\ SqL X.K H p (ts.map V.str) /\ ts.length <= 1000 /\ ∀ a,H a = none -> Q (.ref a) (upd H a (SetS X.prog X.w a ts))) := by
  intro pins s σ H xs us Q I r h
  obtain ⟨p,ts,rfl,hS,hl,q⟩ := h
  obtain ⟨u,rfl,ru⟩ := vals1 r
  cases ru
  obtain ⟨its,rv,pl,_⟩ := I.list hS
  have hlen : its.length = ts.length := by have := rv.length; simpa using this.symm
  refine qbg (xs := ts) (I.ok.hd hc) pl.isList (fun i v hv => ?_) (by simp [hlen]) (by unfold scanBound; omega) fun h' tk hset hk => ?_
  . have hi : i < ts.length := by
      have := (Array.getElem?_eq_some_iff.mp hv).1
      simp [hlen] at this; exact this
    obtain ⟨u,hu,ru⟩ := rv.get (show (ts.map V.str)[i]? = some (.str ts[i]) by rw [List.getElem?_map,List.getElem?_eq_getElem hi]; rfl)
    have : its[i]? = some v := by simpa using hv
    rw [this] at hu; cases hu
    obtain ⟨t,rfl⟩ := ru
    exact ⟨ts[i],t,List.getElem?_eq_getElem hi,rfl⟩
  . have k : ∀ b o,s.heap.get? b = some o -> h'.get? b = some o := fun b o e => hk b o (Heap.lt_size e) e
    refine ⟨.ref s.heap.objs.size,_,I.laid (t' := tk) (o := SetS X.prog X.w s.heap.objs.size ts) k (Nat.le_refl _) ?_,rfl,q _ (I.hok.fresh (Nat.le_refl _))⟩
    refine ⟨hset,?_,fun h1 h2 hs1 kk => ?_⟩
    . obtain ⟨o,_,_,_,ho,_⟩ := hset
      exact ⟨o,ho⟩
    . obtain ⟨o,es,ep,t,ho,rest⟩ := hs1
      exact ⟨o,es,ep,t,kk o ho,rest⟩
theorem q9l : q33 X (.builtin "len") (fun xs H Q => ∃ a, ∃ ts : List Str,xs = [.ref a] /\ H a = some (SetS X.prog X.w a ts) /\ Q (.int ((metK ts).length : Nat)) H) := by
  intro pins s σ H xs us Q I r h
  obtain ⟨a,ts,rfl,ha,q⟩ := h
  obtain ⟨u,rfl,ru⟩ := vals1 r
  cases ru
  obtain ⟨hset,_⟩ := (show q2h X.prog X.w H s.heap a (SetS X.prog X.w a ts) from I.hok a _ ha)
  obtain ⟨o,es,ep,t,ho,hex,hd,_,_,hsz,hf,hn⟩ := hset
  refine call_len_set ho hex hd hf (by unfold scanBound at hsz; omega) ⟨.int ((metK ts).length : Nat),H,I.tok _,⟨_,by rw [hn]⟩,q⟩
theorem q2z : Passes (CX1 X.prog X.w) X (fun _ _ _ => False) := by
  intro pins σ H s e s' I hx
  obtain ⟨a,C,H',B,_,_,q⟩ := hx
  exact q.elim
end
structure Base (K : PySem.W.Frag) (C : Addr) (m : Str) (f : Addr) : Prop where
  sp : PySem.W.specialIn K (.ref C) "__getattribute__" = some (some (.builtin "type.__getattribute__"))
  rd : PySem.W.readsIn K C (.type "type") = true
  fc : PySem.W.findCls K (.ref C) (.type "type") m = some (.val (.ref f))
  kp : PySem.W.keepIn K (.ref f) = true
section
variable {X : Cx} {CX : CXT} {k : Nat} {f C : Addr} {fd : FuncData} {ps : List Str} {sp : Sp} {dvs : List V} {ds : List Value} {E : XK} {x m : Str} {p pos apos : Pos} {e o : Expr} {es : List Expr} {ta : TE} {t : TA}
theorem q79 {pl : Sem Bool} (hg : Gl X x) (hm : X.mg x = some (.ref C)) (b : Base X.K C m f) (F : FnOk X.prog X.w X.K X.mg X.base CX k f fd ps sp) (hr : Room k X.A) (hb : Binds X.K fd ps ds) (hd : Vals dvs ds) (hx : Passes CX X E) (ha : PA X (e :: es) t)
    (hdb : (x == ("__debug__" : Str)) = false := by decide)
    (hst : starEach (e :: es) X.env = (false,eval e X.env) :: starEach es X.env := by rfl) (hpl : (backTo pos (starEach es X.env)).any (·.1) = false := by rfl)
    (ht : eval (.Call (.Attribute (.Name x p) m apos) (e :: es) [] pos) X.env = (do
      let ov <- eval (.Name x p) X.env
      standAt apos.atName
      let (f,first) <- holding [ov] (getMethod ov m pl)
      callWith pos f first (backTo pos (starEach (e :: es) X.env)) (backToKw pos (keywordEach [] X.env))) := by rfl) :
    PE X (.Call (.Attribute (.Name x p) m apos) (e :: es) [] pos) (qda sp dvs E t) := by
  intro pins s σ H Q I h
  have he : PE X (.Name x p) (fun σ H Q => Q (.ref C) H) := q3f (v := .ref C) hg hm rfl hdb
  refine PySem.W.methodCall_KW (pl := pl) (thn (he pins s σ H (fun y H' => y = .ref C /\ H' = H) I ⟨rfl,rfl⟩) fun u s1 ⟨y,H1,I1,ry,z1,z2⟩ => ?_) ht
  subst z1 z2
  obtain rfl : u = Value.ref C := ry
  refine PySem.W.method_cls I1.kIn b.sp (PySem.W.cls_value I1.kIn b.rd b.fc rfl ?_)
  have I2 := I1.tok (s1.toks + 1)
  refine PySem.W.callWith_K (first := []) (h₀ := X.base) I.ok.mod.kin b.kp (thn (ha pos pins _ σ H1 _ I2 h) fun us s2 ⟨vs,H2,I3,r,q2⟩ => ⟨I3.kIn,?_⟩) hst hpl
  exact q8b F hr hb hd hx I3 r q2
end
end L2
namespace L2
open PySem PySem.Spec PyProof.Rows
section
variable {X : Cx} {pins : List (Addr × Obj)} {σ : St} {H : Hp} {s : Shared} {l b : Addr} {xs ys zs : List V}
theorem Inv.lstR (I : Inv X pins σ H s) (hH : Rd H l (.lst xs)) : xs.length <= sizeLine /\ ∃ (its : List Value) (n : Nat),Vals xs its /\ xs.length = its.length /\ s.heap.get? l = some { cls := .type "list",data := .seq its.toArray n } := by
  obtain ⟨z,its,n,r,e⟩ := hH.ok I.hok
  exact ⟨z,its,n,r,r.length,e⟩
def rCatR : R2 := fun x y H Q => ∃ l b xs zs,x = .ref l /\ y = .ref b /\ Rd H l (.lst xs) /\ Rd H b (.lst zs) /\ xs.length + zs.length <= sizeLine /\ ∀ p,H p = none -> Q (.ref p) (upd H p (.lst (xs ++ zs)))
theorem q58 : OpR X (binaryOp .Add) rCatR := by
  intro pins s σ H x y v u Q I rx ry h
  obtain ⟨l,b,xs,zs,rfl,rfl,hH,hB,hz,q⟩ := h
  cases rx
  cases ry
  obtain ⟨z,its,n,r,hl,e⟩ := I.lstR hH
  obtain ⟨z2,its2,n2,r2,hl2,e2⟩ := I.lstR hB
  refine PySem.P.add_list e e2 ?_ (by rw [List.size_toArray,List.size_toArray]; omega)
  have ea : its.toArray ++ its2.toArray = (its ++ its2).toArray := by simp
  rw [ea]
  exact ⟨.ref _,_,I.lnew (t' := s.toks) (r.append r2) (by rw [List.length_append]; omega),rfl,q _ I.fresh⟩
end
end L2
namespace L2
open PySem PySem.Spec PyProof.Rows
inductive TyZ (K : PySem.W.Frag) (H : Hp) : V -> Value -> Prop where
  | of {x : V} {t : Value} (h : TyOf K H x t) : TyZ K H x t
  | tup {a : Addr} {xs : List V} (h : SqT K H a xs) : TyZ K H (.ref a) (.type "tuple")
  | lst {a : Addr} {xs : List V} (h : Rd H a (.lst xs)) : TyZ K H (.ref a) (.type "list")
  | dK {a : Addr} {kvs : List (Key × V)} (h : Rd H a (.dK kvs)) : TyZ K H (.ref a) (.type "dict")
section
variable {X : Cx}
theorem TyZ.kit {pins : List (Addr × Obj)} {σ : St} {H : Hp} {s : Shared} {x : V} {u t : Value} (I : Inv X pins σ H s) (rx : RelV x u) (ty : TyZ X.K H x t) : ∃ HH,PySem.W.KitX X.K u t HH /\ HH s.heap /\ u ≠ .builtin "__main__.__loader__#opaque" := by
  cases ty with
  | of h => exact h.kit I rx
  | @tup a xs h =>
    cases (show u = Value.ref a from rx)
    obtain ⟨its,r,p,hz⟩ := I.tuple h
    obtain ⟨o,h1,h2,_⟩ := p
    exact ⟨_,PySem.W.kitx_tuple,⟨o,h1,h2⟩,fun z => nomatch z⟩
  | @lst a xs h =>
    cases (show u = Value.ref a from rx)
    obtain ⟨_,_,n,_,h1⟩ := h.ok I.hok
    exact ⟨_,PySem.W.kitx_list,⟨_,h1,rfl⟩,fun z => nomatch z⟩
  | @dK a kvs h =>
    cases (show u = Value.ref a from rx)
    obtain ⟨_,_,vs,_,p⟩ := h.ok I.hok
    obtain ⟨o,es,ep,h1,h2,_⟩ := p
    exact ⟨_,PySem.W.kitx_dict,⟨o,h1,h2.1⟩,fun z => nomatch z⟩
def rIsi (K : PySem.W.Frag) : List V -> Hp -> VK -> Prop := fun xs H Q => ∃ x n t b,xs = [x, .ty n] /\ TyZ K H x t /\ PySem.W.kitOne K t (.type n) = some b /\ Q (.bl b) H
theorem q9j : q33 X (.builtin "isinstance") (rIsi X.K) := by
  intro pins s σ H xs us Q I r h
  obtain ⟨x,n,t,b,rfl,ty,e,q⟩ := h
  obtain ⟨u,w',rfl,ru,rw'⟩ := vals2 r
  cases rw'
  obtain ⟨HH,Z,hh,hne⟩ := ty.kit I ru
  exact PySem.W.kia_one Z I.kIn hh e hne fun tk => ⟨.bl b,H,I.tok tk,rfl,q⟩
def rLen (K : PySem.W.Frag) : List V -> Hp -> VK -> Prop := fun xs H Q => (∃ p ys,xs = [.ref p] /\ (SqL K H p ys \/ SqT K H p ys) /\ Q (.int ys.length) H) \/ ∃ z,xs = [.str z] /\ z.length <= sizeLine /\ Q (.int z.length) H
theorem q3o : q33 X (.builtin "len") (rLen X.K) := q33.or qah qbe
def qcm (K : PySem.W.Frag) : List V -> Hp -> VK -> Prop := fun xs H Q => ∃ p ys,xs = [.ref p] /\ (SqL K H p ys \/ SqT K H p ys) /\ ∀ l,H l = none -> Q (.ref l) (upd H l (.lst ys))
theorem q8t : q33 X (.type "list") (qcm X.K) := qbi
def rAll (K : PySem.W.Frag) : List V -> Hp -> VK -> Prop := fun xs H Q => ∃ p, ∃ bs : List Bool,xs = [.ref p] /\ SqL K H p (bs.map V.bl) /\ Q (.bl (bs.all id)) H
theorem qey (hc : X.calm = true) : q33 X (.builtin "all") (rAll X.K) := qgh hc
def rMin2 : List V -> Hp -> VK -> Prop := fun xs H Q => ∃ i j,xs = [.int i, .int j] /\ Q (.int (if j < i then j else i)) H
theorem qd4 (hc : X.calm = true) : q33 X (.builtin "min") rMin2 := qf7 hc
end
end L2
namespace L2
open PySem PySem.Spec PyProof.Rows
section
variable {X : Cx} {K : PySem.W.Frag} {tg : Expr}
theorem qez (h : X.K = K) : OpR X (binaryOp .Add) (qdk K) := h ▸ qhl
theorem qip {e : Expr} {f : Str} {ta : TE} {pos : Pos} (h : X.K = K) (he : PE X e ta) (hb : attributeBase e f X.env (eval e X.env) = eval e X.env) : PE X (.Attribute e f pos) (tFld K ta f) := h ▸ q4j he hb
end
end L2
namespace Z
open PySem L2
inductive AV where
  | non | bl (b : Bool) | int (i : Int) | str (x : Str)
  | tup (xs : List AV) | lst (xs : List AV) | dk (ks : List Key) (xs : List AV) | ref (k : Nat)
  | kst (xs : List AV)
  | xc (c : Nat)
inductive Cell where
  | dead | lst (xs : List AV) | dk (ks : List Key) (xs : List AV) | ins (c : Nat) (fs : List (Nat × AV))
abbrev AEnv := List (Option AV)
abbrev AH := List Cell
inductive Re (α : Type) where
  | ok (x : α) (h : AH) | ex (c : Nat) (h : AH) | no
def Re.bind {α β : Type} (r : Re α) (f : α -> AH -> Re β) : Re β := match r with | .ok x h => f x h | .ex c h => .ex c h | .no => .no
@[simp] theorem Re.q4b {α β : Type} (x : α) (h : AH) (f : α -> AH -> Re β) : (Re.ok x h).bind f = f x h := rfl
@[simp] theorem Re.bind_ex {α β : Type} (c : Nat) (h : AH) (f : α -> AH -> Re β) : (Re.ex c h : Re α).bind f = .ex c h := rfl
@[simp] theorem Re.bind_no {α β : Type} (f : α -> AH -> Re β) : (Re.no : Re α).bind f = .no := rfl
structure Ct where
  K : PySem.W.Frag
  cl : Nat -> Addr
  fn : Nat -> Str
  fl : Nat -> List Nat
  inj : ∀ c i j,i ∈ fl c -> j ∈ fl c -> fn i = fn j -> i = j
  fld : ∀ c i,i ∈ fl c -> Cls K (cl c) /\ q25 K (cl c) (fn i)
  fg : Nat -> List Nat
  pin : Option (Addr × Addr) := none
structure Wd where
  ρ : List Addr
  Fz : Addr -> Prop
  h : AH
  H : Hp
mutual
def Tr (C : Ct) (w : Wd) : AV -> V -> Prop
  | .non,v => v = .non
  | .bl b,v => v = .bl b
  | .int i,v => v = .int i
  | .str x,v => v = .str x
  | .tup xs,v => ∃ a vs,v = .ref a /\ SqT C.K w.H a vs /\ Trs C w xs vs
  | .lst xs,v => ∃ a vs,v = .ref a /\ w.Fz a /\ Rd w.H a (.lst vs) /\ Trs C w xs vs
  | .dk ks xs,v => ∃ a kvs,v = .ref a /\ w.Fz a /\ Rd w.H a (.dK kvs) /\ kvs.map (·.1) = ks /\ Trs C w xs (kvs.map (·.2))
  | .ref k,v => ∃ a,v = .ref a /\ w.ρ[k]? = some a
  | .kst xs,v => ∃ a vs,v = .ref a /\ ((w.Fz a /\ Rd w.H a (.lst vs)) \/ SqL C.K (fun _ => none) a vs) /\ Trs C w xs vs
  | .xc c,v => ∃ a,v = .ref a /\ C.pin = some (a,C.cl c)
def Trs (C : Ct) (w : Wd) : List AV -> List V -> Prop
  | [],vs => vs = []
  | x :: xs,vs => ∃ v us,vs = v :: us /\ Tr C w x v /\ Trs C w xs us
end
def Flds (C : Ct) (w : Wd) : List (Nat × AV) -> List (Str × V) -> Prop
  | [],fs => fs = []
  | p :: r,fs => ∃ v us,fs = (C.fn p.1,v) :: us /\ Tr C w p.2 v /\ Flds C w r us
def q5h (C : Ct) (w : Wd) : Cell -> Addr -> Prop
  | .dead,_ => True
  | .lst xs,a => ∃ vs,w.H a = some (.lst vs) /\ Trs C w xs vs
  | .dk ks xs,a => ∃ kvs,w.H a = some (.dK kvs) /\ kvs.map (·.1) = ks /\ Trs C w xs (kvs.map (·.2))
  | .ins c fs,a => ((∀ p ∈ fs,p.1 ∈ C.fl c) /\ C.fl c = C.fg c) /\ ∃ dx fvs,w.H a = some (.ins (C.cl c) dx fvs) /\ Flds C w fs fvs
def Live (w : Wd) (a : Addr) : Prop := ∃ (k : Nat) (c : Cell),w.h[k]? = some c /\ c ≠ .dead /\ w.ρ[k]? = some a
structure Ok (C : Ct) (w : Wd) : Prop where
  len : w.ρ.length = w.h.length
  nd : w.ρ.Nodup
  th : ∀ a ∈ w.ρ,w.H a ≠ none
  cell : ∀ (k : Nat) c a,w.h[k]? = some c -> w.ρ[k]? = some a -> q5h C w c a
  fz : ∀ a,Live w a -> ¬ w.Fz a
  fzt : ∀ a,w.Fz a -> w.H a ≠ none
  pn : ∀ a c,C.pin = some (a,c) -> w.H a = some (excO a c)
def Kept (f : Prop) (o : HO) (r : Option HO) : Prop := r = some o \/ (f /\ ∃ ob kvs,o = .dK kvs /\ r = some (.frz ob o))
structure Le (w w' : Wd) : Prop where
  pre : ∃ t,w'.ρ = w.ρ ++ t
  fz : ∀ a,w.Fz a -> w'.Fz a
  ks : ∀ b, ¬ Live w b -> ∀ o,w.H b = some o -> Kept (w'.Fz b) o (w'.H b)
  fn : ∀ a,w'.Fz a -> w.Fz a \/ w.H a = none \/ Live w a
  nw : ∀ a,Live w' a -> w.H a = none \/ Live w a
  nn : ∀ a,w.H a ≠ none -> w'.H a ≠ none
  rn : ∀ a,a ∈ w'.ρ -> a ∈ w.ρ \/ w.H a = none
theorem Rd.ne {H : Hp} {a : Addr} {u : HO} (r : Rd H a u) : H a ≠ none := by
  rcases r with r | ⟨o,r⟩ <;> rw [r] <;> intro z <;> cases z
theorem Le.kp {w w' : Wd} (le : Le w w') (b : Addr) (hb : ¬ Live w b) (u : HO) (r : Rd w.H b u) : Rd w'.H b u := by
  rcases r with r | ⟨o,r⟩
  . rcases le.ks b hb _ r with q | ⟨_,ob,kvs,rfl,q⟩
    . exact .inl q
    . exact .inr ⟨ob,q⟩
  . rcases le.ks b hb _ r with q | ⟨_,ob,kvs,e,q⟩
    . exact .inr ⟨o,q⟩
    . cases e
theorem Le.refl (w : Wd) : Le w w := ⟨⟨[],by simp⟩,fun _ h => h,fun _ _ _ h => .inl h,fun _ h => .inl h,fun _ h => .inr h,fun _ h => h,fun _ h => .inl h⟩
theorem Le.trans {w w' w'' : Wd} (a : Le w w') (b : Le w' w'') : Le w w'' := by
  have hl : ∀ x,Live w' x -> w.H x = none \/ Live w x := a.nw
  have hn : ∀ x,w'.H x = none -> w.H x = none := fun x z => by
    cases e : w.H x with
    | none => rfl
    | some o => exact absurd z (a.nn x (by rw [e]; intro q; cases q))
  refine ⟨?_,fun x h => b.fz x (a.fz x h),fun x hx o r => ?_,fun x h => ?_,fun x hx => ?_,fun x h => b.nn x (a.nn x h),fun x h => ?_⟩
  . obtain ⟨t,e⟩ := a.pre
    obtain ⟨t',e'⟩ := b.pre
    exact ⟨t ++ t',by rw [e',e,List.append_assoc]⟩
  . have hx' : ¬ Live w' x := fun z => by
      rcases hl x z with z | z
      . rw [r] at z; cases z
      . exact hx z
    rcases a.ks x hx o r with q | ⟨f,ob,kvs,e,q⟩
    . exact b.ks x hx' o q
    . rcases b.ks x hx' _ q with q' | ⟨_,ob',kvs',e',q'⟩
      . exact .inr ⟨b.fz x f,ob,kvs,e,q'⟩
      . cases e'
  . rcases b.fn x h with z | z | z
    . exact a.fn x z
    . exact .inr (.inl (hn x z))
    . rcases hl x z with z | z
      . exact .inr (.inl z)
      . exact .inr (.inr z)
  . rcases b.nw x hx with z | z
    . exact .inl (hn x z)
    . exact hl x z
  . rcases b.rn x h with z | z
    . exact a.rn x z
    . exact .inr (hn x z)
section
variable {C : Ct} {w w' : Wd}
theorem Ok.notup (ok : Ok C w) {a : Addr} (hl : Live w a) {vs : List V} : ¬ Rd w.H a (.tup vs) := by
  obtain ⟨k,c,e1,e2,e3⟩ := hl
  have := ok.cell k c a e1 e3
  intro r
  cases c with
  | dead => exact e2 rfl
  | lst xs => obtain ⟨vs',e,_⟩ := this; rcases r with r | ⟨o,r⟩ <;> rw [e] at r <;> cases r
  | dk ks xs => obtain ⟨kvs,e,_⟩ := this; rcases r with r | ⟨o,r⟩ <;> rw [e] at r <;> cases r
  | ins cc fs => obtain ⟨_,dx,fvs,e,_⟩ := this; rcases r with r | ⟨o,r⟩ <;> rw [e] at r <;> cases r
theorem Ok.sqT (ok : Ok C w) (le : Le w w') {a : Addr} {vs : List V} (h : SqT C.K w.H a vs) : SqT C.K w'.H a vs := by
  rcases h with h | h
  . exact .inl (le.kp a (fun hl => ok.notup hl h) _ h)
  . exact .inr h
mutual
theorem Tr.mono (ok : Ok C w) (le : Le w w') : ∀ {x : AV} {v : V},Tr C w x v -> Tr C w' x v
  | .non,v,h => by rw [Tr] at h ⊢; exact h
  | .bl _,v,h => by rw [Tr] at h ⊢; exact h
  | .int _,v,h => by rw [Tr] at h ⊢; exact h
  | .str _,v,h => by rw [Tr] at h ⊢; exact h
  | .tup xs,v,h => by
    rw [Tr] at h ⊢
    obtain ⟨a,vs,e,hs,ht⟩ := h
    exact ⟨a,vs,e,ok.sqT le hs,Trs.mono ok le ht⟩
  | .lst xs,v,h => by
    rw [Tr] at h ⊢
    obtain ⟨a,vs,e,f,r,ht⟩ := h
    exact ⟨a,vs,e,le.fz a f,le.kp a (fun hl => ok.fz a hl f) _ r,Trs.mono ok le ht⟩
  | .dk ks xs,v,h => by
    rw [Tr] at h ⊢
    obtain ⟨a,kvs,e,f,r,hk,ht⟩ := h
    exact ⟨a,kvs,e,le.fz a f,le.kp a (fun hl => ok.fz a hl f) _ r,hk,Trs.mono ok le ht⟩
  | .ref k,v,h => by
    rw [Tr] at h ⊢
    obtain ⟨a,e,hk⟩ := h
    obtain ⟨t,et⟩ := le.pre
    refine ⟨a,e,?_⟩
    rw [et,List.getElem?_append_left (List.getElem?_eq_some_iff.mp hk).1]; exact hk
  | .kst xs,v,h => by
    rw [Tr] at h ⊢
    obtain ⟨a,vs,e,hs,ht⟩ := h
    refine ⟨a,vs,e,?_,Trs.mono ok le ht⟩
    rcases hs with ⟨f,r⟩ | r
    . exact .inl ⟨le.fz a f,le.kp a (fun hl => ok.fz a hl f) _ r⟩
    . exact .inr r
  | .xc c,v,h => by rw [Tr] at h ⊢; exact h
theorem Trs.mono (ok : Ok C w) (le : Le w w') : ∀ {xs : List AV} {vs : List V},Trs C w xs vs -> Trs C w' xs vs
  | [],vs,h => by rw [Trs] at h ⊢; exact h
  | x :: xs,vs,h => by
    rw [Trs] at h ⊢
    obtain ⟨v,us,e,h1,h2⟩ := h
    exact ⟨v,us,e,Tr.mono ok le h1,Trs.mono ok le h2⟩
end
theorem Flds.mono (ok : Ok C w) (le : Le w w') : ∀ {xs : List (Nat × AV)} {vs : List (Str × V)},Flds C w xs vs -> Flds C w' xs vs
  | [],vs,h => h
  | x :: xs,vs,h => by
    obtain ⟨v,us,e,h1,h2⟩ := h
    exact ⟨v,us,e,Tr.mono ok le h1,Flds.mono ok le h2⟩
theorem Trs.nil : Trs C w [] [] := by rw [Trs]
theorem Trs.cons {x : AV} {v : V} {xs : List AV} {vs : List V} (a : Tr C w x v) (b : Trs C w xs vs) : Trs C w (x :: xs) (v :: vs) := by rw [Trs]; exact ⟨v,vs,rfl,a,b⟩
theorem Trs.len : ∀ {xs : List AV} {vs : List V},Trs C w xs vs -> xs.length = vs.length
  | [],vs,h => by rw [Trs] at h; rw [h]; rfl
  | x :: xs,vs,h => by
    rw [Trs] at h
    obtain ⟨v,us,e,h1,h2⟩ := h
    rw [e,List.length_cons,List.length_cons,Trs.len h2]
theorem Trs.get : ∀ {xs : List AV} {vs : List V} {i : Nat} {x : AV},Trs C w xs vs -> xs[i]? = some x -> ∃ v,vs[i]? = some v /\ Tr C w x v
  | [],vs,i,x,h,e => by simp at e
  | y :: xs,vs,0,x,h,e => by
    rw [Trs] at h
    obtain ⟨v,us,e',h1,h2⟩ := h
    simp at e; subst e; subst e'
    exact ⟨v,rfl,h1⟩
  | y :: xs,vs,i + 1,x,h,e => by
    rw [Trs] at h
    obtain ⟨v,us,e',h1,h2⟩ := h
    subst e'
    obtain ⟨v',q,t⟩ := Trs.get (i := i) h2 (by simpa using e)
    exact ⟨v',by simpa using q,t⟩
theorem Trs.app : ∀ {xs ys : List AV} {vs us : List V},Trs C w xs vs -> Trs C w ys us -> Trs C w (xs ++ ys) (vs ++ us)
  | [],ys,vs,us,h,g => by rw [Trs] at h; subst h; exact g
  | x :: xs,ys,vs,us,h,g => by
    rw [Trs] at h
    obtain ⟨v,us',e,h1,h2⟩ := h
    subst e
    exact .cons h1 (Trs.app h2 g)
theorem Trs.one {x : AV} {v : V} (h : Tr C w x v) : Trs C w [x] [v] := .cons h .nil
theorem Trs.set {x : AV} {v : V} (t : Tr C w x v) : ∀ {xs : List AV} {vs : List V} (i : Nat),Trs C w xs vs -> Trs C w (xs.set i x) (vs.set i v)
  | [],vs,i,h => by rw [Trs] at h; subst h; exact .nil
  | y :: xs,vs,0,h => by
    rw [Trs] at h
    obtain ⟨u,us,e,h1,h2⟩ := h
    subst e
    exact .cons t h2
  | y :: xs,vs,i + 1,h => by
    rw [Trs] at h
    obtain ⟨u,us,e,h1,h2⟩ := h
    subst e
    exact .cons h1 (Trs.set t i h2)
theorem Trs.q66 {vs : List V} : Trs C w [] vs ↔ vs = [] := by rw [Trs]
structure q20 (C : Ct) (w : Wd) (env : AEnv) (σ : St) : Prop where
  len : env.length = σ.length
  at_ : ∀ (i : Nat) x,env[i]? = some (some x) -> ∃ v, σ[i]? = some (some v) /\ Tr C w x v
theorem q20.mono {env : AEnv} {σ : St} (e : q20 C w env σ) (ok : Ok C w) (le : Le w w') : q20 C w' env σ :=
  ⟨e.len,fun i x h => let ⟨v,q,t⟩ := e.at_ i x h; ⟨v,q,t.mono ok le⟩⟩
theorem q20.set {env : AEnv} {σ : St} {x : AV} {v : V} (e : q20 C w env σ) (i : Nat) (t : Tr C w x v) : q20 C w (env.set i (some x)) (σ.set i (some v)) := by
  refine ⟨by rw [List.length_set,List.length_set]; exact e.len,fun j y h => ?_⟩
  by_cases hj : i = j
  . subst hj
    by_cases hi : i < env.length
    . rw [List.getElem?_set_self hi] at h
      cases h
      exact ⟨v,by rw [List.getElem?_set_self (by rw [<- e.len]; exact hi)],t⟩
    . rw [List.getElem?_eq_none (by rw [List.length_set]; omega)] at h; cases h
  . rw [List.getElem?_set_ne hj] at h
    obtain ⟨u,q,t'⟩ := e.at_ j y h
    exact ⟨u,by rw [List.getElem?_set_ne hj]; exact q,t'⟩
theorem q20.unset {env : AEnv} {σ : St} {o : Option V} (e : q20 C w env σ) (i : Nat) : q20 C w (env.set i none) (σ.set i o) := by
  refine ⟨by rw [List.length_set,List.length_set]; exact e.len,fun j y h => ?_⟩
  by_cases hj : i = j
  . subst hj
    by_cases hi : i < env.length
    . rw [List.getElem?_set_self hi] at h
      cases h
    . rw [List.getElem?_eq_none (by rw [List.length_set]; omega)] at h; cases h
  . rw [List.getElem?_set_ne hj] at h
    obtain ⟨u,q,t'⟩ := e.at_ j y h
    exact ⟨u,by rw [List.getElem?_set_ne hj]; exact q,t'⟩
end
end Z
namespace Z
open PySem L2
section
variable {C : Ct} {w : Wd}
theorem q7w {α : Type} : ∀ {l : List α} {i j : Nat} {x : α},l.Nodup -> l[i]? = some x -> l[j]? = some x -> i = j
  | [],i,j,x,_,h,_ => by simp at h
  | y :: l,0,0,x,_,_,_ => rfl
  | y :: l,0,j + 1,x,n,h,g => by
    have e : y = x := by simpa using h
    subst e
    exact absurd (List.mem_of_getElem? (show l[j]? = some y by simpa using g)) (List.nodup_cons.mp n).1
  | y :: l,i + 1,0,x,n,h,g => by
    have e : y = x := by simpa using g
    subst e
    exact absurd (List.mem_of_getElem? (show l[i]? = some y by simpa using h)) (List.nodup_cons.mp n).1
  | y :: l,i + 1,j + 1,x,n,h,g => by
    rw [q7w (List.nodup_cons.mp n).2 (show l[i]? = some x by simpa using h) (show l[j]? = some x by simpa using g)]
theorem Ok.qdj (ok : Ok C w) {a : Addr} (hl : Live w a) : a ∈ w.ρ := by
  obtain ⟨k,c,e1,e2,e3⟩ := hl
  exact List.mem_of_getElem? e3
theorem q4l {H : Hp} {a p : Addr} {o u : HO} (hp : H p = none) (h : H a = some o) : upd H p u a = some o := by
  rw [q1e (q3i h hp)]; exact h
theorem q3a {H : Hp} {a p : Addr} {u : HO} (h : H a ≠ none) : upd H p u a ≠ none := by
  unfold upd; split
  . intro z; cases z
  . exact h
theorem q5h.mono {w' : Wd} (ok : Ok C w) (le : Le w w') {c : Cell} {a : Addr} (hH : w'.H a = w.H a) (h : q5h C w c a) : q5h C w' c a := by
  cases c with
  | dead => trivial
  | lst xs => obtain ⟨vs,e,t⟩ := h; exact ⟨vs,hH.trans e,t.mono ok le⟩
  | dk ks xs => obtain ⟨kvs,e,hk,t⟩ := h; exact ⟨kvs,hH.trans e,hk,t.mono ok le⟩
  | ins cc fs => obtain ⟨hf,dx,fvs,e,t⟩ := h; exact ⟨hf,dx,fvs,hH.trans e,t.mono ok le⟩
theorem Ok.pinne (ok : Ok C w) {a b c : Addr} (hl : Live w a) (h : C.pin = some (b,c)) : b ≠ a := by
  obtain ⟨k,cc,e1,e2,e3⟩ := hl
  have hc := ok.cell k cc a e1 e3
  have hp := ok.pn b c h
  intro z; subst z
  cases cc with
  | dead => exact e2 rfl
  | lst xs => obtain ⟨vs,e,_⟩ := hc; rw [hp] at e; cases e
  | dk ks xs => obtain ⟨vs,e,_⟩ := hc; rw [hp] at e; cases e
  | ins c fs => obtain ⟨_,dx,fvs,e,_⟩ := hc; rw [hp] at e; cases e
def Wd.fresh (w : Wd) (p : Addr) (o : HO) : Wd := { w with H := upd w.H p o }
def Wd.frozen (w : Wd) (p : Addr) (o : HO) : Wd := { w with H := upd w.H p o,Fz := fun a => a = p \/ w.Fz a }
theorem Ok.q3q (ok : Ok C w) {p : Addr} (hp : w.H p = none) (o : HO) : Le w (w.fresh p o) :=
  ⟨⟨[],by simp [Wd.fresh]⟩,fun _ h => h,fun b _ o r => .inl (q4l hp r),fun a h => .inl h,fun a h => .inr h,fun a h => q3a h,fun a h => .inl h⟩
theorem Ok.fresh (ok : Ok C w) {p : Addr} (hp : w.H p = none) (o : HO) : Ok C (w.fresh p o) := by
  have le := ok.q3q hp o
  refine ⟨ok.len,ok.nd,fun a ha => q3a (ok.th a ha),fun k c a e ea => ?_,ok.fz,fun a h => q3a (ok.fzt a h),fun a c h => q4l hp (ok.pn a c h)⟩
  have hne : a ≠ p := fun z => ok.th a (List.mem_of_getElem? ea) (z ▸ hp)
  exact (ok.cell k c a e ea).mono ok le (q1e hne)
theorem Ok.q4w (ok : Ok C w) {p : Addr} (hp : w.H p = none) (o : HO) : Le w (w.frozen p o) :=
  ⟨⟨[],by simp [Wd.frozen]⟩,fun _ h => .inr h,fun b _ o r => .inl (q4l hp r),fun a h => h.elim (fun z => .inr (.inl (z ▸ hp))) .inl,fun a h => .inr h,fun a h => q3a h,fun a h => .inl h⟩
theorem Ok.frozen (ok : Ok C w) {p : Addr} (hp : w.H p = none) (o : HO) : Ok C (w.frozen p o) := by
  have le := ok.q4w hp o
  refine ⟨ok.len,ok.nd,fun a ha => q3a (ok.th a ha),fun k c a e ea => ?_,fun a hl hz => ?_,fun a h => ?_,fun a c h => q4l hp (ok.pn a c h)⟩
  . have hne : a ≠ p := fun z => ok.th a (List.mem_of_getElem? ea) (z ▸ hp)
    exact (ok.cell k c a e ea).mono ok le (q1e hne)
  . rcases hz with rfl | hz
    . exact ok.th a (ok.qdj hl) hp
    . exact ok.fz a hl hz
  . rcases h with rfl | h
    . show upd w.H a o a ≠ none
      rw [q24]; intro z; cases z
    . exact q3a (ok.fzt a h)
theorem Ok.qei (ok : Ok C w) {p : Addr} {xs : List AV} {vs : List V} (hp : w.H p = none) (t : Trs C w xs vs) : Tr C (w.fresh p (.tup vs)) (.tup xs) (.ref p) := by
  rw [Tr]; exact ⟨p,vs,rfl,SqT.of q24,t.mono ok (ok.q3q hp _)⟩
theorem Ok.qbv (ok : Ok C w) {p : Addr} {xs : List AV} {vs : List V} (hp : w.H p = none) (t : Trs C w xs vs) : Tr C (w.frozen p (.lst vs)) (.lst xs) (.ref p) := by
  rw [Tr]; exact ⟨p,vs,rfl, .inl rfl, .inl q24,t.mono ok (ok.q4w hp _)⟩
def Wd.cell (w : Wd) (p : Addr) (o : HO) (c : Cell) : Wd := { w with H := upd w.H p o, ρ := w.ρ ++ [p],h := w.h ++ [c] }
theorem q9y (ok : Ok C w) {p : Addr} {o : HO} {c : Cell} {a : Addr} (h : Live (w.cell p o c) a) : a = p \/ Live w a := by
  obtain ⟨k,c',e1,e2,e3⟩ := h
  have hl := ok.len
  by_cases hk : k < w.h.length
  . exact .inr ⟨k,c',by rw [<- List.getElem?_append_left (l₂ := [c]) hk]; exact e1,e2,by rw [<- List.getElem?_append_left (l₂ := [p]) (by omega)]; exact e3⟩
  . have hlt := (List.getElem?_eq_some_iff.mp e3).1
    have : (w.cell p o c).ρ.length = w.ρ.length + 1 := by simp [Wd.cell]
    have hk' : k = w.ρ.length := by omega
    have e3' : (w.ρ ++ [p])[k]? = some a := e3
    rw [hk',List.getElem?_append_right (Nat.le_refl _),Nat.sub_self] at e3'
    exact .inl (by simpa using e3'.symm)
theorem Ok.q64 (ok : Ok C w) {p : Addr} (hp : w.H p = none) (o : HO) (c : Cell) : Le w (w.cell p o c) := by
  refine ⟨⟨[p],rfl⟩,fun _ h => h,fun b _ o r => .inl (q4l hp r),fun a h => .inl h,fun a h => ?_,fun a h => q3a h,fun a h => ?_⟩
  rotate_left
  . rcases List.mem_append.mp (show a ∈ w.ρ ++ [p] from h) with z | z
    . exact .inl z
    . exact .inr (by rw [List.mem_singleton.mp z]; exact hp)
  rcases q9y ok h with rfl | h
  . exact .inl hp
  . exact .inr h
theorem Ok.q95 (ok : Ok C w) {p : Addr} (hp : w.H p = none) {o : HO} {c : Cell} (hc : q5h C (w.cell p o c) c p) : Ok C (w.cell p o c) := by
  have le := ok.q64 hp o c
  have hl := ok.len
  have hnp : p ∉ w.ρ := fun z => ok.th p z hp
  refine ⟨by simp [Wd.cell,hl],?_,fun a ha => ?_,fun k c' a e ea => ?_,fun a hlv hz => ?_,fun a h => q3a (ok.fzt a h),fun a c h => q4l hp (ok.pn a c h)⟩
  . show (w.ρ ++ [p]).Nodup
    rw [List.nodup_append]
    exact ⟨ok.nd,by simp,fun a ha b hb => by simp at hb; subst hb; intro z; subst z; exact hnp ha⟩
  . show upd w.H p o a ≠ none
    by_cases ha' : a = p
    . subst ha'; rw [q24]; intro z; cases z
    . have : a ∈ w.ρ := by
        rcases List.mem_append.mp (show a ∈ w.ρ ++ [p] from ha) with z | z
        . exact z
        . exact absurd (by simpa using z) ha'
      exact q3a (ok.th a this)
  . by_cases hk : k < w.h.length
    . have e' : w.h[k]? = some c' := by rw [<- List.getElem?_append_left (l₂ := [c]) hk]; exact e
      have ea' : w.ρ[k]? = some a := by rw [<- List.getElem?_append_left (l₂ := [p]) (by omega)]; exact ea
      have hne : a ≠ p := fun z => hnp (z ▸ List.mem_of_getElem? ea')
      exact (ok.cell k c' a e' ea').mono ok le (q1e hne)
    . have hlt := (List.getElem?_eq_some_iff.mp ea).1
      have : (w.cell p o c).ρ.length = w.ρ.length + 1 := by simp [Wd.cell]
      have hk' : k = w.ρ.length := by omega
      have e3' : (w.ρ ++ [p])[k]? = some a := ea
      rw [hk',List.getElem?_append_right (Nat.le_refl _),Nat.sub_self] at e3'
      have e4 : (w.h ++ [c])[k]? = some c' := e
      rw [hk',hl,List.getElem?_append_right (Nat.le_refl _),Nat.sub_self] at e4
      have a1 : p = a := by simpa using e3'
      have a2 : c = c' := by simpa using e4
      subst a1 a2
      exact hc
  . rcases q9y ok hlv with rfl | h
    . exact ok.fzt a hz hp
    . exact ok.fz a h hz
theorem Ok.q6j (ok : Ok C w) {p : Addr} {o : HO} {c : Cell} : Tr C (w.cell p o c) (.ref w.h.length) (.ref p) := by
  rw [Tr]
  refine ⟨p,rfl,?_⟩
  show (w.ρ ++ [p])[w.h.length]? = some p
  rw [<- ok.len,List.getElem?_append_right (Nat.le_refl _),Nat.sub_self]; rfl
def Wd.put (w : Wd) (k : Nat) (c : Cell) (a : Addr) (o : HO) : Wd := { w with h := w.h.set k c,H := upd w.H a o }
theorem qal {k : Nat} {c : Cell} {a b : Addr} {o : HO} (ea : w.ρ[k]? = some a) (hl : Live w a) (h : Live (w.put k c a o) b) : Live w b := by
  obtain ⟨j,c',e1,e2,e3⟩ := h
  by_cases hj : k = j
  . subst hj
    have e3' : w.ρ[k]? = some b := e3
    have : b = a := by rw [ea] at e3'; cases e3'; rfl
    subst this; exact hl
  . exact ⟨j,c',by rw [<- List.getElem?_set_ne hj (a := c)]; exact e1,e2,e3⟩
theorem Ok.q8c (ok : Ok C w) {k : Nat} {a : Addr} (ea : w.ρ[k]? = some a) (hl : Live w a) (c : Cell) (o : HO) : Le w (w.put k c a o) := by
  refine ⟨⟨[],by simp [Wd.put]⟩,fun _ h => h,fun b hb u r => ?_,fun b h => .inl h,fun b h => .inr (qal ea hl h),fun b h => q3a h,fun b h => .inl h⟩
  have hne : b ≠ a := fun z => hb (z ▸ hl)
  exact .inl ((q1e hne).trans r)
theorem Ok.put (ok : Ok C w) {k : Nat} {a : Addr} (ea : w.ρ[k]? = some a) (hl : Live w a) {c : Cell} {o : HO} (hc : q5h C (w.put k c a o) c a) : Ok C (w.put k c a o) := by
  have le := ok.q8c ea hl c o
  refine ⟨by show w.ρ.length = (w.h.set k c).length; rw [List.length_set]; exact ok.len,ok.nd,fun b hb => q3a (ok.th b hb),fun j c' b e eb => ?_,fun b hlv hz => ok.fz b (qal ea hl hlv) hz,fun b h => q3a (ok.fzt b h),fun b c h => (q1e (ok.pinne hl h)).trans (ok.pn b c h)⟩
  by_cases hj : k = j
  . subst hj
    have eb' : w.ρ[k]? = some b := eb
    have : b = a := by rw [ea] at eb'; cases eb'; rfl
    subst this
    have hk : k < w.h.length := by
      have := (List.getElem?_eq_some_iff.mp e).1
      have z : (w.put k c b o).h.length = w.h.length := List.length_set
      omega
    have e' : (w.h.set k c)[k]? = some c' := e
    rw [List.getElem?_set_self hk] at e'
    cases e'
    exact hc
  . have e' : w.h[j]? = some c' := by rw [<- List.getElem?_set_ne hj (a := c)]; exact e
    have hne : b ≠ a := fun z => by
      subst z
      exact hj (q7w ok.nd ea eb)
    exact (ok.cell j c' b e' eb).mono ok le (q1e hne)
def Wd.kill (w : Wd) (k : Nat) (a : Addr) : Wd := { w with h := w.h.set k .dead,Fz := fun b => b = a \/ w.Fz b }
theorem q9v (ok : Ok C w) {k : Nat} {a b : Addr} (ea : w.ρ[k]? = some a) (h : Live (w.kill k a) b) : Live w b /\ b ≠ a := by
  obtain ⟨j,c',e1,e2,e3⟩ := h
  have e3' : w.ρ[j]? = some b := e3
  by_cases hj : k = j
  . subst hj
    exfalso
    have hk : k < w.h.length := by
      have := (List.getElem?_eq_some_iff.mp e1).1
      have z : (w.kill k a).h.length = w.h.length := List.length_set
      omega
    have e' : (w.h.set k .dead)[k]? = some c' := e1
    rw [List.getElem?_set_self hk] at e'
    cases e'
    exact e2 rfl
  . refine ⟨⟨j,c',by rw [<- List.getElem?_set_ne hj (a := Cell.dead)]; exact e1,e2,e3⟩,fun z => ?_⟩
    subst z
    exact hj (q7w ok.nd ea e3')
theorem Ok.q63 (ok : Ok C w) {k : Nat} {a : Addr} (ea : w.ρ[k]? = some a) (hl : Live w a) : Le w (w.kill k a) :=
  ⟨⟨[],by simp [Wd.kill]⟩,fun _ h => .inr h,fun b _ u r => .inl r,fun b h => h.elim (fun z => .inr (.inr (z ▸ hl))) .inl,fun b h => .inr (q9v ok ea h).1,fun b h => h,fun b h => .inl h⟩
theorem Ok.kill (ok : Ok C w) {k : Nat} {a : Addr} (ea : w.ρ[k]? = some a) (hl : Live w a) : Ok C (w.kill k a) := by
  have le := ok.q63 ea hl
  refine ⟨by show w.ρ.length = (w.h.set k .dead).length; rw [List.length_set]; exact ok.len,ok.nd,ok.th,fun j c' b e eb => ?_,fun b hlv hz => ?_,fun b h => ?_,ok.pn⟩
  . by_cases hj : k = j
    . subst hj
      have hk : k < w.h.length := by
        have := (List.getElem?_eq_some_iff.mp e).1
        have z : (w.kill k a).h.length = w.h.length := List.length_set
        omega
      have e' : (w.h.set k .dead)[k]? = some c' := e
      rw [List.getElem?_set_self hk] at e'
      cases e'
      trivial
    . have e' : w.h[j]? = some c' := by rw [<- List.getElem?_set_ne hj (a := Cell.dead)]; exact e
      exact (ok.cell j c' b e' eb).mono ok le rfl
  . obtain ⟨l,n⟩ := q9v ok ea hlv
    rcases hz with z | z
    . exact n z
    . exact ok.fz b l z
  . rcases h with rfl | h
    . exact ok.th b (List.mem_of_getElem? ea)
    . exact ok.fzt b h
theorem Ok.qh9 (ok : Ok C w) {k : Nat} {xs : List AV} (e : w.h[k]? = some (.lst xs)) {v : V} (t : Tr C w (.ref k) v) : ∃ a,v = .ref a /\ w.ρ[k]? = some a /\ Live w a /\ Tr C (w.kill k a) (.lst xs) v := by
  rw [Tr] at t
  obtain ⟨a,rfl,ea⟩ := t
  obtain ⟨vs,hH,ht⟩ := ok.cell k _ a e ea
  have hl : Live w a := ⟨k,_,e,(by intro z; cases z),ea⟩
  refine ⟨a,rfl,ea,hl,?_⟩
  rw [Tr]
  exact ⟨a,vs,rfl, .inl rfl, .inl hH,ht.mono ok (ok.q63 ea hl)⟩
theorem Ok.qia (ok : Ok C w) {k : Nat} {ks : List Key} {xs : List AV} (e : w.h[k]? = some (.dk ks xs)) {v : V} (t : Tr C w (.ref k) v) : ∃ a,v = .ref a /\ w.ρ[k]? = some a /\ Live w a /\ Tr C (w.kill k a) (.dk ks xs) v := by
  rw [Tr] at t
  obtain ⟨a,rfl,ea⟩ := t
  obtain ⟨kvs,hH,hk,ht⟩ := ok.cell k _ a e ea
  have hl : Live w a := ⟨k,_,e,(by intro z; cases z),ea⟩
  refine ⟨a,rfl,ea,hl,?_⟩
  rw [Tr]
  exact ⟨a,kvs,rfl, .inl rfl, .inl hH,hk,ht.mono ok (ok.q63 ea hl)⟩
mutual
def closed (n : Nat) : AV -> Bool
  | .tup xs => q2g n xs
  | .lst xs => q2g n xs
  | .dk _ xs => q2g n xs
  | .ref k => decide (k < n)
  | .kst xs => q2g n xs
  | _ => true
def q2g (n : Nat) : List AV -> Bool
  | [] => true
  | x :: xs => closed n x && q2g n xs
end
def Wd.back (w : Wd) (w0 : Wd) : Wd := { w with ρ := w0.ρ,h := w0.h }
mutual
theorem Tr.back {w0 w : Wd} (le : Le w0 w) {n : Nat} (hn : w0.ρ.length = n) : ∀ {x : AV} {v : V},closed n x = true -> Tr C w x v -> Tr C (w.back w0) x v
  | .non,v,_,h => by rw [Tr] at h ⊢; exact h
  | .bl _,v,_,h => by rw [Tr] at h ⊢; exact h
  | .int _,v,_,h => by rw [Tr] at h ⊢; exact h
  | .str _,v,_,h => by rw [Tr] at h ⊢; exact h
  | .tup xs,v,c,h => by
    rw [Tr] at h ⊢
    obtain ⟨a,vs,e,hs,ht⟩ := h
    exact ⟨a,vs,e,hs,Trs.back le hn (by rw [closed] at c; exact c) ht⟩
  | .lst xs,v,c,h => by
    rw [Tr] at h ⊢
    obtain ⟨a,vs,e,f,r,ht⟩ := h
    exact ⟨a,vs,e,f,r,Trs.back le hn (by rw [closed] at c; exact c) ht⟩
  | .dk ks xs,v,c,h => by
    rw [Tr] at h ⊢
    obtain ⟨a,kvs,e,f,r,hk,ht⟩ := h
    exact ⟨a,kvs,e,f,r,hk,Trs.back le hn (by rw [closed] at c; exact c) ht⟩
  | .ref k,v,c,h => by
    rw [Tr] at h ⊢
    obtain ⟨a,e,hk⟩ := h
    obtain ⟨t,et⟩ := le.pre
    rw [closed] at c
    have hlt : k < w0.ρ.length := by rw [hn]; exact of_decide_eq_true c
    refine ⟨a,e,?_⟩
    show w0.ρ[k]? = some a
    rw [et,List.getElem?_append_left hlt] at hk; exact hk
  | .kst xs,v,c,h => by
    rw [Tr] at h ⊢
    obtain ⟨a,vs,e,hs,ht⟩ := h
    exact ⟨a,vs,e,hs,Trs.back le hn (by rw [closed] at c; exact c) ht⟩
  | .xc c,v,c',h => by rw [Tr] at h ⊢; exact h
theorem Trs.back {w0 w : Wd} (le : Le w0 w) {n : Nat} (hn : w0.ρ.length = n) : ∀ {xs : List AV} {vs : List V},q2g n xs = true -> Trs C w xs vs -> Trs C (w.back w0) xs vs
  | [],vs,_,h => by rw [Trs] at h ⊢; exact h
  | x :: xs,vs,c,h => by
    rw [Trs] at h ⊢
    rw [q2g,Bool.and_eq_true] at c
    obtain ⟨v,us,e,h1,h2⟩ := h
    exact ⟨v,us,e,Tr.back le hn c.1 h1,Trs.back le hn c.2 h2⟩
end
mutual
theorem Tr.closed : ∀ {x : AV} {v : V},Tr C w x v -> closed w.ρ.length x = true
  | .non,v,h => by rw [Z.closed]; all_goals (intros; exact AV.noConfusion ‹_›)
  | .bl _,v,h => by rw [Z.closed]; all_goals (intros; exact AV.noConfusion ‹_›)
  | .int _,v,h => by rw [Z.closed]; all_goals (intros; exact AV.noConfusion ‹_›)
  | .str _,v,h => by rw [Z.closed]; all_goals (intros; exact AV.noConfusion ‹_›)
  | .tup xs,v,h => by
    rw [Tr] at h
    obtain ⟨a,vs,e,hs,ht⟩ := h
    rw [Z.closed]; exact Trs.q2g ht
  | .lst xs,v,h => by
    rw [Tr] at h
    obtain ⟨a,vs,e,f,r,ht⟩ := h
    rw [Z.closed]; exact Trs.q2g ht
  | .dk ks xs,v,h => by
    rw [Tr] at h
    obtain ⟨a,kvs,e,f,r,hk,ht⟩ := h
    rw [Z.closed]; exact Trs.q2g ht
  | .ref k,v,h => by
    rw [Tr] at h
    obtain ⟨a,e,hk⟩ := h
    rw [Z.closed]; exact decide_eq_true (List.getElem?_eq_some_iff.mp hk).1
  | .kst xs,v,h => by
    rw [Tr] at h
    obtain ⟨a,vs,e,hs,ht⟩ := h
    rw [Z.closed]; exact Trs.q2g ht
  | .xc _,v,h => by rw [Z.closed]; all_goals (intros; exact AV.noConfusion ‹_›)
theorem Trs.q2g : ∀ {xs : List AV} {vs : List V},Trs C w xs vs -> q2g w.ρ.length xs = true
  | [],vs,h => by rw [Z.q2g]
  | x :: xs,vs,h => by
    rw [Trs] at h
    obtain ⟨v,us,e,h1,h2⟩ := h
    rw [Z.q2g,Tr.closed h1,Trs.q2g h2]; rfl
end
theorem Flds.back {w0 w : Wd} (le : Le w0 w) : ∀ {fs : List (Nat × AV)} {us us' : List (Str × V)},Flds C w0 fs us' -> Flds C w fs us -> Flds C (w.back w0) fs us
  | [],us,us',_,h => h
  | p :: r,us,us',h0,h => by
    obtain ⟨v,us,e,h1,h2⟩ := h
    obtain ⟨v',us',e',h1',h2'⟩ := h0
    exact ⟨v,us,e,Tr.back le rfl h1'.closed h1,Flds.back le h2' h2⟩
theorem Le.back {w0 w : Wd} (le : Le w0 w) : Le w0 (w.back w0) :=
  ⟨⟨[],by simp [Wd.back]⟩,le.fz,le.ks,le.fn,fun a h => .inr h,le.nn,fun a h => .inl h⟩
theorem Ok.back {w0 w : Wd} (ok0 : Ok C w0) (le : Le w0 w) (ok : Ok C w) {g : AH} (hh : w.h = w0.h ++ g) : Ok C (w.back w0) := by
  obtain ⟨t,et⟩ := le.pre
  have lw : ∀ a,Live w0 a -> Live w a := fun a ⟨k,c,e1,e2,e3⟩ => ⟨k,c,by rw [hh,List.getElem?_append_left (List.getElem?_eq_some_iff.mp e1).1]; exact e1,e2,by rw [et,List.getElem?_append_left (List.getElem?_eq_some_iff.mp e3).1]; exact e3⟩
  refine ⟨ok0.len,ok0.nd,fun a ha => le.nn a (ok0.th a ha),fun k c a e ea => ?_,fun a hl hz => ok.fz a (lw a hl) hz,ok.fzt,ok.pn⟩
  have e : w0.h[k]? = some c := e
  have ea : w0.ρ[k]? = some a := ea
  have e' : w.h[k]? = some c := by rw [hh,List.getElem?_append_left (List.getElem?_eq_some_iff.mp e).1]; exact e
  have ea' : w.ρ[k]? = some a := by rw [et,List.getElem?_append_left (List.getElem?_eq_some_iff.mp ea).1]; exact ea
  have h := ok.cell k c a e' ea'
  have h0 := ok0.cell k c a e ea
  cases c with
  | dead => trivial
  | lst xs =>
    obtain ⟨vs,hH,ht⟩ := h
    obtain ⟨vs0,_,ht0⟩ := h0
    exact ⟨vs,hH,Trs.back le rfl ht0.q2g ht⟩
  | dk ks xs =>
    obtain ⟨kvs,hH,hk,ht⟩ := h
    obtain ⟨kvs0,_,_,ht0⟩ := h0
    exact ⟨kvs,hH,hk,Trs.back le rfl ht0.q2g ht⟩
  | ins cc fs =>
    obtain ⟨hf,dx,fvs,hH,ht⟩ := h
    obtain ⟨_,dx0,fvs0,_,ht0⟩ := h0
    exact ⟨hf,dx,fvs,hH,Flds.back le ht0 ht⟩
def Wd.poke (w : Wd) (D : Addr) (o : HO) : Wd := { w with H := upd w.H D o }
structure Lone (w : Wd) (D : Addr) (ys : List V) : Prop where
  at_ : w.H D = some (.lst ys)
  nf : ¬ w.Fz D
  nl : ¬ Live w D
  nr : D ∉ w.ρ
theorem Lone.rd {D : Addr} {ys : List V} (L : Lone w D ys) {o : HO} {a : Addr} {u : HO} (hu : ∀ zs,u ≠ .lst zs) (r : Rd w.H a u) : Rd (upd w.H D o) a u := by
  have hne : a ≠ D := fun z => by
    subst z
    rcases r with r | ⟨z,r⟩ <;> rw [L.at_] at r <;> cases r
    exact hu _ rfl
  rcases r with r | ⟨z,r⟩
  . exact .inl ((q1e hne).trans r)
  . exact .inr ⟨z,(q1e hne).trans r⟩
mutual
theorem Tr.poke {D : Addr} {ys : List V} (L : Lone w D ys) (o : HO) : ∀ {x : AV} {v : V},Tr C w x v -> Tr C (w.poke D o) x v
  | .non,v,h => by rw [Tr] at h ⊢; exact h
  | .bl _,v,h => by rw [Tr] at h ⊢; exact h
  | .int _,v,h => by rw [Tr] at h ⊢; exact h
  | .str _,v,h => by rw [Tr] at h ⊢; exact h
  | .tup xs,v,h => by
    rw [Tr] at h ⊢
    obtain ⟨a,vs,e,hs,ht⟩ := h
    refine ⟨a,vs,e,?_,Trs.poke L o ht⟩
    rcases hs with hs | hs
    . exact .inl (L.rd (by intro zs z; cases z) hs)
    . exact .inr hs
  | .lst xs,v,h => by
    rw [Tr] at h ⊢
    obtain ⟨a,vs,e,f,r,ht⟩ := h
    have hne : a ≠ D := fun z => L.nf (z ▸ f)
    refine ⟨a,vs,e,f,?_,Trs.poke L o ht⟩
    rcases r with r | ⟨z,r⟩
    . exact .inl ((q1e hne).trans r)
    . exact .inr ⟨z,(q1e hne).trans r⟩
  | .dk ks xs,v,h => by
    rw [Tr] at h ⊢
    obtain ⟨a,kvs,e,f,r,hk,ht⟩ := h
    exact ⟨a,kvs,e,f,L.rd (by intro zs z; cases z) r,hk,Trs.poke L o ht⟩
  | .ref k,v,h => by rw [Tr] at h ⊢; exact h
  | .kst xs,v,h => by
    rw [Tr] at h ⊢
    obtain ⟨a,vs,e,hs,ht⟩ := h
    refine ⟨a,vs,e,?_,Trs.poke L o ht⟩
    rcases hs with ⟨f,r⟩ | r
    . have hne : a ≠ D := fun z => L.nf (z ▸ f)
      refine .inl ⟨f,?_⟩
      rcases r with r | ⟨z,r⟩
      . exact .inl ((q1e hne).trans r)
      . exact .inr ⟨z,(q1e hne).trans r⟩
    . exact .inr r
  | .xc c,v,h => by rw [Tr] at h ⊢; exact h
theorem Trs.poke {D : Addr} {ys : List V} (L : Lone w D ys) (o : HO) : ∀ {xs : List AV} {vs : List V},Trs C w xs vs -> Trs C (w.poke D o) xs vs
  | [],vs,h => by rw [Trs] at h ⊢; exact h
  | x :: xs,vs,h => by
    rw [Trs] at h ⊢
    obtain ⟨v,us,e,h1,h2⟩ := h
    exact ⟨v,us,e,Tr.poke L o h1,Trs.poke L o h2⟩
end
theorem Flds.poke {D : Addr} {ys : List V} (L : Lone w D ys) (o : HO) : ∀ {fs : List (Nat × AV)} {us : List (Str × V)},Flds C w fs us -> Flds C (w.poke D o) fs us
  | [],us,h => h
  | p :: r,us,h => by
    obtain ⟨v,us,e,h1,h2⟩ := h
    exact ⟨v,us,e,Tr.poke L o h1,Flds.poke L o h2⟩
theorem Ok.poke (ok : Ok C w) {D : Addr} {ys : List V} (L : Lone w D ys) (o : HO) : Ok C (w.poke D o) := by
  refine ⟨ok.len,ok.nd,fun a ha => q3a (ok.th a ha),fun k c a e ea => ?_,ok.fz,fun a h => q3a (ok.fzt a h),fun a c h => (q1e (ne_of (ok.pn a c h) L.at_ (by intro z; cases z))).trans (ok.pn a c h)⟩
  have h := ok.cell k c a e ea
  cases c with
  | dead => trivial
  | lst xs =>
    have hne : a ≠ D := fun z => L.nl (z ▸ ⟨k,_,e,(by intro z; cases z),ea⟩)
    obtain ⟨vs,hH,ht⟩ := h
    exact ⟨vs,(q1e hne).trans hH,ht.poke L o⟩
  | dk ks xs =>
    have hne : a ≠ D := fun z => L.nl (z ▸ ⟨k,_,e,(by intro z; cases z),ea⟩)
    obtain ⟨kvs,hH,hk,ht⟩ := h
    exact ⟨kvs,(q1e hne).trans hH,hk,ht.poke L o⟩
  | ins cc fs =>
    have hne : a ≠ D := fun z => L.nl (z ▸ ⟨k,_,e,(by intro z; cases z),ea⟩)
    obtain ⟨hf,dx,fvs,hH,ht⟩ := h
    exact ⟨hf,dx,fvs,(q1e hne).trans hH,ht.poke L o⟩
theorem Lone.le {w' : Wd} {D : Addr} {ys : List V} (L : Lone w D ys) (le : Le w w') : Lone w' D ys := by
  have hn : w.H D ≠ none := by rw [L.at_]; intro z; cases z
  refine ⟨?_,fun z => ?_,fun z => ?_,fun z => (le.rn D z).elim L.nr hn⟩
  . rcases le.ks D L.nl _ L.at_ with q | ⟨_,ob,kvs,e,q⟩
    . exact q
    . cases e
  . rcases le.fn D z with q | q | q
    . exact L.nf q
    . exact hn q
    . exact L.nl q
  . rcases le.nw D z with q | q
    . exact hn q
    . exact L.nl q
theorem Le.poke {w0 : Wd} {D : Addr} {o : HO} (le : Le w0 w) (h0 : w0.H D = none) : Le w0 (w.poke D o) := by
  refine ⟨le.pre,le.fz,fun b hb u r => ?_,le.fn,le.nw,fun b h => q3a (le.nn b h),le.rn⟩
  have hne : b ≠ D := fun z => by rw [z,h0] at r; cases r
  have := le.ks b hb u r
  show Kept (w.Fz b) u (upd w.H D o b)
  rw [q1e hne]; exact this
def Wd.keep (w : Wd) (D : Addr) : Wd := { w with Fz := fun a => a = D \/ w.Fz a }
mutual
theorem Tr.keep {D : Addr} : ∀ {x : AV} {v : V},Tr C w x v -> Tr C (w.keep D) x v
  | .non,v,h => by rw [Tr] at h ⊢; exact h
  | .bl _,v,h => by rw [Tr] at h ⊢; exact h
  | .int _,v,h => by rw [Tr] at h ⊢; exact h
  | .str _,v,h => by rw [Tr] at h ⊢; exact h
  | .tup xs,v,h => by
    rw [Tr] at h ⊢
    obtain ⟨a,vs,e,hs,ht⟩ := h
    exact ⟨a,vs,e,hs,Trs.keep ht⟩
  | .lst xs,v,h => by
    rw [Tr] at h ⊢
    obtain ⟨a,vs,e,f,r,ht⟩ := h
    exact ⟨a,vs,e, .inr f,r,Trs.keep ht⟩
  | .dk ks xs,v,h => by
    rw [Tr] at h ⊢
    obtain ⟨a,kvs,e,f,r,hk,ht⟩ := h
    exact ⟨a,kvs,e, .inr f,r,hk,Trs.keep ht⟩
  | .ref k,v,h => by rw [Tr] at h ⊢; exact h
  | .kst xs,v,h => by
    rw [Tr] at h ⊢
    obtain ⟨a,vs,e,hs,ht⟩ := h
    exact ⟨a,vs,e,hs.elim (fun z => .inl ⟨.inr z.1,z.2⟩) .inr,Trs.keep ht⟩
  | .xc c,v,h => by rw [Tr] at h ⊢; exact h
theorem Trs.keep {D : Addr} : ∀ {xs : List AV} {vs : List V},Trs C w xs vs -> Trs C (w.keep D) xs vs
  | [],vs,h => by rw [Trs] at h ⊢; exact h
  | x :: xs,vs,h => by
    rw [Trs] at h ⊢
    obtain ⟨v,us,e,h1,h2⟩ := h
    exact ⟨v,us,e,Tr.keep h1,Trs.keep h2⟩
end
theorem Flds.keep {D : Addr} : ∀ {fs : List (Nat × AV)} {us : List (Str × V)},Flds C w fs us -> Flds C (w.keep D) fs us
  | [],us,h => h
  | p :: r,us,h => by
    obtain ⟨v,us,e,h1,h2⟩ := h
    exact ⟨v,us,e,Tr.keep h1,Flds.keep h2⟩
theorem Ok.keep (ok : Ok C w) {D : Addr} {ys : List V} (L : Lone w D ys) : Ok C (w.keep D) := by
  refine ⟨ok.len,ok.nd,ok.th,fun k c a e ea => ?_,fun a hl hz => ?_,fun a h => ?_,ok.pn⟩
  . have h := ok.cell k c a e ea
    cases c with
    | dead => trivial
    | lst xs => obtain ⟨vs,hH,ht⟩ := h; exact ⟨vs,hH,ht.keep⟩
    | dk ks xs => obtain ⟨kvs,hH,hk,ht⟩ := h; exact ⟨kvs,hH,hk,ht.keep⟩
    | ins cc fs => obtain ⟨hf,dx,fvs,hH,ht⟩ := h; exact ⟨hf,dx,fvs,hH,ht.keep⟩
  . rcases hz with rfl | hz
    . exact L.nl hl
    . exact ok.fz a hl hz
  . rcases h with rfl | h
    . show w.H a ≠ none
      rw [L.at_]; intro z; cases z
    . exact ok.fzt a h
end
end Z
namespace Z
open PySem L2
abbrev AE := AEnv -> AH -> Re AV
abbrev AT := AEnv -> AH -> Re Bool
abbrev AA := AEnv -> AH -> Re (List AV)
def Sat (C : Ct) (E : XK) (w : Wd) {α : Type} (r : Re α) (P : α -> Wd -> Prop) : Prop :=
  match r with
  | .ok x h' => ∀ w' : Wd,w'.h = h' -> Ok C w' -> Le w w' -> P x w'
  | .ex c h' => ∀ w' : Wd,w'.h = h' -> Ok C w' -> Le w w' -> E (.ref (C.cl c)) none w'.H
  | .no => False
section
variable {C : Ct} {E : XK} {w : Wd} {α β : Type}
theorem Sat.mono {r : Re α} {P P' : α -> Wd -> Prop} (s : Sat C E w r P) (k : ∀ x w',Ok C w' -> Le w w' -> P x w' -> P' x w') : Sat C E w r P' := by
  cases r with
  | ok x h => exact fun w' e ok le => k x w' ok le (s w' e ok le)
  | ex c h => exact s
  | no => exact s
theorem Sat.le {w0 : Wd} {r : Re α} {P : α -> Wd -> Prop} (le : Le w0 w) (s : Sat C E w0 r P) : Sat C E w r P := by
  cases r with
  | ok x h => exact fun w' e ok l => s w' e ok (le.trans l)
  | ex c h => exact fun w' e ok l => s w' e ok (le.trans l)
  | no => exact s
theorem Sat.bind {r : Re α} {f : α -> AH -> Re β} {P : β -> Wd -> Prop} (s : Sat C E w (r.bind f) P) : Sat C E w r (fun x w1 => Sat C E w1 (f x w1.h) P) := by
  cases r with
  | ok x h =>
    intro w' e ok le
    subst e
    exact Sat.le le s
  | ex c h => exact s
  | no => exact s
theorem Sat.here {x : α} {P : α -> Wd -> Prop} (s : Sat C E w (.ok x w.h) P) (ok : Ok C w) : P x w := s w rfl ok (Le.refl w)
end
abbrev want (C : Ct) (Q : VK) : AV -> Wd -> Prop := fun x w' => ∀ v,Tr C w' x v -> Q v w'.H
def SE (C : Ct) (E : XK) (t : TE) (m : AE) : Prop := ∀ (w : Wd) (env : AEnv) (σ : St) (Q : VK),Ok C w -> q20 C w env σ -> Sat C E w (m env w.h) (want C Q) -> t σ w.H Q
def STs (C : Ct) (E : XK) (t : TT) (m : AT) : Prop := ∀ (w : Wd) (env : AEnv) (σ : St) (Q : Bool -> Hp -> Prop),Ok C w -> q20 C w env σ -> Sat C E w (m env w.h) (fun b w' => Q b w'.H) -> t σ w.H Q
def SA (C : Ct) (E : XK) (n : Nat) (t : TA) (m : AA) : Prop :=
  (∀ env h xs h',m env h = .ok xs h' -> xs.length = n) /\
  ∀ (w : Wd) (env : AEnv) (σ : St) (Q : List V -> Hp -> Prop),Ok C w -> q20 C w env σ -> Sat C E w (m env w.h) (fun xs w' => ∀ vs,Trs C w' xs vs -> Q vs w'.H) -> t σ w.H Q
def S2 (C : Ct) (E : XK) (r : R2) (f : AV -> AV -> AH -> Re AV) : Prop := ∀ (w : Wd) (x y : AV) (u v : V) (Q : VK),Ok C w -> Tr C w x u -> Tr C w y v -> Sat C E w (f x y w.h) (want C Q) -> r u v w.H Q
def SC (C : Ct) (E : XK) (n : Nat) (r : List V -> Hp -> VK -> Prop) (f : List AV -> AH -> Re AV) : Prop := ∀ (w : Wd) (xs : List AV) (vs : List V) (Q : VK),xs.length = n -> Ok C w -> Trs C w xs vs -> Sat C E w (f xs w.h) (want C Q) -> r vs w.H Q
def SMt (C : Ct) (E : XK) (n : Nat) (r : V -> List V -> Hp -> VK -> Prop) (f : AV -> List AV -> AH -> Re AV) : Prop := ∀ (w : Wd) (x : AV) (u : V) (xs : List AV) (vs : List V) (Q : VK),xs.length = n -> Ok C w -> Tr C w x u -> Trs C w xs vs -> Sat C E w (f x xs w.h) (want C Q) -> r u vs w.H Q
@[simp] def aVar (i : Nat) : AE := fun env h => match env[i]? with | some (some x) => .ok x h | _ => .no
@[simp] def aK (x : AV) : AE := fun _ h => .ok x h
@[simp] def a1 (f : AV -> AH -> Re AV) (a : AE) : AE := fun env h => (a env h).bind f
@[simp] def a2 (f : AV -> AV -> AH -> Re AV) (a b : AE) : AE := fun env h => (a env h).bind fun x h => (b env h).bind fun y h => f x y h
@[simp] def aNil : AA := fun _ h => .ok [] h
@[simp] def q12 (a : AE) (r : AA) : AA := fun env h => (a env h).bind fun x h => (r env h).bind fun xs h => .ok (x :: xs) h
@[simp] def aC (f : List AV -> AH -> Re AV) (a : AA) : AE := fun env h => (a env h).bind f
@[simp] def aTup (a : AA) : AE := fun env h => (a env h).bind fun xs h => .ok (.tup xs) h
@[simp] def aLst (a : AA) : AE := fun env h => (a env h).bind fun xs h => .ok (.lst xs) h
@[simp] def q7j (a : AA) : AE := fun env h => (a env h).bind fun xs h => .ok (.ref h.length) (h ++ [.lst xs])
@[simp] def toB : AV -> AH -> Re Bool
  | .bl b,h => .ok b h
  | _,_ => .no
@[simp] def aB (a : AE) : AT := fun env h => (a env h).bind toB
@[simp] def aOr (a b : AT) : AT := fun env h => (a env h).bind fun c h => if c = true then .ok true h else b env h
@[simp] def aNot (a : AT) : AT := fun env h => (a env h).bind fun c h => .ok (!c) h
@[simp] def qdb (a b : AE) : AE := fun env h => (a env h).bind fun x h => (toB x h).bind fun c h => if c = true then b env h else .ok (.bl false) h
@[simp] def aOrV (a b : AE) : AE := fun env h => (a env h).bind fun x h => (toB x h).bind fun c h => if c = true then .ok (.bl true) h else b env h
@[simp] def qdy (a : AE) : AE := fun env h => (a env h).bind fun x h => (toB x h).bind fun c h => .ok (.bl (!c)) h
@[simp] def qaw (f g : AV -> AV -> AH -> Re AV) (a b c : AE) : AE := fun env h => (a env h).bind fun x h => (b env h).bind fun y h => (f x y h).bind fun z h => (toB z h).bind fun k h =>
  if k = true then (c env h).bind fun v h => g y v h else .ok (.bl false) h
section
variable {C : Ct} {E : XK} {ta tb tc : TE} {ma mb mc : AE}
theorem q10 {i : Nat} : SE C E (tVar i) (aVar i) := by
  intro w env σ Q ok en s
  unfold aVar at s
  split at s
  . rename_i x e
    obtain ⟨v,q,t⟩ := en.at_ i x e
    exact ⟨v,q,s.here ok v t⟩
  . exact s.elim
theorem se_k {v : V} {x : AV} (h : ∀ w,Tr C w x v) : SE C E (tC v) (aK x) := fun w env σ Q ok en s => s.here ok v (h w)
theorem q13 {i : Int} : SE C E (tC (.int i)) (aK (.int i)) := se_k fun w => by rw [Tr]
theorem q70 {b : Bool} : SE C E (tC (.bl b)) (aK (.bl b)) := se_k fun w => by rw [Tr]
theorem q1d {x : Str} : SE C E (tC (.str x)) (aK (.str x)) := se_k fun w => by rw [Tr]
theorem se_non : SE C E (tC .non) (aK .non) := se_k fun w => by rw [Tr]
theorem q16 {r : R2} {f : AV -> AV -> AH -> Re AV} (hr : S2 C E r f) (ha : SE C E ta ma) (hb : SE C E tb mb) : SE C E (tOp r ta tb) (a2 f ma mb) := fun w env σ Q ok en s =>
  ha w env σ _ ok en (s.bind.mono fun x w1 ok1 le1 s1 v tv => hb w1 env σ _ ok1 (en.mono ok le1) (s1.bind.mono fun y w2 ok2 le2 s2 u tu => hr w2 x y v u Q ok2 (tv.mono ok1 le2) tu s2))
theorem q17 : SA C E 0 tNil aNil := ⟨fun env h xs h' e => by cases e; rfl,fun w env σ Q ok en s => s.here ok [] .nil⟩
theorem q11 {n : Nat} {t : TA} {m : AA} (ha : SE C E ta ma) (hr : SA C E n t m) : SA C E (n + 1) (q3w ta t) (q12 ma m) := by
  refine ⟨fun env h xs h' e => ?_,fun w env σ Q ok en s => ?_⟩
  . unfold q12 at e
    cases e1 : ma env h with
    | ok x h1 =>
      rw [e1,Re.q4b] at e
      cases e2 : m env h1 with
      | ok ys h2 =>
        rw [e2,Re.q4b] at e
        cases e
        rw [List.length_cons,hr.1 env h1 ys _ e2]
      | ex c h2 => rw [e2] at e; cases e
      | no => rw [e2] at e; cases e
    | ex c h1 => rw [e1] at e; cases e
    | no => rw [e1] at e; cases e
  . exact ha w env σ _ ok en (s.bind.mono fun x w1 ok1 le1 s1 v tv => hr.2 w1 env σ _ ok1 (en.mono ok le1) (s1.bind.mono fun ys w2 ok2 le2 s2 vs tvs => s2.here ok2 (v :: vs) (.cons (tv.mono ok1 le2) tvs)))
theorem SA.run {n : Nat} {t : TA} {m : AA} (h : SA C E n t m) {w : Wd} {env : AEnv} {σ : St} {Q : List V -> Hp -> Prop} {f : List AV -> AH -> Re AV} {P : AV -> Wd -> Prop} (ok : Ok C w) (en : q20 C w env σ) (s : Sat C E w ((m env w.h).bind f) P)
    (k : ∀ xs w',xs.length = n -> Ok C w' -> Le w w' -> Sat C E w' (f xs w'.h) P -> ∀ vs,Trs C w' xs vs -> Q vs w'.H) : t σ w.H Q := by
  refine h.2 w env σ Q ok en ?_
  have hl := h.1 env w.h
  have s' := s.bind
  revert s'
  cases e : m env w.h with
  | ok xs h' => exact fun s' w' e' ok' le vs tv => k xs w' (hl xs h' e) ok' le (s' w' e' ok' le) vs tv
  | ex c h' => exact fun s' => s'
  | no => exact fun s' => s'
theorem q2a {n : Nat} {t : TA} {m : AA} (h : SA C E n t m) (hn : n <= sizeLine := by decide) : SE C E (tTup t) (aTup m) := fun w env σ Q ok en s =>
  h.run ok en s fun xs w1 hl ok1 le1 s1 vs tv => ⟨by rw [<- tv.len,hl]; exact hn,fun p hp => s1 (w1.fresh p (.tup vs)) rfl (ok1.fresh hp _) (ok1.q3q hp _) _ (ok1.qei hp tv)⟩
theorem q39 {n : Nat} {t : TA} {m : AA} (h : SA C E n t m) (hn : n <= sizeLine := by decide) : SE C E (tLst t) (aLst m) := fun w env σ Q ok en s =>
  h.run ok en s fun xs w1 hl ok1 le1 s1 vs tv => ⟨by rw [<- tv.len,hl]; exact hn,fun p hp => s1 (w1.frozen p (.lst vs)) rfl (ok1.frozen hp _) (ok1.q4w hp _) _ (ok1.qbv hp tv)⟩
theorem Ok.qdt {w : Wd} (ok : Ok C w) {p : Addr} {xs : List AV} {vs : List V} (hp : w.H p = none) (t : Trs C w xs vs) : Ok C (w.cell p (.lst vs) (.lst xs)) :=
  ok.q95 hp ⟨vs,q24,t.mono ok (ok.q64 hp _ _)⟩
theorem q74 {n : Nat} {t : TA} {m : AA} (h : SA C E n t m) (hn : n <= sizeLine := by decide) : SE C E (tLst t) (q7j m) := fun w env σ Q ok en s =>
  h.run ok en s fun xs w1 hl ok1 le1 s1 vs tv => ⟨by rw [<- tv.len,hl]; exact hn,fun p hp => s1 (w1.cell p (.lst vs) (.lst xs)) rfl (ok1.qdt hp tv) (ok1.q64 hp _ _) _ ok1.q6j⟩
theorem q44 {n : Nat} {t : TA} {m : AA} {r : List V -> Hp -> VK -> Prop} {f : List AV -> AH -> Re AV} (hr : SC C E n r f) (h : SA C E n t m) : SE C E (tCB r t) (aC f m) := fun w env σ Q ok en s =>
  h.run ok en s fun xs w1 hl ok1 le1 s1 vs tv => hr w1 xs vs Q hl ok1 tv s1
theorem q5w {w : Wd} {x : AV} {v : V} {P : Bool -> Wd -> Prop} (ok : Ok C w) (tv : Tr C w x v) (s : Sat C E w (toB x w.h) P) : ∃ c,v = .bl c /\ P c w := by
  cases x with
  | bl b => rw [Tr] at tv; exact ⟨b,tv,s.here ok⟩
  | non => exact s.elim
  | int i => exact s.elim
  | str x => exact s.elim
  | tup xs => exact s.elim
  | lst xs => exact s.elim
  | dk ks xs => exact s.elim
  | ref k => exact s.elim
  | kst xs => exact s.elim
  | xc c => exact s.elim
theorem st_b (ha : SE C E ta ma) : STs C E (tB ta) (aB ma) := fun w env σ Q ok en s =>
  ha w env σ _ ok en (s.bind.mono fun x w1 ok1 le1 s1 v tv => q5w ok1 tv s1)
theorem q1t (ha : SE C E ta ma) : STs C E (qd7 ta) (aB ma) := fun w env σ Q ok en s =>
  ha w env σ _ ok en (s.bind.mono fun x w1 ok1 le1 s1 v tv => q5w ok1 tv s1)
variable {tA tB' : TT} {mA mB : AT}
theorem q78 (ha : STs C E tA mA) (hb : STs C E tB' mB) : STs C E (tOr tA tB') (aOr mA mB) := fun w env σ Q ok en s =>
  ha w env σ _ ok en (s.bind.mono fun c w1 ok1 le1 s1 => by
    cases c with
    | true => exact iteT (Sat.here (by simpa using s1) ok1)
    | false => exact iteF (hb w1 env σ _ ok1 (en.mono ok le1) (by simpa using s1)))
theorem qap (ha : STs C E tA mA) : STs C E (tNot tA) (aNot mA) := fun w env σ Q ok en s =>
  ha w env σ _ ok en (s.bind.mono fun c w1 ok1 le1 s1 => s1.here ok1)
theorem qeb (ha : SE C E ta ma) (hb : SE C E tb mb) : SE C E (tAndV ta tb) (qdb ma mb) := fun w env σ Q ok en s =>
  ha w env σ _ ok en (s.bind.mono fun x w1 ok1 le1 s1 v tv => by
    obtain ⟨c,e,s2⟩ := q5w ok1 tv s1.bind
    refine ⟨c,e,?_⟩
    cases c with
    | true => exact iteT (hb w1 env σ _ ok1 (en.mono ok le1) (by simpa using s2))
    | false => exact iteF (Sat.here (P := want C Q) (x := AV.bl false) (by simpa using s2) ok1 _ (by rw [Tr])))
theorem qdv (ha : SE C E ta ma) (hb : SE C E tb mb) : SE C E (tOrV ta tb) (aOrV ma mb) := fun w env σ Q ok en s =>
  ha w env σ _ ok en (s.bind.mono fun x w1 ok1 le1 s1 v tv => by
    obtain ⟨c,e,s2⟩ := q5w ok1 tv s1.bind
    refine ⟨c,e,?_⟩
    cases c with
    | true => exact iteT (Sat.here (P := want C Q) (x := AV.bl true) (by simpa using s2) ok1 _ (by rw [Tr]))
    | false => exact iteF (hb w1 env σ _ ok1 (en.mono ok le1) (by simpa using s2)))
theorem qe9 (ha : SE C E ta ma) : SE C E (tNotV ta) (qdy ma) := fun w env σ Q ok en s =>
  ha w env σ _ ok en (s.bind.mono fun x w1 ok1 le1 s1 v tv => by
    obtain ⟨c,e,s2⟩ := q5w ok1 tv s1.bind
    exact ⟨c,e,s2.here ok1 _ (by rw [Tr])⟩)
theorem qaj {r r' : R2} {f g : AV -> AV -> AH -> Re AV} (hr : S2 C E r f) (hr' : S2 C E r' g) (ha : SE C E ta ma) (hb : SE C E tb mb) (hc : SE C E tc mc) : SE C E (qbl r r' ta tb tc) (qaw f g ma mb mc) := fun w env σ Q ok en s =>
  ha w env σ _ ok en (s.bind.mono fun x w1 ok1 le1 s1 v tv => hb w1 env σ _ ok1 (en.mono ok le1) (s1.bind.mono fun y w2 ok2 le2 s2 u tu =>
    hr w2 x y v u _ ok2 (tv.mono ok1 le2) tu (s2.bind.mono fun z w3 ok3 le3 s3 q tq => by
      obtain ⟨k,e,s4⟩ := q5w ok3 tq s3.bind
      refine ⟨k,e,?_⟩
      cases k with
      | true =>
        have s4' : Sat C E w3 ((mc env w3.h).bind fun v h => g y v h) (want C Q) := by simpa using s4
        exact iteT (hc w3 env σ _ ok3 (en.mono ok (le1.trans (le2.trans le3))) (s4'.bind.mono fun p w4 ok4 le4 s5 p' tp => hr' w4 y p u p' Q ok4 (tu.mono ok2 (le3.trans le4)) tp s5))
      | false => exact iteF (Sat.here (P := want C Q) (x := AV.bl false) (by simpa using s4) ok3 _ (by rw [Tr])))))
end
end Z
namespace Z
open PySem L2
@[simp] def q5u (h : AH) : AV -> Option (List AV)
  | .lst xs => some xs
  | .ref k => match h[k]? with | some (.lst xs) => some xs | _ => none
  | _ => none
@[simp] def q3v (h : AH) : AV -> Option (List AV)
  | .lst xs => some xs
  | .kst xs => some xs
  | .ref k => match h[k]? with | some (.lst xs) => some xs | _ => none
  | _ => none
@[simp] def q6i (h : AH) : AV -> Option (List AV)
  | .tup xs => some xs
  | .lst xs => some xs
  | .kst xs => some xs
  | .ref k => match h[k]? with | some (.lst xs) => some xs | _ => none
  | _ => none
@[simp] def intsOf : List AV -> Option (List Int)
  | [] => some []
  | .int i :: r => (intsOf r).map (i :: ·)
  | _ => none
@[simp] def q6l : List AV -> Option (List Bool)
  | [] => some []
  | .bl i :: r => (q6l r).map (i :: ·)
  | _ => none
@[simp] def strsOf : List AV -> Option (List Str)
  | [] => some []
  | .str i :: r => (strsOf r).map (i :: ·)
  | _ => none
@[simp] def fI (g : Int -> Int -> AV) : AV -> AV -> AH -> Re AV
  | .int i, .int j,h => .ok (g i j) h
  | _,_,_ => .no
@[simp] def fIC (c : Int -> Int -> Bool) (g : Int -> Int -> AV) : AV -> AV -> AH -> Re AV
  | .int i, .int j,h => if c i j = true then .ok (g i j) h else .no
  | _,_,_ => .no
abbrev fAdd := fI fun i j => .int (i + j)
abbrev fSub := fI fun i j => .int (i - j)
abbrev fDiv := fIC (fun _ j => decide (0 < j /\ j < 1073741824)) fun i j => .int (i / j)
abbrev fMod := fIC (fun _ j => decide (0 < j)) fun i j => .int (i % j)
abbrev fLt := fI fun i j => .bl (decide (i < j))
abbrev fLe := fI fun i j => .bl (decide (i <= j))
abbrev fGt := fI fun i j => .bl (decide (j < i))
@[simp] def eqS : AV -> AV -> Option Bool
  | .int i, .int j => some (decide (i = j))
  | .str i, .str j => some (decide (i = j))
  | .bl i, .bl j => some (decide (i = j))
  | .non, .non => some true
  | .non, .int _ => some false | .int _, .non => some false | .non, .bl _ => some false | .bl _, .non => some false | .non, .str _ => some false | .str _, .non => some false
  | .int _, .str _ => some false | .str _, .int _ => some false | .bl _, .str _ => some false | .str _, .bl _ => some false
  | _,_ => none
@[simp] def fEq : AV -> AV -> AH -> Re AV := fun x y h => match eqS x y with | some b => .ok (.bl b) h | none => .no
@[simp] def fNe : AV -> AV -> AH -> Re AV := fun x y h => match eqS x y with | some b => .ok (.bl (!b)) h | none => .no
@[simp] def q8r : AV -> AV -> AH -> Re AV
  | .str x, .str y,h => if x.length + y.length <= sizeLine then .ok (.str (x ++ y)) h else .no
  | _,_,_ => .no
@[simp] def fCat : AV -> AV -> AH -> Re AV := fun x y h => match q5u h x,q5u h y with
  | some xs,some ys => if xs.length + ys.length <= sizeLine then .ok (.lst (xs ++ ys)) h else .no
  | _,_ => .no
@[simp] def fIx : AV -> AV -> AH -> Re AV := fun x y h => match q6i h x,y with
  | some xs, .int i => match atI xs i with | some z => .ok z h | none => .no
  | _,_ => .no
@[simp] def fIxS : AV -> AV -> AH -> Re AV
  | .str z, .int i,h => if z.length <= sizeLine then (match atI z.cps.toList i with | some c => .ok (.str ⟨#[c]⟩) h | none => .no) else .no
  | _,_,_ => .no
@[simp] def qan : AV -> Bool
  | .non => true
  | _ => false
@[simp] def fIsN : AV -> AH -> Re AV := fun x h => .ok (.bl (qan x)) h
@[simp] def fNotN : AV -> AH -> Re AV := fun x h => .ok (.bl (!qan x)) h
section
variable {C : Ct} {E : XK} {w : Wd}
theorem q40 {x : AV} {xs : List AV} {v : V} (ok : Ok C w) (e : q5u w.h x = some xs) (t : Tr C w x v) : ∃ a vs,v = .ref a /\ Rd w.H a (.lst vs) /\ Trs C w xs vs := by
  cases x with
  | lst ys =>
    cases e
    rw [Tr] at t
    obtain ⟨a,vs,e,f,r,ht⟩ := t
    exact ⟨a,vs,e,r,ht⟩
  | ref k =>
    rw [Tr] at t
    obtain ⟨a,rfl,ea⟩ := t
    have e : (match w.h[k]? with | some (.lst xs) => some xs | _ => none) = some xs := e
    split at e
    . rename_i ys eh
      cases e
      obtain ⟨vs,hH,ht⟩ := ok.cell k _ a eh ea
      exact ⟨a,vs,rfl, .inl hH,ht⟩
    . cases e
  | non => cases e
  | bl b => cases e
  | int i => cases e
  | str x => cases e
  | tup xs => cases e
  | dk ks xs => cases e
  | kst xs => cases e
  | xc c => cases e
theorem sq_of {H : Hp} {a : Addr} {vs : List V} (h : (w.Fz a /\ Rd w.H a (.lst vs)) \/ SqL C.K (fun _ => none) a vs) : SqL C.K w.H a vs := by
  rcases h with h | (h | ⟨o,h⟩) | h
  . exact .inl h.2
  . cases h
  . cases h
  . exact .inr h
theorem q47 {x : AV} {xs : List AV} {v : V} (ok : Ok C w) (e : q3v w.h x = some xs) (t : Tr C w x v) : ∃ a vs,v = .ref a /\ SqL C.K w.H a vs /\ Trs C w xs vs := by
  cases x with
  | kst ys =>
    cases e
    rw [Tr] at t
    obtain ⟨a,vs,e,r,ht⟩ := t
    exact ⟨a,vs,e,sq_of (H := w.H) r,ht⟩
  | lst ys =>
    obtain ⟨a,vs,e,r,ht⟩ := q40 ok (x := .lst ys) e t
    exact ⟨a,vs,e, .inl r,ht⟩
  | ref k =>
    obtain ⟨a,vs,e,r,ht⟩ := q40 ok (x := .ref k) e t
    exact ⟨a,vs,e, .inl r,ht⟩
  | _ => cases e
theorem q7v {x : AV} {xs : List AV} {v : V} (ok : Ok C w) (e : q6i w.h x = some xs) (t : Tr C w x v) : ∃ a vs,v = .ref a /\ (SqL C.K w.H a vs \/ SqT C.K w.H a vs) /\ Trs C w xs vs := by
  cases x with
  | lst ys =>
    cases e
    rw [Tr] at t
    obtain ⟨a,vs,e,f,r,ht⟩ := t
    exact ⟨a,vs,e, .inl (.inl r),ht⟩
  | tup ys =>
    cases e
    rw [Tr] at t
    obtain ⟨a,vs,e,r,ht⟩ := t
    exact ⟨a,vs,e, .inr r,ht⟩
  | ref k =>
    obtain ⟨a,vs,e,r,ht⟩ := q40 ok (x := .ref k) e t
    exact ⟨a,vs,e, .inl (.inl r),ht⟩
  | kst ys =>
    obtain ⟨a,vs,e,r,ht⟩ := q47 ok (x := .kst ys) e t
    exact ⟨a,vs,e, .inl r,ht⟩
  | non => cases e
  | bl b => cases e
  | int i => cases e
  | str x => cases e
  | dk ks xs => cases e
  | xc c => cases e
theorem qb0 : ∀ {xs : List AV} {ns : List Bool} {vs : List V},q6l xs = some ns -> Trs C w xs vs -> vs = ns.map V.bl
  | [],ns,vs,e,t => by cases e; rw [Trs] at t; exact t
  | x :: xs,ns,vs,e,t => by
    rw [Trs] at t
    obtain ⟨v,us,rfl,h1,h2⟩ := t
    cases x with
    | bl i =>
      rw [q6l] at e
      cases e1 : q6l xs with
      | none => rw [e1] at e; cases e
      | some ms =>
        rw [e1] at e
        cases e
        rw [Tr] at h1
        rw [h1,qb0 e1 h2]; rfl
    | _ => cases e
theorem q6s : ∀ {xs : List AV} {ns : List Str} {vs : List V},strsOf xs = some ns -> Trs C w xs vs -> vs = ns.map V.str
  | [],ns,vs,e,t => by cases e; rw [Trs] at t; exact t
  | x :: xs,ns,vs,e,t => by
    rw [Trs] at t
    obtain ⟨v,us,rfl,h1,h2⟩ := t
    cases x with
    | str i =>
      rw [strsOf] at e
      cases e1 : strsOf xs with
      | none => rw [e1] at e; cases e
      | some ms =>
        rw [e1] at e
        cases e
        rw [Tr] at h1
        rw [h1,q6s e1 h2]; rfl
    | _ => cases e
theorem s2_I {g : Int -> Int -> V} {g' : Int -> Int -> AV} (hg : ∀ i j w,Tr C w (g' i j) (g i j)) : S2 C E (rI0 g) (fI g') := by
  intro w x y u v Q ok tx ty s
  unfold fI at s
  split at s
  . rename_i h i j
    rw [Tr] at tx; rw [Tr] at ty
    exact ⟨i,j,tx,ty,s.here ok _ (hg i j w)⟩
  . exact s.elim
theorem s2_IC {c : Int -> Int -> Bool} {P : Int -> Int -> Prop} {g : Int -> Int -> V} {g' : Int -> Int -> AV} (hc : ∀ i j,c i j = true -> P i j) (hg : ∀ i j w,Tr C w (g' i j) (g i j)) : S2 C E (rI P g) (fIC c g') := by
  intro w x y u v Q ok tx ty s
  unfold fIC at s
  split at s
  . rename_i h i j
    rw [Tr] at tx; rw [Tr] at ty
    by_cases hh : c i j = true
    . rw [if_pos hh] at s
      exact ⟨i,j,tx,ty,hc i j hh,s.here ok _ (hg i j w)⟩
    . rw [if_neg hh] at s
      exact s.elim
  . exact s.elim
theorem q4y : S2 C E (rI0 fun i j => .int (i + j)) fAdd := s2_I fun i j w => by rw [Tr]
theorem q5m : S2 C E (rI0 fun i j => .int (i - j)) fSub := s2_I fun i j w => by rw [Tr]
theorem q32 : S2 C E (rI CDiv fun i j => .int (i / j)) fDiv := s2_IC (fun i j h => (of_decide_eq_true h : 0 < j /\ j < 1073741824)) fun i j w => by rw [Tr]
theorem q2k : S2 C E (rI (fun _ j => 0 < j) fun i j => .int (i % j)) fMod := s2_IC (fun i j h => of_decide_eq_true h) fun i j w => by rw [Tr]
theorem q5p : S2 C E (rI0 fun i j => .bl (decide (i < j))) fLt := s2_I fun i j w => by rw [Tr]
theorem qa3 : S2 C E (rI0 fun i j => .bl (decide (i <= j))) fLe := s2_I fun i j w => by rw [Tr]
theorem q72 : S2 C E (rI0 fun i j => .bl (decide (j < i))) fGt := s2_I fun i j w => by rw [Tr]
theorem qf4 {x y : AV} {u v : V} {b : Bool} (e : eqS x y = some b) (tx : Tr C w x u) (ty : Tr C w y v) : scal u v = true /\ decide (u = v) = b := by
  cases x <;> cases y <;> simp only [eqS,Option.some.injEq,reduceCtorEq] at e
  all_goals (rw [Tr] at tx; rw [Tr] at ty; subst tx; subst ty; subst e)
  all_goals first | exact ⟨rfl,rfl⟩ | exact ⟨rfl,decide_eq_decide.mpr ⟨fun h => by injection h,fun h => by rw [h]⟩⟩
theorem q3d : S2 C E rEq fEq := by
  intro w x y u v Q ok tx ty s
  unfold fEq at s
  split at s
  . rename_i b e
    obtain ⟨h1,h2⟩ := qf4 e tx ty
    exact ⟨h1,by rw [h2]; exact s.here ok _ (by rw [Tr])⟩
  . exact s.elim
theorem q89 : S2 C E rNe fNe := by
  intro w x y u v Q ok tx ty s
  unfold fNe at s
  split at s
  . rename_i b e
    obtain ⟨h1,h2⟩ := qf4 e tx ty
    exact ⟨h1,by rw [h2]; exact s.here ok _ (by rw [Tr])⟩
  . exact s.elim
theorem qas {x : AV} {u : V} (t : Tr C w x u) : decide (u = V.non) = qan x := by
  cases x with
  | non => rw [Tr] at t; subst t; rfl
  | bl b => rw [Tr] at t; subst t; rfl
  | int i => rw [Tr] at t; subst t; rfl
  | str x => rw [Tr] at t; subst t; rfl
  | tup xs => rw [Tr] at t; obtain ⟨a,vs,rfl,_⟩ := t; rfl
  | lst xs => rw [Tr] at t; obtain ⟨a,vs,rfl,_⟩ := t; rfl
  | dk ks xs => rw [Tr] at t; obtain ⟨a,vs,rfl,_⟩ := t; rfl
  | ref k => rw [Tr] at t; obtain ⟨a,rfl,_⟩ := t; rfl
  | kst xs => rw [Tr] at t; obtain ⟨a,vs,rfl,_⟩ := t; rfl
  | xc c => rw [Tr] at t; obtain ⟨a,rfl,_⟩ := t; rfl
theorem se_isN {ta : TE} {ma : AE} (ha : SE C E ta ma) : SE C E (tIsN ta) (a1 fIsN ma) := fun w env σ Q ok en s =>
  ha w env σ _ ok en (s.bind.mono fun x w1 ok1 le1 s1 v tv => by show Q (V.bl (decide (v = V.non))) w1.H; rw [qas tv]; exact s1.here ok1 _ (by rw [Tr]))
theorem qht {ta : TE} {ma : AE} (ha : SE C E ta ma) : SE C E (tNotN ta) (a1 fNotN ma) := fun w env σ Q ok en s =>
  ha w env σ _ ok en (s.bind.mono fun x w1 ok1 le1 s1 v tv => by show Q (V.bl (!decide (v = V.non))) w1.H; rw [qas tv]; exact s1.here ok1 _ (by rw [Tr]))
theorem q97 : S2 C E (fun x y H Q => ∃ i j,x = .str i /\ y = .str j /\ i.length + j.length <= sizeLine /\ Q (.str (i ++ j)) H) q8r := by
  intro w x y u v Q ok tx ty s
  unfold q8r at s
  split at s
  . rename_i h i j
    rw [Tr] at tx; rw [Tr] at ty
    by_cases hh : i.length + j.length <= sizeLine
    . rw [if_pos hh] at s
      exact ⟨i,j,tx,ty,hh,s.here ok _ (by rw [Tr])⟩
    . rw [if_neg hh] at s; exact s.elim
  . exact s.elim
theorem q68 : S2 C E rCatR fCat := by
  intro w x y u v Q ok tx ty s
  unfold fCat at s
  split at s
  . rename_i xs ys e1 e2
    obtain ⟨a,vs,rfl,r1,t1⟩ := q40 ok e1 tx
    obtain ⟨b,us,rfl,r2,t2⟩ := q40 ok e2 ty
    by_cases hh : xs.length + ys.length <= sizeLine
    . rw [if_pos hh] at s
      exact ⟨a,b,vs,us,rfl,rfl,r1,r2,by rw [<- t1.len, <- t2.len]; exact hh,fun p hp => s (w.frozen p _) rfl (ok.frozen hp _) (ok.q4w hp _) _ (ok.qbv hp (t1.app t2))⟩
    . rw [if_neg hh] at s; exact s.elim
  . exact s.elim
theorem Trs.atI {xs : List AV} {vs : List V} {i : Int} {x : AV} (t : Trs C w xs vs) (e : L2.atI xs i = some x) : ∃ v,L2.atI vs i = some v /\ Tr C w x v := by
  unfold L2.atI at e ⊢
  rw [<- t.len]
  cases q : ixN xs.length i with
  | none => rw [q] at e; cases e
  | some j =>
    rw [q] at e
    obtain ⟨v,e',tv⟩ := t.get (show xs[j]? = some x from e)
    exact ⟨v,e',tv⟩
theorem q1l : S2 C E (rIx C.K) fIx := by
  intro w x y u v Q ok tx ty s
  unfold fIx at s
  split at s
  . rename_i xs i e1
    rw [Tr] at ty
    obtain ⟨a,vs,rfl,r1,t1⟩ := q7v ok e1 tx
    split at s
    . rename_i z ez
      obtain ⟨q,eq,tq⟩ := t1.atI ez
      rcases r1 with r1 | r1
      . exact .inl ⟨a,vs,i,q,rfl,ty,r1,eq,s.here ok _ tq⟩
      . exact .inr (.inl ⟨a,vs,i,q,rfl,ty,r1,eq,s.here ok _ tq⟩)
    . exact s.elim
  . exact s.elim
theorem q8w : S2 C E rIxS fIxS := by
  intro w x y u v Q ok tx ty s
  unfold fIxS at s
  split at s
  . rename_i h z i
    rw [Tr] at tx; rw [Tr] at ty
    by_cases hh : z.length <= sizeLine
    . rw [if_pos hh] at s
      split at s
      . rename_i c ec
        exact ⟨z,i,c,tx,ty,hh,ec,s.here ok _ (by rw [Tr])⟩
      . exact s.elim
    . rw [if_neg hh] at s; exact s.elim
  . exact s.elim
end
end Z
namespace Z
open PySem L2
inductive SRe where
  | nx (env : AEnv) (h : AH) | rt (x : AV) (h : AH) | bk (env : AEnv) (h : AH) | ct (env : AEnv) (h : AH) | ex (c : Nat) (h : AH) | no
abbrev AS := AEnv -> AH -> SRe
def Re.to {α : Type} (r : Re α) (f : α -> AH -> SRe) : SRe := match r with | .ok x h => f x h | .ex c h => .ex c h | .no => .no
@[simp] theorem Re.to_ok {α : Type} (x : α) (h : AH) (f : α -> AH -> SRe) : (Re.ok x h).to f = f x h := rfl
@[simp] theorem Re.to_ex {α : Type} (c : Nat) (h : AH) (f : α -> AH -> SRe) : (Re.ex c h : Re α).to f = .ex c h := rfl
@[simp] theorem Re.to_no {α : Type} (f : α -> AH -> SRe) : (Re.no : Re α).to f = .no := rfl
def SRe.then (r : SRe) (f : AEnv -> AH -> SRe) : SRe := match r with | .nx env h => f env h | r => r
@[simp] theorem SRe.then_nx (env : AEnv) (h : AH) (f : AEnv -> AH -> SRe) : (SRe.nx env h).then f = f env h := rfl
@[simp] theorem SRe.then_rt (x : AV) (h : AH) (f : AEnv -> AH -> SRe) : (SRe.rt x h).then f = .rt x h := rfl
@[simp] theorem SRe.then_bk (env : AEnv) (h : AH) (f : AEnv -> AH -> SRe) : (SRe.bk env h).then f = .bk env h := rfl
@[simp] theorem SRe.then_ct (env : AEnv) (h : AH) (f : AEnv -> AH -> SRe) : (SRe.ct env h).then f = .ct env h := rfl
@[simp] theorem SRe.then_ex (c : Nat) (h : AH) (f : AEnv -> AH -> SRe) : (SRe.ex c h).then f = .ex c h := rfl
@[simp] theorem SRe.then_no (f : AEnv -> AH -> SRe) : SRe.no.then f = .no := rfl
def SSat (C : Ct) (E : XK) (w : Wd) (r : SRe) (D : Ends) : Prop :=
  match r with
  | .nx env h => ∀ (w' : Wd) (σ : St),w'.h = h -> Ok C w' -> Le w w' -> q20 C w' env σ -> D.nx σ w'.H
  | .bk env h => ∀ (w' : Wd) (σ : St),w'.h = h -> Ok C w' -> Le w w' -> q20 C w' env σ -> D.bk σ w'.H
  | .ct env h => ∀ (w' : Wd) (σ : St),w'.h = h -> Ok C w' -> Le w w' -> q20 C w' env σ -> D.ct σ w'.H
  | .rt x h => ∀ (w' : Wd) (v : V),w'.h = h -> Ok C w' -> Le w w' -> Tr C w' x v -> D.rt v w'.H
  | .ex c h => ∀ w' : Wd,w'.h = h -> Ok C w' -> Le w w' -> E (.ref (C.cl c)) none w'.H
  | .no => False
def SS (C : Ct) (E : XK) (t : TS) (m : AS) : Prop := ∀ (w : Wd) (env : AEnv) (σ : St) (D : Ends),Ok C w -> q20 C w env σ -> SSat C E w (m env w.h) D -> t D σ w.H
def SG (C : Ct) (E : XK) (g : TG) (m : AV -> AEnv -> AH -> Re AEnv) : Prop := ∀ (w : Wd) (x : AV) (v : V) (env : AEnv) (σ : St) (Q : St -> Hp -> Prop),Ok C w -> q20 C w env σ -> Tr C w x v ->
  Sat C E w (m x env w.h) (fun env' w' => ∀ σ',q20 C w' env' σ' -> Q σ' w'.H) -> g v σ w.H Q
def SGs (C : Ct) (E : XK) (g : TGs) (m : List AV -> AEnv -> AH -> Re AEnv) : Prop := ∀ (w : Wd) (xs : List AV) (vs : List V) (env : AEnv) (σ : St) (Q : St -> Hp -> Prop),Ok C w -> q20 C w env σ -> Trs C w xs vs ->
  Sat C E w (m xs env w.h) (fun env' w' => ∀ σ',q20 C w' env' σ' -> Q σ' w'.H) -> g vs σ w.H Q
section
variable {C : Ct} {E : XK} {w : Wd}
theorem SSat.le {w0 : Wd} {r : SRe} {D : Ends} (le : Le w0 w) (s : SSat C E w0 r D) : SSat C E w r D := by
  cases r with
  | nx env h => exact fun w' σ e ok l en => s w' σ e ok (le.trans l) en
  | bk env h => exact fun w' σ e ok l en => s w' σ e ok (le.trans l) en
  | ct env h => exact fun w' σ e ok l en => s w' σ e ok (le.trans l) en
  | rt x h => exact fun w' v e ok l t => s w' v e ok (le.trans l) t
  | ex c h => exact fun w' e ok l => s w' e ok (le.trans l)
  | no => exact s
theorem Sat.to {α : Type} {r : Re α} {f : α -> AH -> SRe} {D : Ends} (s : SSat C E w (r.to f) D) : Sat C E w r (fun x w1 => SSat C E w1 (f x w1.h) D) := by
  cases r with
  | ok x h => exact fun w' e ok le => by subst e; exact SSat.le le s
  | ex c h => exact s
  | no => exact s
end
@[simp] def q1p : AS := fun env h => .nx env h
@[simp] def sSeq (a b : AS) : AS := fun env h => (a env h).then b
@[simp] def q2t (a : AE) : AS := fun env h => (a env h).to fun _ h => .nx env h
@[simp] def sRet (a : AE) : AS := fun env h => (a env h).to fun x h => .rt x h
@[simp] def sIf (t : AT) (a b : AS) : AS := fun env h => (t env h).to fun c h => if c = true then a env h else b env h
@[simp] def sAsg (a : AE) (g : AV -> AEnv -> AH -> Re AEnv) : AS := fun env h => (a env h).to fun x h => (g x env h).to fun env h => .nx env h
@[simp] def gN (i : Nat) : AV -> AEnv -> AH -> Re AEnv := fun x env h => .ok (env.set i (some x)) h
@[simp] def q3m : List AV -> AEnv -> AH -> Re AEnv
  | [],env,h => .ok env h
  | _,_,_ => .no
@[simp] def q1u (g : AV -> AEnv -> AH -> Re AEnv) (r : List AV -> AEnv -> AH -> Re AEnv) : List AV -> AEnv -> AH -> Re AEnv
  | x :: xs,env,h => (g x env h).bind fun env h => r xs env h
  | [],_,_ => .no
@[simp] def gT (n : Nat) (r : List AV -> AEnv -> AH -> Re AEnv) : AV -> AEnv -> AH -> Re AEnv
  | .tup xs,env,h => if xs.length = n then r xs env h else .no
  | _,_,_ => .no
@[simp] def putL : AV -> AV -> AV -> AH -> Option AH
  | .ref k, .int i,x,h => match h[k]? with
    | some (.lst xs) => match ixN xs.length i with | some j => some (h.set k (.lst (xs.set j x))) | none => none
    | _ => none
  | _,_,_,_ => none
@[simp] def qac (o i : AE) : AV -> AEnv -> AH -> Re AEnv := fun x env h => (o env h).bind fun a h => (i env h).bind fun b h => match putL a b x h with | some h => .ok env h | none => .no
section
variable {C : Ct} {E : XK}
theorem q1q : SS C E tNext q1p := fun w env σ D ok en s => s w σ rfl ok (Le.refl w) en
theorem q1c {t u : TS} {a b : AS} (ha : SS C E t a) (hb : SS C E u b) : SS C E (tSeq t u) (sSeq a b) := by
  intro w env σ D ok en s
  refine ha w env σ _ ok en ?_
  unfold sSeq at s
  cases e : a env w.h with
  | nx env' h' =>
    rw [e] at s
    intro w' σ' e' ok' le' en'
    subst e'
    exact hb w' env' σ' D ok' en' (SSat.le le' s)
  | bk env' h' => rw [e] at s; exact s
  | ct env' h' => rw [e] at s; exact s
  | rt x h' => rw [e] at s; exact s
  | ex c h' => rw [e] at s; exact s
  | no => rw [e] at s; exact s
theorem q2i {t : TE} {m : AE} (h : SE C E t m) : SS C E (tDrop t) (q2t m) := fun w env σ D ok en s =>
  h w env σ _ ok en (Sat.mono (Sat.to s) fun x w1 ok1 le1 s1 v tv => s1 w1 σ rfl ok1 (Le.refl w1) (en.mono ok le1))
theorem q1w {t : TE} {m : AE} (h : SE C E t m) : SS C E (tRet t) (sRet m) := fun w env σ D ok en s =>
  h w env σ _ ok en (Sat.mono (Sat.to s) fun x w1 ok1 le1 s1 v tv => s1 w1 v rfl ok1 (Le.refl w1) tv)
theorem q2f {c : TT} {t u : TS} {mc : AT} {a b : AS} (hc : STs C E c mc) (ha : SS C E t a) (hb : SS C E u b) : SS C E (tIfS c t u) (sIf mc a b) := fun w env σ D ok en s =>
  hc w env σ _ ok en (Sat.mono (Sat.to s) fun c w1 ok1 le1 s1 => by
    cases c with
    | true => exact iteT (ha w1 env σ D ok1 (en.mono ok le1) (by simpa using s1))
    | false => exact iteF (hb w1 env σ D ok1 (en.mono ok le1) (by simpa using s1)))
theorem q2d {t : TE} {m : AE} {g : TG} {mg : AV -> AEnv -> AH -> Re AEnv} (h : SE C E t m) (hg : SG C E g mg) : SS C E (tAsg t g) (sAsg m mg) := fun w env σ D ok en s =>
  h w env σ _ ok en (Sat.mono (Sat.to s) fun x w1 ok1 le1 s1 v tv => hg w1 x v env σ _ ok1 (en.mono ok le1) tv (Sat.mono (Sat.to s1) fun env2 w2 ok2 le2 s2 σ2 en2 => s2 w2 σ2 rfl ok2 (Le.refl w2) en2))
theorem q1r {i : Nat} : SG C E (q54 i) (gN i) := fun w x v env σ Q ok en t s => s.here ok _ (en.set i t)
theorem qi1 : SGs C E gNil q3m := by
  intro w xs vs env σ Q ok en t s
  cases xs with
  | nil => rw [Trs] at t; exact ⟨t,Sat.here (P := fun env' w' => ∀ σ',q20 C w' env' σ' -> Q σ' w'.H) s ok _ en⟩
  | cons x xs => exact s.elim
theorem qby {g : TG} {u : TGs} {m : AV -> AEnv -> AH -> Re AEnv} {r : List AV -> AEnv -> AH -> Re AEnv} (hg : SG C E g m) (hr : SGs C E u r) : SGs C E (qdg g u) (q1u m r) := by
  intro w xs vs env σ Q ok en t s
  cases xs with
  | nil => exact s.elim
  | cons x xs =>
    rw [Trs] at t
    obtain ⟨v,us,rfl,t1,t2⟩ := t
    have s' : Sat C E w ((m x env w.h).bind fun env h => r xs env h) (fun env' w' => ∀ σ',q20 C w' env' σ' -> Q σ' w'.H) := s
    exact ⟨v,us,rfl,hg w x v env σ _ ok en t1 (s'.bind.mono fun env1 w1 ok1 le1 s1 σ1 en1 => hr w1 xs us env1 σ1 Q ok1 en1 (t2.mono ok le1) s1)⟩
theorem sg_tup {n : Nat} {g : TGs} {m : List AV -> AEnv -> AH -> Re AEnv} (hg : SGs C E g m) : SG C E (gTup C.K n g) (gT n m) := by
  intro w x v env σ Q ok en t s
  cases x with
  | tup xs =>
    rw [Tr] at t
    obtain ⟨a,vs,rfl,hs,ht⟩ := t
    have s' : Sat C E w (if xs.length = n then m xs env w.h else .no) (fun env' w' => ∀ σ',q20 C w' env' σ' -> Q σ' w'.H) := s
    by_cases hl : xs.length = n
    . rw [if_pos hl] at s'
      exact ⟨a,vs,rfl,hs,by rw [<- ht.len]; exact hl,hg w xs vs env σ Q ok en ht s'⟩
    . rw [if_neg hl] at s'; exact s'.elim
  | _ => exact s.elim
theorem Ok.qf0 {w : Wd} (ok : Ok C w) {k : Nat} {a : Addr} {xs xs' : List AV} {vs' : List V} (e : w.h[k]? = some (.lst xs)) (ea : w.ρ[k]? = some a) (t : Trs C w xs' vs') :
    Ok C (w.put k (.lst xs') a (.lst vs')) /\ Le w (w.put k (.lst xs') a (.lst vs')) := by
  have hl : Live w a := ⟨k,_,e,(by intro z; cases z),ea⟩
  have le := ok.q8c ea hl (.lst xs') (.lst vs')
  exact ⟨ok.put ea hl ⟨vs',q24,t.mono ok le⟩,le⟩
theorem qis {w : Wd} {x y z : AV} {u v q : V} {h' : AH} (ok : Ok C w) (e : putL x y z w.h = some h') (tx : Tr C w x u) (ty : Tr C w y v) (tz : Tr C w z q) :
    ∃ p vs k j,u = .ref p /\ v = .int k /\ w.H p = some (.lst vs) /\ ixN vs.length k = some j /\ ∃ w',w'.h = h' /\ w'.H = upd w.H p (.lst (vs.set j q)) /\ Ok C w' /\ Le w w' := by
  unfold putL at e
  split at e
  . rename_i h k i
    rw [Tr] at tx; rw [Tr] at ty
    obtain ⟨a,rfl,ea⟩ := tx
    split at e
    . rename_i xs eh
      obtain ⟨vs,hH,t⟩ := ok.cell k _ a eh ea
      split at e
      . rename_i j ej
        cases e
        obtain ⟨o1,l1⟩ := ok.qf0 eh ea (t.set tz j)
        exact ⟨a,vs,i,j,rfl,ty,hH,by rw [<- t.len]; exact ej,_,rfl,rfl,o1,l1⟩
      . cases e
    . cases e
  . cases e
theorem qcd {to ti : TE} {o i : AE} (ho : SE C E to o) (hi : SE C E ti i) : SG C E (gSub to ti rSetL) (qac o i) := by
  intro w x v env σ Q ok en t s
  refine ho w env σ _ ok en (s.bind.mono fun a w1 ok1 le1 s1 u tu => hi w1 env σ _ ok1 (en.mono ok le1) (s1.bind.mono fun b w2 ok2 le2 s2 u2 tu2 => ?_))
  split at s2
  . rename_i h' e
    obtain ⟨p,vs,k,j,e1,e2,hH,hj,w',e3,e4,o',l'⟩ := qis ok2 e (tu.mono ok1 le2) tu2 (t.mono ok (le1.trans le2))
    refine ⟨p,vs,k,j,e1,e2,hH,hj,?_⟩
    have := s2 w' e3 o' l' σ (en.mono ok (le1.trans (le2.trans l')))
    rw [e4] at this
    exact this
  . exact s2.elim
mutual
def beqA : AV -> AV -> Bool
  | .non, .non => true
  | .bl a, .bl b => a == b
  | .int a, .int b => a == b
  | .str a, .str b => a == b
  | .tup a, .tup b => q3p a b
  | .lst a, .lst b => q3p a b
  | .dk k a, .dk l b => decide (k = l) && q3p a b
  | .ref a, .ref b => a == b
  | .kst a, .kst b => q3p a b
  | .xc a, .xc b => a == b
  | _,_ => false
def q3p : List AV -> List AV -> Bool
  | [],[] => true
  | x :: xs,y :: ys => beqA x y && q3p xs ys
  | _,_ => false
end
mutual
theorem qcj : ∀ {x y : AV},beqA x y = true -> x = y
  | .non,y,h => by cases y <;> simp_all [beqA]
  | .bl a,y,h => by cases y <;> simp_all [beqA]
  | .int a,y,h => by cases y <;> simp_all [beqA]
  | .str a,y,h => by cases y <;> simp_all [beqA]
  | .tup a,y,h => by
    cases y with
    | tup b => rw [beqA] at h; rw [q3y h]
    | _ => simp [beqA] at h
  | .lst a,y,h => by
    cases y with
    | lst b => rw [beqA] at h; rw [q3y h]
    | _ => simp [beqA] at h
  | .dk k a,y,h => by
    cases y with
    | dk l b =>
      rw [beqA,Bool.and_eq_true] at h
      rw [q3y h.2,of_decide_eq_true h.1]
    | _ => simp [beqA] at h
  | .ref a,y,h => by cases y <;> simp_all [beqA]
  | .kst a,y,h => by
    cases y with
    | kst b => rw [beqA] at h; rw [q3y h]
    | _ => simp [beqA] at h
  | .xc a,y,h => by cases y <;> simp_all [beqA]
theorem q3y : ∀ {xs ys : List AV},q3p xs ys = true -> xs = ys
  | [],ys,h => by cases ys <;> simp_all [q3p]
  | x :: xs,ys,h => by
    cases ys with
    | nil => simp [q3p] at h
    | cons y ys =>
      rw [q3p,Bool.and_eq_true] at h
      rw [qcj h.1,q3y h.2]
end
mutual
theorem qb1 : ∀ (x : AV),beqA x x = true
  | .non => by rw [beqA]
  | .bl a => by rw [beqA]; exact beq_self_eq_true a
  | .int a => by rw [beqA]; exact beq_self_eq_true a
  | .str a => by rw [beqA]; exact beq_self_eq_true a
  | .tup a => by rw [beqA]; exact q3h a
  | .lst a => by rw [beqA]; exact q3h a
  | .dk k a => by rw [beqA,q3h a,decide_eq_true rfl]; rfl
  | .ref a => by rw [beqA]; exact beq_self_eq_true a
  | .kst a => by rw [beqA]; exact q3h a
  | .xc a => by rw [beqA]; exact beq_self_eq_true a
theorem q3h : ∀ (xs : List AV),q3p xs xs = true
  | [] => by rw [q3p]
  | x :: xs => by rw [q3p,qb1 x,q3h xs]; rfl
end
def okW (h : AH) (all : List AV) : Option Nat -> Bool
  | none => true
  | some k => match h[k]? with | some (.lst ys) => q3p ys all | _ => false
theorem q2o {h : AH} {all : List AV} : okW h all none = true := rfl
theorem qgs {h : AH} {all : List AV} {k : Nat} (e : h[k]? = some (.lst all)) : okW h all (some k) = true := by
  simp only [okW,e]; exact q3h all
theorem of_okW {h : AH} {all : List AV} {k : Nat} (e : okW h all (some k) = true) : h[k]? = some (.lst all) := by
  simp only [okW] at e
  split at e
  . rename_i ys q; rw [q,q3y e]
  . cases e
abbrev AI := AEnv -> AH -> Re (List AV × Option Nat)
structure ItOk (C : Ct) (w1 : Wd) (J : It) (all : List AV) (wt : Option Nat) : Prop where
  go : ∀ (w : Wd) (i : Nat),Ok C w -> Le w1 w -> okW w.h all wt = true -> i < all.length -> J.go i w.H
  yld : ∀ (w : Wd) (i : Nat) (x : AV) (v : V) (H' : Hp),Ok C w -> Le w1 w -> okW w.h all wt = true -> all[i]? = some x -> J.yld i w.H v H' -> ∃ w',w'.H = H' /\ w'.h = w.h /\ Ok C w' /\ Le w w' /\ Tr C w' x v
  stop : ∀ (w : Wd) (i : Nat),Ok C w -> Le w1 w -> okW w.h all wt = true -> i = all.length -> J.stop i w.H
def SI (C : Ct) (E : XK) (wi : TI) (m : AI) : Prop := ∀ (w : Wd) (env : AEnv) (σ : St) (R : It -> Hp -> Prop),Ok C w -> q20 C w env σ -> Sat C E w (m env w.h) (fun p w' => ∀ J,ItOk C w' J p.1 p.2 -> R J w'.H) -> wi σ w.H R
def q35 (wt : Option Nat) (all : List AV) (g : AV -> AEnv -> AH -> Re AEnv) (body : AS) : List AV -> AEnv -> AH -> SRe
  | [],env,h => if okW h all wt = true then .nx env h else .no
  | x :: xs,env,h => if okW h all wt = true then (g x env h).to fun env h => match body env h with
      | .nx env h => q35 wt all g body xs env h
      | .ct env h => q35 wt all g body xs env h
      | .bk env h => .nx env h
      | .rt x h => .rt x h
      | .ex c h => .ex c h
      | .no => .no
    else .no
@[simp] def sFor (it : AI) (g : AV -> AEnv -> AH -> Re AEnv) (body : AS) : AS := fun env h => (it env h).to fun p h => q35 p.2 p.1 g body p.1 env h
theorem q5d {wi : TI} {it : AI} {g : TG} {mg : AV -> AEnv -> AH -> Re AEnv} {tb : TS} {body : AS} (hi : SI C E wi it) (hg : SG C E g mg) (hb : SS C E tb body) : SS C E (tFor wi g tb) (sFor it mg body) := by
  intro w env σ D ok en s
  refine hi w env σ _ ok en (Sat.mono (Sat.to s) fun p w1 ok1 le1 s1 J hJ => ?_)
  obtain ⟨all,wt⟩ := p
  refine ⟨fun i m σ H => m = all.length - i /\ i <= all.length /\ ∃ w env,w.H = H /\ Ok C w /\ Le w1 w /\ q20 C w env σ /\ SSat C E w (q35 wt all mg body (all.drop i) env w.h) D,
    ⟨all.length,by simp,Nat.zero_le _,w1,env,rfl,ok1,Le.refl w1,en.mono ok le1,s1⟩,?_⟩
  rintro i m σ H ⟨rfl,hi,w2,env2,rfl,ok2,le2,en2,s2⟩
  by_cases hlt : i < all.length
  . right
    have hx : all[i]? = some all[i] := List.getElem?_eq_getElem hlt
    rw [List.drop_eq_getElem_cons hlt,q35] at s2
    by_cases hw : okW w2.h all wt = true
    . rw [if_pos hw] at s2
      refine ⟨hJ.go w2 i ok2 le2 hw hlt,fun σ' H' => ∃ w env,w.H = H' /\ Ok C w /\ Le w1 w /\ q20 C w env σ' /\ SSat C E w (q35 wt all mg body (all.drop (i + 1)) env w.h) D,fun σ' H' q => ⟨all.length - (i + 1),by omega,rfl,hlt,q⟩,fun v H' y => ?_⟩
      obtain ⟨w3,rfl,e3,ok3,le3,t3⟩ := hJ.yld w2 i _ v H' ok2 le2 hw hx y
      rw [<- e3] at s2
      refine hg w3 _ v env2 σ _ ok3 (en2.mono ok2 le3) t3 (Sat.mono (Sat.to (SSat.le le3 s2)) fun env4 w4 ok4 le4 s4 σ4 en4 => ?_)
      refine hb w4 env4 σ4 _ ok4 en4 ?_
      have le14 : Le w1 w4 := le2.trans (le3.trans le4)
      cases e : body env4 w4.h with
      | nx env5 h5 =>
        rw [e] at s4
        intro w5 σ5 e5 ok5 le5 en5
        subst e5
        exact ⟨w5,env5,rfl,ok5,le14.trans le5,en5,SSat.le le5 s4⟩
      | ct env5 h5 =>
        rw [e] at s4
        intro w5 σ5 e5 ok5 le5 en5
        subst e5
        exact ⟨w5,env5,rfl,ok5,le14.trans le5,en5,SSat.le le5 s4⟩
      | bk env5 h5 => rw [e] at s4; exact s4
      | rt x h5 => rw [e] at s4; exact s4
      | ex c h5 => rw [e] at s4; exact s4
      | no => rw [e] at s4; exact s4
    . rw [if_neg hw] at s2; exact s2.elim
  . left
    have hd : all.drop i = [] := List.drop_eq_nil_of_le (by omega)
    rw [hd,q35] at s2
    by_cases hw : okW w2.h all wt = true
    . rw [if_pos hw] at s2
      exact ⟨hJ.stop w2 i ok2 le2 hw (Nat.le_antisymm hi (Nat.le_of_not_lt hlt)),s2 w2 σ rfl ok2 (Le.refl w2) en2⟩
    . rw [if_neg hw] at s2; exact s2.elim
end
end Z
namespace Z
open PySem L2
@[simp] def watch : AV -> Option Nat
  | .ref k => some k
  | _ => none
@[simp] def iLst (a : AE) : AI := fun env h => (a env h).bind fun x h => match q3v h x with | some xs => .ok (xs,watch x) h | none => .no
def intsFrom (lo : Int) (n : Nat) : List AV := (List.range n).map fun i : Nat => AV.int (lo + (i : Int))
def rng1 : AV -> AH -> Re (List AV × Option Nat) := fun x h => match x with
  | .int (.ofNat n) => if n <= 16777216 then .ok (intsFrom 0 n,none) h else .no
  | .int (.negSucc n) => if n <= 16777216 then .ok (intsFrom 0 0,none) h else .no
  | _ => .no
@[simp] def qcw (a : AE) : AI := fun env h => (a env h).bind rng1
theorem qgr {n : Nat} {h : AH} (h1 : n <= 1000000) : rng1 (.int (n : Int)) h = .ok (intsFrom 0 n,none) h := by
  show (if _ then _ else _) = _
  rw [if_pos (by omega)]
theorem len_from (i : Int) (n : Nat) : (intsFrom i n).length = n := by simp [intsFrom]
def strA (x : Str) : List AV := x.cps.toList.map fun c => AV.str ⟨#[c]⟩
@[simp] def q5s (a : AE) : AI := fun env h => (a env h).bind fun x h => match x with
  | .str z => .ok (strA z,none) h
  | _ => .no
section
variable {C : Ct} {E : XK} {ta tb : TE} {ma mb : AE}
theorem qbo {w1 w : Wd} {x : AV} {xs : List AV} {v : V} (ok1 : Ok C w1) (e : q3v w1.h x = some xs) (t : Tr C w1 x v) (ok : Ok C w) (le : Le w1 w) (hw : okW w.h xs (watch x) = true) : ∃ a vs,v = .ref a /\ SqL C.K w.H a vs /\ Trs C w xs vs := by
  have t' := t.mono ok1 le
  have e' : q3v w.h x = some xs := by
    cases x with
    | lst ys => exact e
    | kst ys => exact e
    | ref k => simp only [q3v,of_okW hw]
    | _ => cases e
  obtain ⟨a,vs,h1,h2,h3⟩ := q47 ok e' t'
  exact ⟨a,vs,h1,h2,h3⟩
theorem q3s (ha : SE C E ta ma) : SI C E (iList C.K ta) (iLst ma) := by
  intro w env σ R ok en s
  refine ha w env σ _ ok en (s.bind.mono fun x w1 ok1 le1 s1 v tv => ?_)
  split at s1
  . rename_i xs e
    obtain ⟨a,vs,rfl,r,t⟩ := q47 ok1 e tv
    refine ⟨a,rfl,⟨vs,r⟩,s1.here ok1 _ ?_⟩
    have key : ∀ w,Ok C w -> Le w1 w -> okW w.h xs (watch x) = true -> ∃ us,SqL C.K w.H a us /\ Trs C w xs us := fun w ok le hw => by
      obtain ⟨a',us,e',h2,h3⟩ := qbo ok1 e tv ok le hw
      cases e'
      exact ⟨us,h2,h3⟩
    refine ⟨fun w i ok le hw hi => ?_,fun w i y v H' ok le hw hy yl => ?_,fun w i ok le hw hi => ?_⟩
    . obtain ⟨us,h2,h3⟩ := key w ok le hw
      exact ⟨us,us[i]'(by rw [<- h3.len]; exact hi),h2,List.getElem?_eq_getElem _⟩
    . obtain ⟨us,h2,h3⟩ := key w ok le hw
      obtain ⟨rfl,hq⟩ := yl
      obtain ⟨q,e1,tq⟩ := h3.get hy
      have := hq us h2
      rw [e1] at this; cases this
      exact ⟨w,rfl,rfl,ok,Le.refl w,tq⟩
    . obtain ⟨us,h2,h3⟩ := key w ok le hw
      exact ⟨us,h2,by rw [<- h3.len]; exact Nat.le_of_eq hi.symm⟩
  . exact s1.elim
theorem qfz {w1 : Wd} {lo : Int} {n : Nat} : ItOk C w1 (Itr lo n) (intsFrom lo n) none := by
  refine ⟨fun w i ok le hw hi => ?_,fun w i y v H' ok le hw hy yl => ?_,fun w i ok le hw hi => ?_⟩
  . unfold intsFrom at hi; rw [List.length_map,List.length_range] at hi; exact hi
  . obtain ⟨rfl,rfl⟩ := yl
    unfold intsFrom at hy
    rw [List.getElem?_map] at hy
    cases e : (List.range n)[i]? with
    | none => rw [e] at hy; cases hy
    | some k =>
      rw [e] at hy
      obtain ⟨h1,h2⟩ := List.getElem?_eq_some_iff.mp e
      rw [List.getElem_range] at h2
      subst h2
      cases hy
      exact ⟨w,rfl,rfl,ok,Le.refl w,by rw [Tr]⟩
  . unfold intsFrom at hi; rw [List.length_map,List.length_range] at hi; exact Nat.le_of_eq hi.symm
theorem qe7 (ha : SE C E ta ma) : SI C E (iRng1 (q3w ta tNil)) (qcw ma) := by
  intro w env σ R ok en s
  refine ha w env σ _ ok en (s.bind.mono fun x w1 ok1 le1 s1 v tv => ?_)
  unfold rng1 at s1
  split at s1
  . rename_i n
    rw [Tr] at tv; subst tv
    by_cases hj : n <= 16777216
    . rw [if_pos hj] at s1
      exact ⟨_,rfl,by show (_ : Int) <= (n : Int); omega,by show (n : Int) < _; omega,s1.here ok1 _ qfz⟩
    . rw [if_neg hj] at s1; exact s1.elim
  . rename_i n
    rw [Tr] at tv; subst tv
    by_cases hj : n <= 16777216
    . rw [if_pos hj] at s1
      exact ⟨_,rfl,by rw [Int.negSucc_eq]; omega,by rw [Int.negSucc_eq]; omega,s1.here ok1 _ qfz⟩
    . rw [if_neg hj] at s1; exact s1.elim
  . exact s1.elim
theorem qbk (ha : SE C E ta ma) : SI C E (iStr ta) (q5s ma) := by
  intro w env σ R ok en s
  refine ha w env σ _ ok en (s.bind.mono fun x w1 ok1 le1 s1 v tv => ?_)
  split at s1
  . rename_i z
    rw [Tr] at tv; subst tv
    refine ⟨z,rfl,s1.here ok1 _ ?_⟩
    have hl : (strA z).length = z.cps.toList.length := by unfold strA; rw [List.length_map]
    refine ⟨fun w i ok le hw hi => ?_,fun w i y v H' ok le hw hy yl => ?_,fun w i ok le hw hi => ?_⟩
    . rw [hl] at hi; exact hi
    . obtain ⟨rfl,c,hc,rfl⟩ := yl
      unfold strA at hy
      rw [List.getElem?_map,hc] at hy
      cases hy
      exact ⟨w,rfl,rfl,ok,Le.refl w,by rw [Tr]⟩
    . rw [hl] at hi; exact hi
  . exact s1.elim
def SGo (C : Ct) (E : XK) (n : Nat) (g : TG) (m : AV -> AEnv -> AH -> Re AEnv) : Prop := ∀ (w : Wd) (x : AV) (v : V) (env : AEnv) (σ : St) (Q : St -> Hp -> Prop),Ok C w -> q20 C w env σ -> Tr C w x v ->
  Sat C E w (m x env w.h) (fun env' w' => ∀ σ',q20 C w' env' σ' -> σ'.length = σ.length -> σ'.drop n = σ.drop n -> Q σ' w'.H) -> g v σ w.H Q
def SGos (C : Ct) (E : XK) (n : Nat) (g : TGs) (m : List AV -> AEnv -> AH -> Re AEnv) : Prop := ∀ (w : Wd) (xs : List AV) (vs : List V) (env : AEnv) (σ : St) (Q : St -> Hp -> Prop),Ok C w -> q20 C w env σ -> Trs C w xs vs ->
  Sat C E w (m xs env w.h) (fun env' w' => ∀ σ',q20 C w' env' σ' -> σ'.length = σ.length -> σ'.drop n = σ.drop n -> Q σ' w'.H) -> g vs σ w.H Q
theorem q2p {i n : Nat} (h : i < n := by decide) : SGo C E n (q54 i) (gN i) := fun w x v env σ Q ok en t s => s.here ok _ (en.set i t) List.length_set (List.drop_set_of_lt h)
theorem q5c {n : Nat} : SGos C E n gNil q3m := by
  intro w xs vs env σ Q ok en t s
  cases xs with
  | nil => rw [Trs] at t; exact ⟨t,Sat.here (P := fun env' w' => ∀ σ',q20 C w' env' σ' -> σ'.length = σ.length -> σ'.drop n = σ.drop n -> Q σ' w'.H) s ok _ en rfl rfl⟩
  | cons x xs => exact s.elim
theorem q2x {n : Nat} {g : TG} {u : TGs} {m : AV -> AEnv -> AH -> Re AEnv} {r : List AV -> AEnv -> AH -> Re AEnv} (hg : SGo C E n g m) (hr : SGos C E n u r) : SGos C E n (qdg g u) (q1u m r) := by
  intro w xs vs env σ Q ok en t s
  cases xs with
  | nil => exact s.elim
  | cons x xs =>
    rw [Trs] at t
    obtain ⟨v,us,rfl,t1,t2⟩ := t
    have s' : Sat C E w ((m x env w.h).bind fun env h => r xs env h) (fun env' w' => ∀ σ',q20 C w' env' σ' -> σ'.length = σ.length -> σ'.drop n = σ.drop n -> Q σ' w'.H) := s
    exact ⟨v,us,rfl,hg w x v env σ _ ok en t1 (s'.bind.mono fun env1 w1 ok1 le1 s1 σ1 en1 l1 d1 => hr w1 xs us env1 σ1 Q ok1 en1 (t2.mono ok le1) (s1.mono fun env2 w2 ok2 le2 s2 σ2 en2 l2 d2 => s2 σ2 en2 (l2.trans l1) (d2.trans d1)))⟩
theorem q7g {n k : Nat} {g : TGs} {m : List AV -> AEnv -> AH -> Re AEnv} (hg : SGos C E n g m) : SGo C E n (gTup C.K k g) (gT k m) := by
  intro w x v env σ Q ok en t s
  cases x with
  | tup xs =>
    rw [Tr] at t
    obtain ⟨a,vs,rfl,hs,ht⟩ := t
    have s' : Sat C E w (if xs.length = k then m xs env w.h else .no) (fun env' w' => ∀ σ',q20 C w' env' σ' -> σ'.length = σ.length -> σ'.drop n = σ.drop n -> Q σ' w'.H) := s
    by_cases hl : xs.length = k
    . rw [if_pos hl] at s'
      exact ⟨a,vs,rfl,hs,by rw [<- ht.len]; exact hl,hg w xs vs env σ Q ok en ht s'⟩
    . rw [if_neg hl] at s'; exact s'.elim
  | _ => exact s.elim
@[simp] def Re.noex {α : Type} : Re α -> Re α
  | .ok x h => .ok x h
  | _ => .no
@[simp] theorem Re.q9a {α : Type} (x : α) (h : AH) : (Re.ok x h).noex = .ok x h := rfl
def bEnv (n : Nat) (fv : List Nat) (env : AEnv) : AEnv := List.replicate n none ++ fv.map fun i => (env[i]?).join
def lcL (wt : Option Nat) (all : List AV) (g : AV -> AEnv -> AH -> Re AEnv) (tc : AT) (te : AE) (be : AEnv) : List AV -> List AV -> AH -> Re (List AV)
  | [],acc,h => if okW h all wt = true then .ok acc h else .no
  | x :: xs,acc,h => if okW h all wt = true then (g x be h).bind fun env h => (tc env h).bind fun b h => if b = true then (te env h).bind fun y h => lcL wt all g tc te be xs (acc ++ [y]) h else lcL wt all g tc te be xs acc h else .no
@[simp] def aLcL (n : Nat) (fv : List Nat) (it : AI) (g : AV -> AEnv -> AH -> Re AEnv) (tc : AT) (te : AE) : AA := fun env h => (it env h).bind fun p h => if p.1.length <= sizeLine then (lcL p.2 p.1 g tc te (bEnv n fv env) p.1 [] h).noex else .no
@[simp] def aLc (n : Nat) (fv : List Nat) (it : AI) (g : AV -> AEnv -> AH -> Re AEnv) (tc : AT) (te : AE) : AE := fun env h => (aLcL n fv it g tc te env h).bind fun xs h => .ok (.lst xs) h
@[simp] def aLcC (n : Nat) (fv : List Nat) (it : AI) (g : AV -> AEnv -> AH -> Re AEnv) (tc : AT) (te : AE) : AE := fun env h => (aLcL n fv it g tc te env h).bind fun xs h => .ok (.ref h.length) (h ++ [.lst xs])
@[simp] def aYes : AT := fun _ h => .ok true h
theorem q4f : STs C E tYes aYes := fun w env σ Q ok en s => s.here ok
theorem qci {w : Wd} {env : AEnv} {σ : St} (en : q20 C w env σ) (own : List Str) (fv : List (Str × Nat)) : q20 C w (bEnv own.length (fv.map (·.2)) env) (bσ own fv σ) := by
  unfold bEnv bσ q53
  refine ⟨by simp,fun i x h => ?_⟩
  by_cases hi : i < own.length
  . rw [List.getElem?_append_left (by simpa using hi),List.getElem?_replicate,if_pos hi] at h
    cases h
  . rw [List.getElem?_append_right (by simpa using hi),List.length_replicate,List.getElem?_map,List.getElem?_map] at h
    rw [List.getElem?_append_right (by simpa using hi),List.length_map,List.getElem?_map]
    cases e : fv[i - own.length]? with
    | none => rw [e] at h; cases h
    | some p =>
      rw [e] at h
      have h : (env[p.2]?).join = some x := by simpa using h
      have h' : env[p.2]? = some (some x) := by
        cases q : env[p.2]? with
        | none => rw [q] at h; cases h
        | some o => rw [q] at h; rw [show o = some x from h]
      obtain ⟨v,hv,tv⟩ := en.at_ p.2 x h'
      exact ⟨v,by simp [hv],tv⟩
theorem Sat.nb {α β γ : Type} {w1 : Wd} {X : Re α} {g : α -> AH -> Re β} {f : β -> AH -> Re γ} {P : γ -> Wd -> Prop} (s : Sat C E w1 ((X.bind g).noex.bind f) P) : Sat C E0 w1 X (fun x w' => Sat C E w1 ((g x w'.h).noex.bind f) P) := by
  cases X with
  | ok x h => exact fun w' e ok le => by subst e; exact s
  | ex c h => exact s.elim
  | no => exact s
theorem qfs {own : List Str} {fv : List (Str × Nat)} {wi : TI} {it : AI} {g : TG} {mg : AV -> AEnv -> AH -> Re AEnv} {tc : TT} {mc : AT} {te : TE} {me : AE} (hi : SI C E wi it) (hg : SGo C E0 own.length g mg) (hc : STs C E0 tc mc) (he : SE C E0 te me)
    {w : Wd} {env : AEnv} {σ : St} {Q : VK} (ok : Ok C w) (en : q20 C w env σ) {f : List AV -> AH -> Re AV} {P : AV -> Wd -> Prop} (s : Sat C E w ((aLcL own.length (fv.map (·.2)) it mg mc me env w.h).bind f) P)
    (k : ∀ (w0 w' : Wd) xs D vs,Ok C w0 -> Le w w0 -> w0.H D = none -> Ok C w' -> Le w0 w' -> Lone w' D vs -> Trs C w' xs vs -> Sat C E w0 (f xs w'.h) P -> Q (.ref D) w'.H) : tLc own fv wi g tc te σ w.H Q := by
  have s0 : Sat C E w ((it env w.h).bind fun p h => (if p.1.length <= sizeLine then (lcL p.2 p.1 mg mc me (bEnv own.length (fv.map (·.2)) env) p.1 [] h).noex else .no : Re (List AV)).bind f) P := by
    unfold aLcL at s
    revert s
    cases it env w.h <;> exact fun s => s
  refine hi w env σ _ ok en (s0.bind.mono fun p w1 ok1 le1 s1 J hJ D hD => ?_)
  obtain ⟨all,wt⟩ := p
  by_cases hsz : all.length <= sizeLine
  . have s1 : Sat C E w1 ((if all.length <= sizeLine then (lcL wt all mg mc me (bEnv own.length (fv.map (·.2)) env) all [] w1.h).noex else .no : Re (List AV)).bind f) P := s1
    rw [if_pos hsz] at s1
    have en1 := en.mono ok le1
    refine ⟨fun i m H => m = all.length - i /\ i <= all.length /\ ∃ w2 acc ys,w2.H = H /\ Ok C w2 /\ Le w1 w2 /\ Lone w2 D ys /\ Trs C w2 acc ys /\ acc.length <= i /\ Sat C E w1 ((lcL wt all mg mc me (bEnv own.length (fv.map (·.2)) env) (all.drop i) acc w2.h).noex.bind f) P,⟨all.length,by simp,Nat.zero_le _,w1.fresh D (.lst []),[],[],rfl,ok1.fresh hD _,ok1.q3q hD _,?_, .nil,Nat.zero_le _,s1⟩,?_⟩
    . exact ⟨q24,fun z => ok1.fzt D z hD,fun z => ok1.th D (ok1.qdj z) hD,fun z => ok1.th D z hD⟩
    . rintro i m H ⟨rfl,hi,w2,acc,ys,rfl,ok2,le2,L2,t2,hal,s3⟩
      by_cases hlt : i < all.length
      . right
        have hx : all[i]? = some all[i] := List.getElem?_eq_getElem hlt
        rw [List.drop_eq_getElem_cons hlt,lcL] at s3
        by_cases hw : okW w2.h all wt = true
        . rw [if_pos hw] at s3
          refine ⟨hJ.go w2 i ok2 le2 hw hlt,fun v H5 => ∃ w5 acc' ys,w5.H = H5 /\ Ok C w5 /\ Le w1 w5 /\ Lone w5 D ys /\ (∃ y,Tr C w5 y v /\ Trs C w5 acc' ys /\ acc'.length <= i /\ Sat C E w1 ((lcL wt all mg mc me (bEnv own.length (fv.map (·.2)) env) (all.drop (i + 1)) (acc' ++ [y]) w5.h).noex.bind f) P),
            fun H4 => ∃ w4 acc' ys,w4.H = H4 /\ Ok C w4 /\ Le w1 w4 /\ Lone w4 D ys /\ Trs C w4 acc' ys /\ acc'.length <= i /\ Sat C E w1 ((lcL wt all mg mc me (bEnv own.length (fv.map (·.2)) env) (all.drop (i + 1)) acc' w4.h).noex.bind f) P,?_,?_,?_⟩
          . rintro v H5 ⟨w5,acc',ys',rfl,ok5,le5,L5,y,ty,t5,hal5,s5⟩
            refine ⟨ys',L5.at_,?_,all.length - (i + 1),by omega,rfl,hlt,w5.poke D (.lst (ys' ++ [v])),acc' ++ [y],ys' ++ [v],rfl,ok5.poke L5 _,le5.poke hD,?_,(t5.app (.one ty)).poke L5 _,?_,s5⟩
            . have := t5.len; omega
            . exact ⟨q24,L5.nf,L5.nl,L5.nr⟩
            . rw [List.length_append,List.length_singleton]; omega
          . rintro H4 ⟨w4,acc',ys',rfl,ok4,le4,L4,t4,hal4,s4⟩
            exact ⟨all.length - (i + 1),by omega,rfl,hlt,w4,acc',ys',rfl,ok4,le4,L4,t4,by omega,s4⟩
          . intro v H' yl
            obtain ⟨w3,rfl,e3,ok3,le3,t3⟩ := hJ.yld w2 i _ v H' ok2 le2 hw hx yl
            have en3 := qci ((en1.mono ok1 le2).mono ok2 le3) own fv
            rw [<- e3] at s3
            refine hg w3 _ v _ _ _ ok3 en3 t3 ((Sat.nb s3).le (le2.trans le3) |>.mono fun env4 w4 ok4 le4 s4 σ4 en4 l4 d4 => ⟨?_,?_⟩)
            . refine ⟨σ4.take own.length,?_,?_⟩
              . have hl : (bσ own fv σ).length = own.length + fv.length := by unfold bσ q53; simp
                rw [List.length_take]; omega
              . have hd : (bσ own fv σ).drop own.length = q53 fv σ := by
                  unfold bσ
                  rw [List.drop_append_of_le_length (by simp)]
                  simp
                rw [<- hd, <- d4,List.take_append_drop]
            . have le14 : Le w1 w4 := le2.trans (le3.trans le4)
              refine hc w4 env4 σ4 _ ok4 en4 ((Sat.nb s4).le le14 |>.mono fun b w5 ok5 le5 s5 => ?_)
              have L5 : Lone w5 D ys := L2.le (le3.trans (le4.trans le5))
              have t5 : Trs C w5 acc ys := t2.mono ok2 (le3.trans (le4.trans le5))
              cases b with
              | true =>
                refine iteT (he w5 env4 σ4 _ ok5 (en4.mono ok4 le5) ?_)
                have s5' : Sat C E w1 (((me env4 w5.h).bind fun y h => lcL wt all mg mc me (bEnv own.length (fv.map (·.2)) env) (all.drop (i + 1)) (acc ++ [y]) h).noex.bind f) P := by simpa using s5
                refine (Sat.nb s5').le (le14.trans le5) |>.mono fun y w6 ok6 le6 s6 q tq => ?_
                exact ⟨w6,acc,ys,rfl,ok6,le14.trans (le5.trans le6),L5.le le6,y,tq,t5.mono ok5 le6,hal,s6⟩
              | false =>
                refine iteF ⟨w5,acc,ys,rfl,ok5,le14.trans le5,L5,t5,hal,by simpa using s5⟩
        . rw [if_neg hw] at s3; exact s3.elim
      . left
        have hd : all.drop i = [] := List.drop_eq_nil_of_le (by omega)
        rw [hd,lcL] at s3
        by_cases hw : okW w2.h all wt = true
        . rw [if_pos hw] at s3
          exact ⟨hJ.stop w2 i ok2 le2 hw (Nat.le_antisymm hi (Nat.le_of_not_lt hlt)),k w1 w2 acc D ys ok1 le1 hD ok2 le2 L2 t2 s3⟩
        . rw [if_neg hw] at s3; exact s3.elim
  . have s1 : Sat C E w1 ((if all.length <= sizeLine then (lcL wt all mg mc me (bEnv own.length (fv.map (·.2)) env) all [] w1.h).noex else .no : Re (List AV)).bind f) P := s1
    rw [if_neg hsz] at s1
    exact s1.elim
theorem Le.keep {w0 w : Wd} {D : Addr} (le : Le w0 w) (h0 : w0.H D = none) : Le w0 (w.keep D) :=
  ⟨le.pre,fun a h => .inr (le.fz a h),fun b hb o r => (le.ks b hb o r).elim .inl fun z => .inr ⟨.inr z.1,z.2⟩,fun a h => h.elim (fun z => .inr (.inl (z ▸ h0))) (le.fn a),le.nw,le.nn,le.rn⟩
def Wd.own (w : Wd) (D : Addr) (c : Cell) : Wd := { w with ρ := w.ρ ++ [D],h := w.h ++ [c] }
theorem qaq {w : Wd} (ok : Ok C w) {D : Addr} {c : Cell} {a : Addr} (h : Live (w.own D c) a) : a = D \/ Live w a := by
  obtain ⟨k,c',e1,e2,e3⟩ := h
  have hl := ok.len
  by_cases hk : k < w.h.length
  . exact .inr ⟨k,c',by rw [<- List.getElem?_append_left (l₂ := [c]) hk]; exact e1,e2,by rw [<- List.getElem?_append_left (l₂ := [D]) (by omega)]; exact e3⟩
  . have hlt := (List.getElem?_eq_some_iff.mp e3).1
    have : (w.own D c).ρ.length = w.ρ.length + 1 := by simp [Wd.own]
    have hk' : k = w.ρ.length := by omega
    have e3' : (w.ρ ++ [D])[k]? = some a := e3
    rw [hk',List.getElem?_append_right (Nat.le_refl _),Nat.sub_self] at e3'
    exact .inl (by simpa using e3'.symm)
theorem Le.own {w0 w : Wd} {D : Addr} {c : Cell} (ok : Ok C w) (le : Le w0 w) (h0 : w0.H D = none) : Le w0 (w.own D c) := by
  obtain ⟨t,e⟩ := le.pre
  refine ⟨⟨t ++ [D],by show w.ρ ++ [D] = _; rw [e,List.append_assoc]⟩,le.fz,le.ks,le.fn,fun a h => ?_,le.nn,fun a h => ?_⟩
  . rcases qaq ok h with rfl | h
    . exact .inl h0
    . exact le.nw a h
  . rcases List.mem_append.mp (show a ∈ w.ρ ++ [D] from h) with z | z
    . exact le.rn a z
    . exact .inr (by rw [List.mem_singleton.mp z]; exact h0)
mutual
theorem Tr.own {w : Wd} {D : Addr} {c : Cell} : ∀ {x : AV} {v : V},Tr C w x v -> Tr C (w.own D c) x v
  | .non,v,h => by rw [Tr] at h ⊢; exact h
  | .bl _,v,h => by rw [Tr] at h ⊢; exact h
  | .int _,v,h => by rw [Tr] at h ⊢; exact h
  | .str _,v,h => by rw [Tr] at h ⊢; exact h
  | .tup xs,v,h => by
    rw [Tr] at h ⊢
    obtain ⟨a,vs,e,hs,ht⟩ := h
    exact ⟨a,vs,e,hs,Trs.own ht⟩
  | .lst xs,v,h => by
    rw [Tr] at h ⊢
    obtain ⟨a,vs,e,f,r,ht⟩ := h
    exact ⟨a,vs,e,f,r,Trs.own ht⟩
  | .dk ks xs,v,h => by
    rw [Tr] at h ⊢
    obtain ⟨a,kvs,e,f,r,hk,ht⟩ := h
    exact ⟨a,kvs,e,f,r,hk,Trs.own ht⟩
  | .ref k,v,h => by
    rw [Tr] at h ⊢
    obtain ⟨a,e,hk⟩ := h
    exact ⟨a,e,by show (w.ρ ++ [D])[k]? = some a; rw [List.getElem?_append_left (List.getElem?_eq_some_iff.mp hk).1]; exact hk⟩
  | .kst xs,v,h => by
    rw [Tr] at h ⊢
    obtain ⟨a,vs,e,hs,ht⟩ := h
    exact ⟨a,vs,e,hs,Trs.own ht⟩
  | .xc c,v,h => by rw [Tr] at h ⊢; exact h
theorem Trs.own {w : Wd} {D : Addr} {c : Cell} : ∀ {xs : List AV} {vs : List V},Trs C w xs vs -> Trs C (w.own D c) xs vs
  | [],vs,h => by rw [Trs] at h ⊢; exact h
  | x :: xs,vs,h => by
    rw [Trs] at h ⊢
    obtain ⟨v,us,e,h1,h2⟩ := h
    exact ⟨v,us,e,Tr.own h1,Trs.own h2⟩
end
theorem Flds.own {w : Wd} {D : Addr} {c : Cell} : ∀ {fs : List (Nat × AV)} {us : List (Str × V)},Flds C w fs us -> Flds C (w.own D c) fs us
  | [],us,h => h
  | p :: r,us,h => by
    obtain ⟨v,us,e,h1,h2⟩ := h
    exact ⟨v,us,e,Tr.own h1,Flds.own h2⟩
theorem Ok.own {w : Wd} (ok : Ok C w) {D : Addr} {vs : List V} {xs : List AV} (L : Lone w D vs) (t : Trs C w xs vs) : Ok C (w.own D (.lst xs)) := by
  have hl := ok.len
  refine ⟨by simp [Wd.own,hl],?_,fun a ha => ?_,fun k c' a e ea => ?_,fun a hlv hz => ?_,ok.fzt,ok.pn⟩
  . show (w.ρ ++ [D]).Nodup
    rw [List.nodup_append]
    exact ⟨ok.nd,by simp,fun a ha b hb => by simp at hb; subst hb; intro z; subst z; exact L.nr ha⟩
  . rcases List.mem_append.mp (show a ∈ w.ρ ++ [D] from ha) with z | z
    . exact ok.th a z
    . show w.H a ≠ none
      rw [List.mem_singleton.mp z,L.at_]; intro z; cases z
  . by_cases hk : k < w.h.length
    . have e' : w.h[k]? = some c' := by rw [<- List.getElem?_append_left (l₂ := [Cell.lst xs]) hk]; exact e
      have ea' : w.ρ[k]? = some a := by rw [<- List.getElem?_append_left (l₂ := [D]) (by omega)]; exact ea
      have h := ok.cell k c' a e' ea'
      cases c' with
      | dead => trivial
      | lst xs => obtain ⟨vs,hH,ht⟩ := h; exact ⟨vs,hH,ht.own⟩
      | dk ks xs => obtain ⟨kvs,hH,hk,ht⟩ := h; exact ⟨kvs,hH,hk,ht.own⟩
      | ins cc fs => obtain ⟨hf,dx,fvs,hH,ht⟩ := h; exact ⟨hf,dx,fvs,hH,ht.own⟩
    . have hlt := (List.getElem?_eq_some_iff.mp ea).1
      have : (w.own D (.lst xs)).ρ.length = w.ρ.length + 1 := by simp [Wd.own]
      have hk' : k = w.ρ.length := by omega
      have e3' : (w.ρ ++ [D])[k]? = some a := ea
      rw [hk',List.getElem?_append_right (Nat.le_refl _),Nat.sub_self] at e3'
      have e4 : (w.h ++ [Cell.lst xs])[k]? = some c' := e
      rw [hk',hl,List.getElem?_append_right (Nat.le_refl _),Nat.sub_self] at e4
      have a1 : D = a := by simpa using e3'
      have a2 : Cell.lst xs = c' := by simpa using e4
      subst a1 a2
      exact ⟨vs,L.at_,t.own⟩
  . rcases qaq ok hlv with rfl | h
    . exact L.nf hz
    . exact ok.fz a h hz
section
variable {own : List Str} {fv : List (Str × Nat)} {wi : TI} {it : AI} {g : TG} {mg : AV -> AEnv -> AH -> Re AEnv} {tc : TT} {mc : AT} {te : TE} {me : AE}
theorem q5v (hi : SI C E wi it) (hg : SGo C E0 own.length g mg) (hc : STs C E0 tc mc) (he : SE C E0 te me) : SE C E (tLc own fv wi g tc te) (aLc own.length (fv.map (·.2)) it mg mc me) := fun w env σ Q ok en s =>
  qfs hi hg hc he ok en s fun w0 w' xs D vs ok0 le0 h0 ok' le' L t s' => s' (w'.keep D) rfl (ok'.keep L) (le'.keep h0) _ (by rw [Tr]; exact ⟨D,vs,rfl, .inl rfl, .inl L.at_,t.keep⟩)
theorem se_lcC (hi : SI C E wi it) (hg : SGo C E0 own.length g mg) (hc : STs C E0 tc mc) (he : SE C E0 te me) : SE C E (tLc own fv wi g tc te) (aLcC own.length (fv.map (·.2)) it mg mc me) := fun w env σ Q ok en s =>
  qfs hi hg hc he ok en s fun w0 w' xs D vs ok0 le0 h0 ok' le' L t s' => s' (w'.own D (.lst xs)) rfl (ok'.own L t) (le'.own ok' h0) _ (by
    rw [Tr]
    refine ⟨D,rfl,?_⟩
    show (w'.ρ ++ [D])[w'.h.length]? = some D
    rw [<- ok'.len,List.getElem?_append_right (Nat.le_refl _),Nat.sub_self]; rfl)
end
end
end Z
namespace Z
open PySem L2
abbrev AF := List AV -> AH -> Re AV
def spZ (C : Ct) (n : Nat) (m : AF) : Sp := fun vs H Q E => ∃ (w : Wd) (xs : List AV),w.H = H /\ Ok C w /\ Trs C w xs vs /\ xs.length = n /\ Sat C E w (m xs w.h) (want C Q)
theorem q23 {C : Ct} {n : Nat} {m : AF} {vs : List V} {H : Hp} {Q : VK} {E : XK} (h : spZ C n m vs H Q E) : vs.length = n := by
  obtain ⟨w,xs,_,_,t,hl,_⟩ := h
  rw [<- t.len]; exact hl
@[simp] def SRe.out : SRe -> Re AV
  | .rt x h => .ok x h
  | .nx _ h => .ok .non h
  | .ex c h => .ex c h
  | _ => .no
@[simp] theorem SRe.out_rt (x : AV) (h : AH) : (SRe.rt x h).out = .ok x h := rfl
@[simp] theorem SRe.out_nx (e : AEnv) (h : AH) : (SRe.nx e h).out = .ok .non h := rfl
@[simp] theorem SRe.out_ex (c : Nat) (h : AH) : (SRe.ex c h).out = .ex c h := rfl
@[simp] def fnZ (N : Nat) (body : AS) : AF := fun xs h => (body (xs.map some ++ List.replicate (N - xs.length) none) h).out
section
variable {C : Ct} {E : XK}
theorem qgl {w : Wd} {N : List Str} {xs : List AV} {vs : List V} (t : Trs C w xs vs) : q20 C w (xs.map some ++ List.replicate (N.length - xs.length) none) (L2.start N vs) := by
  unfold L2.start
  have hl := t.len
  refine ⟨by simp [hl],fun i x h => ?_⟩
  by_cases hi : i < xs.length
  . rw [List.getElem?_append_left (by simpa using hi),List.getElem?_map] at h
    cases e : xs[i]? with
    | none => rw [e] at h; cases h
    | some y =>
      rw [e] at h
      cases h
      obtain ⟨v,hv,tv⟩ := t.get e
      exact ⟨v,by rw [List.getElem?_append_left (by simp; omega),List.getElem?_map,hv]; rfl,tv⟩
  . rw [List.getElem?_append_right (by simpa using hi),List.getElem?_replicate] at h
    split at h <;> cases h
theorem q1z {N : List Str} {n k : Nat} {t : TS} {body : AS} {vs : List V} {H : Hp} {Q : VK} (hs : SS C E t body) (hN : N.length = k) (h : spZ C n (fnZ k body) vs H Q E) : t { nx := fun _ H' => Q .non H',rt := Q } (L2.start N vs) H := by
  obtain ⟨w,xs,rfl,ok,tr,hl,s⟩ := h
  subst hN
  refine hs w _ _ _ ok (qgl (N := N) tr) ?_
  unfold fnZ at s
  revert s
  cases body (xs.map some ++ List.replicate (N.length - xs.length) none) w.h with
  | rt x h => exact fun s w' v e ok' le tv => s w' e ok' le v tv
  | nx env h => exact fun s w' σ e ok' le en => s w' e ok' le .non (by rw [Tr])
  | ex c h => exact fun s => s
  | bk env h => exact fun s => s.elim
  | ct env h => exact fun s => s.elim
  | no => exact fun s => s.elim
def q5t : List (Nat × AV) -> List (Nat × AV) -> Bool
  | [],[] => true
  | p :: r,q :: s => (p.1 == q.1) && beqA p.2 q.2 && q5t r s
  | _,_ => false
theorem qbx : ∀ {xs ys : List (Nat × AV)},q5t xs ys = true -> xs = ys
  | [],ys,h => by cases ys <;> simp_all [q5t]
  | (a,x) :: xs,ys,h => by
    cases ys with
    | nil => simp [q5t] at h
    | cons q ys =>
      obtain ⟨b,y⟩ := q
      rw [q5t,Bool.and_eq_true,Bool.and_eq_true] at h
      have h1 : a = b := by simpa using h.1.1
      have h2 : x = y := qcj h.1.2
      rw [h1,h2,qbx h.2]
theorem q9x : ∀ (xs : List (Nat × AV)),q5t xs xs = true
  | [] => rfl
  | (a,x) :: xs => by rw [q5t,qb1,q9x xs]; simp
def beqC : Cell -> Cell -> Bool
  | .dead, .dead => true
  | .lst a, .lst b => q3p a b
  | .dk k a, .dk l b => decide (k = l) && q3p a b
  | .ins c f, .ins d g => (c == d) && q5t f g
  | _,_ => false
theorem qiq {x y : Cell} (h : beqC x y = true) : x = y := by
  cases x <;> cases y <;> simp only [beqC,Bool.false_eq_true] at h
  . rfl
  . rw [q3y h]
  . rw [Bool.and_eq_true] at h; rw [q3y h.2,of_decide_eq_true h.1]
  . rw [Bool.and_eq_true] at h; rw [qbx h.2,eq_of_beq h.1]
theorem qg9 (x : Cell) : beqC x x = true := by
  cases x with
  | dead => rfl
  | lst a => exact q3h a
  | dk k a => rw [beqC,q3h,decide_eq_true rfl]; rfl
  | ins c f => rw [beqC,q9x]; simp
def q3n : AH -> AH -> Bool
  | [],_ => true
  | c :: r,d :: s => beqC c d && q3n r s
  | _ :: _,[] => false
theorem q6v : ∀ {h h' : AH},q3n h h' = true -> ∃ g,h' = h ++ g
  | [],h',_ => ⟨h',rfl⟩
  | c :: r,[],e => by simp [q3n] at e
  | c :: r,d :: s,e => by
    rw [q3n,Bool.and_eq_true] at e
    obtain ⟨g,hg⟩ := q6v e.2
    exact ⟨g,by rw [hg,qiq e.1]; rfl⟩
theorem q8a : ∀ (h g : AH),q3n h (h ++ g) = true
  | [],g => rfl
  | c :: r,g => by rw [List.cons_append,q3n,qg9,q8a r g]; rfl
def q8f (m : AF) : AF := fun xs h => match m xs h with
  | .ok x h' => if (q3n h h' && closed h.length x) = true then .ok x h else .no
  | .ex c h' => if q3n h h' = true then .ex c h else .no
  | .no => .no
theorem qgt {m : AF} {xs : List AV} {h g : AH} {x : AV} (e : m xs h = .ok x (h ++ g)) (c : closed h.length x = true) : q8f m xs h = .ok x h := by
  unfold q8f; rw [e]; simp only [q8a,c,Bool.and_self,if_true]
theorem qh0 {n : Nat} {m : AF} {vs : List V} {H : Hp} {Q : VK} (h : spZ C n (q8f m) vs H Q E) : spZ C n m vs H Q E := by
  obtain ⟨w,xs,rfl,ok,tr,hl,s⟩ := h
  refine ⟨w,xs,rfl,ok,tr,hl,?_⟩
  unfold q8f at s
  revert s
  cases m xs w.h with
  | ok x h' =>
    intro s w' e ok' le v tv
    by_cases hb : (q3n w.h h' && closed w.h.length x) = true
    . simp only [hb,if_true] at s
      rw [Bool.and_eq_true] at hb
      obtain ⟨g,hg⟩ := q6v hb.1
      have hh : w'.h = w.h ++ g := e.trans hg
      exact s (w'.back w) rfl (Ok.back ok le ok' hh) le.back v (tv.back le ok.len hb.2)
    . have s' : Sat C E w (if (q3n w.h h' && closed w.h.length x) = true then .ok x w.h else .no) (want C Q) := s
      rw [if_neg hb] at s'; exact s'.elim
  | ex c h' =>
    intro s w' e ok' le
    by_cases hb : q3n w.h h' = true
    . have s' : Sat C E w (if q3n w.h h' = true then .ex c w.h else .no) (want C Q) := s
      rw [if_pos hb] at s'
      obtain ⟨g,hg⟩ := q6v hb
      have hh : w'.h = w.h ++ g := e.trans hg
      exact s' (w'.back w) rfl (Ok.back ok le ok' hh) le.back
    . have s' : Sat C E w (if q3n w.h h' = true then .ex c w.h else .no) (want C Q) := s
      rw [if_neg hb] at s'; exact s'.elim
  | no => exact fun s => s
theorem q22 {n : Nat} {m : AF} {t : TA} {ma : AA} (ha : SA C E n t ma) : SE C E (qda (spZ C n m) [] E t) (aC m ma) := fun w env σ Q ok en s =>
  ha.run ok en s fun xs w1 hl ok1 le1 s1 vs tv => by
    rw [List.append_nil]
    exact ⟨w1,xs,rfl,ok1,tv,hl,s1⟩
@[simp] def qdi (h : AH) : AV -> Option (Nat × List (Nat × AV))
  | .ref k => match h[k]? with | some (.ins c fs) => some (c,fs) | _ => none
  | _ => none
@[simp] def q2u (c : Nat) (m : AF) (o : AE) (ma : AA) : AE := fun env h => (o env h).bind fun x h => match qdi h x with
  | some (d,_) => if d = c then (ma env h).bind fun xs h => m (x :: xs) h else .no
  | none => .no
@[simp] def q51 (c : Nat) (m : AF) (ma : AA) : AE := fun env h => (ma env h).bind fun xs h => (m (.ref h.length :: xs) (h ++ [.ins c []])).bind fun y h' => match y with | .non => .ok (.ref h.length) h' | _ => .no
theorem qao {w : Wd} {x : AV} {v : V} {c : Nat} {fs : List (Nat × AV)} (ok : Ok C w) (e : qdi w.h x = some (c,fs)) (t : Tr C w x v) : ∃ k a dx fvs,x = .ref k /\ v = .ref a /\ w.h[k]? = some (.ins c fs) /\ w.ρ[k]? = some a /\ w.H a = some (.ins (C.cl c) dx fvs) /\ Flds C w fs fvs /\ (∀ p ∈ fs,p.1 ∈ C.fl c) := by
  cases x with
  | ref k =>
    rw [Tr] at t
    obtain ⟨a,rfl,ea⟩ := t
    have e : (match w.h[k]? with | some (.ins c fs) => some (c,fs) | _ => none) = some (c,fs) := e
    split at e
    . rename_i c' fs' eh
      cases e
      obtain ⟨hf,dx,fvs,hH,ht⟩ := ok.cell k _ a eh ea
      exact ⟨k,a,dx,fvs,rfl,rfl,eh,ea,hH,ht,hf.1⟩
    . cases e
  | _ => cases e
theorem Flds.lookup {w : Wd} {c : Nat} : ∀ {fs : List (Nat × AV)} {us : List (Str × V)} {i : Nat},Flds C w fs us -> (∀ p ∈ fs,p.1 ∈ C.fl c) -> i ∈ C.fl c -> match fs.lookup i with | some x => ∃ v,us.lookup (C.fn i) = some v /\ Tr C w x v | none => us.lookup (C.fn i) = none
  | [],us,i,h,_,_ => by
    have : us = [] := h
    subst this; rfl
  | (j,y) :: r,us,i,h,hf,hi => by
    obtain ⟨v,us,rfl,t,hr⟩ := h
    have hj : j ∈ C.fl c := hf (j,y) (by simp)
    have ih := Flds.lookup (i := i) hr (fun p hp => hf p (List.mem_cons_of_mem _ hp)) hi
    by_cases e : i = j
    . subst e
      simp only [List.lookup,beq_self_eq_true]
      exact ⟨v,rfl,t⟩
    . have e1 : (i == j) = false := by simpa using e
      have e2 : (C.fn i == C.fn j) = false := by
        rw [beq_eq_false_iff_ne]
        exact fun z => e (C.inj c i j hi hj z)
      simp only [List.lookup,e1,e2]
      exact ih
theorem Flds.qeh {w : Wd} {c : Nat} {m : Str} (hm : ∀ i ∈ C.fl c,C.fn i ≠ m) : ∀ {fs : List (Nat × AV)} {us : List (Str × V)},Flds C w fs us -> (∀ p ∈ fs,p.1 ∈ C.fl c) -> us.lookup m = none
  | [],us,h,_ => by
    have : us = [] := h
    subst this; rfl
  | (j,y) :: r,us,h,hf => by
    obtain ⟨v,us,rfl,t,hr⟩ := h
    have e2 : (m == C.fn j) = false := by
      rw [beq_eq_false_iff_ne]
      exact fun z => hm j (hf (j,y) (by simp)) z.symm
    simp only [List.lookup,e2]
    exact Flds.qeh hm hr (fun p hp => hf p (List.mem_cons_of_mem _ hp))
theorem q2r {c n : Nat} {m : AF} {ta : TE} {o : AE} {t : TA} {ma : AA} {mn : Str} (hm : ∀ i ∈ C.fl c,C.fn i ≠ mn) (ho : SE C E ta o) (ha : SA C E n t ma) : SE C E (qdl (C.cl c) mn (spZ C (n + 1) m) [] E ta t) (q2u c m o ma) := by
  intro w env σ Q ok en s
  refine ho w env σ _ ok en (s.bind.mono fun x w1 ok1 le1 s1 v tv => ?_)
  split at s1
  . rename_i d fs e
    by_cases hd : d = c
    . rw [if_pos hd] at s1
      subst hd
      obtain ⟨k,a,dx,fvs,rfl,rfl,eh,ea,hH,hF,hf⟩ := qao ok1 e tv
      refine ⟨a,dx,fvs,rfl,hH,hF.qeh hm hf,ha.run ok1 (en.mono ok le1) s1 fun xs w2 hl ok2 le2 s2 vs tvs => ?_⟩
      rw [List.append_nil]
      exact ⟨w2, .ref k :: xs,rfl,ok2, .cons (tv.mono ok1 le2) tvs,by rw [List.length_cons,hl],s2⟩
    . rw [if_neg hd] at s1; exact s1.elim
  . exact s1.elim
theorem q4m {c n : Nat} {m : AF} {t : TA} {ma : AA} (hg : C.fl c = C.fg c) (ha : SA C E n t ma) : SE C E (qd3 (C.cl c) (spZ C (n + 1) m) [] E t) (q51 c m ma) := by
  intro w env σ Q ok en s
  refine ha.run ok en s fun xs w1 hl ok1 le1 s1 vs tv x dx hx hdx hne => ?_
  rw [List.append_nil]
  have ok2 := ok1.fresh hdx (.own x)
  have le2 := ok1.q3q hdx (.own x)
  have hx2 : (w1.fresh dx (.own x)).H x = none := by show upd w1.H dx (.own x) x = none; rw [q1e (Ne.symm hne)]; exact hx
  have ok3 : Ok C ((w1.fresh dx (.own x)).cell x (.ins (C.cl c) dx []) (.ins c [])) := ok2.q95 hx2 ⟨⟨fun p hp => (by cases hp),hg⟩,dx,[],q24,rfl⟩
  have le3 := ok2.q64 hx2 (.ins (C.cl c) dx []) (.ins c [])
  have le13 := le2.trans le3
  refine ⟨_, .ref w1.h.length :: xs,rfl,ok3, .cons ok2.q6j (tv.mono ok1 le13),by rw [List.length_cons,hl],?_⟩
  have s2 : Sat C E ((w1.fresh dx (.own x)).cell x (.ins (C.cl c) dx []) (.ins c [])) ((m (.ref w1.h.length :: xs) (w1.h ++ [.ins c []])).bind fun y h' => match y with | .non => .ok (.ref w1.h.length) h' | _ => .no) (want C Q) := Sat.le le13 s1
  refine s2.bind.mono fun y w4 ok4 le4 s4 v tv4 => ?_
  cases y with
  | non => exact ⟨by rw [Tr] at tv4; exact tv4,s4.here ok4 _ (ok2.q6j.mono ok3 le4)⟩
  | _ => exact s4.elim
@[simp] def fFld (i : Nat) : AV -> AH -> Re AV := fun x h => match qdi h x with
  | some (_,fs) => match fs.lookup i with | some y => .ok y h | none => .no
  | none => .no
@[simp] def aFld (i : Nat) (a : AE) : AE := a1 (fFld i) a
@[simp] def putA (i : Nat) (x : AV) : List (Nat × AV) -> List (Nat × AV)
  | [] => [(i,x)]
  | (j,y) :: r => if j = i then (j,x) :: r else (j,y) :: putA i x r
@[simp] def qbc (fl : Nat -> List Nat) (i : Nat) (o x : AV) (h : AH) : Option AH := match o with
  | .ref k => match h[k]? with
    | some (.ins c fs) => if (fl c).contains i = true /\ fs.length < 1000 then some (h.set k (.ins c (putA i x fs))) else none
    | _ => none
  | _ => none
@[simp] def q3l (fl : Nat -> List Nat) (i : Nat) (o v : AE) : AS := fun env h => (v env h).to fun x h => (o env h).to fun a h => match qbc fl i a x h with | some h => .nx env h | none => .no
theorem lookup_mem {i : Nat} {y : AV} : ∀ {fs : List (Nat × AV)},fs.lookup i = some y -> ∃ p ∈ fs,p.1 = i
  | [],h => by cases h
  | (j,z) :: r,h => by
    by_cases e : i = j
    . exact ⟨(j,z),by simp,e.symm⟩
    . have e1 : (i == j) = false := by simpa using e
      simp only [List.lookup,e1] at h
      obtain ⟨p,hp,q⟩ := lookup_mem h
      exact ⟨p,List.mem_cons_of_mem _ hp,q⟩
theorem qi5 {w : Wd} {i : Nat} {x : AV} {v : V} {P : AV -> Wd -> Prop} (ok : Ok C w) (t : Tr C w x v) (s : Sat C E w (fFld i x w.h) P) : ∃ k a c dx fs fvs y q,x = .ref k /\ v = .ref a /\ w.h[k]? = some (.ins c fs) /\ w.ρ[k]? = some a /\ w.H a = some (.ins (C.cl c) dx fvs) /\ Cls C.K (C.cl c) /\ q25 C.K (C.cl c) (C.fn i) /\ fvs.lookup (C.fn i) = some q /\ Tr C w y q /\ P y w := by
  unfold fFld at s
  split at s
  . rename_i c fs e
    obtain ⟨k,a,dx,fvs,rfl,rfl,eh,ea,hH,hF,hf⟩ := qao ok e t
    split at s
    . rename_i y ey
      obtain ⟨p,hp,rfl⟩ := lookup_mem ey
      have hi := hf p hp
      have := hF.lookup hf hi
      rw [ey] at this
      obtain ⟨q,e1,tq⟩ := this
      obtain ⟨h1,h2⟩ := C.fld c p.1 hi
      exact ⟨k,a,c,dx,fs,fvs,y,q,rfl,rfl,eh,ea,hH,h1,h2,e1,tq,s.here ok⟩
    . exact s.elim
  . exact s.elim
theorem q4g {i : Nat} {f : Str} {ta : TE} {a : AE} (hf : f = C.fn i) (ha : SE C E ta a) : SE C E (tFld C.K ta f) (aFld i a) := by
  subst hf
  intro w env σ Q ok en s
  refine ha w env σ _ ok en (s.bind.mono fun x w1 ok1 le1 s1 v tv => ?_)
  obtain ⟨k,a,c,dx,fs,fvs,y,q,rfl,rfl,eh,ea,hH,h1,h2,e1,tq,p⟩ := qi5 ok1 tv s1
  exact ⟨a,C.cl c,dx,fvs,q,rfl,hH,h1,h2,e1,p q tq⟩
theorem Flds.put {w : Wd} {c i : Nat} {x : AV} {v : V} (t : Tr C w x v) (hi : i ∈ C.fl c) : ∀ {fs : List (Nat × AV)} {us : List (Str × V)},Flds C w fs us -> (∀ p ∈ fs,p.1 ∈ C.fl c) -> Flds C w (putA i x fs) (putF (C.fn i) v us)
  | [],us,h,_ => by
    have : us = [] := h
    subst this
    exact ⟨v,[],rfl,t,rfl⟩
  | (j,y) :: r,us,h,hf => by
    obtain ⟨u,us,rfl,tu,hr⟩ := h
    have hj : j ∈ C.fl c := hf (j,y) (by simp)
    unfold putA putF
    by_cases e : j = i
    . subst e
      rw [if_pos rfl,if_pos rfl]
      exact ⟨v,us,rfl,t,hr⟩
    . rw [if_neg e,if_neg (fun z => e (C.inj c j i hj hi z))]
      exact ⟨u,_,rfl,tu,Flds.put t hi hr (fun p hp => hf p (List.mem_cons_of_mem _ hp))⟩
theorem qcg {c i : Nat} {x : AV} (hi : i ∈ C.fl c) : ∀ {fs : List (Nat × AV)},(∀ p ∈ fs,p.1 ∈ C.fl c) -> ∀ p ∈ putA i x fs,p.1 ∈ C.fl c
  | [],_,p,hp => by
    have : p = (i,x) := by simpa [putA] using hp
    rw [this]; exact hi
  | (j,y) :: r,hf,p,hp => by
    unfold putA at hp
    split at hp
    . next e =>
      rcases List.mem_cons.mp hp with e1 | e1
      . rw [e1]; exact hf (j,y) (by simp)
      . exact hf p (List.mem_cons_of_mem _ e1)
    . rcases List.mem_cons.mp hp with e1 | e1
      . rw [e1]; exact hf (j,y) (by simp)
      . exact qcg hi (fun q hq => hf q (List.mem_cons_of_mem _ hq)) p e1
theorem Flds.len {w : Wd} : ∀ {fs : List (Nat × AV)} {us : List (Str × V)},Flds C w fs us -> fs.length = us.length
  | [],us,h => by
    have : us = [] := h
    subst this; rfl
  | p :: r,us,h => by
    obtain ⟨v,us,rfl,t,hr⟩ := h
    rw [List.length_cons,List.length_cons,Flds.len hr]
theorem qeq {w : Wd} {i : Nat} {o x : AV} {u v : V} {h' : AH} (ok : Ok C w) (e : qbc C.fg i o x w.h = some h') (to : Tr C w o u) (tx : Tr C w x v) :
    ∃ k a c fs dx fvs,o = .ref k /\ w.h[k]? = some (.ins c fs) /\ u = .ref a /\ w.H a = some (.ins (C.cl c) dx fvs) /\ Cls C.K (C.cl c) /\ q25 C.K (C.cl c) (C.fn i) /\ fvs.length < 1000 /\ ∃ w',w'.h = h' /\ w'.H = upd w.H a (.ins (C.cl c) dx (putF (C.fn i) v fvs)) /\ Ok C w' /\ Le w w' := by
  unfold qbc at e
  split at e
  . rename_i k
    split at e
    . rename_i c fs eh
      split at e
      . rename_i hc
        cases e
        rw [Tr] at to
        obtain ⟨a,rfl,ea⟩ := to
        obtain ⟨hf,dx,fvs,hH,hF⟩ := ok.cell k _ a eh ea
        have hi : i ∈ C.fl c := by rw [hf.2]; simpa using hc.1
        obtain ⟨h1,h2⟩ := C.fld c i hi
        have hl : Live w a := ⟨k,_,eh,(by intro z; cases z),ea⟩
        have le := ok.q8c ea hl (.ins c (putA i x fs)) (.ins (C.cl c) dx (putF (C.fn i) v fvs))
        exact ⟨k,a,c,fs,dx,fvs,rfl,eh,rfl,hH,h1,h2,by rw [<- hF.len]; exact hc.2,w.put k (.ins c (putA i x fs)) a (.ins (C.cl c) dx (putF (C.fn i) v fvs)),rfl,rfl,ok.put ea hl (c := .ins c (putA i x fs)) ⟨⟨qcg hi hf.1,hf.2⟩,dx,_,q24,(hF.put tx hi hf.1).mono ok le⟩,le⟩
      . cases e
    . cases e
  . cases e
theorem q3b {i : Nat} {f : Str} {ta tv : TE} {o v : AE} (hf : f = C.fn i) (ho : SE C E ta o) (hv : SE C E tv v) : SS C E (sFld C.K ta tv f) (q3l C.fg i o v) := by
  subst hf
  intro w env σ D ok en s
  refine hv w env σ _ ok en (Sat.mono (Sat.to s) fun x w1 ok1 le1 s1 u tu => ho w1 env σ _ ok1 (en.mono ok le1) (Sat.mono (Sat.to s1) fun a w2 ok2 le2 s2 u2 tu2 => ?_))
  split at s2
  . rename_i h' e
    obtain ⟨_,a,c,_,dx,fvs,_,_,e1,hH,h1,h2,hl,w',e3,e4,o',l'⟩ := qeq ok2 e tu2 (tu.mono ok1 le2)
    refine ⟨a,C.cl c,dx,fvs,e1,hH,h1,h2,hl,?_⟩
    have := s2 w' σ e3 o' l' (en.mono ok (le1.trans (le2.trans l')))
    rw [e4] at this
    exact this
  . exact s2.elim
end
end Z
namespace Z
open PySem L2
@[simp] def fLen : List AV -> AH -> Re AV
  | [.str z],h => if z.length <= sizeLine then .ok (.int z.length) h else .no
  | [x],h => match q6i h x with | some xs => .ok (.int xs.length) h | none => .no
  | _,_ => .no
@[simp] def fMin2 : List AV -> AH -> Re AV
  | [.int i, .int j],h => .ok (.int (if j < i then j else i)) h
  | _,_ => .no
@[simp] def qdh : List AV -> AH -> Re AV
  | [x],h => match q6i h x with | some xs => .ok (.lst xs) h | none => .no
  | _,_ => .no
@[simp] def fAll : List AV -> AH -> Re AV
  | [x],h => match (q5u h x).bind q6l with | some bs => .ok (.bl (bs.all id)) h | none => .no
  | _,_ => .no
inductive Ty where | int | bool | str | list | tuple | dict | none
  deriving DecidableEq
def Ty.nm : Ty -> String
  | .int => "int" | .bool => "bool" | .str => "str" | .list => "list" | .tuple => "tuple" | .dict => "dict" | .none => "NoneType"
@[simp] def tyA (h : AH) : AV -> Option Ty
  | .non => some .none
  | .bl _ => some .bool
  | .int _ => some .int
  | .str _ => some .str
  | .tup _ => some .tuple
  | .lst _ => some .list
  | .dk _ _ => some .dict
  | .kst _ => Option.none
  | .xc _ => Option.none
  | .ref k => match h[k]? with | some (.lst _) => some .list | some (.dk _ _) => some .dict | _ => Option.none
@[simp] def isiB (a b : Ty) : Bool := decide (a = b) || (decide (a = .bool) && decide (b = .int))
@[simp] def fIsi (b : Ty) : AV -> AH -> Re AV := fun x h => match tyA h x with | some a => .ok (.bl (isiB a b)) h | Option.none => .no
section
variable {C : Ct} {E : XK}
theorem q5z {w : Wd} {x : AV} {vs : List V} (t : Trs C w [x] vs) : ∃ v,vs = [v] /\ Tr C w x v := by
  rw [Trs] at t
  obtain ⟨v,us,rfl,t1,t2⟩ := t
  rw [Trs] at t2; subst t2
  exact ⟨v,rfl,t1⟩
theorem two_of {w : Wd} {x y : AV} {vs : List V} (t : Trs C w [x,y] vs) : ∃ v u,vs = [v,u] /\ Tr C w x v /\ Tr C w y u := by
  rw [Trs] at t
  obtain ⟨v,us,rfl,t1,t2⟩ := t
  obtain ⟨u,rfl,t3⟩ := q5z t2
  exact ⟨v,u,rfl,t1,t3⟩
theorem len1 {xs : List AV} (h : xs.length = 1) : ∃ x,xs = [x] := by
  match xs,h with
  | [x],_ => exact ⟨x,rfl⟩
theorem len2 {xs : List AV} (h : xs.length = 2) : ∃ x y,xs = [x,y] := by
  match xs,h with
  | [x,y],_ => exact ⟨x,y,rfl⟩
theorem q4x : SC C E 1 (rLen C.K) fLen := by
  intro w xs vs Q hl ok t s
  obtain ⟨x,rfl⟩ := len1 hl
  obtain ⟨v,rfl,tv⟩ := q5z t
  by_cases hx : ∃ z,x = .str z
  . obtain ⟨z,rfl⟩ := hx
    rw [Tr] at tv; subst tv
    have s : Sat C E w (if z.length <= sizeLine then .ok (.int z.length) w.h else .no) (want C Q) := s
    by_cases hz : z.length <= sizeLine
    . rw [if_pos hz] at s
      exact .inr ⟨z,rfl,hz,s.here ok _ (by rw [Tr])⟩
    . rw [if_neg hz] at s; exact s.elim
  . have e : fLen [x] w.h = match q6i w.h x with | some xs => .ok (.int xs.length) w.h | none => .no := by
      cases x <;> first | rfl | exact absurd ⟨_,rfl⟩ hx
    rw [e] at s
    split at s
    . rename_i ys ey
      obtain ⟨a,us,rfl,r,t'⟩ := q7v ok ey tv
      exact .inl ⟨a,us,rfl,r,by rw [<- t'.len]; exact s.here ok _ (by rw [Tr])⟩
    . exact s.elim
theorem qic : SC C E 2 rMin2 fMin2 := by
  intro w xs vs Q hl ok t s
  obtain ⟨x,y,rfl⟩ := len2 hl
  obtain ⟨v,u,rfl,tv,tu⟩ := two_of t
  cases x with
  | int i =>
    cases y with
    | int j => rw [Tr] at tv; rw [Tr] at tu; subst tv; subst tu; exact ⟨i,j,rfl,Sat.here (P := want C Q) s ok _ (by rw [Tr])⟩
    | _ => exact s.elim
  | _ => exact s.elim
theorem qd2 : SC C E 1 (qcm C.K) qdh := by
  intro w xs vs Q hl ok t s
  obtain ⟨x,rfl⟩ := len1 hl
  obtain ⟨v,rfl,tv⟩ := q5z t
  have s : Sat C E w (match q6i w.h x with | some xs => .ok (.lst xs) w.h | none => .no) (want C Q) := s
  split at s
  . rename_i ys ey
    obtain ⟨a,us,rfl,r,t'⟩ := q7v ok ey tv
    exact ⟨a,us,rfl,r,fun p hp => s (w.frozen p _) rfl (ok.frozen hp _) (ok.q4w hp _) _ (ok.qbv hp t')⟩
  . exact s.elim
theorem sc_all : SC C E 1 (rAll C.K) fAll := by
  intro w xs vs Q hl ok t s
  obtain ⟨x,rfl⟩ := len1 hl
  obtain ⟨v,rfl,tv⟩ := q5z t
  have s : Sat C E w (match (q5u w.h x).bind q6l with | some bs => .ok (.bl (bs.all id)) w.h | none => .no) (want C Q) := s
  split at s
  . rename_i bs eb
    obtain ⟨ys,ey,eb⟩ := Option.bind_eq_some_iff.mp eb
    obtain ⟨a,us,rfl,r,t'⟩ := q40 ok ey tv
    have := qb0 eb t'
    subst this
    exact ⟨a,bs,rfl, .inl r,s.here ok _ (by rw [Tr])⟩
  . exact s.elim
theorem q5f {K : PySem.W.Frag} (a b : Ty) (hb : b ≠ .none) : PySem.W.kitOne K (.type a.nm) (.type b.nm) = some (isiB a b) := by
  cases a <;> cases b <;> first | rfl | exact absurd rfl hb
theorem tyA_ok {w : Wd} {x : AV} {v : V} {a : Ty} (ok : Ok C w) (e : tyA w.h x = some a) (t : Tr C w x v) : TyZ C.K w.H v (.type a.nm) := by
  cases x with
  | non => cases e; rw [Tr] at t; subst t; exact .of .non
  | bl b => cases e; rw [Tr] at t; subst t; exact .of (.bl b)
  | int i => cases e; rw [Tr] at t; subst t; exact .of (.int i)
  | str x => cases e; rw [Tr] at t; subst t; exact .of (.str x)
  | tup xs => cases e; rw [Tr] at t; obtain ⟨a,vs,rfl,h,_⟩ := t; exact .tup h
  | lst xs => cases e; rw [Tr] at t; obtain ⟨a,vs,rfl,_,h,_⟩ := t; exact .lst h
  | dk ks xs => cases e; rw [Tr] at t; obtain ⟨a,vs,rfl,_,h,_⟩ := t; exact .dK h
  | ref k =>
    rw [Tr] at t
    obtain ⟨ad,rfl,ea⟩ := t
    simp only [tyA] at e
    split at e
    . rename_i xs eh
      cases e
      obtain ⟨vs,hH,_⟩ := ok.cell k _ ad eh ea
      exact .lst (.inl hH)
    . rename_i ks xs eh
      cases e
      obtain ⟨vs,hH,_⟩ := ok.cell k _ ad eh ea
      exact .dK (.inl hH)
    . cases e
  | kst xs => cases e
  | xc c => cases e
theorem qf9 {ta : TE} {ma : AE} (b : Ty) {n : String} (hn : n = b.nm) (hb : b ≠ .none) (ha : SE C E ta ma) : SE C E (tCB (rIsi C.K) (q3w ta (q3w (tC (.ty n)) tNil))) (a1 (fIsi b) ma) := by
  subst hn
  intro w env σ Q ok en s
  refine ha w env σ _ ok en (s.bind.mono fun x w1 ok1 le1 s1 v tv => ?_)
  unfold fIsi at s1
  split at s1
  . rename_i a e
    exact ⟨v,b.nm,_,_,rfl,tyA_ok ok1 e tv,q5f a b hb,s1.here ok1 _ (by rw [Tr])⟩
  . exact s1.elim
@[simp] def aMtL (f : AV -> List AV -> AH -> Re AV) (o : AE) (ma : AA) : AE := fun env h => (o env h).bind fun x h => match q5u h x with | some _ => (ma env h).bind fun xs h => f x xs h | none => .no
@[simp] def aMtS (f : AV -> List AV -> AH -> Re AV) (o : AE) (ma : AA) : AE := fun env h => (o env h).bind fun x h => match x with | .str _ => (ma env h).bind fun xs h => f x xs h | _ => .no
@[simp] def q69 : AV -> List AV -> AH -> Re AV
  | .ref k,[y],h => match h[k]? with
    | some (.lst xs) => if xs.length < sizeLine then .ok .non (h.set k (.lst (xs ++ [y]))) else .no
    | _ => .no
  | _,_,_ => .no
theorem qfd {n : Nat} {r : V -> List V -> Hp -> VK -> Prop} {f : AV -> List AV -> AH -> Re AV} {to : TE} {o : AE} {t : TA} {ma : AA} (hr : SMt C E n r f) (ho : SE C E to o) (ha : SA C E n t ma) : SE C E (tBM C.K "list" r to t) (aMtL f o ma) := by
  intro w env σ Q ok en s
  refine ho w env σ _ ok en (s.bind.mono fun x w1 ok1 le1 s1 v tv => ?_)
  split at s1
  . rename_i xs e
    obtain ⟨a,vs,rfl,r1,t1⟩ := q40 ok1 e tv
    refine ⟨.inl ⟨rfl,vs, .inl r1⟩,ha.run ok1 (en.mono ok le1) s1 fun ys w2 hl ok2 le2 s2 us tus => hr w2 x _ ys us Q hl ok2 (tv.mono ok1 le2) tus s2⟩
  . exact s1.elim
theorem se_bmS {n : Nat} {r : V -> List V -> Hp -> VK -> Prop} {f : AV -> List AV -> AH -> Re AV} {to : TE} {o : AE} {t : TA} {ma : AA} (hr : SMt C E n r f) (ho : SE C E to o) (ha : SA C E n t ma) : SE C E (tBM C.K "str" r to t) (aMtS f o ma) := by
  intro w env σ Q ok en s
  refine ho w env σ _ ok en (s.bind.mono fun x w1 ok1 le1 s1 v tv => ?_)
  split at s1
  . rename_i z
    have tv' := tv
    rw [Tr] at tv; subst tv
    exact ⟨rfl,ha.run ok1 (en.mono ok le1) s1 fun ys w2 hl ok2 le2 s2 us tus => hr w2 _ _ ys us Q hl ok2 (tv'.mono ok1 le2) tus s2⟩
  . exact s1.elim
theorem cellL {w : Wd} {k : Nat} {xs : List AV} {v : V} (ok : Ok C w) (e : w.h[k]? = some (.lst xs)) (t : Tr C w (.ref k) v) : ∃ a vs,v = .ref a /\ w.ρ[k]? = some a /\ w.H a = some (.lst vs) /\ Trs C w xs vs := by
  rw [Tr] at t
  obtain ⟨a,rfl,ea⟩ := t
  obtain ⟨vs,hH,ht⟩ := ok.cell k _ a e ea
  exact ⟨a,vs,rfl,ea,hH,ht⟩
theorem q9t : SMt C E 1 qcq q69 := by
  intro w x u xs vs Q hl ok tx t s
  obtain ⟨y,rfl⟩ := len1 hl
  obtain ⟨v,rfl,tv⟩ := q5z t
  cases x with
  | ref k =>
    have s : Sat C E w (match w.h[k]? with | some (.lst xs) => if xs.length < sizeLine then .ok .non (w.h.set k (.lst (xs ++ [y]))) else .no | _ => .no) (want C Q) := s
    split at s
    . rename_i zs e
      obtain ⟨a,us,rfl,ea,hH,ht⟩ := cellL ok e tx
      split at s
      . rename_i hz
        obtain ⟨o1,l1⟩ := ok.qf0 e ea (ht.app (.one tv))
        exact ⟨a,us,v,rfl,rfl,hH,by rw [<- ht.len]; exact hz,s _ rfl o1 l1 _ (by rw [Tr])⟩
      . exact s.elim
    . exact s.elim
  | _ => exact s.elim
@[simp] def fInS : AV -> AV -> AH -> Re AV
  | .str a, .str z,h => match a.cps.toList with | [c] => .ok (.bl (decide (c ∈ z.cps.toList))) h | _ => .no
  | _,_,_ => .no
theorem s2_inS : S2 C E (fun x y H Q => ∃ c z,x = V.str ⟨#[c]⟩ /\ y = .str z /\ Q (.bl (decide (c ∈ z.cps.toList))) H) fInS := by
  intro w x y u v Q ok tx ty s
  unfold fInS at s
  split at s
  . rename_i h a z
    rw [Tr] at tx; rw [Tr] at ty
    split at s
    . rename_i c e
      have ea : a = ⟨#[c]⟩ := by
        cases a with
        | mk cps =>
          have : cps.toList = [c] := e
          have e2 : cps = #[c] := by rw [<- Array.toArray_toList (xs := cps),this]
          rw [e2]
      exact ⟨c,z,by rw [tx,ea],ty,s.here ok _ (by rw [Tr])⟩
    . exact s.elim
  . exact s.elim
abbrev AO := AEnv -> AH -> Re (Option Int)
@[simp] def qa6 : AO := fun _ h => .ok none h
@[simp] def qa9 (a : AE) : AO := fun env h => (a env h).bind fun x h => match x with | .int i => .ok (some i) h | _ => .no
@[simp] def aSl (f : AV -> Option Int -> Option Int -> AH -> Re AV) (a : AE) (lo hi : AO) : AE := fun env h => (a env h).bind fun x h => (lo env h).bind fun l h => (hi env h).bind fun u h => f x l u h
def SO (C : Ct) (E : XK) (t : TO) (m : AO) : Prop := ∀ (w : Wd) (env : AEnv) (σ : St) (Q : Option Int -> Hp -> Prop),Ok C w -> q20 C w env σ -> Sat C E w (m env w.h) (fun o w' => Q o w'.H) -> t σ w.H Q
def S3 (C : Ct) (E : XK) (r : V -> Option Int -> Option Int -> Hp -> VK -> Prop) (f : AV -> Option Int -> Option Int -> AH -> Re AV) : Prop := ∀ (w : Wd) (x : AV) (u : V) (lo hi : Option Int) (Q : VK),Ok C w -> Tr C w x u -> Sat C E w (f x lo hi w.h) (want C Q) -> r u lo hi w.H Q
theorem q92 : SO C E qd1 qa6 := fun w env σ Q ok en s => s.here ok
theorem q90 {t : TE} {a : AE} (h : SE C E t a) : SO C E (tPart t) (qa9 a) := fun w env σ Q ok en s =>
  h w env σ _ ok en (s.bind.mono fun x w1 ok1 le1 s1 v tv => by
    cases x with
    | int i => rw [Tr] at tv; exact ⟨i,tv,s1.here ok1⟩
    | _ => exact s1.elim)
theorem qd9 {r : V -> Option Int -> Option Int -> Hp -> VK -> Prop} {f : AV -> Option Int -> Option Int -> AH -> Re AV} {te : TE} {a : AE} {tl th : TO} {lo hi : AO} (hr : S3 C E r f) (ha : SE C E te a) (hl : SO C E tl lo) (hh : SO C E th hi) : SE C E (tSl r te tl th) (aSl f a lo hi) := fun w env σ Q ok en s =>
  ha w env σ _ ok en (s.bind.mono fun x w1 ok1 le1 s1 v tv => hl w1 env σ _ ok1 (en.mono ok le1) (s1.bind.mono fun l w2 ok2 le2 s2 => hh w2 env σ _ ok2 (en.mono ok (le1.trans le2)) (s2.bind.mono fun u w3 ok3 le3 s3 => hr w3 x v l u Q ok3 (tv.mono ok1 (le2.trans le3)) s3)))
@[simp] def frz1 (x : AV) (h : AH) : AV × AH := match x with
  | .ref k => match h[k]? with
    | some (.lst xs) => (.lst xs,h.set k .dead)
    | some (.dk ks xs) => (.dk ks xs,h.set k .dead)
    | _ => (x,h)
  | _ => (x,h)
theorem qhq {w : Wd} {x : AV} {v : V} (ok : Ok C w) (t : Tr C w x v) : ∃ w',w'.h = (frz1 x w.h).2 /\ w'.H = w.H /\ Ok C w' /\ Le w w' /\ Tr C w' (frz1 x w.h).1 v := by
  unfold frz1
  split
  . rename_i k
    split
    . rename_i xs e
      obtain ⟨a,rfl,ea,hl,t'⟩ := ok.qh9 e t
      exact ⟨w.kill k a,rfl,rfl,ok.kill ea hl,ok.q63 ea hl,t'⟩
    . rename_i ks xs e
      obtain ⟨a,rfl,ea,hl,t'⟩ := ok.qia e t
      exact ⟨w.kill k a,rfl,rfl,ok.kill ea hl,ok.q63 ea hl,t'⟩
    . exact ⟨w,rfl,rfl,ok,Le.refl w,t⟩
  . exact ⟨w,rfl,rfl,ok,Le.refl w,t⟩
end
end Z
namespace Z
open PySem L2
@[simp] def keyOf : AV -> Option Key
  | .int i => some (.inl i)
  | .str x => some (.inr x)
  | _ => none
@[simp] def dkOf (h : AH) : AV -> Option (List Key × List AV)
  | .dk ks xs => some (ks,xs)
  | .ref k => match h[k]? with | some (.dk ks xs) => some (ks,xs) | _ => none
  | _ => none
def dval : List Key -> List AV -> Key -> Option AV
  | k :: ks,x :: xs,j => if k = j then some x else dval ks xs j
  | _,_,_ => none
def dputV (j : Key) (y : AV) : List Key -> List AV -> List AV
  | k :: ks,x :: xs => (if k = j then y else x) :: dputV j y ks xs
  | _,_ => []
def dput (ks : List Key) (xs : List AV) (j : Key) (y : AV) : List Key × List AV :=
  if (ks.any fun k => decide (k = j)) = true then (ks,dputV j y ks xs) else (ks ++ [j],xs ++ [y])
@[simp] def fDIn : AV -> AV -> AH -> Re AV := fun y d h => match dkOf h d,keyOf y with
  | some (ks,xs),some j => .ok (.bl (dval ks xs j).isSome) h
  | _,_ => .no
@[simp] def q80 (d y : AE) : AE := fun env h => (d env h).bind fun a h => match dkOf h a with
  | some _ => (y env h).bind fun b h => match dkOf h a,keyOf b with
    | some (ks,xs),some j => .ok ((dval ks xs j).getD .non) h
    | _,_ => .no
  | none => .no
@[simp] def putD (d y x : AV) (h : AH) : Option AH := match d,keyOf y with
  | .ref k,some j => match h[k]? with
    | some (.dk ks xs) => if ks.length < sizeLine then some (h.set k (.dk (dput ks xs j x).1 (dput ks xs j x).2)) else none
    | _ => none
  | _,_ => none
@[simp] def q8o (d y v : AE) : AS := fun env h => (v env h).to fun x h => (d env h).to fun a h => (y env h).to fun b h => match putD a b x h with | some h => .nx env h | none => .no
@[simp] def qaf : AE := fun _ h => .ok (.ref h.length) (h ++ [.dk [] []])
section
variable {C : Ct} {E : XK}
theorem q7s {w : Wd} {y : AV} {v : V} {j : Key} (e : keyOf y = some j) (t : Tr C w y v) : v = kV j := by
  cases y with
  | int i => cases e; rw [Tr] at t; exact t
  | str x => cases e; rw [Tr] at t; exact t
  | _ => cases e
theorem q9e {w : Wd} {x : AV} {v : V} {ks : List Key} {xs : List AV} (ok : Ok C w) (e : dkOf w.h x = some (ks,xs)) (t : Tr C w x v) : ∃ a kvs,v = .ref a /\ Rd w.H a (.dK kvs) /\ kvs.map (·.1) = ks /\ Trs C w xs (kvs.map (·.2)) := by
  cases x with
  | dk ls ys =>
    cases e
    rw [Tr] at t
    obtain ⟨a,kvs,e,f,r,hk,ht⟩ := t
    exact ⟨a,kvs,e,r,hk,ht⟩
  | ref k =>
    rw [Tr] at t
    obtain ⟨a,rfl,ea⟩ := t
    have e : (match w.h[k]? with | some (.dk ks xs) => some (ks,xs) | _ => none) = some (ks,xs) := e
    split at e
    . rename_i ls ys eh
      cases e
      obtain ⟨kvs,hH,hk,ht⟩ := ok.cell k _ a eh ea
      exact ⟨a,kvs,rfl, .inl hH,hk,ht⟩
    . cases e
  | _ => cases e
theorem q9f {w : Wd} {j : Key} : ∀ {kvs : List (Key × V)} {xs : List AV},Trs C w xs (kvs.map (·.2)) -> match dval (kvs.map (·.1)) xs j with | some x => ∃ v,valV kvs j = some v /\ Tr C w x v | none => valV kvs j = none
  | [],xs,t => by
    cases xs with
    | nil => rfl
    | cons x xs => have := t.len; simp at this
  | p :: r,xs,t => by
    cases xs with
    | nil => have := t.len; simp at this
    | cons x xs =>
      rw [List.map_cons,Trs] at t
      obtain ⟨v,us,e,t1,t2⟩ := t
      cases e
      rw [List.map_cons,dval]
      by_cases h : p.1 = j
      . rw [if_pos h]
        exact ⟨p.2,q6e h,t1⟩
      . rw [if_neg h,q6g h]
        exact q9f t2
theorem qh3 {kvs : List (Key × V)} {xs : List AV} {j : Key} {y : AV} {v : V} : (putK kvs j v).map (·.1) = (dput (kvs.map (·.1)) xs j y).1 := by
  unfold putK dput
  have e : (kvs.any fun kv => decide (kv.1 = j)) = ((kvs.map (·.1)).any fun k => decide (k = j)) := by rw [List.any_map]; rfl
  rw [e]
  split
  . rw [List.map_map]
    apply List.map_congr_left
    intro p _
    show (if p.1 = j then (p.1,v) else p).1 = p.1
    split <;> rfl
  . rw [List.map_append]; rfl
theorem qgu {w : Wd} {j : Key} {y : AV} {v : V} (ty : Tr C w y v) {kvs : List (Key × V)} {xs : List AV} (t : Trs C w xs (kvs.map (·.2))) : Trs C w (dput (kvs.map (·.1)) xs j y).2 ((putK kvs j v).map (·.2)) := by
  unfold putK dput
  have e : (kvs.any fun kv => decide (kv.1 = j)) = ((kvs.map (·.1)).any fun k => decide (k = j)) := by rw [List.any_map]; rfl
  rw [e]
  split
  . rename_i hh
    clear e hh
    induction kvs generalizing xs with
    | nil => exact .nil
    | cons p r ih =>
      cases xs with
      | nil => have := t.len; simp at this
      | cons x xs =>
        rw [List.map_cons,Trs] at t
        obtain ⟨u,us,e,t1,t2⟩ := t
        cases e
        rw [List.map_cons,List.map_cons,List.map_cons]
        refine .cons ?_ (ih t2)
        show Tr C w (if p.1 = j then y else x) (if p.1 = j then (p.1,v) else p).2
        by_cases h : p.1 = j
        . rw [if_pos h,if_pos h]; exact ty
        . rw [if_neg h,if_neg h]; exact t1
  . rw [List.map_append]
    exact t.app (.one ty)
theorem dget_o {w : Wd} {j : Key} {kvs : List (Key × V)} {xs : List AV} (t : Trs C w xs (kvs.map (·.2))) : (valV kvs j).isSome = (dval (kvs.map (·.1)) xs j).isSome := by
  have hv := q9f (j := j) t
  split at hv
  . rename_i q eq
    obtain ⟨p,hp,tp⟩ := hv
    rw [hp,eq]; rfl
  . rename_i eq
    rw [hv,eq]; rfl
theorem qfx {td ty : TE} {d y : AE} (hy : SE C E ty y) (hd : SE C E td d) : SE C E (tDIn ty td) (a2 fDIn y d) := fun w env σ Q ok en s =>
  hy w env σ _ ok en (s.bind.mono fun x w1 ok1 le1 s1 v tv => hd w1 env σ _ ok1 (en.mono ok le1) (s1.bind.mono fun z w2 ok2 le2 s2 u tu => by
    unfold fDIn at s2
    split at s2
    . rename_i ks xs j e1 e2
      obtain ⟨a,kvs,rfl,r,rfl,t⟩ := q9e ok2 e1 tu
      have hj := q7s e2 (tv.mono ok1 le2)
      subst hj
      exact ⟨a,_,rfl, .inl ⟨kvs,j,r,rfl,rfl⟩,by rw [dget_o t]; exact s2.here ok2 _ (by rw [Tr])⟩
    . exact s2.elim))
theorem qfc {w : Wd} {j : Key} {kvs : List (Key × V)} {xs : List AV} {z : AV} {q : V} (t : Trs C w xs (kvs.map (·.2))) (tz : Tr C w z q) : Tr C w ((dval (kvs.map (·.1)) xs j).getD z) ((valV kvs j).getD q) := by
  have hv := q9f (j := j) t
  split at hv
  . rename_i p eq
    obtain ⟨v,hp,tp⟩ := hv
    rw [hp,eq]; exact tp
  . rename_i eq
    rw [hv,eq]; exact tz
theorem qbn {td ty : TE} {d y : AE} (hd : SE C E td d) (hy : SE C E ty y) : SE C E (qf5 td ty) (q80 d y) := fun w env σ Q ok en s =>
  hd w env σ _ ok en (s.bind.mono fun x w1 ok1 le1 s1 v tv => by
    split at s1
    . rename_i kx e0
      obtain ⟨ks0,xs0⟩ := kx
      obtain ⟨a,kvs0,rfl,r0,_,_⟩ := q9e ok1 e0 tv
      refine ⟨a,rfl, .inl ⟨kvs0,r0⟩,hy w1 env σ _ ok1 (en.mono ok le1) (s1.bind.mono fun z w2 ok2 le2 s2 u tu => ?_)⟩
      split at s2
      . rename_i ks xs j e1 e2
        obtain ⟨a',kvs,ea,r,rfl,t⟩ := q9e ok2 e1 (tv.mono ok1 le2)
        cases ea
        have hj := q7s e2 tu
        subst hj
        exact ⟨_, .inl ⟨kvs,j,r,rfl,rfl⟩,s2.here ok2 _ (qfc t (by rw [Tr]))⟩
      . exact s2.elim
    . exact s1.elim)
theorem Ok.putDk {w : Wd} (ok : Ok C w) {k : Nat} {a : Addr} {ks ks' : List Key} {xs xs' : List AV} {kvs' : List (Key × V)} (e : w.h[k]? = some (.dk ks xs)) (ea : w.ρ[k]? = some a) (hk : kvs'.map (·.1) = ks') (t : Trs C w xs' (kvs'.map (·.2))) :
    Ok C (w.put k (.dk ks' xs') a (.dK kvs')) /\ Le w (w.put k (.dk ks' xs') a (.dK kvs')) := by
  have hl : Live w a := ⟨k,_,e,(by intro z; cases z),ea⟩
  have le := ok.q8c ea hl (.dk ks' xs') (.dK kvs')
  exact ⟨ok.put ea hl ⟨kvs',q24,hk,t.mono ok le⟩,le⟩
theorem qi4 {w : Wd} {d y x : AV} {u v q : V} {h' : AH} (ok : Ok C w) (e : putD d y x w.h = some h') (td : Tr C w d u) (ty : Tr C w y v) (tx : Tr C w x q) :
    ∃ a H',u = .ref a /\ DPut w.H a v q H' /\ ∃ w',w'.h = h' /\ w'.H = H' /\ Ok C w' /\ Le w w' := by
  unfold putD at e
  split at e
  . rename_i k j ek
    have hj := q7s ek ty
    subst hj
    rw [Tr] at td
    obtain ⟨a,rfl,ea⟩ := td
    split at e
    . rename_i ks xs eh
      split at e
      . rename_i hl
        cases e
        obtain ⟨kvs,hH,rfl,ht⟩ := ok.cell k _ a eh ea
        rw [List.length_map] at hl
        obtain ⟨o1,l1⟩ := ok.putDk eh ea (qh3 (kvs := kvs) (xs := xs) (j := j) (y := x) (v := q)) (qgu tx ht)
        exact ⟨a,_,rfl, .inl ⟨kvs,j,hH,rfl,hl,rfl⟩,_,rfl,rfl,o1,l1⟩
      . cases e
    . cases e
  . cases e
theorem qcv {td ty tv : TE} {d y v : AE} (hd : SE C E td d) (hy : SE C E ty y) (hv : SE C E tv v) : SS C E (sDPut td ty tv) (q8o d y v) := fun w env σ D ok en s =>
  hv w env σ _ ok en (Sat.mono (Sat.to s) fun x w1 ok1 le1 s1 q tq => hd w1 env σ _ ok1 (en.mono ok le1) (Sat.mono (Sat.to s1) fun a w2 ok2 le2 s2 u tu => hy w2 env σ _ ok2 (en.mono ok (le1.trans le2)) (Sat.mono (Sat.to s2) fun b w3 ok3 le3 s3 p tp => by
    split at s3
    . rename_i h' e
      obtain ⟨a',H',e1,hp,w',e3,e4,o',l'⟩ := qi4 ok3 e (tu.mono ok2 le3) tp (tq.mono ok1 (le2.trans le3))
      refine ⟨a',H',e1,hp,?_⟩
      have := s3 w' σ e3 o' l' (en.mono ok (le1.trans (le2.trans (le3.trans l'))))
      rw [e4] at this
      exact this
    . exact s3.elim)))
theorem qbu : SE C E qen qaf := fun w env σ Q ok en s p hp => s (w.cell p (.dK []) (.dk [] [])) rfl (ok.q95 hp ⟨[],q24,rfl, .nil⟩) (ok.q64 hp _ _) _ ok.q6j
abbrev AM := AEnv -> AH -> Re Unit
def SMs (C : Ct) (E : XK) (t : TE) (m : AM) : Prop := ∀ (w : Wd) (env : AEnv) (σ : St) (Q : VK),Ok C w -> q20 C w env σ -> Sat C E w (m env w.h) (fun _ w' => ∀ v,Q v w'.H) -> t σ w.H Q
def SJm (C : Ct) (E : XK) (n : Nat) (u : TJ) (m : AM) : Prop := ∀ (w : Wd) (env : AEnv) (σ : St) (acc : Str) (Q : VK),Ok C w -> q20 C w env σ -> acc.length + n <= sizeLine -> Sat C E w (m env w.h) (fun _ w' => ∀ v,Q v w'.H) -> u acc σ w.H Q
@[simp] def mNil : AM := fun _ h => .ok () h
@[simp] def mInt (a : AE) (r : AM) : AM := fun env h => (a env h).bind fun x h => match x with | .int i => if i.natAbs.log2 < 1920 then r env h else .no | _ => .no
@[simp] def mStr (a : AE) (r : AM) : AM := fun env h => (a env h).bind fun x h => match x with | .str y => if y.length <= 1000 then r env h else .no | _ => .no
def cpOk (y : Str) : Bool := y.cps.toList.all fun c => decide (c < 16 ^ 8)
@[simp] def mRep (a : AE) (r : AM) : AM := fun env h => (a env h).bind fun x h => match x with | .str y => if y.length <= 1000 /\ cpOk y = true then r env h else .no | _ => .no
theorem q2m (x y : Str) : (x ++ y : Str).length = x.length + y.length := by
  show (x.cps ++ y.cps).size = x.cps.size + y.cps.size
  exact Array.size_append
theorem q7a : SJm C E 0 jNil mNil := fun w env σ acc Q ok en hl s => ⟨by omega,s.here ok _⟩
theorem q4q {n : Nat} {x : Str} {u : TJ} {m : AM} (hu : SJm C E n u m) : SJm C E (n + x.length) (q83 (tC (.str x)) u) m := fun w env σ acc Q ok en hl s =>
  ⟨x,rfl,by rw [q2m]; omega,hu w env σ _ Q ok en (by rw [q2m]; omega) s⟩
theorem q99 {n : Nat} {t : TE} {a : AE} {u : TJ} {m : AM} (ha : SE C E t a) (hu : SJm C E n u m) : SJm C E (n + 1921) (q83 (tFmtI t) u) (mInt a m) := fun w env σ acc Q ok en hl s =>
  ha w env σ _ ok en (s.bind.mono fun x w1 ok1 le1 s1 v tv => by
    cases x with
    | int i =>
      rw [Tr] at tv; subst tv
      have s1 : Sat C E w1 (if i.natAbs.log2 < 1920 then m env w1.h else .no) (fun _ w' => ∀ v,Q v w'.H) := s1
      by_cases hi : i.natAbs.log2 < 1920
      . rw [if_pos hi] at s1
        have hb : (toString i : Str).length <= 1921 := PyProof.Rows.int_text_len_1921 hi
        exact ⟨i,rfl,hi,_,rfl,by rw [q2m]; omega,hu w1 env σ _ Q ok1 (en.mono ok le1) (by rw [q2m]; omega) s1⟩
      . rw [if_neg hi] at s1; exact s1.elim
    | _ => exact s1.elim)
theorem qcp {n : Nat} {t : TE} {a : AE} {u : TJ} {m : AM} (ha : SE C E t a) (hu : SJm C E n u m) : SJm C E (n + 1000) (q83 (tFmtS t) u) (mStr a m) := fun w env σ acc Q ok en hl s =>
  ha w env σ _ ok en (s.bind.mono fun x w1 ok1 le1 s1 v tv => by
    cases x with
    | str y =>
      rw [Tr] at tv; subst tv
      have s1 : Sat C E w1 (if y.length <= 1000 then m env w1.h else .no) (fun _ w' => ∀ v,Q v w'.H) := s1
      by_cases hi : y.length <= 1000
      . rw [if_pos hi] at s1
        exact ⟨y,rfl,by omega,_,rfl,by rw [q2m]; omega,hu w1 env σ _ Q ok1 (en.mono ok le1) (by rw [q2m]; omega) s1⟩
      . rw [if_neg hi] at s1; exact s1.elim
    | _ => exact s1.elim)
theorem qcr {n : Nat} {t : TE} {a : AE} {u : TJ} {m : AM} (ha : SE C E t a) (hu : SJm C E n u m) : SJm C E (n + 10002) (q83 (tFmtR t) u) (mRep a m) := fun w env σ acc Q ok en hl s =>
  ha w env σ _ ok en (s.bind.mono fun x w1 ok1 le1 s1 v tv => by
    cases x with
    | str y =>
      rw [Tr] at tv; subst tv
      have s1 : Sat C E w1 (if y.length <= 1000 /\ cpOk y = true then m env w1.h else .no) (fun _ w' => ∀ v,Q v w'.H) := s1
      by_cases hi : y.length <= 1000 /\ cpOk y = true
      . rw [if_pos hi] at s1
        have hb := PySem.StrLaws.reprText_len y (fun c hc => by
          have := List.all_eq_true.mp hi.2 c hc
          exact of_decide_eq_true this)
        have h1 := hi.1
        exact ⟨y,rfl,by omega,_,rfl,by rw [q2m]; omega,hu w1 env σ _ Q ok1 (en.mono ok le1) (by rw [q2m]; omega) s1⟩
      . rw [if_neg hi] at s1; exact s1.elim
    | _ => exact s1.elim)
theorem q75 {n : Nat} {u : TJ} {m : AM} (hu : SJm C E n u m) (hn : n <= sizeLine) : SMs C E (u Str.empty) m := fun w env σ Q ok en s => hu w env σ Str.empty Q ok en (by show 0 + n <= sizeLine; omega) s
theorem ms_lit {x : Str} : SMs C E (tC (.str x)) mNil := fun w env σ Q ok en s => s.here ok _
@[simp] def q5e (c : Nat) (m : AM) : AS := fun env h => (m env h).to fun _ h => .ex c h
theorem q5j {c : Nat} {t : TE} {m : AM} (hm : SMs C E t m) : SS C E (qfw (C.cl c) E (q3w t tNil)) (q5e c m) := fun w env σ D ok en s =>
  hm w env σ _ ok en (Sat.mono (Sat.to s) fun _ w1 ok1 le1 s1 v => ⟨by show 1 <= sizeLine; decide,s1 w1 rfl ok1 (Le.refl w1)⟩)
@[simp] def q67 : AV -> AH -> Re AV := fun x h => match (q3v h x).bind strsOf with | some ts => if ts.length <= 1000 then .ok (.int ((metK ts).length : Nat)) h else .no | none => .no
theorem q9u {P : Program} {w0 : World} {t : TE} {a : AE} (ha : SE C E t a) :
    SE C E (tCB (fun xs H Q => ∃ a, ∃ ts : List Str,xs = [V.ref a] /\ H a = some (SetS P w0 a ts) /\ Q (.int ((metK ts).length : Nat)) H) (q3w (tCB (fun xs H Q => ∃ p, ∃ ts : List Str,xs = [V.ref p] /\ SqL C.K H p (ts.map V.str) /\ ts.length <= 1000 /\ ∀ a,H a = none -> Q (.ref a) (upd H a (SetS P w0 a ts))) (q3w t tNil)) tNil)) (a1 q67 a) := fun w env σ Q ok en s =>
  ha w env σ _ ok en (s.bind.mono fun x w1 ok1 le1 s1 v tv => by
    unfold q67 at s1
    split at s1
    . rename_i ts e
      obtain ⟨ys,ey,es⟩ := Option.bind_eq_some_iff.mp e
      obtain ⟨p,us,rfl,r,t'⟩ := q47 ok1 ey tv
      have := q6s es t'
      subst this
      split at s1
      . rename_i hl
        refine ⟨p,ts,rfl,r,hl,fun q hq => ⟨q,ts,rfl,q24,?_⟩⟩
        exact s1 (w1.fresh q _) rfl (ok1.fresh hq _) (ok1.q3q hq _) _ (by rw [Tr])
      . exact s1.elim
    . exact s1.elim)
def q8q (K : PySem.W.Frag) : Sp := fun vs H Q _ => ∃ (a : Addr) (ns : List Int),vs = [.ref a] /\ SqL K H a (ns.map V.int) /\ ns.length <= 63 /\ ∀ H',Q (.bl true) H'
theorem q7x {w : Wd} : ∀ (ns : List Int),Trs C w (ns.map AV.int) (ns.map V.int)
  | [] => .nil
  | n :: ns => .cons (by rw [Tr]) (q7x ns)
theorem qfh (hp : C.pin = none) {m : AF} {vs : List V} {H : Hp} {Q : VK} {E : XK} (ht : ∀ ns : List Int,ns.length <= 63 -> ∃ h,m [.kst (ns.map AV.int)] [] = .ok (.bl true) h) (h : q8q C.K vs H Q E) : spZ C 1 m vs H Q E0 := by
  obtain ⟨a,ns,rfl,hS,hl,q⟩ := h
  obtain ⟨h',e⟩ := ht ns hl
  rcases hS with r | r
  . refine ⟨⟨[],fun b => b = a,[],H⟩,[.kst (ns.map AV.int)],rfl,⟨rfl, .nil,fun b hb => absurd hb (by simp),fun k c b e => absurd e (by simp),fun b hb => ?_,fun b hb => ?_,fun b c z => (by rw [hp] at z; cases z)⟩, .one ?_,rfl,?_⟩
    . obtain ⟨k,c,e1,_⟩ := hb
      simp at e1
    . subst hb; exact Rd.ne r
    . rw [Tr]; exact ⟨a,_,rfl, .inl ⟨rfl,r⟩,q7x ns⟩
    . rw [e]; exact fun w' _ _ _ v tv => by rw [Tr] at tv; subst tv; exact q _
  . refine ⟨⟨[],fun _ => False,[],H⟩,[.kst (ns.map AV.int)],rfl,⟨rfl, .nil,fun b hb => absurd hb (by simp),fun k c b e => absurd e (by simp),fun b hb => ?_,fun b hb => hb.elim,fun b c z => (by rw [hp] at z; cases z)⟩, .one ?_,rfl,?_⟩
    . obtain ⟨k,c,e1,_⟩ := hb
      simp at e1
    . rw [Tr]; exact ⟨a,_,rfl, .inr (.inr r),q7x ns⟩
    . rw [e]; exact fun w' _ _ _ v tv => by rw [Tr] at tv; subst tv; exact q _
end
end Z
namespace Z
open PySem L2
section
variable {C : Ct} {E : XK}
def Ct.at (C : Ct) (a c : Addr) : Ct := { C with pin := some (a,c) }
@[simp] def fIsX (sub : Nat -> Option Bool) : AV -> AH -> Re AV
  | .xc c,h => match sub c with | some b => .ok (.bl b) h | none => .no
  | _,_ => .no
abbrev rIsX (K : PySem.W.Frag) : List V -> Hp -> VK -> Prop := fun xs H Q => ∃ a C cv b,xs = [.ref a,cv] /\ q8d cv = true /\ H a = some (excO a C) /\ ExcK K C /\ PySem.W.kitOne K (.ref C) (clsU cv) = some b /\ Q (.bl b) H
theorem q43 {cv : V} {t : TE} {a : AE} {sub : Nat -> Option Bool} (hc : q8d cv = true) (hs : ∀ c b,sub c = some b -> ExcK C.K (C.cl c) /\ PySem.W.kitOne C.K (.ref (C.cl c)) (clsU cv) = some b) (ha : SE C E t a) :
    SE C E (tCB (rIsX C.K) (q3w t (q3w (tC cv) tNil))) (a1 (fIsX sub) a) := fun w env σ Q ok en s =>
  ha w env σ _ ok en (s.bind.mono fun x w1 ok1 le1 s1 v tv => by
    unfold fIsX at s1
    split at s1
    . rename_i h c
      rw [Tr] at tv
      obtain ⟨ad,rfl,ep⟩ := tv
      split at s1
      . rename_i b eb
        obtain ⟨h1,h2⟩ := hs c b eb
        exact ⟨ad,C.cl c,cv,b,rfl,hc,ok1.pn _ _ ep,h1,h2,s1.here ok1 _ (by rw [Tr])⟩
      . exact s1.elim
    . exact s1.elim)
theorem qgj {ah c : Addr} {ta : TE} {ma : AE} (hp : C.pin = some (ah,c)) (ha : SE C E ta ma) : SI C E (qel C.K ah ta) (iLst ma) := by
  intro w env σ R ok en s
  refine ha w env σ _ ok en (s.bind.mono fun x w1 ok1 le1 s1 v tv => ?_)
  split at s1
  . rename_i xs e
    obtain ⟨a,vs,rfl,r,t⟩ := q47 ok1 e tv
    refine ⟨a,c,rfl,⟨vs,r⟩,s1.here ok1 _ ?_⟩
    have key : ∀ w,Ok C w -> Le w1 w -> okW w.h xs (watch x) = true -> ∃ us,SqL C.K w.H a us /\ Trs C w xs us := fun w ok le hw => by
      obtain ⟨a',us,e',h2,h3⟩ := qbo ok1 e tv ok le hw
      cases e'
      exact ⟨us,h2,h3⟩
    refine ⟨fun w i ok le hw hi => ?_,fun w i y v H' ok le hw hy yl => ?_,fun w i ok le hw hi => ?_⟩
    . obtain ⟨us,h2,h3⟩ := key w ok le hw
      exact ⟨⟨us,us[i]'(by rw [<- h3.len]; exact hi),h2,List.getElem?_eq_getElem _⟩,ok.pn _ _ hp⟩
    . obtain ⟨us,h2,h3⟩ := key w ok le hw
      obtain ⟨rfl,hq⟩ := yl
      obtain ⟨q,e1,tq⟩ := h3.get hy
      have := hq us h2
      rw [e1] at this; cases this
      exact ⟨w,rfl,rfl,ok,Le.refl w,tq⟩
    . obtain ⟨us,h2,h3⟩ := key w ok le hw
      exact ⟨⟨us,h2,by rw [<- h3.len]; exact Nat.le_of_eq hi.symm⟩,ok.pn _ _ hp⟩
  . exact s1.elim
theorem qgw {ah c : Addr} {n k : Nat} {g : TGs} {m : List AV -> AEnv -> AH -> Re AEnv} (hp : C.pin = some (ah,c)) (hg : SGos C E n g m) : SGo C E n (gTupQ C.K ah k g) (gT k m) := by
  intro w x v env σ Q ok en t s
  cases x with
  | tup xs =>
    rw [Tr] at t
    obtain ⟨a,vs,rfl,hs,ht⟩ := t
    have s' : Sat C E w (if xs.length = k then m xs env w.h else .no) (fun env' w' => ∀ σ',q20 C w' env' σ' -> σ'.length = σ.length -> σ'.drop n = σ.drop n -> Q σ' w'.H) := s
    by_cases hl : xs.length = k
    . rw [if_pos hl] at s'
      exact ⟨a,c,vs,rfl,ok.pn _ _ hp,hs,by rw [<- ht.len]; exact hl,hg w xs vs env σ Q ok en ht s'⟩
    . rw [if_neg hl] at s'; exact s'.elim
  | _ => exact s.elim
def qbz (sep : Str) (ys : List Str) : Bool := decide (sep.length <= 16) && decide ((ys.map (·.length)).sum + ys.length <= 1048576)
@[simp] def fJoin : AV -> List AV -> AH -> Re AV
  | .str sep,[x],h => match (q3v h x).bind strsOf with | some ys => if qbz sep ys = true then .ok (.str (Txt.join sep ys)) h else .no | none => .no
  | _,_,_ => .no
theorem qhi : SMt C E 1 (rJoin C.K) fJoin := by
  intro w x u xs vs Q hl ok tx t s
  obtain ⟨y,rfl⟩ := len1 hl
  obtain ⟨v,rfl,tv⟩ := q5z t
  cases x with
  | str sep =>
    rw [Tr] at tx; subst tx
    have s : Sat C E w (match (q3v w.h y).bind strsOf with | some ys => if qbz sep ys = true then .ok (.str (Txt.join sep ys)) w.h else .no | none => .no) (want C Q) := s
    split at s
    . rename_i ys ey
      obtain ⟨zs,ez,es⟩ := Option.bind_eq_some_iff.mp ey
      obtain ⟨p,us,rfl,r,t'⟩ := q47 ok ez tv
      have := q6s es t'
      subst this
      split at s
      . rename_i ho
        unfold qbz at ho
        rw [Bool.and_eq_true] at ho
        exact ⟨sep,p,ys,rfl,rfl,r,of_decide_eq_true ho.1,of_decide_eq_true ho.2,s.here ok _ (by rw [Tr])⟩
      . exact s.elim
    . exact s.elim
  | _ => exact s.elim
def q8i (C : Ct) (wd : Nat -> Option Str) : Sp := fun vs H Q _ => ∃ a c x,vs = [.ref a] /\ H a = some (excO a (C.cl c)) /\ wd c = some x /\ ∀ H',Same H H' -> Q (.str x) H'
theorem qdd {ah : Addr} {m : AF} {wd : Nat -> Option Str} {vs : List V} {H : Hp} {Q : VK} {E1 : XK} (hv : vs.head? = some (.ref ah)) (ht : ∀ c x,wd c = some x -> ∃ h,m [.xc c] [] = .ok (.str x) h) (h : q8i C wd vs H Q E1) : ∃ c,spZ (C.at ah (C.cl c)) 1 m vs H Q E0 := by
  obtain ⟨a,c,x,rfl,he,hw,q⟩ := h
  have ea : a = ah := by simpa using hv
  subst ea
  obtain ⟨h',e⟩ := ht c x hw
  refine ⟨c,⟨[],fun _ => False,[],H⟩,[.xc c],rfl,⟨rfl, .nil,fun b hb => absurd hb (by simp),fun k c b e => absurd e (by simp),fun b hb => ?_,fun b hb => hb.elim,fun b c' z => ?_⟩, .one ?_,rfl,?_⟩
  . obtain ⟨k,c,e1,_⟩ := hb
    simp at e1
  . have z : some (a,C.cl c) = some (b,c') := z
    cases z; exact he
  . rw [Tr]; exact ⟨a,rfl,rfl⟩
  . rw [e]
    intro w' _ _ le v tv
    rw [Tr] at tv; subst tv
    refine q _ fun b o hb => ?_
    rcases le.ks b (by rintro ⟨k,c,e1,_⟩; simp at e1) o hb with z | ⟨f,_⟩
    . exact z
    . exfalso
      rcases le.fn b f with z | z | ⟨k,c,e1,_⟩
      . exact z
      . have z : H b = none := z
        rw [z] at hb; cases hb
      . simp at e1
theorem Ok.grow {w : Wd} (ok : Ok C w) {H' : Hp} (hs : Same w.H H') : Ok C { w with H := H' } /\ Le w { w with H := H' } := by
  have nn : ∀ a,w.H a ≠ none -> H' a ≠ none := fun a h => by
    cases e : w.H a with
    | none => exact absurd e h
    | some o => rw [hs a o e]; intro z; cases z
  have le : Le w { w with H := H' } := ⟨⟨[],by simp⟩,fun _ h => h,fun b _ o r => .inl (hs b o r),fun _ h => .inl h,fun _ h => .inr h,nn,fun _ h => .inl h⟩
  refine ⟨⟨ok.len,ok.nd,fun a ha => nn a (ok.th a ha),fun k c a e ea => ?_,ok.fz,fun a h => nn a (ok.fzt a h),fun a c h => hs _ _ (ok.pn a c h)⟩,le⟩
  have h := ok.cell k c a e ea
  cases c with
  | dead => trivial
  | lst xs => obtain ⟨vs,hH,t⟩ := h; exact ⟨vs,hs _ _ hH,t.mono ok le⟩
  | dk ks xs => obtain ⟨kvs,hH,hk,t⟩ := h; exact ⟨kvs,hs _ _ hH,hk,t.mono ok le⟩
  | ins cc fs => obtain ⟨hf,dx,fvs,hH,t⟩ := h; exact ⟨hf,dx,fvs,hs _ _ hH,t.mono ok le⟩
def SX (C : Ct) (tx : TX) (m : AE) : Prop := ∀ (w : Wd) (env : AEnv) (σ : St) (Q : VK) (E : XK),Ok C w -> q20 C w env σ -> Sat C E w (m env w.h) (want C Q) -> tx σ w.H Q E
@[simp] def qf8 (m : AF) (ma : AA) : AE := fun env h => (ma env h).noex.bind m
theorem Sat.nx {α β : Type} {w : Wd} {r : Re α} {f : α -> AH -> Re β} {P : β -> Wd -> Prop} (s : Sat C E w (r.noex.bind f) P) : Sat C E0 w r (fun x w1 => Sat C E w1 (f x w1.h) P) := by
  cases r with
  | ok x h => exact fun w' e ok le => by subst e; exact Sat.le le s
  | ex c h => exact s.elim
  | no => exact s
theorem SA.runX {n : Nat} {t : TA} {m : AA} (h : SA C E0 n t m) {w : Wd} {env : AEnv} {σ : St} {Q : List V -> Hp -> Prop} {f : List AV -> AH -> Re AV} {P : AV -> Wd -> Prop} (ok : Ok C w) (en : q20 C w env σ) (s : Sat C E w ((m env w.h).noex.bind f) P)
    (k : ∀ xs w',xs.length = n -> Ok C w' -> Le w w' -> Sat C E w' (f xs w'.h) P -> ∀ vs,Trs C w' xs vs -> Q vs w'.H) : t σ w.H Q := by
  refine h.2 w env σ Q ok en ?_
  have hl := h.1 env w.h
  have s' := Sat.nx s
  revert s'
  cases e : m env w.h with
  | ok xs h' => exact fun s' w' e' ok' le vs tv => k xs w' (hl xs h' e) ok' le (s' w' e' ok' le) vs tv
  | ex c h' => exact fun s' => s'
  | no => exact fun s' => s'
theorem qi3 {n : Nat} {m : AF} {t : TA} {ma : AA} (ha : SA C E0 n t ma) : SX C (qep (spZ C n m) [] t) (qf8 m ma) := fun w env σ Q E ok en s =>
  ha.runX ok en s fun xs w1 hl ok1 le1 s1 vs tv => by
    rw [List.append_nil]
    exact ⟨w1,xs,rfl,ok1,tv,hl,s1⟩
@[simp] def qde (i j f : Nat) (wd : Nat -> Option Str) (m : AE) : AS := fun env h => match m env h with
  | .ok x h => .nx (env.set i (some x)) h
  | .ex c h => match wd c with
    | some s => if j < env.length then .nx (((env.set j none).set f (some (.str s))).set j none) h else .no
    | none => .no
  | .no => .no
theorem qii {Dc : Addr} {i j f : Nat} {wd : Nat -> Option Str} {tx : TX} {m : AE} {E1 : XK} (hx : SX C tx m) (hsub : ∀ c x,wd c = some x -> PySem.W.subIn C.K (.ref (C.cl c)) (.ref Dc) = some true) :
    SS C E (tTry C.K Dc i j tx (fun a => tAsg (qft a (q8i C wd) [] E1 (q3w (tVar j) tNil)) (q54 f))) (qde i j f wd m) := by
  intro w env σ D ok en s
  refine hx w env σ _ _ ok en ?_
  unfold qde at s
  revert s
  cases m env w.h with
  | ok x h => exact fun s w' e ok' le v tv => s w' _ e ok' le ((en.mono ok le).set i tv)
  | no => exact fun s => s
  | ex c h =>
    intro s w' e ok' le
    have s : SSat C E w (match wd c with | some s => if j < env.length then .nx (((env.set j none).set f (some (.str s))).set j none) h else .no | none => .no) D := s
    split at s
    . rename_i x hw
      split at s
      . rename_i hj
        refine ⟨C.cl c,rfl,hsub c x hw,fun a ha => ?_⟩
        refine ⟨.ref a,by rw [List.getElem?_set_self (by rw [<- en.len]; exact hj)],rfl,a,c,x,rfl,q24,hw,fun H' hs => ?_⟩
        have ok2 := ok'.fresh ha (excO a (C.cl c))
        have le2 := ok'.q3q ha (excO a (C.cl c))
        obtain ⟨ok3,le3⟩ := ok2.grow (H' := H') hs
        have le13 := le.trans (le2.trans le3)
        refine s { (w'.fresh a (excO a (C.cl c))) with H := H' } _ e ok3 le13 ?_
        exact ((((en.mono ok le13).unset j).set f (by rw [Tr])).unset j)
      . exact s.elim
    . exact s.elim
end
end Z
namespace Z
open PySem L2 PySem.Spec PyProof.Rows
section
variable {C : Ct} {E : XK}
@[simp] def fSlS : AV -> Option Int -> Option Int -> AH -> Re AV := fun x lo hi h => match x with | .str z => if z.length <= sizeLine then .ok (.str (Txt.slice z lo hi)) h else .no | _ => .no
theorem qb8 : S3 C E rSlS fSlS := by
  intro w x u lo hi Q ok tx s
  unfold fSlS at s
  split at s
  . rename_i z
    rw [Tr] at tx; subst tx
    by_cases hl : z.length <= sizeLine
    . rw [if_pos hl] at s
      exact ⟨z,rfl,hl,s.here ok _ (by rw [Tr])⟩
    . rw [if_neg hl] at s; exact s.elim
  . exact s.elim
end
end Z
namespace L2
open PySem PySem.Spec PyProof.Rows
def Itrc (lo c : Int) (n : Nat) : It := ⟨fun i _ => i < n,fun i H x H' => H' = H /\ x = .int (lo + (i : Int) * c),fun i _ => n <= i⟩
theorem qc2 {P : Program} {w : World} {K : PySem.W.Frag} {tg : Expr} (it : Addr) (lo c : Int) (n : Nat) : Turn P w K tg (Itrc lo c n) [it] it (fun i h => IsRangeIter h it (lo + (i : Nat) * c) ((n : Int) - (i : Nat)) c) where
  mem := by simp
  obj := fun i h st b hb => by
    have e : b = it := by simpa using hb
    subst e
    exact ⟨_,st,fun v z => by
      have z' : Data.fields _ = Data.cell v := z
      cases z'⟩
  keep := fun i h h' st k => k it (by simp) _ st
  item := by
    intro X hP hw hK hc i pins s σ H E I hf st hg
    subst hP hw hK
    obtain ⟨f0,f1,f2,f3,f4,f5⟩ := hf it (by simp)
    have W := Walks.range (prog := X.prog) (w := X.w) (I.ok.hd hc) it lo c n
    refine W.item i s _ _ hg st fun v h' tk hv st' kk => ?_
    obtain ⟨t,rfl⟩ := hv
    have I1 : Inv X pins σ H { s with heap := h',toks := tk } := I.turned (fun b o hb e => kk b o (by simpa using hb) e) f0 f1 f3 f4 f5
    exact ⟨_,rfl,qa8 (s := { s with heap := h',toks := tk }) (n := "range_iterator") st' rfl rfl (by decide) ⟨.int (lo + (i : Int) * c),H,I1,⟨t,rfl⟩,⟨rfl,rfl⟩,st',fun b hb => (hf b hb).1⟩⟩
  done := by
    intro X hP hw hK hc i pins s σ H E I hf st hg
    subst hP hw hK
    obtain ⟨f0,f1,f2,f3,f4,f5⟩ := hf it (by simp)
    exact wpAny_pyNext_range_end (I.ok.hd hc) st (by have : n <= i := hg; omega) fun h' eb => ⟨rfl,I.turned (t' := s.toks) (fun b o hb e => eb b o hb e) f0 f1 f3 f4 f5⟩
  self := fun _ _ _ _ _ st h => wpAny_pyIter_rangeiter st h
section
variable {X : Cx} {tg : Expr}
theorem q9o {lo hi c : Int} (hc : 0 < c) : Builtin.Range.rangeSize lo hi c = (((hi - lo + c - 1) / c).toNat : Int) := by
  unfold Builtin.Range.rangeSize
  rw [if_pos hc]
  by_cases h : lo < hi
  . rw [if_pos h]
    have e : hi - lo + c - 1 = (hi - lo - 1) + 1 * c := by omega
    rw [e,Int.add_mul_ediv_right _ _ (by omega)]
    have : 0 <= (hi - lo - 1) / c := Int.ediv_nonneg (by omega) (by omega)
    omega
  . rw [if_neg h]
    have : (hi - lo + c - 1) / c <= 0 := by
      have h1 : (hi - lo + c - 1) / c < 1 := Int.ediv_lt_of_lt_mul hc (by omega)
      omega
    omega
theorem qdr {lo hi c : Int} (hc : 0 < c) (h0 : c < 2 ^ 60) (h1 : -(2 ^ 60) <= lo) (h2 : lo < 2 ^ 60) (h3 : -(2 ^ 60) <= hi) (h4 : hi < 2 ^ 60) : Builtin.Range.small lo hi c = true := by
  unfold Builtin.Range.small
  rw [q9o hc]
  have hz : (((hi - lo + c - 1) / c).toNat : Int) < 2 ^ 62 := by
    have : (hi - lo + c - 1) / c <= hi - lo + c - 1 \/ (hi - lo + c - 1) / c <= 0 := by
      by_cases h : 0 <= hi - lo + c - 1
      . exact .inl (Int.ediv_le_self _ h)
      . exact .inr (by have := Int.ediv_neg_of_neg_of_pos (show hi - lo + c - 1 < 0 by omega) hc; omega)
    omega
  have hz0 : 0 <= (((hi - lo + c - 1) / c).toNat : Int) := by omega
  generalize (((hi - lo + c - 1) / c).toNat : Int) = n at hz hz0
  simp only [Builtin.Range.rangeFitsLong,Bool.and_eq_true,Bool.or_eq_true,decide_eq_true_eq,beq_iff_eq]
  rw [if_pos hc]
  simp only [Bool.and_eq_true,decide_eq_true_eq]
  omega
theorem qem {pins : List (Addr × Obj)} {σ : St} {H : Hp} {s : Shared} {R : It -> Hp -> Prop} {E : Value -> Shared -> Prop} {lo hi c : Int} {t u v : Tok} {tk : Nat} (I : Inv X pins σ H s) (hc : 0 < c) (h0 : c < 2 ^ 60) (h1 : -(2 ^ 60) <= lo) (h2 : lo < 2 ^ 60) (h3 : -(2 ^ 60) <= hi) (h4 : hi < 2 ^ 60)
    (q : R (Itrc lo c ((hi - lo + c - 1) / c).toNat) H) : wpAny (model X.prog X.w) X.A (pyIter (.ref s.heap.objs.size)) (PIE X pins σ tg R) E { s with heap := s.heap.push { cls := .type "range",data := .fields #[.int lo t, .int hi u, .int c v] },toks := tk } := by
  refine wpAny_pyIter_range (IsRange.new ..) (qdr hc h0 h1 h2 h3 h4) ?_
  have I1 : Inv X pins σ H { s with heap := s.heap.push { cls := .type "range",data := .fields #[.int lo t, .int hi u, .int c v] },toks := tk } := I.kept fun b o e => Heap.get?_push_of_some _ e
  refine ⟨(s.heap.push { cls := .type "range",data := .fields #[.int lo t, .int hi u, .int c v] }).objs.size,[(s.heap.push { cls := .type "range",data := .fields #[.int lo t, .int hi u, .int c v] }).objs.size],_,_,H,rfl,
    I1.kept (t' := tk) fun b o e => Heap.get?_push_of_some _ e,qc2 _ lo c ((hi - lo + c - 1) / c).toNat,?_,fun b hb => ?_,q⟩
  . have e1 : lo + ((0 : Nat) : Int) * c = lo := by simp
    have e2 : ((((hi - lo + c - 1) / c).toNat : Nat) : Int) - ((0 : Nat) : Int) = Builtin.Range.rangeSize lo hi c := by rw [q9o hc]; omega
    show IsRangeIter _ _ (lo + ((0 : Nat) : Int) * c) (((((hi - lo + c - 1) / c).toNat : Nat) : Int) - ((0 : Nat) : Int)) c
    rw [e1,e2]
    exact Heap.get?_push_size _ rfl
  . have e : b = (s.heap.push { cls := .type "range",data := .fields #[.int lo t, .int hi u, .int c v] }).objs.size := by simpa using hb
    subst e
    exact I1.fpOk (Nat.le_refl _) (I1.hok.fresh (Nat.le_refl _))
def iRng3 (ta : TA) : TI := fun σ H R => ta σ H fun vs H1 => ∃ i j c : Int,vs = [.int i, .int j, .int c] /\ (0 < c /\ c < 1000000 /\ -(2 ^ 60) <= i /\ i < 2 ^ 60 /\ -(2 ^ 60) <= j /\ j < 2 ^ 60) /\ R (Itrc i c ((j - i + c - 1) / c).toNat) H1
theorem qfj {a b c : Expr} {ta : TA} {p pos : Pos} (hg : Gl X "range") (hm : X.mg "range" = none) (ha : PA X [a,b,c] ta) (hs : starEach [a,b,c] X.env = [(false,eval a X.env),(false,eval b X.env),(false,eval c X.env)] := by rfl) (hs2 : starEach [b,c] X.env = [(false,eval b X.env),(false,eval c X.env)] := by rfl) :
    PI X tg (.Call (.Name "range" p) [a,b,c] [] pos) (iRng3 ta) := by
  intro pins s σ H R I h
  refine Call_ (q6r I hg hm boot_range (PyProof.Rows.callWith_type1 (thn (ha pos pins s σ H _ I h) fun us s1 ⟨vs,H1,I1,r1,q1⟩ => ?_) (by rw [hs,hs2]) (by rw [hs2]; rfl)))
  obtain ⟨i,j,k,e,⟨q0,q1,q2,q3,q4,q5⟩,q⟩ := q1
  subst e
  cases r1 with
  | cons r rr =>
    cases rr with
    | cons r' rr =>
      cases rr with
      | cons r'' rr =>
        cases rr
        obtain ⟨t,rfl⟩ := r
        obtain ⟨t',rfl⟩ := r'
        obtain ⟨t'',rfl⟩ := r''
        exact call_range_3 (by omega) (qem I1 q0 (by omega) q2 q3 q4 q5 q) (Or.inl (PyProof.noPylong_small (by omega)))
end
end L2
namespace Z
open PySem L2 PySem.Spec PyProof.Rows
section
variable {C : Ct} {E : XK} {ta tb tc : TE} {ma mb mc : AE}
def q3z (lo c : Int) (n : Nat) : List AV := (List.range n).map fun i : Nat => AV.int (lo + (i : Int) * c)
def rng3 : AV -> AV -> AV -> AH -> Re (List AV × Option Nat) := fun x y z h => match x,y,z with
  | .int (.ofNat i), .int (.ofNat j), .int (.ofNat c) => if i <= 16777216 /\ j <= 16777216 /\ 0 < c /\ c < 1000000 then .ok (q3z i c ((j + c - 1 - i) / c),none) h else .no
  | .int (.ofNat i), .int (.negSucc j), .int (.ofNat c) => if i <= 16777216 /\ j <= 16777216 /\ 0 < c /\ c < 1000000 then .ok (q3z i c 0,none) h else .no
  | _,_,_ => .no
@[simp] def q5x (a b c : AE) : AI := fun env h => (a env h).bind fun x h => (b env h).bind fun y h => (c env h).bind (rng3 x y)
theorem qch {w1 : Wd} {lo c : Int} {n : Nat} : ItOk C w1 (Itrc lo c n) (q3z lo c n) none := by
  refine ⟨fun w i ok le hw hi => ?_,fun w i y v H' ok le hw hy yl => ?_,fun w i ok le hw hi => ?_⟩
  . unfold q3z at hi; rw [List.length_map,List.length_range] at hi; exact hi
  . obtain ⟨rfl,rfl⟩ := yl
    unfold q3z at hy
    rw [List.getElem?_map] at hy
    cases e : (List.range n)[i]? with
    | none => rw [e] at hy; cases hy
    | some k =>
      rw [e] at hy
      obtain ⟨h1,h2⟩ := List.getElem?_eq_some_iff.mp e
      rw [List.getElem_range] at h2
      subst h2
      cases hy
      exact ⟨w,rfl,rfl,ok,Le.refl w,by rw [Tr]⟩
  . unfold q3z at hi; rw [List.length_map,List.length_range] at hi; exact Nat.le_of_eq hi.symm
theorem qew (ha : SE C E ta ma) (hb : SE C E tb mb) (hc : SE C E tc mc) : SI C E (iRng3 (q3w ta (q3w tb (q3w tc tNil)))) (q5x ma mb mc) := by
  intro w env σ R ok en s
  refine ha w env σ _ ok en (s.bind.mono fun x w1 ok1 le1 s1 v tv => hb w1 env σ _ ok1 (en.mono ok le1) (s1.bind.mono fun y w2 ok2 le2 s2 u tu => hc w2 env σ _ ok2 (en.mono ok (le1.trans le2)) (s2.bind.mono fun z w3 ok3 le3 s3 q tq => ?_)))
  unfold rng3 at s3
  split at s3
  . rename_i i j c
    rw [Tr] at tv tu tq; subst tv; subst tu; subst tq
    by_cases hj : i <= 16777216 /\ j <= 16777216 /\ 0 < c /\ c < 1000000
    . rw [if_pos hj] at s3
      have e : ((Int.ofNat j - Int.ofNat i + Int.ofNat c - 1) / Int.ofNat c).toNat = (j + c - 1 - i) / c := by
        by_cases h : i <= j + c - 1
        . have : Int.ofNat j - Int.ofNat i + Int.ofNat c - 1 = ((j + c - 1 - i : Nat) : Int) := by
            show (j : Int) - (i : Int) + (c : Int) - 1 = _
            omega
          rw [this]
          show ((((j + c - 1 - i : Nat) : Int)) / (c : Int)).toNat = _
          rfl
        . have h1 : j + c - 1 - i = 0 := by omega
          have h2 : (Int.ofNat j - Int.ofNat i + Int.ofNat c - 1) < 0 := by show (j : Int) - (i : Int) + (c : Int) - 1 < 0; omega
          have h3 := Int.ediv_neg_of_neg_of_pos h2 (show (0 : Int) < Int.ofNat c by show (0 : Int) < (c : Int); omega)
          rw [h1,Nat.zero_div]
          omega
      refine ⟨_,_,_,rfl,⟨by show (0 : Int) < (c : Int); omega,by show (c : Int) < _; omega,by show (_ : Int) <= (i : Int); omega,by show (i : Int) < _; omega,by show (_ : Int) <= (j : Int); omega,by show (j : Int) < _; omega⟩,?_⟩
      rw [e]
      exact s3.here ok3 _ qch
    . rw [if_neg hj] at s3; exact s3.elim
  . rename_i i j c
    rw [Tr] at tv tu tq; subst tv; subst tu; subst tq
    by_cases hj : i <= 16777216 /\ j <= 16777216 /\ 0 < c /\ c < 1000000
    . rw [if_pos hj] at s3
      have e : ((Int.negSucc j - Int.ofNat i + Int.ofNat c - 1) / Int.ofNat c).toNat = 0 := by
        have h3 : (Int.negSucc j - Int.ofNat i + Int.ofNat c - 1) / Int.ofNat c < 1 := Int.ediv_lt_of_lt_mul (show (0 : Int) < (c : Int) by omega) (by
          rw [Int.negSucc_eq]
          show -((j : Int) + 1) - (i : Int) + (c : Int) - 1 < 1 * (c : Int)
          omega)
        omega
      refine ⟨_,_,_,rfl,⟨by show (0 : Int) < (c : Int); omega,by show (c : Int) < _; omega,by show (_ : Int) <= (i : Int); omega,by show (i : Int) < _; omega,by rw [Int.negSucc_eq]; omega,by rw [Int.negSucc_eq]; omega⟩,?_⟩
      rw [e]
      exact s3.here ok3 _ qch
    . rw [if_neg hj] at s3; exact s3.elim
  . exact s3.elim
theorem qh7 {i j c : Nat} {h : AH} (h1 : i <= 1000000) (h2 : j <= 1000000) (h3 : 0 < c) (h4 : c < 1000000) : rng3 (.int (i : Int)) (.int (j : Int)) (.int (c : Int)) h = .ok (q3z i c ((j + c - 1 - i) / c),none) h := by
  show (if _ then _ else _) = _
  rw [if_pos ⟨by omega,by omega,h3,h4⟩]
end
end Z
namespace L2
open PySem PySem.Spec PyProof.Rows
section
variable {X : Cx}
def qcc (K : PySem.W.Frag) : R2 := fun x y H Q => ∃ a b xs,x = .ref a /\ y = .ref b /\ SqL K H a xs /\ Rd H b (.lst []) /\ Q (.bl (!xs.isEmpty)) H
theorem qfm (hu : X.A.units < cLine) : OpR X (compareOp .NotEq) (qcc X.K) := by
  intro pins s σ H x y v u Q I rx ry h
  obtain ⟨a,b,xs,rfl,rfl,ha,hb,q⟩ := h
  cases rx
  cases ry
  obtain ⟨its,r,pl,_⟩ := I.list ha
  obtain ⟨its2,r2,pl2,_⟩ := I.list (.inl hb)
  cases r2
  by_cases hab : xs = []
  . subst hab
    cases r
    exact PySem.SeqAt.RcNeAt.lists (e := fun _ => true) pl.isList pl2.isList rfl hu (fun j h1 h2 => absurd h1 (by simp)) X.prog X.w X.xe _ ⟨.bl false,H,I,rfl,q⟩
  . have hne : its ≠ [] := fun z => hab (by subst z; cases r; rfl)
    have e : (!xs.isEmpty) = true := by cases xs with | nil => exact absurd rfl hab | cons _ _ => rfl
    rw [e] at q
    exact PySem.SeqAt.RcNeAt.lists_lengths pl.isList pl2.isList (by cases its with | nil => exact absurd rfl hne | cons _ _ => simp) hu X.prog X.w X.xe _ ⟨.bl true,H,I,rfl,q⟩
theorem qbw : OpR X (compareOp .NotIn) (fun x y H Q => ∃ c z,x = .str ⟨#[c]⟩ /\ y = .str z /\ Q (.bl (!decide (c ∈ z.cps.toList))) H) := by
  intro pins s σ H x y v u Q I rx ry h
  obtain ⟨c,z,rfl,rfl,q⟩ := h
  exact qam pins s σ H _ _ v u Q I rx ry ⟨_,_,rfl,rfl,by rw [PySem.StrLaws.found_one]; exact q⟩
end
end L2
namespace Z
open PySem L2 PySem.Spec PyProof.Rows
section
variable {C : Ct} {E : XK} {ta tb tc : TE} {ma mb mc : AE}
@[simp] def q8u : AV -> AV -> AH -> Re AV
  | .tup xs, .tup ys,h => if xs.isEmpty = false /\ xs.length + ys.length <= sizeLine then .ok (.tup (xs ++ ys)) h else .no
  | _,_,_ => .no
theorem qiy : S2 C E (qdk C.K) q8u := by
  intro w x y u v Q ok tx ty s
  unfold q8u at s
  split at s
  . rename_i h xs ys
    rw [Tr] at tx ty
    obtain ⟨a,vs,rfl,r1,t1⟩ := tx
    obtain ⟨b,us,rfl,r2,t2⟩ := ty
    by_cases hh : xs.isEmpty = false /\ xs.length + ys.length <= sizeLine
    . rw [if_pos hh] at s
      refine ⟨a,b,vs,us,rfl,rfl,r1,r2,?_,by rw [<- t1.len, <- t2.len]; exact hh.2,fun hn => ?_,fun hn p hp => ?_⟩
      . intro z
        have := t1.len
        rw [z] at this
        cases xs with
        | nil => exact absurd hh.1 (by simp)
        | cons _ _ => simp at this
      . subst hn
        have : ys = [] := List.length_eq_zero_iff.mp (by rw [t2.len]; rfl)
        subst this
        rw [List.append_nil] at s
        exact s.here ok _ (by rw [Tr]; exact ⟨a,vs,rfl,r1,t1⟩)
      . exact s (w.fresh p _) rfl (ok.fresh hp _) (ok.q3q hp _) _ (ok.qei hp (t1.app t2))
    . rw [if_neg hh] at s; exact s.elim
  . exact s.elim
@[simp] def q48 : AV -> AV -> AH -> Re AV
  | .str a, .str z,h => match a.cps.toList with | [c] => .ok (.bl (!decide (c ∈ z.cps.toList))) h | _ => .no
  | _,_,_ => .no
theorem qfg : S2 C E (fun x y H Q => ∃ c z,x = V.str ⟨#[c]⟩ /\ y = .str z /\ Q (.bl (!decide (c ∈ z.cps.toList))) H) q48 := by
  intro w x y u v Q ok tx ty s
  unfold q48 at s
  split at s
  . rename_i h a z
    rw [Tr] at tx; rw [Tr] at ty
    split at s
    . rename_i c e
      have ea : a = ⟨#[c]⟩ := by
        cases a with
        | mk cps =>
          have : cps.toList = [c] := e
          have e2 : cps = #[c] := by rw [<- Array.toArray_toList (xs := cps),this]
          rw [e2]
      exact ⟨c,z,by rw [tx,ea],ty,s.here ok _ (by rw [Tr])⟩
    . exact s.elim
  . exact s.elim
@[simp] def fEqNil : AV -> AV -> AH -> Re AV := fun x y h => match q3v h x,q5u h y with
  | some xs,some [] => .ok (.bl xs.isEmpty) h
  | _,_ => .no
@[simp] def qbb : AV -> AV -> AH -> Re AV := fun x y h => match q3v h x,q5u h y with
  | some xs,some [] => .ok (.bl (!xs.isEmpty)) h
  | _,_ => .no
theorem Trs.empty {w : Wd} {xs : List AV} {vs : List V} (t : Trs C w xs vs) : vs.isEmpty = xs.isEmpty := by
  have := t.len
  cases xs <;> cases vs <;> simp_all
theorem qhh : S2 C E (qcc C.K) qbb := by
  intro w x y u v Q ok tx ty s
  unfold qbb at s
  split at s
  . rename_i xs e1 e2
    obtain ⟨a,vs,rfl,r1,t1⟩ := q47 ok e1 tx
    obtain ⟨b,us,rfl,r2,t2⟩ := q40 ok e2 ty
    rw [Trs.q66] at t2; subst t2
    exact ⟨a,b,vs,rfl,rfl,r1,r2,s.here ok _ (by rw [Tr,t1.empty])⟩
  . exact s.elim
end
end Z
namespace L2
open PySem PySem.Spec PyProof.Rows
def Itk (d : Addr) (ob : Obj) (kvs : List (Key × V)) : It :=
  ⟨fun i H => H d = some (.frz ob (.dK kvs)) /\ i < kvs.length,
   fun i H v H' => H' = H /\ ∃ k x,v = kV k /\ kvs[i]? = some (k,x),
   fun i H => H d = some (.frz ob (.dK kvs)) /\ kvs.length <= i⟩
theorem qev {P : Program} {w : World} {K : PySem.W.Frag} {tg : Expr} (d it : Addr) (ob : Obj) (kvs : List (Key × V)) : Turn P w K tg (Itk d ob kvs) [it] it (fun i h => h.IsKeyIter it d i kvs.length (epO ob)) where
  mem := by simp
  obj := fun i h st b hb => by
    have e : b = it := by simpa using hb
    subst e
    obtain ⟨o,e,c,dd⟩ := st
    exact ⟨o,e,fun v z => by rw [dd] at z; cases z⟩
  keep := fun i h h' st k => st.at fun o e => k it (by simp) o e
  item := by
    intro X hP hw hK hc i pins s σ H E I hf st hg
    subst hP hw hK
    obtain ⟨hd,hi⟩ := hg
    obtain ⟨vs,kv,hm⟩ := qcu (I.hok d _ hd)
    have hlen : kvs.length = vs.length := kv.length
    obtain ⟨q,hq,hk1,hr⟩ := q8s kv (List.getElem?_eq_getElem hi)
    obtain ⟨qk,qv⟩ := q
    have hk1 : (kvs[i]).1 = qk := hk1
    rw [hlen] at st
    obtain ⟨f0,f1,f2,f3,f4,f5⟩ := hf it (by simp)
    refine wpAny_pyNext_dict_item st hm hq fun key h' hkey st' sb => ?_
    have I1 : Inv X pins σ H { s with heap := h' } := I.turned (t' := s.toks) (fun b o hb e => (sb.2 b hb).trans e) f0 f1 f3 f4 f5
    have rk : RelV (kV (kvs[i]).1) key := kv_rel (by rw [hk1]; exact hkey)
    refine ⟨key,rfl,PyProof.Rows.letGo_keyiter (s' := { s with heap := h' }) st' ⟨kV (kvs[i]).1,H,I1,rk,⟨rfl,(kvs[i]).1,(kvs[i]).2,rfl,List.getElem?_eq_getElem hi⟩,?_,fun b hb => (hf b hb).1⟩⟩
    rw [hlen]; exact st'
  done := by
    intro X hP hw hK hc i pins s σ H E I hf st hg
    subst hP hw hK
    obtain ⟨hd,hi⟩ := hg
    obtain ⟨vs,kv,hm⟩ := qcu (I.hok d _ hd)
    have hlen : kvs.length = vs.length := kv.length
    rw [hlen] at st
    obtain ⟨f0,f1,f2,f3,f4,f5⟩ := hf it (by simp)
    exact wpAny_pyNext_dict_end (I.ok.hd hc) st hm (List.getElem?_eq_none (by omega)) fun h' eb => ⟨rfl,I.turned (t' := s.toks) (fun b o hb e => eb b o hb e) f0 f1 f3 f4 f5⟩
  self := fun _ _ _ _ _ st h => wpAny_pyIter_keyiter st h
section
variable {X : Cx} {tg : Expr}
def iKeys (te : TE) : TI := fun σ H R => te σ H fun x H1 => ∃ d kvs,x = .ref d /\ Rd H1 d (.dK kvs) /\ ∀ ob,(∀ o',H1 d = some (.frz o' (.dK kvs)) -> o' = ob) -> R (Itk d ob kvs) (upd H1 d (.frz ob (.dK kvs)))
theorem qhn {o : Expr} {te : TE} (ho : PE X o te) : PI X tg o (iKeys te) := by
  intro pins s σ H R I h
  refine thn (ho pins s σ H _ I h) fun v s1 ⟨x,H1,I1,r1,d,kvs,e,hd,q⟩ => ?_
  subst e
  cases r1
  obtain ⟨hl,hsys,vs,kv,dof⟩ := hd.ok I1.hok
  obtain ⟨ep,hm⟩ := dof.dictAt
  refine wpAny_pyIter_dict (knd := q2y X.prog X.w) hsys hm ?_
  obtain ⟨ob,es,hob,hex,hdat,hr⟩ := id hm
  have eep : epO ob = ep := by unfold epO; rw [hdat]
  have keep : ∀ (o1 : Obj) b u,s1.heap.get? b = some u -> (s1.heap.push o1).get? b = some u := fun o1 b u e => Heap.get?_push_of_some _ e
  have J1 := I1.kept (t' := s1.toks) (keep { cls := .type "dict_keyiterator",data := .fields #[.ref d, .int 0 0, .int vs.length 0, .int ep 0] })
  have J2 : Inv X pins σ (upd H1 d (.frz ob (.dK kvs))) { s1 with heap := s1.heap.push { cls := .type "dict_keyiterator",data := .fields #[.ref d, .int 0 0, .int vs.length 0, .int ep 0] } } := by
    rcases hd with hd | ⟨o',hd⟩
    . exact J1.freeze hd (keep _ _ _ hob)
    . have e : o' = ob := by
        have := (I1.hok d _ hd).1
        rw [hob] at this; cases this; rfl
      subst e
      rw [qgq hd]
      exact J1
  have hlen : kvs.length = vs.length := kv.length
  have nsz : s1.heap.objs.size ≠ d := Nat.ne_of_gt (Heap.lt_size hob)
  refine ⟨s1.heap.objs.size,[s1.heap.objs.size],_,Itk d ob kvs,_,rfl,J2,qev d _ ob kvs,?_,fun c hc => ?_,q ob fun o' e => ?_⟩
  . rw [hlen,eep]
    exact ⟨_,Heap.get?_push_size _ rfl,rfl,rfl⟩
  . have hc : c = s1.heap.objs.size := by simpa using hc
    subst hc
    refine I1.fpOk (Nat.le_refl _) ?_
    rw [q1e nsz]
    exact I1.hok.fresh (Nat.le_refl _)
  . have := (I1.hok d _ e).1
    rw [hob] at this; cases this; rfl
end
end L2
namespace Z
open PySem L2
def keyA : Key -> AV
  | .inl i => .int i
  | .inr x => .str x
section
variable {C : Ct} {E : XK} {w : Wd}
def Wd.q52 (w : Wd) (a : Addr) (ob : Obj) (kvs : List (Key × V)) : Wd := { w with H := upd w.H a (.frz ob (.dK kvs)) }
theorem qat {a : Addr} {ob : Obj} {kvs : List (Key × V)} (f : w.Fz a) (r : Rd w.H a (.dK kvs)) (ho : ∀ o',w.H a = some (.frz o' (.dK kvs)) -> o' = ob) : Le w (w.q52 a ob kvs) := by
  refine ⟨⟨[],by simp [Wd.q52]⟩,fun _ h => h,fun b _ u e => ?_,fun b h => .inl h,fun b h => .inr h,fun b h => ?_,fun b h => .inl h⟩
  . by_cases hb : b = a
    . subst hb
      rcases r with r | ⟨o',r⟩
      . rw [r] at e; cases e
        exact .inr ⟨f,ob,kvs,rfl,q24⟩
      . have := ho o' r
        subst this
        rw [r] at e; cases e
        exact .inl q24
    . exact .inl ((q1e hb).trans e)
  . show upd w.H a _ b ≠ none
    by_cases hb : b = a
    . subst hb; rw [q24]; exact fun z => nomatch z
    . rw [q1e hb]; exact h
theorem Ok.q52 (ok : Ok C w) {a : Addr} {ob : Obj} {kvs : List (Key × V)} (f : w.Fz a) (r : Rd w.H a (.dK kvs)) (ho : ∀ o',w.H a = some (.frz o' (.dK kvs)) -> o' = ob) : Ok C (w.q52 a ob kvs) := by
  have le := qat f r ho
  refine ⟨ok.len,ok.nd,fun b hb => le.nn b (ok.th b hb),fun j c b e eb => ?_,ok.fz,fun b h => le.nn b (ok.fzt b h),fun b c e => ?_⟩
  . cases c with
    | dead => trivial
    | _ =>
      have hl : Live w b := ⟨j,_,e,(by intro z; cases z),eb⟩
      have hne : b ≠ a := fun z => ok.fz b hl (z ▸ f)
      exact q5h.mono ok le (q1e hne) (ok.cell j _ b e eb)
  . have := ok.pn b c e
    have hne : b ≠ a := fun z => by
      subst z
      rcases r with r | ⟨o',r⟩ <;> rw [this] at r <;> cases r
    exact (q1e hne).trans this
@[simp] def q8p (a : AE) : AI := fun env h => (a env h).bind fun x h => match frz1 x h with
  | (.dk ks _,h') => .ok (ks.map keyA,none) h'
  | _ => .no
theorem tr_key {k : Key} {v : V} (e : v = kV k) : Tr C w (keyA k) v := by
  subst e
  cases k <;> (unfold keyA; rw [Tr]; rfl)
theorem qio {ta : TE} {ma : AE} (ha : SE C E ta ma) : SI C E (iKeys ta) (q8p ma) := by
  intro w env σ R ok en s
  refine ha w env σ _ ok en (s.bind.mono fun x w1 ok1 le1 s1 v tv => ?_)
  obtain ⟨w',e,eH,ok',le',t'⟩ := qhq ok1 tv
  split at s1
  . rename_i ks xs h' e2
    rw [e2] at e t'
    have t' : Tr C w' (.dk ks xs) v := t'
    rw [Tr] at t'
    obtain ⟨a,kvs,rfl,f,r,hk,t⟩ := t'
    rw [<- eH]
    refine ⟨a,kvs,rfl,r,fun ob ho => ?_⟩
    have ok2 := ok'.q52 f r ho
    have le2 := qat f r ho
    have fr : ∀ w2,Ok C w2 -> Le (w'.q52 a ob kvs) w2 -> w2.H a = some (.frz ob (.dK kvs)) := fun w2 okk lee => by
      have hnl : ¬ Live (w'.q52 a ob kvs) a := fun z => ok2.fz a z f
      rcases lee.ks a hnl _ (q24 : (w'.q52 a ob kvs).H a = _) with q | ⟨_,_,_,z,_⟩
      . exact q
      . cases z
    refine s1 (w'.q52 a ob kvs) e ok2 (le'.trans le2) _ ?_
    refine ⟨fun w2 i okk lee hw hi => ?_,fun w2 i y v H' okk lee hw hy yl => ?_,fun w2 i okk lee hw hi => ?_⟩
    . refine ⟨fr w2 okk lee,?_⟩
      rw [<- hk,List.length_map,List.length_map] at hi
      exact hi
    . obtain ⟨rfl,k,x,rfl,hq⟩ := yl
      rw [<- hk,List.getElem?_map,List.getElem?_map,hq] at hy
      cases hy
      exact ⟨w2,rfl,rfl,okk,Le.refl w2,tr_key rfl⟩
    . refine ⟨fr w2 okk lee,?_⟩
      rw [hi, <- hk,List.length_map,List.length_map]
      exact Nat.le_refl _
  . exact s1.elim
end
end Z
namespace L2
open PySem PySem.Spec PyProof.Rows
section
variable {M : Model} {A : Around} {E : Value -> Shared -> Prop} {s : Shared} {B : Heap} {env : Env} {outer : List Env} {L e : Addr} {cls fl : Value} {Q : Unit -> Shared -> Prop}
theorem q9n : ∀ {l : List Env} {h h' base base' : Heap},(∀ b ∈ frs l,base.get? b = none -> base'.get? b = none) -> (∀ b ∈ frs l, ∀ o,h.get? b = some o -> ∃ o',h'.get? b = some o' /\ o'.data = o.data) -> h.FunFrames base l -> h'.FunFrames base' l
  | [],_,_,_,_,_,_,f => by rw [Heap.FunFrames.eq_1]; trivial
  | env :: l,h,h',base,base',hb,ho,f => by
    rw [Heap.FunFrames.eq_2] at f ⊢
    obtain ⟨f1,⟨L,o,f2,f3,f4,f5⟩,f6⟩ := f
    have hm : L ∈ frs (env :: l) := List.mem_filterMap.mpr ⟨env,List.mem_cons_self,f2⟩
    have hs : ∀ b ∈ frs l,b ∈ frs (env :: l) := fun b hb => by
      obtain ⟨x,hx,e⟩ := List.mem_filterMap.mp hb
      exact List.mem_filterMap.mpr ⟨x,List.mem_cons_of_mem _ hx,e⟩
    obtain ⟨o',g1,g2⟩ := ho L hm o f4
    exact ⟨f1,⟨L,o',f2,hb L hm f3,g1,by rw [g2]; exact f5⟩,q9n (fun b hb' => hb b (hs b hb')) (fun b hb' => ho b (hs b hb')) f6⟩
theorem qi9 {cenv : Env} {x : Value} (h : cenv.frame = env.frame) : noteFrame x cenv = noteFrame x env := by
  unfold noteFrame PySem.frameOf
  rw [h]
theorem q9m (hfr : A.frames = some (env :: outer)) (hf : env.frame = some L) (x : At B (env :: outer) e cls fl s.heap)
    (h : ∀ h',At B (env :: outer) e cls (rawInt L) h' -> s.heap.UpToSlots h' -> Q () { s with heap := h' }) : wpAny M A (noteFrame (.ref e) env) Q E s := by
  by_cases hfl : (fl == rawInt L) = true
  . have hfl2 : fl = rawInt L := by simpa using hfl
    have x' := x
    obtain ⟨hkb,hen,hl,oe,vs,T,oT,ts,he,hcls,hd,h1,h2,hnT,hTe,hT,hdT,h3⟩ := x
    unfold noteFrame
    simp only [hf]
    refine wpAny_bind (wpAny_field he hd h1 ?_)
    rw [if_pos (show (Value.ref T != Value.none) = true from by simp)]
    refine wpAny_bind (wpAny_field hT hdT h3 ?_)
    rw [if_pos hfl]
    exact wpAny_pure (h s.heap (hfl2 ▸ x') fun b o q _ => ⟨o.slots,q⟩)
  . obtain ⟨hkb,hen,hl,oe,vs,T,oT,ts,he,hcls,hd,h1,h2,hnT,hTe,hT,hdT,h3⟩ := x
    subst hcls
    unfold noteFrame
    simp only [hf]
    refine wpAny_bind (wpAny_field he hd h1 ?_)
    rw [if_pos (show (Value.ref T != Value.none) = true from by simp)]
    refine wpAny_bind (wpAny_field hT hdT h3 ?_)
    rw [if_neg hfl]
    refine wpAny_bind (wpAny_setField hT hdT (Array.getElem?_eq_some_iff.mp h3).1 ?_)
    have other : ∀ b,b ≠ T -> (s.heap.update T (Obj.mapFields (·.setIfInBounds 3 Value.none))).get? b = s.heap.get? b := fun b hb => Heap.get?_update_other _ _ (Ne.symm hb)
    have noRecord : ∀ b o,s.heap.get? b = some o -> (∀ vs,o.data ≠ .fields vs) -> b ≠ T := fun b o hb hnf q => by
      rw [q,hT] at hb; cases hb; exact hnf ts hdT
    refine qau hfr (hl.of_keeps fun b o hb hnf => ⟨o,(other b (noRecord b o hb hnf)).trans hb,rfl⟩) hf ((other e (Ne.symm hTe)).trans he)
      (fun b o hbo => (other b fun q => by rw [q,hnT] at hbo; cases hbo).trans (hkb b o hbo)) hen hd (Array.getElem?_eq_some_iff.mp h1).1 h2 fun h' x1 x2 => h h' x1 fun b o hb hnf => x2 b o ((other b (noRecord b o hb hnf)).trans hb) hnf
theorem qc1 {l : List Env} {fr : Option Addr} (x : At B l e cls fl s.heap) (h : ∀ h',At B l e cls (fr.elim Value.none fun f => rawInt f) h' -> s.heap.UpToSlots h' -> Q () { s with heap := h' }) : wpAny M A (setFlight (.ref e) fr) Q E s := by
  obtain ⟨hkb,hen,hl,oe,vs,T,oT,ts,he,hcls,hd,h1,h2,hnT,hTe,hT,hdT,h3⟩ := x
  have hsz3 : 3 < ts.size := (Array.getElem?_eq_some_iff.mp h3).1
  have other : ∀ b,b ≠ T -> (s.heap.update T (Obj.mapFields (·.setIfInBounds 3 (fr.elim Value.none fun f => rawInt f)))).get? b = s.heap.get? b := fun b hb => Heap.get?_update_other _ _ (Ne.symm hb)
  have noRecord : ∀ b o,s.heap.get? b = some o -> (∀ vs,o.data ≠ .fields vs) -> b ≠ T := fun b o hb hnf q => by
    rw [q,hT] at hb; cases hb; exact hnf ts hdT
  unfold setFlight
  refine wpAny_bind (wpAny_field he hd h1 ?_)
  rw [if_pos (show (Value.ref T != Value.none) = true from by simp)]
  refine wpAny_setField hT hdT hsz3 (h _ ⟨fun b o hbo => (other b fun q => by rw [q,hnT] at hbo; cases hbo).trans (hkb b o hbo),hen,
    hl.of_keeps fun b o hb hnf => ⟨o,(other b (noRecord b o hb hnf)).trans hb,rfl⟩,?_⟩ fun b o hb hnf => ⟨o.slots,(other b (noRecord b o hb hnf)).trans hb⟩)
  exact ⟨oe,vs,T,_,_,(other e (Ne.symm hTe)).trans he,hcls,hd,h1,h2,hnT,hTe,Heap.get?_update_self _ hT (Obj.isFreed_of_fields (Obj.data_mapFields hdT _)),Obj.data_mapFields hdT _,by simp [hsz3]⟩
theorem qe0 (hfr : A.frames = some (env :: outer)) (hf : env.frame = some L) (x : At B (env :: outer) e cls fl s.heap) (hQ : ∀ h',At B outer e cls .none h' -> s.heap.UpToSlots h' -> Q () { s with heap := h' }) :
    wpAny M A (leaving env (.ref e)) Q E s := by
  unfold leaving
  refine wpAny_bind (q9m hfr hf x fun h' x up => ?_)
  exact q5y x fun h'' x' up' => hQ h'' x'.pop (up.trans up')
end
section
variable {X : Cx} {pins : List (Addr × Obj)} {σ : St} {H H' : Hp} {s s' : Shared} {a C D : Addr} {B B' : Heap}
theorem qgi (I : Inv X pins σ H s) (st : X.stack = X.env :: X.outer) (ex : X.ex = []) (hD : X.s₀.heap.get? D = none) (F : Fly X.prog X.w X.stack H s a C H' B s') (eB : ∀ b o,b ≠ D -> B.get? b = some o -> B'.get? b = some o) (hok : HOk X.prog X.w H' B')
    {h'' : Heap} (fl : At B' X.outer a (.ref C) .none h'') (up : ∀ b ∈ frs X.outer, ∀ o,s'.heap.get? b = some o -> (∀ vs,o.data ≠ .fields vs) -> ∃ sl,h''.get? b = some { o with slots := sl }) : Fly X.prog X.w X.outer X.H₀ X.s₀ a C H' B' { s' with heap := h'' } := by
  have I' : Inv X pins σ H' s' := I.qa2 F.os F.un (F.hok.kept F.fly.st) F.bare fun b hb => absurd hb (by simp)
  have nst : ∀ b o,X.s₀.heap.get? b = some o -> b ∉ frs X.outer -> b ∉ frs X.stack := fun b o q nf hb => by
    rcases List.mem_cons.mp (I.q4h b hb) with z | z
    . have e1 := Heap.lt_size q
      have e2 := I.ok.above
      rw [z] at e1
      exact absurd e1 (Nat.not_lt.mpr e2)
    . exact nf z
  have nex : ∀ b,b ∉ X.ex := fun b => by rw [ex]; simp
  have nD : ∀ b o,X.s₀.heap.get? b = some o -> b ≠ D := fun b o q z => by rw [z,hD] at q; cases q
  have kk : ∀ b o,X.s₀.heap.get? b = some o -> X.H₀ b = none -> b ∉ frs X.outer -> B'.get? b = some o := fun b o q n nf =>
    eB b o (nD b o q) (F.kp b o (I.base.keep b o q n nf (nex b)) (I.base.free b o q n (nex b)) (nst b o q nf))
  have tt : ∀ b o,X.s₀.heap.get? b = some o -> b ∉ frs X.outer -> ∃ o',B'.get? b = some o' := fun b o q nf => by
    obtain ⟨o1,e1⟩ := I.base.there b o q (nex b)
    obtain ⟨o2,e2⟩ := F.th b o1 e1 (nst b o q nf)
    exact ⟨o2,eB b o2 (nD b o q) e2⟩
  have sl : ∀ b o,X.s₀.heap.get? b = some o -> b ∈ frs X.outer -> ∃ sl,h''.get? b = some { o with slots := sl } := fun b o q hf => by
    obtain ⟨n,o1,q1,nd⟩ := I.ff0 b hf
    rw [q] at q1; cases q1
    obtain ⟨sl,e⟩ := I'.base.slot b o q n hf (nex b)
    obtain ⟨sl',e'⟩ := up b hf _ e nd
    exact ⟨sl',e'⟩
  refine ⟨F.os.trans I.os,F.bare,hok,kk,tt,?_,fl⟩
  refine ⟨fun b o q n nf _ => fl.st b o (kk b o q n nf),fun b o q n hf _ => sl b o q hf,fun b o q n _ => I'.base.free b o q n (nex b),fun b o q hx => ?_,I'.base.tups,I'.base.frzs,I'.base.tbls⟩
  by_cases hb : b ∈ frs X.outer
  . obtain ⟨sl',e⟩ := sl b o q hb
    exact ⟨_,e⟩
  . obtain ⟨o',e⟩ := tt b o q hb
    exact ⟨o',fl.st b o' e⟩
theorem Out.comp {E : XK} (O : Out X E) (I : Inv X pins σ H s) (F : Fly X.prog X.w X.stack H s a C H' B s') (q : E (.ref C) none H') (cD : FpOk X pins H D) {m : Str -> Option Value} (hm : s.heap.Ns D m) {cenv : Env} (hcf : cenv.frame = X.env.frame) {acc : Value} {use : Option (Value -> Sem Unit)} {Q : Value -> Shared -> Prop} :
    notedBy (model X.prog X.w) X.A cenv (fun x s'' => compPost (model X.prog X.w) X.A X.xe use Q acc D (.error x) s'') (.ref a) s' := by
  have hfr : X.A.frames = some (X.env :: X.outer) := by rw [I.ok.frames,O.st]
  have x0 : At B (X.env :: X.outer) a (.ref C) .none s'.heap := by rw [<- O.st]; exact F.fly
  have hDs : D ∉ frs X.stack := fun z => by
    rcases List.mem_cons.mp (I.q4h D z) with e | e
    . exact cD.2.1 e
    . exact cD.2.2.1 e
  have hD0 : X.s₀.heap.get? D = none := by
    rcases cD.2.2.2.1 with z | z
    . rw [O.ex] at z; cases z
    . exact Heap.get?_none_of_le z
  obtain ⟨oD,es,ep,hoD,hdD,hkD,hnD⟩ := hm
  have hBD : B.get? D = some oD := F.kp D oD hoD cD.1 hDs
  have hDo : ∀ b ∈ frs (X.env :: X.outer),b ≠ D := fun b hb z => hDs (by rw [O.st]; exact z ▸ hb)
  have hDH' : H' D = none := F.un.free D oD hoD cD.1 (by simp)
  show wpAny (model X.prog X.w) X.A (noteFrame (.ref a) cenv) _ _ s'
  rw [qi9 hcf]
  refine q9m hfr O.fr x0 fun h1 x1 up1 => ?_
  refine ⟨m,⟨oD,es,ep,x1.st D oD hBD,hdD,hkD,hnD⟩,fun h2 sb cenv2 _ => ?_⟩
  have aD : a ≠ D := fun z => by rw [<- z,x1.nw] at hBD; cases hBD
  have eB : ∀ b o,b ≠ D -> B.get? b = some o -> (PySem.W.hideAll B [D]).get? b = some o := fun b o hb e => PySem.W.hideAll_get _ e (by simpa using hb)
  have nB : ∀ b o,(PySem.W.hideAll B [D]).get? b = some o -> B.get? b = some o /\ b ≠ D := fun b o e => ⟨PySem.W.of_hideAll _ e,fun z => by rw [z,PySem.W.hideAll_none [D] (by simp)] at e; cases e⟩
  have noneB : ∀ b,B.get? b = none -> (PySem.W.hideAll B [D]).get? b = none := fun b e => by
    cases q : (PySem.W.hideAll B [D]).get? b with
    | none => rfl
    | some o => rw [(nB b o q).1] at e; cases e
  have x2 : At (PySem.W.hideAll B [D]) (X.env :: X.outer) a (.ref C) (rawInt X.env.locals) h2 := by
    refine ⟨fun b o e => (sb.2 b (nB b o e).2).trans (x1.st b o (nB b o e).1),noneB a x1.nw,q9n (fun b _ e => noneB b e) (fun b hb o e => ⟨o,(sb.2 b (hDo b hb)).trans e,rfl⟩) x1.fr,?_⟩
    obtain ⟨oe,vs,T,oT,ts,g1,g2,g3,g4,g5,g6,g7,g8,g9,g10⟩ := x1.tr
    have tD : T ≠ D := fun z => by rw [z,hBD] at g6; cases g6
    exact ⟨oe,vs,T,oT,ts,(sb.2 a aD).trans g1,g2,g3,g4,g5,noneB T g6,g7,(sb.2 T tD).trans g8,g9,g10⟩
  unfold PySem.passOn
  obtain ⟨oe,vs,T,oT,ts,g1,g2,g3,g4,g5,g6,g7,g8,g9,g10⟩ := x2.tr
  refine wpAny_bind (wpAny_field (s := { s' with heap := h2 }) g1 g3 g4 ?_)
  rw [if_neg (show ¬ ((Value.ref T == Value.none) = true) from by simp)]
  refine wpAny_bind (qc1 (s := { s' with heap := h2 }) x2 fun h3 x3 up3 => wpAny_throw ?_)
  refine O.pass a _ (qe0 hfr O.fr x3 fun h4 x4 up4 => ?_)
  refine ⟨a,C,H',_,rfl,qgi I O.st O.ex hD0 F eB (fun b u e => ?_) x4 (fun b hb o e nd => ?_),q⟩
  . refine (F.hok b u e).stay (fun c v hc z => eB c v ?_ z) (fun _ z => z) fun _ _ z => z
    intro hz
    subst hz
    rcases hc with rfl | hc
    . rw [hDH'] at e; cases e
    . rw [hDH'] at hc; cases hc
  . have hb' : b ∈ frs (X.env :: X.outer) := by
      obtain ⟨x,hx,e⟩ := List.mem_filterMap.mp hb
      exact List.mem_filterMap.mpr ⟨x,List.mem_cons_of_mem _ hx,e⟩
    obtain ⟨s1,e1⟩ := up1 b o e nd
    obtain ⟨s3,e3⟩ := up3 b _ ((sb.2 b (hDo b hb')).trans e1) nd
    obtain ⟨s4,e4⟩ := up4 b _ e3 nd
    exact ⟨s4,e4⟩
end
end L2
namespace L2
open PySem PySem.Spec PyProof.Rows
def blkX (Y : Cx) (P : Program) (w : World) (st : List Env) (E : XK) : Value -> Shared -> Prop := fun e s' => ∃ pins σ H1 s1,Inv Y pins σ H1 s1 /\ CX1 P w st H1 s1 E e s'
abbrev blkE (X : Cx) (E : XK) (scope : Scope) (own : List Str) (fv : List (Str × Nat)) (s : Shared) (H : Hp) (fp : List Addr) : Cx := (blk X scope own fv s H fp).wish (blkX (blk X scope own fv s H fp) X.prog X.w X.stack E)
theorem qgd {X : Cx} {E : XK} {scope : Scope} {own : List Str} {fv : List (Str × Nat)} {s : Shared} {H : Hp} {fp : List Addr} : Passes (CX1 X.prog X.w) (blkE X E scope own fv s H fp) E :=
  fun pins σ H1 s1 e s' I hx => ⟨pins, σ,H1,s1,I.q3x,hx⟩
section
variable {prog : Program} {w : World} {A : Around} {R : Result -> Shared -> Prop} {s : Shared}
theorem q6f {EX : Value -> Shared -> Prop} {elt target iter : Expr} {ifs : List Expr} {scope : Scope} {pos : Pos} {it acc : Value} {env : Env} (I : Nat -> Shared -> Prop)
    (turn : ∀ n s,I n s -> wpAny (model prog w) A (pyNext it) (fun r s₁ => match r with
      | none => R (.ok .next) s₁
      | some v => wpAny (model prog w) A (letOwnedTupleGo target it v) (fun _ s₁' => wpAny (model prog w) A (assign target env v) (fun _ s₂ =>
          wpAny (model prog w) A (forIn ifs true fun c r => if r = true then do let ok <- isTrue c env (eval c env); pure (ForInStep.yield ok) else pure (ForInStep.yield r)) (fun ok s₃ =>
            if ok = true then wpAny (model prog w) A (eval elt env) (fun x s₄ =>
              wpAny (model prog w) A (call (.builtin "list.append") [acc,x]) (fun _ s₅ => ∃ m,m < n /\ I m s₅) (fun _ _ => False) s₄) EX s₃
            else ∃ m,m < n /\ I m s₃) (fun _ _ => False) s₂) (fun _ _ => False) s₁') (fun _ _ => False) s₁) (fun _ _ => False) s)
    (hE : ∀ e s',EX e s' -> notedBy (model prog w) A env (fun x s'' => R (.error x) s'') e s') (n : Nat) (h : I n s) :
    codeAny (model prog w) A (.compLoop (.ListComp elt [⟨target,iter,ifs,0⟩] scope pos) 0 it acc env) R s := by
  refine codeAny_loop rfl I (fun n s hI => ?_) n h
  show wpAny _ A ((compTurn (.ListComp elt [⟨target,iter,ifs,0⟩] scope pos) 0 it acc env).onRaise (fun x => do noteFrame x env; theTreesLotGoes x)) _ _ s
  refine wpAny_noted ?_
  rw [compTurn_list]
  refine wpAny_bind (wpAny_standAt (wpAny_bind (wpAny_mono (turn n s hI) (fun r s₁ h₁ => ?_) fun _ _ h' => h'.elim)))
  cases r with
  | none => exact wpAny_pure h₁
  | some v =>
    refine wpAny_bind (wpAny_mono h₁ (fun _ s₁' h₁' => ?_) fun _ _ h' => h'.elim)
    refine wpAny_bind (wpAny_mono h₁' (fun _ s₂ h₂ => wpAny_bind (wpAny_mono h₂ (fun ok s₃ h₃ => ?_) fun _ _ h' => h'.elim)) fun _ _ h' => h'.elim)
    cases ok with
    | false => exact wpAny_pure ⟨rfl,h₃⟩
    | true =>
      exact wpAny_bind (wpAny_bind (wpAny_mono h₃ (fun x s₄ h₄ => wpAny_bind (wpAny_mono h₄ (fun _ s₅ h₅ => wpAny_pure (wpAny_pure ⟨rfl,h₅⟩)) fun _ _ h' => h'.elim)) fun e' s' h' => hE e' s' h'))
end
section
variable {X : Cx} {pins : List (Addr × Obj)} {σ : St} {H : Hp} {s : Shared} {scope : Scope} {own : List Str} {fv : List (Str × Nat)}
theorem qid {E : XK} (O : Out X E) {acc0 : Option (Value -> Sem Unit)} {Q0 : Value -> Shared -> Prop} {elt tg iter : Expr} {ifs : List Expr} {pos : Pos} {g : TG} {tc : TT} {te : TE}
    (hc : X.calm = true) (B : Blk X.env.scope X.N scope own fv) (hg : ∀ s H fp,PG (blk X scope own fv s H fp) tg g) (ht : ∀ s H fp,PTs (blk X scope own fv s H fp) ifs tc) (he : ∀ s H fp,PE (blkE X E scope own fv s H fp) elt te)
    {it : Addr} {fp : List Addr} {tn : Nat -> Heap -> Prop} {J : It} (I : Inv X pins σ H s) (T : Turn X.prog X.w X.K tg J fp it tn) (st : tn 0 s.heap) (hf : ∀ b ∈ fp,FpOk X pins H b) {Q : VK}
    (hw : ∀ D,H D = none -> LcW own fv J g tc te σ D Q (upd H D (.lst [])))
    (hR : ∀ D C H' s',Inv X pins σ H' s' -> FpOk X pins H' C -> (∃ m,s'.heap.Ns C m) -> Q (.ref D) H' -> compPost (model X.prog X.w) X.A X.xe acc0 Q0 (.ref D) C (.ok .next) s') :
    wpAny (model X.prog X.w) X.A (newList []) (fun acc s₃ => wpAny (model X.prog X.w) X.A (newFunctionEnv scope X.env.globals (clos scope.names X.env.cells) [] X.env.qual none .none (some X.env)) (fun cenv s₄ =>
      codeAny (model X.prog X.w) X.A (.compStart (.ListComp elt [⟨tg,iter,ifs,0⟩] scope pos) 0 (.ref it) acc { cenv with scope := relabel scope X.env }) (compPost (model X.prog X.w) X.A X.xe acc0 Q0 acc cenv.locals) s₄) X.xe s₃) X.xe s := by
  refine wpAny_newObj_type (wpAny_newFunctionEnv B.nocell (by intro y hy; simp at hy) (fun h₁ hns₁ hsb₁ => ?_) B.kind)
  dsimp only at hns₁ hsb₁ ⊢
  have I3 : Inv X pins σ (upd H s.heap.objs.size (.lst [])) { s with heap := s.heap.push { cls := .type "list",data := .seq ([] : List Value).toArray } } := I.lnew (t' := s.toks) .nil (Nat.zero_le _)
  obtain ⟨W,⟨m0,w0⟩,turn⟩ := hw s.heap.objs.size I.fresh
  have fpl : ∀ b ∈ fp,b < s.heap.objs.size := fun b hb => by
    obtain ⟨o,e,_⟩ := T.obj _ _ st b hb
    exact Heap.lt_size e
  have hf3 : ∀ b ∈ fp,FpOk X pins (upd H s.heap.objs.size (.lst [])) b := fun b hb => ⟨by rw [q1e (Nat.ne_of_lt (fpl b hb))]; exact (hf b hb).1,(hf b hb).2⟩
  generalize hS3 : ({ s with heap := s.heap.push { cls := .type "list",data := .seq ([] : List Value).toArray } } : Shared) = s3 at I3
  have hS3h : s.heap.push { cls := .type "list",data := .seq ([] : List Value).toArray } = s3.heap := by rw [<- hS3]
  have fpl3 : ∀ b ∈ fp,b < s3.heap.objs.size := fun b hb => by
    rw [<- hS3h,Heap.size_push]
    exact Nat.lt_succ_of_lt (fpl b hb)
  have e3 : ∀ (h : Heap) (tk : Nat),({ s with heap := h,toks := tk } : Shared) = { s3 with heap := h,toks := tk } := fun h tk => by rw [<- hS3]
  rw [hS3h] at hns₁ hsb₁ ⊢
  rw [e3]
  have k3 : ∀ b o,s3.heap.get? b = some o -> h₁.get? b = some o := fun b o e => hsb₁.extBut b o (Nat.ne_of_lt (Heap.lt_size e)) (Heap.get?_push_of_some _ e)
  have J0 := q6o (σ := σ) I3 B hf3 fpl3 (tk := s.toks + ([] : List (Str × Value)).length) hns₁ k3
  have ksz : ∀ b o,s.heap.get? b = some o -> h₁.get? b = some o := fun b o e => k3 b o (by rw [<- hS3h]; exact Heap.get?_push_of_some _ e)
  have st1 : tn 0 h₁ := T.keep _ _ _ st fun b _ o e => ksz b o e
  have stat : ∀ {H' : Hp},(∀ b ∈ fp,H' b = none) -> ∀ b ∈ fp,FpOk (blk X scope own fv s3 (upd H s.heap.objs.size (.lst [])) fp) [] H' b := fun hn b hb =>
    ⟨hn b hb,Nat.ne_of_lt (fpl3 b hb),fun z => (by
      rcases List.mem_cons.mp (I.q4h b z) with e | e
      . exact (hf b hb).2.1 e
      . exact (hf b hb).2.2.1 e), .inl hb,fun x c e => (hf b hb).2.2.2.2.1 x c (q3r e),fun p hp => absurd (show p ∈ ([] : List (Addr × Obj)) from hp) (by simp)⟩
  generalize hX' : blk X scope own fv s3 (upd H s.heap.objs.size (.lst [])) fp = X' at J0 stat
  have eP : X'.prog = X.prog := by rw [<- hX']; rfl
  have eW : X'.w = X.w := by rw [<- hX']; rfl
  have eK : X'.K = X.K := by rw [<- hX']; rfl
  have eA : X'.A = X.A := by rw [<- hX']; rfl
  have eE : X'.xe = fun _ _ => False := by rw [<- hX']; rfl
  have eC : X'.calm = true := by rw [<- hX']; exact hc
  have eEnv : compEnvC scope (clos scope.names X.env.cells) s3.heap.objs.size X.env = X'.env := by rw [<- hX']; rfl
  have Hg : PG X' tg g := by rw [<- hX']; exact hg _ _ _
  have Ht : PTs X' ifs tc := by rw [<- hX']; exact ht _ _ _
  have He : PE (X'.wish (blkX X' X.prog X.w X.stack E)) elt te := by rw [<- hX']; exact he _ _ _
  have loop : codeAny (model X.prog X.w) X.A (.compLoop (.ListComp elt [⟨tg,iter,ifs,0⟩] scope pos) 0 (.ref it) (.ref s.heap.objs.size) X'.env) (compPost (model X.prog X.w) X.A X.xe acc0 Q0 (.ref s.heap.objs.size) s3.heap.objs.size) { s3 with heap := h₁,toks := s.toks + ([] : List (Str × Value)).length } := by
    refine q6f (EX := blkX X' X.prog X.w X.stack E) (fun n s' => ∃ i H',Inv X' [] (bσ own fv σ) H' s' /\ tn i s'.heap /\ (∀ b ∈ fp,H' b = none) /\ W i n H') ?_ (fun e s5 hx => ?_) m0 ⟨0,_,J0,st1,fun b hb => (hf3 b hb).1,w0⟩
    . rintro n s4 ⟨i,H4,J4,st4,fr4,w4⟩
      rcases turn i n H4 w4 with ⟨stop,q⟩ | ⟨go,NE,NF,hNE,hNF,step⟩
      . have key := T.done X' eP eW eK eC i [] s4 _ H4 (fun _ _ => False) J4 (stat fr4) st4 stop
        rw [eA] at key
        refine thn key fun r s5 ⟨hr,J5⟩ => ?_
        subst hr
        rw [<- hX'] at J5
        obtain ⟨I5,c5,m5⟩ := q76 I3 hf3 J5
        exact hR _ _ _ _ I5 c5 m5 q
      . have key := T.item X' eP eW eK eC i [] s4 _ H4 (fun _ _ => False) J4 (stat fr4) st4 go
        rw [eA] at key
        refine thn key fun r s5 ⟨u,hr,h5⟩ => ?_
        subst hr
        refine thn h5 fun _ s6 ⟨x,H6,J6,r6,y6,st6,fr6⟩ => ?_
        have J6' := J6.pinned (stat fr6) (T.obj _ _ st6)
        have kg := Hg _ s6 _ H6 x u _ J6' r6 (step x H6 y6)
        rw [eP,eW,eA,eE] at kg
        refine thn kg fun _ s7 ⟨σ7,H7,J7,⟨os,ol,eσ⟩,q7⟩ => ?_
        have kt := Ht _ s7 σ7 H7 _ J7 q7
        rw [eP,eW,eA,eE] at kt
        refine thn kt fun ok s8 ⟨H8,J8,q8⟩ => ?_
        have again : ∀ {s9 : Shared} {H9 : Hp} {mm : Nat},Inv X' ([] ++ q4u fp s6.heap) σ7 H9 s9 -> mm < n -> W (i + 1) mm H9 -> ∃ m,m < n /\ ∃ i H',Inv X' [] (bσ own fv σ) H' s9 /\ tn i s9.heap /\ (∀ b ∈ fp,H' b = none) /\ W i m H' := fun {s9 H9 mm} J9 hm w9 => by
          refine ⟨mm,hm,i + 1,H9,(J9.q4n).weak ?_ ?_,T.keep _ _ _ st6 fun b hb o e => (J9.pin (b,o) (List.mem_append_right _ (List.mem_append_right _ (q3j hb e)))).1,fun b hb => ?_,w9⟩
          . rw [eσ]; unfold bσ; rw [List.length_append,List.length_append,List.length_map,ol]
          . intro j v e
            rw [eσ]
            unfold bσ at e
            by_cases hj : j < own.length
            . rw [List.getElem?_append_left (by simpa using hj),List.getElem?_map] at e
              cases q : own[j]? with
              | none => rw [q] at e; cases e
              | some y => rw [q] at e; cases e
            . rw [List.getElem?_append_right (by simpa using hj),List.length_map] at e
              rw [List.getElem?_append_right (by omega),ol]
              exact e
          . obtain ⟨o,e,d⟩ := T.obj _ _ st6 b hb
            exact (J9.pin (b,o) (List.mem_append_right _ (List.mem_append_right _ (q3j hb e)))).2.1
        cases ok with
        | false =>
          rw [if_neg Bool.false_ne_true] at q8 ⊢
          obtain ⟨m',hm,w8⟩ := hNF _ q8
          exact again J8 hm w8
        | true =>
          rw [if_pos rfl] at q8 ⊢
          have ke := He _ s8 σ7 H8 _ (J8.wish _) q8
          have ke : wpAny (model X.prog X.w) X.A (eval elt X'.env) (fun v s9 => ∃ x H9,Inv (X'.wish (blkX X' X.prog X.w X.stack E)) ([] ++ q4u fp s6.heap) σ7 H9 s9 /\ RelV x v /\ NE x H9) (blkX X' X.prog X.w X.stack E) s8 := by rw [<- eP, <- eW, <- eA]; rw [<- eP, <- eW] at ke; exact ke
          refine wpAny_mono ke (fun xv s9 ⟨v,H9,J9',r9,q9⟩ => ?_) fun _ _ z => z
          have J9 := J9'.q3x
          obtain ⟨ys,hD,hz,m',hm,w9⟩ := hNE v H9 q9
          have := (q4v (X := X')) _ s9 σ7 H9 (.ref s.heap.objs.size) [v] (.ref s.heap.objs.size) [xv] (fun _ H10 => W (i + 1) m' H10) J9 rfl (.cons r9 .nil) ⟨_,ys,v,rfl,rfl,hD,hz,w9⟩
          rw [eP,eW,eA,eE] at this
          exact thn this fun _ s10 ⟨_,H10,J10,_,w10⟩ => again J10 hm w10
    . obtain ⟨pins1, σ1,H1,s1,J1,a,C',H2,B',rfl,F,qE⟩ := hx
      rw [<- hX'] at J1
      obtain ⟨I1,c1,m1,hm1⟩ := q76 I3 hf3 (J1.q9d (pins' := []) fun p hp => absurd hp (by simp))
      exact O.comp I1 F qE c1 hm1 (by rw [<- eEnv]; rfl)
  rw [<- eEnv] at loop
  exact codeAny_compStart_list loop (T.self _ 0 _ _ _ st1 loop)
end
section
variable {X : Cx} {scope : Scope} {own : List Str} {fv : List (Str × Nat)} {elt tg iter : Expr} {ifs : List Expr} {pos : Pos} {wi : TI} {g : TG} {tc : TT} {te : TE}
theorem qg5 {E : XK} (O : Out X E) {osc : Scope} {N0 : List Str} {i : Nat} {x : Str} {pos' spos : Pos} (hc : X.calm = true) (hsc : X.env.scope = osc) (hN0 : X.N = N0) (hN : X.N.Nodup) (hi' : X.N[i]? = some x) (hx : Loc X.env.scope x) (B : Blk osc N0 scope own fv) (hi : PI X tg iter wi) (hg : ∀ s H fp,PG (blk X scope own fv s H fp) tg g) (ht : ∀ s H fp,PTs (blk X scope own fv s H fp) ifs tc) (he : ∀ s H fp,PE (blkE X E scope own fv s H fp) elt te)
    (hsw : swapsWith (.ListComp elt [⟨tg,iter,ifs,0⟩] scope pos) (some (.Name x pos')) spos.line X.env = pure true := by rfl)
    (hs : ∀ x,foldedSetIterable iter X.env x = pure x := by intro _; rfl) (hf : X.fn x = true \/ X.env.scope.names.lookup x = some .local := by first | exact .inl rfl | exact .inr rfl | assumption) :
    PS X (.Assign [.Name x pos'] (.ListComp elt [⟨tg,iter,ifs,0⟩] scope pos) spos) (tAsg (tLc own fv wi g tc te) (q54 i)) := by
  subst hsc hN0
  intro pins s σ H D I h
  rw [exec_Assign_Name_used _ _ _ _ hsw]
  refine wpAny_bind (wpAny_standAt (wpAny_bind ?_))
  show wpAny _ X.A (do let _ <- comprehension (.ListComp elt [⟨tg,iter,ifs,0⟩] scope pos) scope X.env _ (newList []) false (eval iter X.env) (some (assign (.Name x pos') X.env))) _ _ s
  refine wpAny_bind (wpAny_mono (wpAny_comprehension_free (use := some (assign (.Name x pos') X.env)) (Q := fun _ s' => SP X pins D .next s') rfl hs (B.clos I.ok) B.kind B.loc
    (thn (hi pins s σ H _ I h) fun v s1 h1 => thn h1 fun itv s2 h2 => ?_)) (fun _ s' hq => wpAny_pure (wpAny_pure hq)) fun _ _ e => e)
  obtain ⟨it,fp,tn,J,H2,rfl,I2,T,st2,f2,hw⟩ := h2
  refine qid O (Q := fun x H1 => q54 i x σ H1 D.nx) hc B hg ht he I2 T st2 f2 hw fun L C H' s' I' c' m' q => ?_
  obtain ⟨m,hn⟩ := m'
  show wpAny _ X.A (assign (.Name x pos') X.env (.ref L)) _ _ _
  refine wpAny_assign_Name (q6u I' hN hi' hx (v := .ref L) rfl (fun s'' I'' ⟨a,hsb,ha⟩ => ?_) hf)
  have hCa : C ≠ a := by
    rcases ha with ha | ha
    . rw [ha]; exact c'.2.1
    . exact (c'.2.2.2.2.1 x a ha).symm
  exact ⟨m,hn.sameBut hsb hCa,fun h' hs' => ⟨_,H',q6c I'' c' hs',q⟩⟩
end
end L2
namespace Z
open PySem L2
def lcLX (wt : Option Nat) (all : List AV) (g : AV -> AEnv -> AH -> Re AEnv) (tc : AT) (te : AE) (be : AEnv) : List AV -> List AV -> AH -> Re (List AV)
  | [],acc,h => if okW h all wt = true then .ok acc h else .no
  | x :: xs,acc,h => if okW h all wt = true then (g x be h).noex.bind fun env h => (tc env h).noex.bind fun b h => if b = true then (te env h).bind fun y h => lcLX wt all g tc te be xs (acc ++ [y]) h else lcLX wt all g tc te be xs acc h else .no
@[simp] def qd6 (n : Nat) (fv : List Nat) (it : AI) (g : AV -> AEnv -> AH -> Re AEnv) (tc : AT) (te : AE) : AA := fun env h => (it env h).bind fun p h => if p.1.length <= sizeLine then lcLX p.2 p.1 g tc te (bEnv n fv env) p.1 [] h else .no
@[simp] def aLcX (n : Nat) (fv : List Nat) (it : AI) (g : AV -> AEnv -> AH -> Re AEnv) (tc : AT) (te : AE) : AE := fun env h => (qd6 n fv it g tc te env h).bind fun xs h => .ok (.lst xs) h
theorem q9c {wt : Option Nat} {all : List AV} {g : AV -> AEnv -> AH -> Re AEnv} {tc : AT} {te : AE} {be : AEnv} : ∀ (xs acc : List AV) (h : AH) {ys : List AV} {h' : AH},lcL wt all g tc te be xs acc h = .ok ys h' -> lcLX wt all g tc te be xs acc h = .ok ys h'
  | [],acc,h,ys,h',e => by rw [lcL] at e; rw [lcLX]; exact e
  | x :: xs,acc,h,ys,h',e => by
    rw [lcL] at e; rw [lcLX]
    by_cases hw : okW h all wt = true
    . rw [if_pos hw] at e ⊢
      cases hg : g x be h with
      | no => rw [hg] at e; cases e
      | ex c h1 => rw [hg] at e; cases e
      | ok env h1 =>
        rw [hg] at e
        simp only [Re.q4b,Re.q9a] at e ⊢
        cases hc : tc env h1 with
        | no => rw [hc] at e; cases e
        | ex c h1 => rw [hc] at e; cases e
        | ok b h2 =>
          rw [hc] at e
          simp only [Re.q4b,Re.q9a] at e ⊢
          cases b with
          | false => rw [if_neg Bool.false_ne_true] at e ⊢; exact q9c xs acc h2 e
          | true =>
            rw [if_pos rfl] at e ⊢
            cases ht : te env h2 with
            | no => rw [ht] at e; cases e
            | ex c h1 => rw [ht] at e; cases e
            | ok y h3 =>
              rw [ht] at e
              simp only [Re.q4b] at e ⊢
              exact q9c xs (acc ++ [y]) h3 e
    . rw [if_neg hw] at e; cases e
section
variable {C : Ct} {E : XK}
theorem Sat.nxb {α β γ : Type} {w1 : Wd} {X : Re α} {g : α -> AH -> Re β} {f : β -> AH -> Re γ} {P : γ -> Wd -> Prop} (s : Sat C E w1 ((X.noex.bind g).bind f) P) : Sat C E0 w1 X (fun x w' => Sat C E w1 ((g x w'.h).bind f) P) := by
  cases X with
  | ok x h => exact fun w' e ok le => by subst e; exact s
  | ex c h => exact s.elim
  | no => exact s
theorem Sat.xb {α β γ : Type} {w1 : Wd} {X : Re α} {g : α -> AH -> Re β} {f : β -> AH -> Re γ} {P : γ -> Wd -> Prop} (s : Sat C E w1 ((X.bind g).bind f) P) : Sat C E w1 X (fun x w' => Sat C E w1 ((g x w'.h).bind f) P) := by
  cases X with
  | ok x h => exact fun w' e ok le => by subst e; exact s
  | ex c h => exact s
  | no => exact s
theorem qhk {own : List Str} {fv : List (Str × Nat)} {wi : TI} {it : AI} {g : TG} {mg : AV -> AEnv -> AH -> Re AEnv} {tc : TT} {mc : AT} {te : TE} {me : AE} (hi : SI C E wi it) (hg : SGo C E0 own.length g mg) (hc : STs C E0 tc mc) (he : SE C E te me)
    {w : Wd} {env : AEnv} {σ : St} {Q : VK} (ok : Ok C w) (en : q20 C w env σ) {f : List AV -> AH -> Re AV} {P : AV -> Wd -> Prop} (s : Sat C E w ((qd6 own.length (fv.map (·.2)) it mg mc me env w.h).bind f) P)
    (k : ∀ (w0 w' : Wd) xs D vs,Ok C w0 -> Le w w0 -> w0.H D = none -> Ok C w' -> Le w0 w' -> Lone w' D vs -> Trs C w' xs vs -> Sat C E w0 (f xs w'.h) P -> Q (.ref D) w'.H) : tLc own fv wi g tc te σ w.H Q := by
  have s0 : Sat C E w ((it env w.h).bind fun p h => (if p.1.length <= sizeLine then lcLX p.2 p.1 mg mc me (bEnv own.length (fv.map (·.2)) env) p.1 [] h else .no : Re (List AV)).bind f) P := by
    unfold qd6 at s
    revert s
    cases it env w.h <;> exact fun s => s
  refine hi w env σ _ ok en (s0.bind.mono fun p w1 ok1 le1 s1 J hJ D hD => ?_)
  obtain ⟨all,wt⟩ := p
  by_cases hsz : all.length <= sizeLine
  . have s1 : Sat C E w1 ((if all.length <= sizeLine then lcLX wt all mg mc me (bEnv own.length (fv.map (·.2)) env) all [] w1.h else .no : Re (List AV)).bind f) P := s1
    rw [if_pos hsz] at s1
    have en1 := en.mono ok le1
    refine ⟨fun i m H => m = all.length - i /\ i <= all.length /\ ∃ w2 acc ys,w2.H = H /\ Ok C w2 /\ Le w1 w2 /\ Lone w2 D ys /\ Trs C w2 acc ys /\ acc.length <= i /\ Sat C E w1 ((lcLX wt all mg mc me (bEnv own.length (fv.map (·.2)) env) (all.drop i) acc w2.h).bind f) P,⟨all.length,by simp,Nat.zero_le _,w1.fresh D (.lst []),[],[],rfl,ok1.fresh hD _,ok1.q3q hD _,?_, .nil,Nat.zero_le _,s1⟩,?_⟩
    . exact ⟨q24,fun z => ok1.fzt D z hD,fun z => ok1.th D (ok1.qdj z) hD,fun z => ok1.th D z hD⟩
    . rintro i m H ⟨rfl,hi,w2,acc,ys,rfl,ok2,le2,L2,t2,hal,s3⟩
      by_cases hlt : i < all.length
      . right
        have hx : all[i]? = some all[i] := List.getElem?_eq_getElem hlt
        rw [List.drop_eq_getElem_cons hlt,lcLX] at s3
        by_cases hw : okW w2.h all wt = true
        . rw [if_pos hw] at s3
          refine ⟨hJ.go w2 i ok2 le2 hw hlt,fun v H5 => ∃ w5 acc' ys,w5.H = H5 /\ Ok C w5 /\ Le w1 w5 /\ Lone w5 D ys /\ (∃ y,Tr C w5 y v /\ Trs C w5 acc' ys /\ acc'.length <= i /\ Sat C E w1 ((lcLX wt all mg mc me (bEnv own.length (fv.map (·.2)) env) (all.drop (i + 1)) (acc' ++ [y]) w5.h).bind f) P),
            fun H4 => ∃ w4 acc' ys,w4.H = H4 /\ Ok C w4 /\ Le w1 w4 /\ Lone w4 D ys /\ Trs C w4 acc' ys /\ acc'.length <= i /\ Sat C E w1 ((lcLX wt all mg mc me (bEnv own.length (fv.map (·.2)) env) (all.drop (i + 1)) acc' w4.h).bind f) P,?_,?_,?_⟩
          . rintro v H5 ⟨w5,acc',ys',rfl,ok5,le5,L5,y,ty,t5,hal5,s5⟩
            refine ⟨ys',L5.at_,?_,all.length - (i + 1),by omega,rfl,hlt,w5.poke D (.lst (ys' ++ [v])),acc' ++ [y],ys' ++ [v],rfl,ok5.poke L5 _,le5.poke hD,?_,(t5.app (.one ty)).poke L5 _,?_,s5⟩
            . have := t5.len; omega
            . exact ⟨q24,L5.nf,L5.nl,L5.nr⟩
            . rw [List.length_append,List.length_singleton]; omega
          . rintro H4 ⟨w4,acc',ys',rfl,ok4,le4,L4,t4,hal4,s4⟩
            exact ⟨all.length - (i + 1),by omega,rfl,hlt,w4,acc',ys',rfl,ok4,le4,L4,t4,by omega,s4⟩
          . intro v H' yl
            obtain ⟨w3,rfl,e3,ok3,le3,t3⟩ := hJ.yld w2 i _ v H' ok2 le2 hw hx yl
            have en3 := qci ((en1.mono ok1 le2).mono ok2 le3) own fv
            rw [<- e3] at s3
            refine hg w3 _ v _ _ _ ok3 en3 t3 ((Sat.nxb s3).le (le2.trans le3) |>.mono fun env4 w4 ok4 le4 s4 σ4 en4 l4 d4 => ⟨?_,?_⟩)
            . refine ⟨σ4.take own.length,?_,?_⟩
              . have hl : (bσ own fv σ).length = own.length + fv.length := by unfold bσ q53; simp
                rw [List.length_take]; omega
              . have hd : (bσ own fv σ).drop own.length = q53 fv σ := by
                  unfold bσ
                  rw [List.drop_append_of_le_length (by simp)]
                  simp
                rw [<- hd, <- d4,List.take_append_drop]
            . have le14 : Le w1 w4 := le2.trans (le3.trans le4)
              refine hc w4 env4 σ4 _ ok4 en4 ((Sat.nxb s4).le le14 |>.mono fun b w5 ok5 le5 s5 => ?_)
              have L5 : Lone w5 D ys := L2.le (le3.trans (le4.trans le5))
              have t5 : Trs C w5 acc ys := t2.mono ok2 (le3.trans (le4.trans le5))
              cases b with
              | true =>
                refine iteT (he w5 env4 σ4 _ ok5 (en4.mono ok4 le5) ?_)
                have s5' : Sat C E w1 (((me env4 w5.h).bind fun y h => lcLX wt all mg mc me (bEnv own.length (fv.map (·.2)) env) (all.drop (i + 1)) (acc ++ [y]) h).bind f) P := by simpa using s5
                refine (Sat.xb s5').le (le14.trans le5) |>.mono fun y w6 ok6 le6 s6 q tq => ?_
                exact ⟨w6,acc,ys,rfl,ok6,le14.trans (le5.trans le6),L5.le le6,y,tq,t5.mono ok5 le6,hal,s6⟩
              | false =>
                refine iteF ⟨w5,acc,ys,rfl,ok5,le14.trans le5,L5,t5,hal,by simpa using s5⟩
        . rw [if_neg hw] at s3; exact s3.elim
      . left
        have hd : all.drop i = [] := List.drop_eq_nil_of_le (by omega)
        rw [hd,lcLX] at s3
        by_cases hw : okW w2.h all wt = true
        . rw [if_pos hw] at s3
          exact ⟨hJ.stop w2 i ok2 le2 hw (Nat.le_antisymm hi (Nat.le_of_not_lt hlt)),k w1 w2 acc D ys ok1 le1 hD ok2 le2 L2 t2 s3⟩
        . rw [if_neg hw] at s3; exact s3.elim
  . have s1 : Sat C E w1 ((if all.length <= sizeLine then lcLX wt all mg mc me (bEnv own.length (fv.map (·.2)) env) all [] w1.h else .no : Re (List AV)).bind f) P := s1
    rw [if_neg hsz] at s1
    exact s1.elim
theorem se_lcX {own : List Str} {fv : List (Str × Nat)} {wi : TI} {it : AI} {g : TG} {mg : AV -> AEnv -> AH -> Re AEnv} {tc : TT} {mc : AT} {te : TE} {me : AE} (hi : SI C E wi it) (hg : SGo C E0 own.length g mg) (hc : STs C E0 tc mc) (he : SE C E te me) : SE C E (tLc own fv wi g tc te) (aLcX own.length (fv.map (·.2)) it mg mc me) := fun w env σ Q ok en s =>
  qhk hi hg hc he ok en s fun w0 w' xs D vs ok0 le0 h0 ok' le' L t s' => s' (w'.keep D) rfl (ok'.keep L) (le'.keep h0) _ (by rw [Tr]; exact ⟨D,vs,rfl, .inl rfl, .inl L.at_,t.keep⟩)
end
end Z
namespace PM
open PySem L2 Z
def flG : Nat -> List Nat
  | 0 => [0,1]
  | 1 => [0,1,2,3]
  | 2 => [0,1,4]
  | 3 => [0,1,5,6,7,8,9]
  | 4 => [0,1,5]
  | 5 => [0,1,10]
  | 6 => [0,1,11,12,10,13,14,15,16,17]
  | 7 => [0,1,17]
  | 8 => [18,19,20,21]
  | 9 => [5,6,22,7,23,9,24]
  | 10 => [25,26,27,5]
  | 11 => [28,29,30,31,32,33,34,35]
  | 12 => [1,36,37,38,39,40,41,42]
  | 13 => [43]
  | _ => []
def b_qb : AS :=
 (sSeq (q3l flG 0 (aVar 0) (aVar 1))
 (q3l flG 1 (aVar 0) (aVar 2)))
def m_qb : AF := fnZ 3 b_qb
def b_qr : AS :=
 (sSeq (q3l flG 18 (aVar 0) (aK (.int 0)))
 (sSeq (q3l flG 19 (aVar 0) qaf)
 (sSeq (q3l flG 20 (aVar 0) (q7j aNil))
 (q3l flG 21 (aVar 0) (q7j aNil)))))
def m_qr : AF := fnZ 1 b_qr
def b_qz : AS :=
 (sRet (aC qdh (q12 (aFld 21 (aVar 0)) aNil)))
def m_qz : AF := fnZ 1 b_qz
def b_q0i : AS :=
 (sRet (aC fAll (q12 (aLc 1 [1] (q5s (aVar 0)) (gN 0) aYes (a2 fInS (aVar 0) (aVar 1))) aNil)))
def m_q0i : AF := fnZ 2 b_q0i
def b_q0j : AS :=
 (sRet (qdb (qaw fLe fLe (aK (.int 1)) (aC fLen (q12 (aVar 0) aNil)) (aK (.int 12))) (aC m_q0i (q12 (aVar 0) (q12 (aK (.str "abcdefghijklmnopqrstuvwxyz0123456789")) aNil)))))
def m_q0j : AF := fnZ 1 b_q0j
def b_qa : AS :=
 (sSeq (sIf (aNot (aB (aC m_q0j (q12 (aVar 1) aNil))))
 (q5e 21 (mRep (aVar 1) mNil))
 q1p)
 (sIf (aB (a2 fDIn (aVar 1) (aFld 19 (aVar 0))))
 (q5e 22 (mStr (aVar 1) mNil))
 q1p))
def m_qa : AF := fnZ 2 b_qa
def b_qf : AS :=
 (q8o (aFld 19 (aVar 0)) (aFld 1 (aVar 1)) (aVar 1))
def m_qf : AF := fnZ 2 b_qf
def b_qq : AS :=
 (sSeq (sAsg (q80 (aFld 19 (aVar 0)) (aVar 1)) (gN 3))
 (sSeq (sIf (aOr (aB (a1 fIsN (aVar 3))) (aB (a2 fNe (aFld 0 (aVar 3)) (aVar 2))))
 (q5e 23 (mStr (aVar 2) (mRep (aVar 1) mNil)))
 q1p)
 (sRet (aVar 3))))
def m_qq : AF := fnZ 4 b_qq
def b_q01 : AS :=
 (sIf (aNot (aB (qaw fLe fLe (aVar 1) (aVar 0) (aVar 2))))
 (q5e 24 (mInt (aVar 1) (mInt (aVar 2) (mInt (aVar 0) mNil))))
 q1p)
def m_q01 : AF := fnZ 3 b_q01
def b_qo : AS :=
 (sSeq (q2t (aC m_qb (q12 (aVar 0) (q12 (aVar 1) (q12 (aVar 2) aNil)))))
 (q3l flG 5 (aVar 0) (aK (.bl false))))
def m_qo : AF := fnZ 3 b_qo
def b_qi : AS :=
 (sSeq (q2t (q2u 8 m_qa (aVar 0) (q12 (aVar 1) aNil)))
 (q2t (q2u 8 m_qf (aVar 0) (q12 (q51 4 m_qo (q12 (aK (.str "brine")) (q12 (aVar 1) aNil))) aNil))))
def m_qi : AF := fnZ 2 b_qi
def b_qj : AS :=
 (sSeq (q2t (q2u 8 m_qa (aVar 0) (q12 (aVar 1) aNil)))
 (q2t (q2u 8 m_qf (aVar 0) (q12 (q51 4 m_qo (q12 (aK (.str "cloth")) (q12 (aVar 1) aNil))) aNil))))
def m_qj : AF := fnZ 2 b_qj
def b_qp : AS :=
 (sSeq (q2t (q2u 8 m_qa (aVar 0) (q12 (aVar 1) aNil)))
 (q2t (q2u 8 m_qf (aVar 0) (q12 (q51 0 m_qb (q12 (aK (.str "farm")) (q12 (aVar 1) aNil))) aNil))))
def m_qp : AF := fnZ 2 b_qp
def b_qw : AS :=
 (sSeq (q2t (aC m_qb (q12 (aVar 0) (q12 (aK (.str "room")) (q12 (aVar 1) aNil)))))
 (sSeq (q3l flG 2 (aVar 0) (aVar 2))
 (q3l flG 3 (aVar 0) (aVar 3))))
def m_qw : AF := fnZ 4 b_qw
def b_qm : AS :=
 (sSeq (q2t (q2u 8 m_qa (aVar 0) (q12 (aVar 1) aNil)))
 (sSeq (q2t (aC m_q01 (q12 (aVar 2) (q12 (aK (.int 0)) (q12 (aK (.int 100)) aNil)))))
 (sSeq (q2t (aC m_q01 (q12 (aVar 3) (q12 (aK (.int 0)) (q12 (aK (.int 40)) aNil)))))
 (q2t (q2u 8 m_qf (aVar 0) (q12 (q51 1 m_qw (q12 (aVar 1) (q12 (aVar 2) (q12 (aVar 3) aNil)))) aNil))))))
def m_qm : AF := fnZ 4 b_qm
def b_qt : AS :=
 (sSeq (q2t (aC m_qb (q12 (aVar 0) (q12 (aK (.str "shelf")) (q12 (aVar 1) aNil)))))
 (q3l flG 4 (aVar 0) (aVar 2)))
def m_qt : AF := fnZ 3 b_qt
def b_qh : AS :=
 (sSeq (q2t (q2u 8 m_qa (aVar 0) (q12 (aVar 1) aNil)))
 (q2t (q2u 8 m_qf (aVar 0) (q12 (q51 2 m_qt (q12 (aVar 1) (q12 (q2u 8 m_qq (aVar 0) (q12 (aVar 2) (q12 (aK (.str "room")) aNil))) aNil))) aNil))))
def m_qh : AF := fnZ 3 b_qh
def b_qu : AS :=
 (sSeq (q2t (aC m_qb (q12 (aVar 0) (q12 (aK (.str "sort")) (q12 (aVar 1) aNil)))))
 (sSeq (q3l flG 5 (aVar 0) (aVar 2))
 (sSeq (q3l flG 6 (aVar 0) (aVar 3))
 (sSeq (q3l flG 7 (aVar 0) (aVar 4))
 (sSeq (q3l flG 8 (aVar 0) (aLc 3 [] (iLst (aVar 5)) (gT 3 (q1u (gN 0) (q1u (gN 1) (q1u (gN 2) q3m)))) aYes (aVar 0)))
 (q3l flG 9 (aVar 0) (aLc 3 [] (iLst (aVar 5)) (gT 3 (q1u (gN 0) (q1u (gN 1) (q1u (gN 2) q3m)))) aYes (aTup (q12 (aVar 1) (q12 (aVar 2) aNil))))))))))
def m_qu : AF := fnZ 6 b_qu
def b_q0d : AS :=
 (sSeq (q2t (aC m_q01 (q12 (aVar 1) (q12 (aK (.int 1)) (q12 (aK (.int 60)) aNil)))))
 (q2t (aC m_q01 (q12 (aVar 0) (q12 (aK (.int 1)) (q12 (aVar 1) aNil))))))
def m_q0d : AF := fnZ 2 b_q0d
def b_q0e : AS :=
 (sSeq (sIf (aB (a2 fLt (aVar 1) (aC fLen (q12 (aVar 0) aNil))))
 (sRet (a2 fIx (aVar 0) (aVar 1)))
 q1p)
 (sRet (aK (.int 0))))
def m_q0e : AF := fnZ 2 b_q0e
def b_q04 : AS :=
 (sSeq (sAsg (aSl fSlS (aK (.str "abcdefghijk")) qa6 (qa9 (aC fMin2 (q12 (a2 fMod (aC m_q0e (q12 (aVar 0) (q12 (aK (.int 0)) aNil))) (aK (.int 12))) (q12 (a2 fSub (aK (.int 12)) (aC fLen (q12 (aVar 1) aNil))) aNil))))) (gN 2))
 (sSeq (sAsg (a2 fMod (aC m_q0e (q12 (aVar 0) (q12 (aK (.int 1)) aNil))) (a2 fAdd (aC fLen (q12 (aVar 2) aNil)) (aK (.int 1)))) (gN 3))
 (sRet (a2 q8r (a2 q8r (aSl fSlS (aVar 2) qa6 (qa9 (aVar 3))) (aVar 1)) (aSl fSlS (aVar 2) (qa9 (aVar 3)) qa6)))))
def m_q04 : AF := fnZ 4 b_q04
def b_q0f : AS :=
 (sRet (qdb (a1 (fIsi .int) (aVar 0)) (qdy (a1 (fIsi .bool) (aVar 0)))))
def m_q0f : AF := fnZ 1 b_q0f
def b_q0y : AS :=
 (sRet (aTup (q12 (aFld 5 (aVar 0)) (q12 (aFld 6 (aVar 0)) (q12 (aFld 22 (aVar 0)) (q12 (aFld 7 (aVar 0)) (q12 (aFld 23 (aVar 0)) (q12 (aFld 9 (aVar 0)) (q12 (aFld 24 (aVar 0)) aNil)))))))))
def m_q0y : AF := fnZ 1 b_q0y
end PM
namespace PM
open PySem L2 Z
def cz (ns : List Int) (k : Nat) : Int := ns.getD k 0
theorem qdu {ns : List Int} {k : Nat} (h : k < ns.length) : atI (ns.map AV.int) (k : Int) = some (.int (cz ns k)) := q38 (by
  rw [List.getElem?_map,List.getElem?_eq_getElem h]
  simp [cz,List.getD_eq_getElem?_getD,List.getElem?_eq_getElem h])
theorem qdq (ns : List Int) (k : Nat) (h : AH) : m_q0e [.kst (ns.map AV.int), .int k] h = .ok (.int (cz ns k)) h := by
  by_cases hk : (k : Int) < (ns.length : Int)
  . simp [m_q0e,b_q0e,hk,qdu (show k < ns.length by omega)]
  . have : cz ns k = 0 := by
      unfold cz
      rw [List.getD_eq_getElem?_getD,List.getElem?_eq_none (by omega)]; rfl
    simp [m_q0e,b_q0e,hk,this]
theorem q49 {n a b : Int} {h : AH} (h1 : a <= n) (h2 : n <= b) : m_q01 [.int n, .int a, .int b] h = .ok .non h := by
  simp [m_q01,b_q01,h1,h2]
theorem q5r {n a b : Int} {h : AH} (hn : ¬ (a <= n /\ n <= b)) (s1 : n.natAbs.log2 < 1920) (s2 : a.natAbs.log2 < 1920) (s3 : b.natAbs.log2 < 1920) : m_q01 [.int n, .int a, .int b] h = .ex 24 h := by
  by_cases h1 : a <= n
  . have h2 : ¬ n <= b := fun z => hn ⟨h1,z⟩
    simp [m_q01,b_q01,h1,h2,s1,s2,s3]
  . simp [m_q01,b_q01,h1,s1,s2,s3]
def Sm (i : Int) : Prop := i.natAbs.log2 < 1920
theorem sm_of {i : Int} (h : i.natAbs < 2 ^ 1000) : Sm i := by
  unfold Sm
  by_cases h0 : i.natAbs = 0
  . rw [h0]; decide
  . exact Nat.lt_of_lt_of_le ((Nat.log2_lt h0).mpr h) (by decide)
theorem gap_ok {n m : Int} {h : AH} (h1 : 1 <= n) (h2 : n <= m) (h3 : m <= 60) : m_q0d [.int n, .int m] h = .ok .non h := by
  simp [m_q0d,b_q0d,q49 (show 1 <= m by omega) h3,q49 h1 h2]
@[simp] theorem qh8 (h : AH) (x y : Cell) : (h ++ [x]).set h.length y = h ++ [y] := by
  rw [List.set_append_right _ _ (Nat.le_refl _),Nat.sub_self]; rfl
theorem q21 {h : AH} {i j : Nat} {c : Cell} (hn : i ≠ j) : (h.set i c)[j]? = h[j]? := List.getElem?_set_ne hn
theorem qb4 {h : AH} {i : Nat} {c : Cell} (e : h[i]? = some c) : i < h.length := (List.getElem?_eq_some_iff.mp e).1
theorem q85 {h : AH} {i : Nat} {c d : Cell} (e : h[i]? = some d) : (h.set i c)[i]? = some c := List.getElem?_set_self (qb4 e)
theorem q4c {h g : AH} {i : Nat} {c : Cell} (e : h[i]? = some c) : (h ++ g)[i]? = some c := by
  rw [List.getElem?_append_left (qb4 e)]; exact e
def NS : List Nat := ("abcdefghijklmnopqrstuvwxyz0123456789" : Str).cps.toList
def isNm (x : Str) : Bool := decide (1 <= x.length /\ x.length <= 12) && x.cps.toList.all fun c => decide (c ∈ NS)
theorem lc_fm {α : Type} {wt : Option Nat} {all : List AV} {g : AV -> AEnv -> AH -> Re AEnv} {tc : AT} {te : AE} {be : AEnv} {h : AH} {k f : α -> AV} {p : α -> Bool} (hw : okW h all wt = true) :
    ∀ (ys : List α) (acc : List AV),(∀ y ∈ ys, ∃ env,g (k y) be h = .ok env h /\ tc env h = .ok (p y) h /\ (p y = true -> te env h = .ok (f y) h)) -> lcL wt all g tc te be (ys.map k) acc h = .ok (acc ++ (ys.filter p).map f) h
  | [],acc,_ => by simp [lcL,hw]
  | y :: ys,acc,hs => by
    obtain ⟨env,e1,e2,e3⟩ := hs y (by simp)
    have ih := fun acc => lc_fm hw ys acc fun z hz => hs z (List.mem_cons_of_mem _ hz)
    cases hp : p y with
    | true => simp [lcL,hw,e1,e2,e3 hp,hp,ih]
    | false => simp [lcL,hw,e1,e2,hp,ih]
theorem q4i {α : Type} {wt : Option Nat} {all : List AV} {g : AV -> AEnv -> AH -> Re AEnv} {te : AE} {be : AEnv} {h : AH} {k f : α -> AV} (hw : okW h all wt = true)
    (ys : List α) (acc : List AV) (hs : ∀ y ∈ ys, ∃ env,g (k y) be h = .ok env h /\ te env h = .ok (f y) h) : lcL wt all g aYes te be (ys.map k) acc h = .ok (acc ++ ys.map f) h := by
  have := lc_fm (tc := aYes) (te := te) (f := f) (p := fun _ => true) hw ys acc fun y hy => by
    obtain ⟨env,e1,e2⟩ := hs y hy
    exact ⟨env,e1,rfl,fun _ => e2⟩
  rw [List.filter_eq_self.mpr (by simp)] at this
  exact this
theorem qcy {α : Type} (f : α -> Bool) : ∀ (xs : List α),q6l (xs.map fun x => AV.bl (f x)) = some (xs.map f)
  | [] => rfl
  | x :: xs => by simp [qcy f xs]
theorem strs_map {α : Type} (f : α -> Str) : ∀ (xs : List α),strsOf (xs.map fun x => AV.str (f x)) = some (xs.map f)
  | [] => rfl
  | x :: xs => by simp [strs_map f xs]
theorem all_map {α : Type} (f : α -> Bool) (xs : List α) : (xs.map f).all id = xs.all f := by rw [List.all_map]; rfl
theorem qi8 {x z : Str} {h : AH} (hx : x.length <= 100000) : m_q0i [.str x, .str z] h = .ok (.bl (x.cps.toList.all fun c => decide (c ∈ z.cps.toList))) h := by
  have hl : (strA x).length <= sizeLine := by
    unfold strA; rw [List.length_map,Array.length_toList]
    exact Nat.le_trans hx (by decide)
  have key : lcL none (strA x) (gN 0) aYes (a2 fInS (aVar 0) (aVar 1)) [none,some (.str z)] (strA x) [] h = .ok (x.cps.toList.map fun c => AV.bl (decide (c ∈ z.cps.toList))) h :=
    q4i (k := fun c => AV.str ⟨#[c]⟩) q2o x.cps.toList [] fun c hc => ⟨_,rfl,by simp⟩
  simp [m_q0i,b_q0i,bEnv,hl,key,qcy,all_map]
theorem q71 {x : Str} {h : AH} (hx : x.length <= 100000) : m_q0j [.str x] h = .ok (.bl (isNm x)) h := by
  have hl : x.length <= sizeLine := Nat.le_trans hx (by decide)
  unfold isNm
  by_cases h1 : 1 <= x.length /\ x.length <= 12
  . have e1 : (1 : Int) <= (x.length : Int) := by omega
    have e2 : (x.length : Int) <= 12 := by omega
    simp [m_q0j,b_q0j,hl,qi8 hx,h1,e1,e2,NS]
  . by_cases e1 : (1 : Int) <= (x.length : Int)
    . have e2 : ¬ (x.length : Int) <= 12 := by omega
      simp [m_q0j,b_q0j,hl,e1,e2]
      intro a b; omega
    . simp [m_q0j,b_q0j,hl,e1]
      intro a b; omega
def q1n (t : Int) (d l e : Nat) : Cell := .ins 8 [(18, .int t),(19, .ref d),(20, .ref l),(21, .ref e)]
section
variable {h : AH} {a d l e t c : Nat} {day : Int} {ks : List Key} {xs : List AV} {nm kd : Str} {fs : List (Nat × AV)}
theorem qbs (h0 : h[a]? = some (q1n day d l e)) (h1 : h[d]? = some (.dk ks xs)) (h2 : dval ks xs (.inr nm) = some (.ref t)) (h3 : h[t]? = some (.ins c fs)) (h4 : fs.lookup 0 = some (.str kd)) :
    m_qq [.ref a, .str nm, .str kd] h = .ok (.ref t) h := by
  simp [m_qq,b_qq,h0,q1n,h1,h2,h3,h4,List.lookup]
theorem qe3 (h0 : h[a]? = some (q1n day d l e)) (h1 : h[d]? = some (.dk ks xs)) (h2 : dval ks xs (.inr nm) = none) (hn : nm.length <= 1000) (hc : cpOk nm = true) (hk : kd.length <= 1000) :
    m_qq [.ref a, .str nm, .str kd] h = .ex 23 h := by
  simp [m_qq,b_qq,h0,q1n,h1,h2,List.lookup,hn,hc,hk]
theorem qc4 {k2 : Str} (h0 : h[a]? = some (q1n day d l e)) (h1 : h[d]? = some (.dk ks xs)) (h2 : dval ks xs (.inr nm) = some (.ref t)) (h3 : h[t]? = some (.ins c fs)) (h4 : fs.lookup 0 = some (.str k2)) (hne : k2 ≠ kd) (hn : nm.length <= 1000) (hc : cpOk nm = true) (hk : kd.length <= 1000) :
    m_qq [.ref a, .str nm, .str kd] h = .ex 23 h := by
  simp [m_qq,b_qq,h0,q1n,h1,h2,h3,h4,List.lookup,hne,hn,hc,hk]
theorem q4o (h0 : h[a]? = some (q1n day d l e)) (h1 : h[d]? = some (.dk ks xs)) (hn : isNm nm = true) (h2 : dval ks xs (.inr nm) = none) : m_qa [.ref a, .str nm] h = .ok .non h := by
  have hl : nm.length <= 100000 := by
    unfold isNm at hn
    simp at hn; omega
  simp [m_qa,b_qa,q71 hl,hn,h0,q1n,h1,h2,List.lookup]
theorem q5b (h0 : h[a]? = some (q1n day d l e)) (h1 : h[d]? = some (.dk ks xs)) (h3 : h[t]? = some (.ins c fs)) (h4 : fs.lookup 1 = some (.str nm)) (hk : ks.length < sizeLine) :
    m_qf [.ref a, .ref t] h = .ok .non (h.set d (.dk (dput ks xs (.inr nm) (.ref t)).1 (dput ks xs (.inr nm) (.ref t)).2)) := by
  simp [m_qf,b_qf,h0,q1n,h1,h3,h4,List.lookup,hk]
theorem q46 {j : Key} {y : AV} (hn : dval ks xs j = none) (hl : ks.length = xs.length) : dput ks xs j y = (ks ++ [j],xs ++ [y]) := by
  have : (ks.any fun k => decide (k = j)) = false := by
    induction ks generalizing xs with
    | nil => rfl
    | cons k ks ih =>
      cases xs with
      | nil => simp at hl
      | cons x xs =>
        unfold dval at hn
        split at hn
        . cases hn
        . rename_i hne
          rw [List.any_cons,ih hn (by simpa using hl)]
          simp [hne]
  unfold dput
  rw [this]; rfl
theorem q7r {j : Key} {js : List Key} {ys : List AV} (hl : ks.length = xs.length) : dval (ks ++ js) (xs ++ ys) j = (dval ks xs j).or (dval js ys j) := by
  induction ks generalizing xs with
  | nil => cases xs with
    | nil => simp [dval]
    | cons x xs => simp at hl
  | cons k ks ih =>
    cases xs with
    | nil => simp at hl
    | cons x xs =>
      simp only [List.cons_append,dval]
      split
      . rfl
      . exact ih (by simpa using hl)
end
section
variable {h : AH} {nm : Str}
@[simp] theorem q45 (h : AH) (x : Cell) : (h ++ [x])[h.length]? = some x := by simp
theorem q4e {kd : Str} {c : Nat} (hc0 : 0 ∈ flG c) (hc1 : 1 ∈ flG c) : m_qb [.ref h.length, .str kd, .str nm] (h ++ [.ins c []]) = .ok .non (h ++ [.ins c [(0, .str kd),(1, .str nm)]]) := by
  simp [m_qb,b_qb,hc0,hc1]
theorem qfe {x y : AV} : m_qw [.ref h.length, .str nm,x,y] (h ++ [.ins 1 []]) = .ok .non (h ++ [.ins 1 [(0, .str "room"),(1, .str nm),(2,x),(3,y)]]) := by
  simp [m_qw,b_qw,q4e,flG]
theorem qe4 {x : AV} : m_qt [.ref h.length, .str nm,x] (h ++ [.ins 2 []]) = .ok .non (h ++ [.ins 2 [(0, .str "shelf"),(1, .str nm),(4,x)]]) := by
  simp [m_qt,b_qt,q4e,flG]
end
end PM
namespace PM
open PySem L2 Z
theorem map_inj {f : Char -> Nat} (hf : ∀ x y,f x = f y -> x = y) : ∀ {a b : List Char},a.map f = b.map f -> a = b
  | [],[],_ => rfl
  | [],_ :: _,h => by simp at h
  | _ :: _,[],h => by simp at h
  | x :: a,y :: b,h => by
    simp only [List.map_cons,List.cons.injEq] at h
    rw [hf x y h.1,map_inj hf h.2]
@[simp] theorem qj3 (a b : String) : Str.ofString a = Str.ofString b ↔ a = b := by
  refine ⟨fun h => ?_,fun h => by rw [h]⟩
  rw [Str.ofString_eq_toList,Str.ofString_eq_toList] at h
  have h1 : a.toList.map Char.toNat = b.toList.map Char.toNat := by
    have := congrArg (fun s : Str => s.cps.toList) h
    simpa using this
  apply String.toList_inj.mp
  exact map_inj (fun x y e => Char.ext (UInt32.toNat_inj.mp e)) h1
theorem q61 {s t : AS} {env env' : AEnv} {h h' : AH} (e : s env h = .nx env' h') : sSeq s t env h = t env' h' := by simp [e]
theorem q4z {s t : AS} {env env' : AEnv} {h h' : AH} {x : AV} (e : s env h = .nx env' h') (r : ∃ h2,t env' h' = .rt x h2) : ∃ h2,sSeq s t env h = .rt x h2 := by rw [q61 e]; exact r
theorem q4a {α : Type} {wt : Option Nat} {all : List AV} {g : AV -> AEnv -> AH -> Re AEnv} {body : AS} {k : α -> AV} {P : Nat -> AEnv -> AH -> Prop}
    (hw : ∀ i env h,P i env h -> okW h all wt = true) :
    ∀ (ys : List α) (i : Nat) (env : AEnv) (h : AH),P i env h ->
      (∀ (j : Nat) y,ys[j]? = some y -> ∀ env h,P (i + j) env h -> ∃ e1 h1 e2 h2,g (k y) env h = .ok e1 h1 /\ (body e1 h1 = .nx e2 h2 \/ body e1 h1 = .ct e2 h2) /\ P (i + j + 1) e2 h2) ->
      ∃ env' h',q35 wt all g body (ys.map k) env h = .nx env' h' /\ P (i + ys.length) env' h'
  | [],i,env,h,hp,hs => ⟨env,h,by simp [q35,hw i env h hp],by simpa using hp⟩
  | y :: ys,i,env,h,hp,hs => by
    obtain ⟨e1,h1,e2,h2,q1,q2,q3⟩ := hs 0 y rfl env h hp
    obtain ⟨e3,h3,q4,q5⟩ := q4a hw ys (i + 1) e2 h2 q3 fun j z hj env h hp => by
      have := hs (j + 1) z (by simpa using hj) env h (by rw [show i + (j + 1) = i + 1 + j by omega]; exact hp)
      rw [show i + (j + 1) + 1 = i + 1 + j + 1 by omega] at this
      exact this
    refine ⟨e3,h3,?_,by rw [List.length_cons,show i + (ys.length + 1) = i + 1 + ys.length by omega]; exact q5⟩
    rw [List.map_cons,q35,if_pos (hw i env h hp),q1]
    rcases q2 with q2 | q2 <;> simp [q2,q4]
def IsL (h : AH) (x : AV) (xs : List AV) : Prop := x = .lst xs \/ ∃ k,x = .ref k /\ h[k]? = some (.lst xs)
structure Cel (h : AH) (a d l e : Nat) (day : Int) (ks : List Key) (xs ws es : List AV) : Prop where
  qc : h[a]? = some (q1n day d l e)
  qd : h[d]? = some (.dk ks xs)
  ql : h[l]? = some (.lst ws)
  qe : h[e]? = some (.lst es)
  ne : l ≠ e
section
variable {h : AH} {a d l e : Nat} {day : Int} {ks : List Key} {xs ws es : List AV}
theorem q6w {h : AH} {i j : Nat} {x y : Cell} (hi : h[i]? = some x) (hj : h[j]? = some y) (hn : x ≠ y) : i ≠ j := fun e => hn (by subst e; rw [hi] at hj; exact Option.some.inj hj)
theorem Cel.app (q : Cel h a d l e day ks xs ws es) (g : AH) : Cel (h ++ g) a d l e day ks xs ws es := ⟨q4c q.qc,q4c q.qd,q4c q.ql,q4c q.qe,q.ne⟩
theorem Cel.put_d (q : Cel h a d l e day ks xs ws es) (ks' : List Key) (xs' : List AV) : Cel (h.set d (.dk ks' xs')) a d l e day ks' xs' ws es :=
  ⟨by rw [q21 (q6w q.qd q.qc (by simp [q1n]))]; exact q.qc,q85 q.qd,by rw [q21 (q6w q.qd q.ql (by simp))]; exact q.ql,by rw [q21 (q6w q.qd q.qe (by simp))]; exact q.qe,q.ne⟩
@[simp] theorem last_set' (h : AH) (i : Nat) (z x y : Cell) : (h.set i z ++ [x]).set h.length y = h.set i z ++ [y] := by
  have := qh8 (h.set i z) x y
  rwa [List.length_set] at this
def q77 (nm : Str) (m : Bool) (tg wg : AV) (rs : List Str) (st : AV) : List (Nat × AV) := [(0, .str "sort"),(1, .str nm),(5, .bl m),(6,tg),(7,wg),(8, .lst (rs.map AV.str)),(9,st)]
def q6p (nm : Str) (r : Nat) : Cell := .ins 2 [(0, .str "shelf"),(1, .str nm),(4, .ref r)]
def q4r (nm : Str) (x y : Int) : Cell := .ins 1 [(0, .str "room"),(1, .str nm),(2, .int x),(3, .int y)]
end
end PM
namespace PM
open PySem L2 Z
section
variable {h : AH} {a d l e : Nat} {day : Int} {ks : List Key} {xs ws es : List AV}
theorem nm_len {nm : Str} (hn : isNm nm = true) : nm.length <= 12 := by
  unfold isNm at hn
  simp at hn; omega
theorem nm_cp {nm : Str} (hn : isNm nm = true) : cpOk nm = true := by
  unfold isNm at hn
  unfold cpOk
  rw [Bool.and_eq_true] at hn
  rw [List.all_eq_true] at hn ⊢
  intro c hc
  have := hn.2 c hc
  rw [decide_eq_true_eq] at this ⊢
  exact (show ∀ c ∈ NS,c < 16 ^ 8 by decide) c this
variable {b s f r : Nat} {nm bn sn fnm rn : Str} {left g x y : Int} {m : Bool} {tg wg st : AV} {rs : List Str}
theorem qct {h : AH} {x : AV} {xs : List AV} (hx : IsL h x xs) : okW h xs (watch x) = true := by
  rcases hx with rfl | ⟨k,rfl,ek⟩
  . exact q2o
  . exact qgs ek
theorem qi2 {h : AH} {x : AV} {xs : List AV} (hx : IsL h x xs) : q3v h x = some xs := by
  rcases hx with rfl | ⟨k,rfl,ek⟩
  . rfl
  . simp [ek]
theorem IsL.app {h g : AH} {x : AV} {xs : List AV} (hx : IsL h x xs) : IsL (h ++ g) x xs := by
  rcases hx with rfl | ⟨k,rfl,ek⟩
  . exact .inl rfl
  . exact .inr ⟨k,rfl,q4c ek⟩
def q88 (nm : Str) : Cell := .ins 0 [(0, .str "farm"),(1, .str nm)]
end
end PM
namespace PM
open PySem L2 Z
def rt3 (z : Str × Int × Int) : AV := .tup [.str z.1, .int z.2.1, .int z.2.2]
def qbt (h : AH) (ks : List Key) (xs : List AV) (r : Str) : Prop := ∃ t x y,dval ks xs (.inr r) = some (.ref t) /\ h[t]? = some (q4r r x y)
def q59 (ro : List (Str × Int × Int)) : AV := .lst (ro.map fun z => AV.tup [.int z.2.1, .int z.2.2])
section
variable {h : AH} {a d l e : Nat} {day : Int} {ks : List Key} {xs ws es : List AV} {nm : Str} {m : Bool} {t1 t2 w1 w2 : Int} {p : AV} {ro : List (Str × Int × Int)}
theorem lsq_l (h : AH) (xs : List AV) : q3v h (.lst xs) = some xs := rfl
theorem seq_l (h : AH) (xs : List AV) : q6i h (.lst xs) = some xs := rfl
theorem watch_l (xs : List AV) : watch (.lst xs) = none := rfl
theorem qfr {h : AH} {p : AV} (hp : IsL h p (ro.map rt3)) (hl : ro.length <= 1000) : m_qu [.ref h.length, .str nm, .bl m, .tup [.int t1, .int t2], .tup [.int w1, .int w2],p] (h ++ [.ins 3 []]) = .ok .non (h ++ [.ins 3 (q77 nm m (.tup [.int t1, .int t2]) (.tup [.int w1, .int w2]) (ro.map (·.1)) (q59 ro))]) := by
  have hpl : ro.length <= sizeLine := Nat.le_trans hl (by decide)
  have k1 : ∀ c,IsL (h ++ [c]) p (ro.map rt3) := fun c => hp.app
  have e1 : ∀ c,q3v (h ++ [c]) p = some (ro.map rt3) := fun c => qi2 (k1 c)
  have e2 : ∀ c,lcL (watch p) (ro.map rt3) (gT 3 (q1u (gN 0) (q1u (gN 1) (q1u (gN 2) q3m)))) aYes (aVar 0) [none,none,none] (ro.map rt3) [] (h ++ [c]) = .ok ([] ++ ro.map fun z => AV.str z.1) (h ++ [c]) := fun c =>
    q4i (qct (k1 c)) ro [] fun z hz => ⟨_,rfl,rfl⟩
  have e3 : ∀ c,lcL (watch p) (ro.map rt3) (gT 3 (q1u (gN 0) (q1u (gN 1) (q1u (gN 2) q3m)))) aYes (aTup (q12 (aVar 1) (q12 (aVar 2) aNil))) [none,none,none] (ro.map rt3) [] (h ++ [c]) = .ok ([] ++ ro.map fun z => AV.tup [.int z.2.1, .int z.2.2]) (h ++ [c]) := fun c =>
    q4i (qct (k1 c)) ro [] fun z hz => ⟨_,rfl,rfl⟩
  simp [m_qu,b_qu,q4e,flG, -q3v, -watch,e1,e2,e3,hpl,bEnv,q77,q59,Function.comp_def]
theorem qgy {ts : List Str} (hn : ts.Nodup) : (metK ts).length = ts.length := by
  unfold metK
  rw [q82 ts [] hn (fun x _ z => nomatch z)]; rfl
end
end PM
namespace PM
open PySem L2 Z
section
variable {h : AH} {a d l e : Nat} {day : Int} {ks : List Key} {xs ws es : List AV} {nm : Str}
theorem qhu {x y : Int} (q : Cel h a d l e day ks xs ws es) (hn : isNm nm = true) (fr : dval ks xs (.inr nm) = none) (x0 : 0 <= x) (x1 : x <= 100) (y0 : 0 <= y) (y1 : y <= 40) (hk : ks.length < 100000) (hx : ks.length = xs.length) :
    m_qm [.ref a, .str nm, .int x, .int y] h = .ok .non ((h ++ [q4r nm x y]).set d (.dk (ks ++ [.inr nm]) (xs ++ [AV.ref h.length]))) := by
  have e0 := q.qc
  have e1 := q4o q.qc q.qd hn fr
  have e2 := q49 (h := h) x0 x1
  have e3 := q49 (h := h) y0 y1
  have q2 := q.app [q4r nm x y]
  have hkk : ks.length < sizeLine := Nat.lt_of_lt_of_le hk (by decide)
  have e9 := q5b (t := h.length) (nm := nm) q2.qc q2.qd (q45 _ _) rfl hkk
  rw [q46 fr hx] at e9
  have f2 := q2.qc
  simp only [q1n,q4r] at e0 e9 f2
  simp [m_qm,b_qm,e0,e1,e2,e3,qfe,e9,f2,q4r]
theorem qgz {rn : Str} {r : Nat} {x y : Int} (q : Cel h a d l e day ks xs ws es) (hn : isNm nm = true) (fr : dval ks xs (.inr nm) = none) (kr : dval ks xs (.inr rn) = some (.ref r)) (hr : h[r]? = some (q4r rn x y)) (hk : ks.length < 100000) (hx : ks.length = xs.length) :
    m_qh [.ref a, .str nm, .str rn] h = .ok .non ((h ++ [q6p nm r]).set d (.dk (ks ++ [.inr nm]) (xs ++ [AV.ref h.length]))) := by
  have e0 := q.qc
  have e1 := q4o q.qc q.qd hn fr
  have e2 := qbs (kd := "room") q.qc q.qd kr hr rfl
  have q2 := q.app [q6p nm r]
  have hkk : ks.length < sizeLine := Nat.lt_of_lt_of_le hk (by decide)
  have e9 := q5b (t := h.length) (nm := nm) q2.qc q2.qd (q45 _ _) rfl hkk
  rw [q46 fr hx] at e9
  have f2 := q2.qc
  simp only [q1n,q6p] at e0 e9 f2
  simp [m_qh,b_qh,e0,e1,e2,qe4,e9,f2,q6p]
theorem qiv (q : Cel h a d l e day ks xs ws es) (hn : isNm nm = true) (fr : dval ks xs (.inr nm) = none) (hk : ks.length < 100000) (hx : ks.length = xs.length) :
    m_qp [.ref a, .str nm] h = .ok .non ((h ++ [q88 nm]).set d (.dk (ks ++ [.inr nm]) (xs ++ [AV.ref h.length]))) := by
  have e0 := q.qc
  have e1 := q4o q.qc q.qd hn fr
  have q2 := q.app [q88 nm]
  have hkk : ks.length < sizeLine := Nat.lt_of_lt_of_le hk (by decide)
  have e9 := q5b (t := h.length) (nm := nm) q2.qc q2.qd (q45 _ _) rfl hkk
  rw [q46 fr hx] at e9
  have f2 := q2.qc
  simp only [q1n,q88] at e0 e9 f2
  simp [m_qp,b_qp,e0,e1,q4e,flG,e9,f2,q88]
end
end PM
namespace PM
open PySem L2 Z
section
variable {h : AH} {a d l e : Nat} {day : Int} {ks : List Key} {xs ws es : List AV} {nm : Str} {w : Nat} {z : Wh} {g : Int}
theorem qcs {α : Type} {wt : Option Nat} {all : List AV} {g : AV -> AEnv -> AH -> Re AEnv} {body : AS} {k : α -> AV} {P : AEnv -> Prop} {c : Nat} {good : α -> Bool} (hw : okW h all wt = true) :
    ∀ (ys : List α) (env : AEnv),P env -> ys.all good = false ->
      (∀ y ∈ ys, ∀ env,P env -> ∃ e1,g (k y) env h = .ok e1 h /\ (good y = true -> ∃ e2,body e1 h = .nx e2 h /\ P e2) /\ (good y = false -> body e1 h = .ex c h)) ->
      q35 wt all g body (ys.map k) env h = .ex c h
  | [],env,_,hb,_ => by simp at hb
  | y :: ys,env,hp,hb,hs => by
    obtain ⟨e1,q1,q2,q3⟩ := hs y (by simp) env hp
    rw [List.map_cons,q35,if_pos hw,q1]
    simp only [Re.to]
    cases hg : good y with
    | false => rw [q3 hg]
    | true =>
      obtain ⟨e2,r1,r2⟩ := q2 hg
      rw [r1]
      exact qcs hw ys e2 r2 (by simpa [hg] using hb) fun y hy => hs y (List.mem_cons_of_mem _ hy)
variable {p : AV} {ps : List Int}
end
end PM
namespace PM
open PySem L2 Z
theorem qgp {lo n c i : Nat} {a b d : AE} {body : AS} {P : Nat -> AEnv -> AH -> Prop} {env : AEnv} {h : AH} (hlo : lo <= 1000000) (hn : n <= 1000000) (hc : 0 < c) (hc2 : c < 1000000) (ha : a env h = .ok (.int (lo : Int)) h) (hb : b env h = .ok (.int (n : Int)) h) (hd : d env h = .ok (.int (c : Int)) h) (h0 : P 0 env h)
    (hs : ∀ j,lo + j * c < n -> ∀ env h,P j env h -> ∃ e2 h2,body (env.set i (some (.int ((lo + j * c : Nat) : Int)))) h = .nx e2 h2 /\ P (j + 1) e2 h2) :
    ∃ e2 h2,sFor (q5x a b d) (gN i) body env h = .nx e2 h2 /\ P ((n + c - 1 - lo) / c) e2 h2 := by
  have hl := q4a (wt := none) (all := q3z lo c ((n + c - 1 - lo) / c)) (g := gN i) (body := body) (k := fun i : Nat => AV.int ((lo : Int) + (i : Int) * (c : Int))) (P := P) (fun _ _ _ _ => q2o) (List.range ((n + c - 1 - lo) / c)) 0 env h h0 (fun j y hj env h hP => by
    obtain ⟨hj1,hj2⟩ := List.getElem?_eq_some_iff.mp hj
    simp at hj1 hj2
    subst hj2
    rw [Nat.zero_add] at hP
    have hlt : lo + j * c < n := by
      have := (Nat.lt_div_iff_mul_lt hc).mp hj1
      omega
    obtain ⟨e2,h2,q1,q2⟩ := hs j hlt env h hP
    rw [Int.natCast_add,Int.natCast_mul] at q1
    exact ⟨_,_,e2,h2,rfl, .inl q1,by rw [Nat.zero_add]; exact q2⟩)
  obtain ⟨e2,h2,q1,q2⟩ := hl
  rw [List.length_range,Nat.zero_add] at q2
  refine ⟨e2,h2,?_,q2⟩
  unfold sFor q5x
  rw [ha]
  simp only [Re.q4b,hb,hd]
  rw [qh7 hlo hn hc hc2]
  simp only [Re.to_ok]
  exact q1
theorem q7d {α : Type} {h : AH} {wt : Option Nat} {all : List AV} {g : AV -> AEnv -> AH -> Re AEnv} {body : AS} {k : α -> AV} {P : AEnv -> Prop} {x : AV} {good : α -> Bool} (hw : okW h all wt = true) :
    ∀ (ys : List α) (env : AEnv),P env -> ys.all good = false ->
      (∀ y ∈ ys, ∀ env,P env -> ∃ e1,g (k y) env h = .ok e1 h /\ (good y = true -> ∃ e2,body e1 h = .nx e2 h /\ P e2) /\ (good y = false -> body e1 h = .rt x h)) ->
      q35 wt all g body (ys.map k) env h = .rt x h
  | [],env,_,hb,_ => by simp at hb
  | y :: ys,env,hp,hb,hs => by
    obtain ⟨e1,q1,q2,q3⟩ := hs y (by simp) env hp
    rw [List.map_cons,q35,if_pos hw,q1]
    simp only [Re.to]
    cases hg : good y with
    | false => rw [q3 hg]
    | true =>
      obtain ⟨e2,r1,r2⟩ := q2 hg
      rw [r1]
      exact q7d hw ys e2 r2 (by simpa [hg] using hb) fun y hy => hs y (List.mem_cons_of_mem _ hy)
section
variable {h : AH}
theorem ixS {z : Str} {i : Int} (hz : z.length <= 100000) (h0 : 0 <= i) (h1 : i < z.length) : ∃ c,c ∈ z.cps.toList /\ fIxS (.str z) (.int i) h = .ok (.str ⟨#[c]⟩) h := by
  obtain ⟨n,rfl⟩ := Int.eq_ofNat_of_zero_le h0
  have hn : n < z.cps.toList.length := by rw [Array.length_toList]; exact Int.ofNat_lt.mp h1
  refine ⟨z.cps.toList[n],List.getElem_mem hn,?_⟩
  have := q38 (List.getElem?_eq_getElem hn)
  simp only [fIxS,this]
  rw [if_pos (Nat.le_trans hz (by decide))]
theorem qav (x y : Str) : cpOk (x ++ y) = (cpOk x && cpOk y) := by
  unfold cpOk
  have : (x ++ y).cps.toList = x.cps.toList ++ y.cps.toList := Array.toList_append ..
  rw [this,List.all_append]
end
end PM
namespace K13
open PySem L2 Z PM
def flT : Nat -> List Nat
  | 0 => [0,1]
  | 1 => [0,1,2,3]
  | 2 => [0,1,4]
  | 3 => [0,1,5,6,7,8,9]
  | 4 => [0,1,5]
  | 8 => [18,19,20,21]
  | _ => []
def wdT : Nat -> Option Str
  | 21 => some "name"
  | 22 => some "taken"
  | 23 => some "unknown"
  | 24 => some "number"
  | 26 => some "room"
  | _ => none
def sbT_q0k : Nat -> Option Bool
  | 21 => some false
  | 22 => some false
  | 23 => some false
  | 24 => some false
  | 26 => some false
  | _ => none
def sbT_q02 : Nat -> Option Bool
  | 21 => some true
  | 22 => some false
  | 23 => some false
  | 24 => some false
  | 26 => some false
  | _ => none
def sbT_q08 : Nat -> Option Bool
  | 21 => some false
  | 22 => some true
  | 23 => some false
  | 24 => some false
  | 26 => some false
  | _ => none
def sbT_q03 : Nat -> Option Bool
  | 21 => some false
  | 22 => some false
  | 23 => some true
  | 24 => some false
  | 26 => some false
  | _ => none
def sbT_qx : Nat -> Option Bool
  | 21 => some false
  | 22 => some false
  | 23 => some false
  | 24 => some true
  | 26 => some false
  | _ => none
def sbT_q0s : Nat -> Option Bool
  | 21 => some false
  | 22 => some false
  | 23 => some false
  | 24 => some false
  | 26 => some false
  | _ => none
def sbT_qy : Nat -> Option Bool
  | 21 => some false
  | 22 => some false
  | 23 => some false
  | 24 => some false
  | 26 => some true
  | _ => none
def sbT_q0n : Nat -> Option Bool
  | 21 => some false
  | 22 => some false
  | 23 => some false
  | 24 => some false
  | 26 => some false
  | _ => none
def sbT_q0l : Nat -> Option Bool
  | 21 => some false
  | 22 => some false
  | 23 => some false
  | 24 => some false
  | 26 => some false
  | _ => none
def q42 : Nat -> Option Bool
  | 21 => some true
  | 22 => some true
  | 23 => some true
  | 24 => some true
  | 26 => some true
  | _ => none
def b_q0c : AS :=
 (sSeq (sAsg (aLst (q12 (aTup (q12 (aK (.str "line")) (q12 (a1 (fIsX sbT_q0k) (aVar 0)) aNil))) (q12 (aTup (q12 (aK (.str "name")) (q12 (a1 (fIsX sbT_q02) (aVar 0)) aNil))) (q12 (aTup (q12 (aK (.str "taken")) (q12 (a1 (fIsX sbT_q08) (aVar 0)) aNil))) aNil)))) (gN 1))
 (sSeq (sAsg (a2 fCat (aVar 1) (aLst (q12 (aTup (q12 (aK (.str "unknown")) (q12 (a1 (fIsX sbT_q03) (aVar 0)) aNil))) (q12 (aTup (q12 (aK (.str "number")) (q12 (a1 (fIsX sbT_qx) (aVar 0)) aNil))) aNil)))) (gN 1))
 (sSeq (sAsg (a2 fCat (aVar 1) (aLst (q12 (aTup (q12 (aK (.str "gone")) (q12 (a1 (fIsX sbT_q0s) (aVar 0)) aNil))) (q12 (aTup (q12 (aK (.str "room")) (q12 (a1 (fIsX sbT_qy) (aVar 0)) aNil))) aNil)))) (gN 1))
 (sSeq (sAsg (a2 fCat (aVar 1) (aLst (q12 (aTup (q12 (aK (.str "mouldy")) (q12 (a1 (fIsX sbT_q0n) (aVar 0)) aNil))) (q12 (aTup (q12 (aK (.str "much")) (q12 (a1 (fIsX sbT_q0l) (aVar 0)) aNil))) aNil)))) (gN 1))
 (sSeq (sAsg (a2 fCat (aVar 1) (aLst (q12 (aTup (q12 (aK (.str "stray")) (q12 (qdy (a1 (fIsX q42) (aVar 0))) aNil))) aNil))) (gN 1))
 (sRet (aMtS fJoin (aK (.str "")) (q12 (aLc 2 [] (iLst (aVar 1)) (gT 2 (q1u (gN 0) (q1u (gN 1) q3m))) (aB (aVar 1)) (aVar 0)) aNil))))))))
def m_q0c : AF := fnZ 2 b_q0c
def b_q05 : AS :=
 (sSeq (sIf (aB (a2 fEq (a2 fMod (aVar 1) (aK (.int 8))) (aK (.int 7))))
 (sRet (a2 fIx (aLst (q12 (aK (.str "")) (q12 (aK (.str "abcdefghijklm")) (q12 (aK (.str "Abc")) (q12 (aK (.str "a-b")) (q12 (aK (.str "ab ")) (q12 (aK (.str "k/1")) aNil))))))) (a2 fMod (a2 fDiv (aVar 1) (aK (.int 8))) (aK (.int 6)))))
 q1p)
 (sSeq (sAsg (a2 fIxS (aK (.str "0123456789klmnopqrstuvwxyz")) (a2 fMod (a2 fDiv (aVar 1) (aK (.int 8))) (aK (.int 26)))) (gN 2))
 (sSeq (sIf (aB (a2 fEq (a2 fMod (a2 fDiv (aVar 1) (aK (.int 208))) (aK (.int 3))) (aK (.int 2))))
 (sAsg (a2 q8r (aVar 2) (a2 fIxS (aK (.str "0x")) (a2 fMod (a2 fDiv (aVar 1) (aK (.int 624))) (aK (.int 2))))) (gN 2))
 q1p)
 (sRet (aC m_q04 (q12 (aVar 0) (q12 (aVar 2) aNil)))))))
def m_q05 : AF := fnZ 3 b_q05
def b_q0h : AS :=
 (sSeq (sAsg (a2 fIx (aLst (q12 (a2 fAdd (aK (.int 1)) (a2 fMod (a2 fDiv (aVar 0) (aK (.int 12))) (aK (.int 60)))) (q12 (aK (.int 60)) (q12 (aK (.int 61)) (q12 (aK (.int 1)) aNil))))) (a2 fMod (a2 fDiv (aVar 0) (aK (.int 3))) (aK (.int 4)))) (gN 1))
 (sSeq (sIf (aB (a2 fEq (a2 fMod (aVar 0) (aK (.int 3))) (aK (.int 0))))
 (sRet (aTup (q12 (a2 fAdd (aK (.int 1)) (a2 fMod (a2 fDiv (aVar 0) (aK (.int 720))) (aVar 1))) (q12 (aVar 1) aNil))))
 q1p)
 (sRet (a2 fIx (aLst (q12 (aTup (q12 (a2 fMod (a2 fDiv (aVar 0) (aK (.int 12))) (aK (.int 3))) (q12 (aVar 1) aNil))) (q12 (aTup (q12 (a2 fSub (a2 fAdd (aVar 1) (aK (.int 1))) (a2 fMod (a2 fDiv (aVar 0) (aK (.int 12))) (aK (.int 2)))) (q12 (aVar 1) aNil))) aNil))) (a2 fSub (a2 fMod (aVar 0) (aK (.int 3))) (aK (.int 1)))))))
def m_q0h : AF := fnZ 2 b_q0h
def b_q0b : AS :=
 (sSeq (sAsg (aC m_q05 (q12 (aVar 0) (q12 (a2 fDiv (aVar 1) (aK (.int 6))) aNil))) (gN 3))
 (sSeq (sAsg (a2 fMod (aVar 1) (aK (.int 6))) (gN 4))
 (sSeq (sAsg (aC m_q04 (q12 (aVar 0) (q12 (a2 fIxS (aK (.str "xyz0q")) (a2 fMod (aVar 2) (aK (.int 5)))) aNil))) (gN 5))
 (sSeq (sIf (aB (a2 fEq (aVar 4) (aK (.int 0))))
 (sRet (aTup (q12 (aK (.str "room")) (q12 (aC m_q04 (q12 (aVar 0) (q12 (a2 fIxS (aK (.str "xyz0")) (a2 fMod (a2 fDiv (aVar 1) (aK (.int 6))) (aK (.int 4)))) aNil))) (q12 (a2 fSub (a2 fMod (aVar 2) (aK (.int 103))) (aK (.int 1))) (q12 (a2 fSub (a2 fMod (a2 fDiv (aVar 2) (aK (.int 103))) (aK (.int 43))) (aK (.int 1))) aNil))))))
 q1p)
 (sSeq (sIf (aB (a2 fEq (aVar 4) (aK (.int 1))))
 (sRet (aTup (q12 (aK (.str "shelf")) (q12 (aVar 3) (q12 (aVar 5) aNil)))))
 q1p)
 (sSeq (sIf (aB (a2 fGt (aVar 4) (aK (.int 2))))
 (sRet (aTup (q12 (a2 fIx (aLst (q12 (aK (.str "farm")) (q12 (aK (.str "brine")) (q12 (aK (.str "cloth")) aNil)))) (a2 fSub (aVar 4) (aK (.int 3)))) (q12 (aVar 3) aNil))))
 q1p)
 (sSeq (sAsg (aLcC 1 [0] (q5s (a2 fIx (aLst (q12 (aK (.str "xyz")) (q12 (aK (.str "zxy")) (q12 (aK (.str "yxz")) (q12 (aK (.str "xyx")) (q12 (aK (.str "yzz")) (q12 (aK (.str "zzx")) aNil))))))) (a2 fMod (a2 fDiv (aVar 2) (aK (.int 5))) (aK (.int 6))))) (gN 0) aYes (aC m_q04 (q12 (aVar 1) (q12 (aVar 0) aNil)))) (gN 6))
 (sSeq (sIf (aB (a2 fGt (a2 fMod (aVar 2) (aK (.int 5))) (aK (.int 2))))
 (sAsg (aVar 5) (qac (aVar 6) (a2 fMod (a2 fDiv (aVar 2) (aK (.int 30))) (aK (.int 3)))))
 q1p)
 (sSeq (sAsg (q7j (q12 (aTup (q12 (aK (.int 1)) (q12 (aK (.int 60)) aNil))) (q12 (aTup (q12 (aK (.int 2)) (q12 (aK (.int 3)) aNil))) (q12 (aTup (q12 (aK (.int 1)) (q12 (a2 fAdd (aK (.int 1)) (a2 fMod (a2 fDiv (aVar 2) (aK (.int 30))) (aK (.int 60)))) aNil))) (q12 (aTup (q12 (aK (.int 4)) (q12 (aK (.int 4)) aNil))) (q12 (aTup (q12 (aK (.int 1)) (q12 (aK (.int 1)) aNil))) aNil)))))) (gN 7))
 (sSeq (sAsg (aC m_q0h (q12 (a2 fDiv (aVar 2) (aK (.int 450))) aNil)) (qac (aVar 7) (a2 fMod (a2 fDiv (aVar 2) (aK (.int 90))) (aK (.int 5)))))
 (sSeq (sAsg (aLc 1 [7,6] (qcw (a2 fAdd (aK (.int 1)) (a2 fMod (a2 fDiv (aVar 2) (aK (.int 30))) (aK (.int 3))))) (gN 0) aYes (a2 q8u (aTup (q12 (a2 fIx (aVar 2) (aVar 0)) aNil)) (a2 fIx (aVar 1) (a2 fAdd (aK (.int 2)) (aVar 0))))) (gN 8))
 (sRet (aTup (q12 (aK (.str "sort")) (q12 (aVar 3) (q12 (a2 fEq (a2 fMod (aVar 2) (aK (.int 2))) (aK (.int 1))) (q12 (a2 fIx (aVar 7) (aK (.int 0))) (q12 (a2 fIx (aVar 7) (aK (.int 1))) (q12 (aVar 8) aNil)))))))))))))))))))
def m_q0b : AF := q8f (fnZ 9 b_q0b)
def b_q00 : AS :=
 (sSeq (sIf (aB (a2 fEq (a2 fIx (aVar 0) (aK (.int 0))) (aK (.str "room"))))
 (sRet (aOrV (a2 fLt (a2 fIx (aVar 0) (aK (.int 2))) (aK (.int 0))) (aOrV (a2 fGt (a2 fIx (aVar 0) (aK (.int 2))) (aK (.int 100))) (aOrV (a2 fLt (a2 fIx (aVar 0) (aK (.int 3))) (aK (.int 0))) (a2 fGt (a2 fIx (aVar 0) (aK (.int 3))) (aK (.int 40)))))))
 q1p)
 (sSeq (sIf (aB (a2 fEq (a2 fIx (aVar 0) (aK (.int 0))) (aK (.str "sort"))))
 (sFor (iLst (a2 fCat (aLst (q12 (a2 fIx (aVar 0) (aK (.int 3))) (q12 (a2 fIx (aVar 0) (aK (.int 4))) aNil))) (aLc 1 [] (iLst (a2 fIx (aVar 0) (aK (.int 5)))) (gN 0) aYes (aTup (q12 (a2 fIx (aVar 0) (aK (.int 1))) (q12 (a2 fIx (aVar 0) (aK (.int 2))) aNil)))))) (gT 2 (q1u (gN 1) (q1u (gN 2) q3m)))
 (sIf (aOr (aB (a2 fLt (aVar 1) (aK (.int 1)))) (aOr (aB (a2 fLt (aVar 2) (aVar 1))) (aB (a2 fGt (aVar 2) (aK (.int 60))))))
 (sRet (aK (.bl true)))
 q1p))
 q1p)
 (sRet (aK (.bl false)))))
def m_q00 : AF := fnZ 3 b_q00
def b_q0g : AS :=
 (sSeq (sIf (aOr (aB (a2 fEq (a2 fIx (aVar 1) (aK (.int 1))) (aK (.str "")))) (aB (a2 fGt (aC fLen (q12 (a2 fIx (aVar 1) (aK (.int 1))) aNil)) (aK (.int 12)))))
 (sRet (aK (.str "name")))
 q1p)
 (sSeq (sFor (q5s (a2 fIx (aVar 1) (aK (.int 1)))) (gN 2)
 (sIf (aB (a2 q48 (aVar 2) (aK (.str "abcdefghijklmnopqrstuvwxyz0123456789"))))
 (sRet (aK (.str "name")))
 q1p))
 (sSeq (sIf (aB (a2 fDIn (a2 fIx (aVar 1) (aK (.int 1))) (aVar 0)))
 (sRet (aK (.str "taken")))
 q1p)
 (sSeq (sAsg (aLst aNil) (gN 3))
 (sSeq (sIf (aB (a2 fEq (a2 fIx (aVar 1) (aK (.int 0))) (aK (.str "shelf"))))
 (sAsg (aLst (q12 (a2 fIx (aVar 1) (aK (.int 2))) aNil)) (gN 3))
 q1p)
 (sSeq (sIf (aB (a2 fEq (a2 fIx (aVar 1) (aK (.int 0))) (aK (.str "sort"))))
 (sAsg (aLc 1 [] (iLst (a2 fIx (aVar 1) (aK (.int 5)))) (gN 0) aYes (a2 fIx (aVar 0) (aK (.int 0)))) (gN 3))
 q1p)
 (sSeq (sFor (iLst (aVar 3)) (gN 4)
 (sIf (aB (a2 fNe (q80 (aVar 0) (aVar 4)) (aK (.str "room"))))
 (sRet (aK (.str "unknown")))
 q1p))
 (sSeq (sIf (aB (aC m_q00 (q12 (aVar 1) aNil)))
 (sRet (aK (.str "number")))
 q1p)
 (sSeq (sIf (aB (a2 fLt (a1 q67 (aVar 3)) (aC fLen (q12 (aVar 3) aNil))))
 (sRet (aK (.str "room")))
 q1p)
 (sRet (aK (.str ""))))))))))))
def m_q0g : AF := fnZ 5 b_q0g
def b_qg : AS :=
 (sSeq (q2t (q2u 8 m_qa (aVar 0) (q12 (aVar 1) aNil)))
 (sSeq (sAsg (aLcX 3 [0] (iLst (aVar 5)) (gT 3 (q1u (gN 0) (q1u (gN 1) (q1u (gN 2) q3m)))) aYes (aFld 1 (q2u 8 m_qq (aVar 3) (q12 (aVar 0) (q12 (aK (.str "room")) aNil))))) (gN 6))
 (sSeq (sFor (iLst (a2 fCat (aLst (q12 (aVar 3) (q12 (aVar 4) aNil))) (aLc 3 [] (iLst (aVar 5)) (gT 3 (q1u (gN 0) (q1u (gN 1) (q1u (gN 2) q3m)))) aYes (aTup (q12 (aVar 1) (q12 (aVar 2) aNil)))))) (gN 7)
 (q2t (aC m_q0d (q12 (a2 fIx (aVar 7) (aK (.int 0))) (q12 (a2 fIx (aVar 7) (aK (.int 1))) aNil)))))
 (sSeq (sIf (aB (a2 fLt (a1 q67 (aVar 6)) (aC fLen (q12 (aVar 6) aNil))))
 (q5e 26 mNil)
 q1p)
 (q2t (q2u 8 m_qf (aVar 0) (q12 (q51 3 m_qu (q12 (aVar 1) (q12 (aVar 2) (q12 (aVar 3) (q12 (aVar 4) (q12 (aVar 5) aNil)))))) aNil)))))))
def m_qg : AF := fnZ 8 b_qg
def b_q06 : AS :=
 (sSeq (sIf (aB (a2 fEq (a2 fIx (aVar 1) (aK (.int 0))) (aK (.str "room"))))
 (sRet (q2u 8 m_qm (aVar 0) (q12 (a2 fIx (aVar 1) (aK (.int 1))) (q12 (a2 fIx (aVar 1) (aK (.int 2))) (q12 (a2 fIx (aVar 1) (aK (.int 3))) aNil)))))
 q1p)
 (sSeq (sIf (aB (a2 fEq (a2 fIx (aVar 1) (aK (.int 0))) (aK (.str "shelf"))))
 (sRet (q2u 8 m_qh (aVar 0) (q12 (a2 fIx (aVar 1) (aK (.int 1))) (q12 (a2 fIx (aVar 1) (aK (.int 2))) aNil))))
 q1p)
 (sSeq (sIf (aB (a2 fEq (a2 fIx (aVar 1) (aK (.int 0))) (aK (.str "sort"))))
 (sRet (q2u 8 m_qg (aVar 0) (q12 (a2 fIx (aVar 1) (aK (.int 1))) (q12 (a2 fIx (aVar 1) (aK (.int 2))) (q12 (a2 fIx (aVar 1) (aK (.int 3))) (q12 (a2 fIx (aVar 1) (aK (.int 4))) (q12 (aC qdh (q12 (a2 fIx (aVar 1) (aK (.int 5))) aNil)) aNil)))))))
 q1p)
 (sSeq (sIf (aB (a2 fEq (a2 fIx (aVar 1) (aK (.int 0))) (aK (.str "farm"))))
 (sRet (q2u 8 m_qp (aVar 0) (q12 (a2 fIx (aVar 1) (aK (.int 1))) aNil)))
 q1p)
 (sSeq (sIf (aB (a2 fEq (a2 fIx (aVar 1) (aK (.int 0))) (aK (.str "brine"))))
 (sRet (q2u 8 m_qi (aVar 0) (q12 (a2 fIx (aVar 1) (aK (.int 1))) aNil)))
 q1p)
 (sRet (q2u 8 m_qj (aVar 0) (q12 (a2 fIx (aVar 1) (aK (.int 1))) aNil))))))))
def m_q06 : AF := fnZ 2 b_q06
def b_q07 : AS :=
 (sSeq (sAsg (aK (.str "")) (gN 2))
 (sSeq (sAsg (aK .non) (gN 3))
 (sSeq (qde 3 4 2 wdT (qf8 m_q06 (q12 (aVar 0) (q12 (aVar 1) aNil))))
 (sSeq (sIf (aB (a1 fNotN (aVar 3)))
 (sRet (aK (.str "answered")))
 q1p)
 (sRet (aVar 2))))))
def m_q07 : AF := fnZ 5 b_q07
def q8v : AS :=
 (sSeq (sAsg (q51 8 m_qr aNil) (gN 1))
 (sSeq (sAsg qaf (gN 2))
 (sSeq (sAsg (q7j (q12 (aTup (q12 (aK (.str "room")) (q12 (aC m_q04 (q12 (aVar 0) (q12 (aK (.str "x")) aNil))) (q12 (aK (.int 100)) (q12 (aK (.int 40)) aNil))))) (q12 (aTup (q12 (aK (.str "room")) (q12 (aC m_q04 (q12 (aVar 0) (q12 (aK (.str "y")) aNil))) (q12 (aK (.int 0)) (q12 (aK (.int 0)) aNil))))) aNil))) (gN 3))
 (sSeq (sIf (aB (a2 fLt (a2 fMod (a2 fDiv (aC m_q0e (q12 (aVar 0) (q12 (aK (.int 0)) aNil))) (aK (.int 12))) (aK (.int 3))) (aK (.int 2))))
 (q2t (aMtL q69 (aVar 3) (q12 (aTup (q12 (aK (.str "room")) (q12 (aC m_q04 (q12 (aVar 0) (q12 (aK (.str "z")) aNil))) (q12 (aK (.int 55)) (q12 (aK (.int 12)) aNil))))) aNil)))
 q1p)
 (sSeq (sFor (q5x (aK (.int 2)) (a2 fSub (aC fLen (q12 (aVar 0) aNil)) (aK (.int 1))) (aK (.int 2))) (gN 4)
 (q2t (aMtL q69 (aVar 3) (q12 (aC m_q0b (q12 (aVar 0) (q12 (a2 fIx (aVar 0) (aVar 4)) (q12 (a2 fIx (aVar 0) (a2 fAdd (aVar 4) (aK (.int 1)))) aNil)))) aNil))))
 (sSeq (sFor (iLst (aVar 3)) (gN 5)
 (sSeq (sAsg (aC m_q0g (q12 (aVar 2) (q12 (aVar 5) aNil))) (gN 6))
 (sSeq (sIf (aB (a2 fNe (aC m_q07 (q12 (aVar 1) (q12 (aVar 5) aNil))) (aVar 6)))
 (sRet (aK (.bl false)))
 q1p)
 (sIf (aB (a2 fEq (aVar 6) (aK (.str ""))))
 (q8o (aVar 2) (a2 fIx (aVar 5) (aK (.int 1))) (a2 fIx (aVar 5) (aK (.int 0))))
 q1p))))
 (sSeq (sIf (aOr (aB (a2 qbb (q2u 8 m_qz (aVar 1) aNil) (aLst aNil))) (aOr (aNot (aB (aC m_q0f (q12 (aFld 18 (aVar 1)) aNil)))) (aB (a2 fNe (aFld 18 (aVar 1)) (aK (.int 0))))))
 (sRet (aK (.bl false)))
 q1p)
 (sSeq (sFor (q8p (aVar 2)) (gN 7)
 (sIf (aB (a2 fNe (aC m_q07 (q12 (aVar 1) (q12 (aTup (q12 (aK (.str "farm")) (q12 (aVar 7) aNil))) aNil))) (aK (.str "taken"))))
 (sRet (aK (.bl false)))
 q1p))
 (sRet (a2 fEq (aC m_q07 (q12 (aVar 1) (q12 (aTup (q12 (aK (.str "cloth")) (q12 (aK (.str "twelvesigns1")) aNil))) aNil))) (aK (.str ""))))))))))))
def m_law : AF := fnZ 8 q8v
end K13
namespace K13
open PySem L2 Z PM
theorem word_true : ∀ c x,wdT c = some x -> ∃ h,m_q0c [.xc c] [] = .ok (.str x) h := by
  intro c x h
  unfold wdT at h
  split at h <;> first | (cases h; exact ⟨[],rfl⟩) | cases h
def abc : Str := "abcdefghijk"
def bN (ns : List Int) (m : Str) : Nat := min (cz ns 0 % 12).toNat (12 - m.length)
def bS (b : Nat) : Str := Txt.slice abc none (some (b : Int))
def sN (ns : List Int) (b : Nat) : Nat := (cz ns 1 % (((bS b).length : Int) + 1)).toNat
def nmP (b s : Nat) (m : Str) : Str := Txt.slice (bS b) none (some (s : Int)) ++ m ++ Txt.slice (bS b) (some (s : Int)) none
def nmOf (ns : List Int) (m : Str) : Str := nmP (bN ns m) (sN ns (bN ns m)) m
def Vn (x : Str) : Prop := x.length <= 100 /\ cpOk x = true /\ (97 ∈ x.cps.toList \/ x.length <= 11)
theorem qay : ∀ b < 12,(bS b).length = b := by decide +kernel
def chk (b s : Nat) : Bool := cpOk (Txt.slice (bS b) none (some (s : Int))) && cpOk (Txt.slice (bS b) (some (s : Int)) none) && (decide (b < s) || decide (b = 0) || (Txt.slice (bS b) none (some (s : Int))).cps.toList.contains 97 || (Txt.slice (bS b) (some (s : Int)) none).cps.toList.contains 97)
theorem qim : ((List.range 12).all fun b => (List.range 12).all fun s => chk b s) = true := by decide +kernel
theorem qff {b s : Nat} (hb : b < 12) (hs : s < 12) : chk b s = true := by
  have := List.all_eq_true.mp qim b (List.mem_range.mpr hb)
  exact List.all_eq_true.mp this s (List.mem_range.mpr hs)
theorem bS_cp (b : Nat) (hb : b < 12) (s : Nat) (hs : s < 12) : cpOk (Txt.slice (bS b) none (some (s : Int))) = true /\ cpOk (Txt.slice (bS b) (some (s : Int)) none) = true := by
  have := qff hb hs
  unfold chk at this
  rw [Bool.and_eq_true,Bool.and_eq_true] at this
  exact this.1
theorem bS_a (b : Nat) (hb : b < 12) (s : Nat) (hs : s < 12) (h1 : 1 <= b) (h2 : s <= b) : 97 ∈ (Txt.slice (bS b) none (some (s : Int))).cps.toList \/ 97 ∈ (Txt.slice (bS b) (some (s : Int)) none).cps.toList := by
  have := qff hb hs
  unfold chk at this
  rw [Bool.and_eq_true] at this
  have := this.2
  rw [decide_eq_false (show ¬ b < s by omega),decide_eq_false (show ¬ b = 0 by omega),Bool.false_or,Bool.false_or,Bool.or_eq_true] at this
  simpa using this
theorem qc9 (x y : Str) : (x ++ y).cps.toList = x.cps.toList ++ y.cps.toList := Array.toList_append ..
theorem nmP_vn {b s : Nat} {m : Str} (hb : b < 12) (hs : s <= b) (hm : m.length <= 2) (hc : cpOk m = true) : Vn (nmP b s m) := by
  have l0 := qay b hb
  have l1 := Txt.slice_le (bS b) none (some (s : Int))
  have l2 := Txt.slice_le (bS b) (some (s : Int)) none
  obtain ⟨c1,c2⟩ := bS_cp b hb s (by omega)
  unfold nmP
  refine ⟨by rw [q2m,q2m]; omega,by rw [qav,qav,c1,c2,hc]; rfl,?_⟩
  by_cases h1 : 1 <= b
  . left
    rw [qc9,qc9]
    rcases bS_a b hb s (by omega) h1 hs with z | z <;> simp [z]
  . right; rw [q2m,q2m]; omega
theorem qdp (ns : List Int) (m : Str) : bN ns m < 12 := by
  unfold bN
  have := Int.emod_lt_of_pos (cz ns 0) (show (0 : Int) < 12 by decide)
  have := Int.emod_nonneg (cz ns 0) (show (12 : Int) ≠ 0 by decide)
  omega
theorem sN_le (ns : List Int) {b : Nat} (hb : b < 12) : sN ns b <= b := by
  unfold sN
  rw [qay b hb]
  have := Int.emod_lt_of_pos (cz ns 1) (show (0 : Int) < (b : Int) + 1 by omega)
  have := Int.emod_nonneg (cz ns 1) (show ((b : Int) + 1) ≠ 0 by omega)
  omega
theorem q5q (ns : List Int) {m : Str} (hm : m.length <= 2) (hc : cpOk m = true) : Vn (nmOf ns m) := nmP_vn (qdp ns m) (sN_le ns (qdp ns m)) hm hc
theorem q36 (ns : List Int) {m : Str} (h : AH) (hm : m.length <= 12) : m_q04 [.kst (ns.map AV.int), .str m] h = .ok (.str (nmOf ns m)) h := by
  have a0 := qdq ns 0 h
  have a1 := qdq ns 1 h
  have e0 := Int.emod_nonneg (cz ns 0) (show (12 : Int) ≠ 0 by decide)
  have e1 : (if (12 - (m.length : Int)) < cz ns 0 % 12 then (12 - (m.length : Int)) else cz ns 0 % 12) = ((bN ns m : Nat) : Int) := by
    unfold bN
    split <;> omega
  have hb := qdp ns m
  have l0 := qay _ hb
  have hz : (1000 : Nat) <= sizeLine := by decide
  have e2 := Int.emod_nonneg (cz ns 1) (show (((bS (bN ns m)).length : Int) + 1) ≠ 0 by omega)
  have e3 : cz ns 1 % (((bS (bN ns m)).length : Int) + 1) = ((sN ns (bN ns m) : Nat) : Int) := by unfold sN; omega
  have l1 := Txt.slice_le (bS (bN ns m)) none (some ((sN ns (bN ns m) : Nat) : Int))
  have l2 := Txt.slice_le (bS (bN ns m)) (some ((sN ns (bN ns m) : Nat) : Int)) none
  have hA : (("abcdefghijk" : Str)).length <= sizeLine := by decide
  have hml : m.length <= sizeLine := by omega
  have hbl : (bS (bN ns m)).length <= sizeLine := by omega
  simp only [Int.natCast_zero,Int.natCast_one,Int.ofNat_zero,Int.ofNat_one] at a0 a1
  have ed : ∀ b : Nat,Txt.slice ("abcdefghijk" : Str) none (some (b : Int)) = bS b := fun _ => rfl
  have hne : ¬ (((bS (bN ns m)).length : Int) + 1 = 0) := by omega
  have k1 : (Txt.slice (bS (bN ns m)) none (some ((sN ns (bN ns m) : Nat) : Int))).length + m.length <= sizeLine := by omega
  have k2 : (Txt.slice (bS (bN ns m)) none (some ((sN ns (bN ns m) : Nat) : Int)) ++ m).length + (Txt.slice (bS (bN ns m)) (some ((sN ns (bN ns m) : Nat) : Int)) none).length <= sizeLine := by rw [q2m]; omega
  simp [m_q04,b_q04,a0,a1,hA,hml,e1,ed,hbl,hne,e3,k1,k2,nmOf,nmP]
end K13
namespace K13
open PySem L2 Z PM
inductive Tg where
  | room (n : Str) (x y : Int)
  | shelf (n r : Str)
  | plain (kd n : Str)
  | sort (n : Str) (m : Bool) (t w : Int × Int) (st : List (Str × Int × Int))
def p2 (z : Int × Int) : AV := .tup [.int z.1, .int z.2]
def Tg.av : Tg -> AV
  | .room n x y => .tup [.str "room", .str n, .int x, .int y]
  | .shelf n r => .tup [.str "shelf", .str n, .str r]
  | .plain kd n => .tup [.str kd, .str n]
  | .sort n m t w st => .tup [.str "sort", .str n, .bl m,p2 t,p2 w, .lst (st.map rt3)]
def I3 (i : Int) : Prop := -1000 <= i /\ i <= 1000
def P3 (z : Int × Int) : Prop := I3 z.1 /\ I3 z.2
def Vd : Tg -> Prop
  | .room n x y => Vn n /\ I3 x /\ I3 y
  | .shelf n r => Vn n /\ Vn r
  | .plain kd n => (kd = "farm" \/ kd = "brine" \/ kd = "cloth") /\ Vn n
  | .sort n m t w st => Vn n /\ P3 t /\ P3 w /\ st.length <= 3 /\ ∀ z ∈ st,Vn z.1 /\ P3 z.2
theorem q87 : ∀ (n : Nat) (st : List (Str × Int × Int)),q2g n (st.map rt3) = true
  | n,[] => by rw [List.map_nil,q2g]
  | n,z :: st => by rw [List.map_cons,q2g,q87 n st]; simp [rt3,closed,q2g]
theorem qeo (n : Nat) (t : Tg) : closed n t.av = true := by
  cases t with
  | sort nm m t w st => simp [Tg.av,closed,q2g,p2,q87]
  | _ => simp [Tg.av,closed,q2g]
theorem ixM {α : Type} (k : α -> AV) {xs : List α} {i : Int} (h0 : 0 <= i) (h1 : i < xs.length) : ∃ x,x ∈ xs /\ atI (xs.map k) i = some (k x) := by
  obtain ⟨n,rfl⟩ := Int.eq_ofNat_of_zero_le h0
  have hn : n < xs.length := Int.ofNat_lt.mp h1
  exact ⟨xs[n],List.getElem_mem hn,q38 (by rw [List.getElem?_map,List.getElem?_eq_getElem hn]; rfl)⟩
theorem gap_dr (c : Int) (h : AH) : ∃ z,P3 z /\ m_q0h [.int c] h = .ok (p2 z) h := by
  have l1 := Int.emod_nonneg (c / 12) (show (60 : Int) ≠ 0 by decide)
  have l2 := Int.emod_lt_of_pos (c / 12) (show (0 : Int) < 60 by decide)
  obtain ⟨v,hv,e1⟩ := ixM AV.int (xs := [1 + c / 12 % 60,60,61,1]) (i := c / 3 % 4) (Int.emod_nonneg _ (by decide)) (Int.emod_lt_of_pos _ (by decide))
  have v1 : 1 <= v := by simp at hv; omega
  have v2 : v <= 61 := by simp at hv; omega
  have e1 : atI [.int (1 + c / 12 % 60), .int 60, .int 61, .int 1] (c / 3 % 4) = some (AV.int v) := e1
  by_cases h3 : c % 3 = 0
  . have l5 := Int.emod_nonneg (c / 720) (show v ≠ 0 by omega)
    have l6 := Int.emod_lt_of_pos (c / 720) (show 0 < v by omega)
    refine ⟨(1 + c / 720 % v,v),⟨⟨by show (-1000 : Int) <= 1 + c / 720 % v; omega,by show 1 + c / 720 % v <= (1000 : Int); omega⟩,⟨by show (-1000 : Int) <= v; omega,by show v <= (1000 : Int); omega⟩⟩,?_⟩
    simp [m_q0h,b_q0h,e1,h3,show 0 < v by omega,p2]
  . have l3 := Int.emod_nonneg c (show (3 : Int) ≠ 0 by decide)
    have l4 := Int.emod_lt_of_pos c (show (0 : Int) < 3 by decide)
    have l5 := Int.emod_nonneg (c / 12) (show (3 : Int) ≠ 0 by decide)
    have l6 := Int.emod_lt_of_pos (c / 12) (show (0 : Int) < 3 by decide)
    have l7 := Int.emod_nonneg (c / 12) (show (2 : Int) ≠ 0 by decide)
    have l8 := Int.emod_lt_of_pos (c / 12) (show (0 : Int) < 2 by decide)
    obtain ⟨z,hz,e2⟩ := ixM p2 (xs := [(c / 12 % 3,v),(v + 1 - c / 12 % 2,v)]) (i := c % 3 - 1) (by omega) (by show c % 3 - 1 < (2 : Int); omega)
    have e2 : atI [AV.tup [.int (c / 12 % 3), .int v], .tup [.int (v + 1 - c / 12 % 2), .int v]] (c % 3 - 1) = some (p2 z) := e2
    refine ⟨z,?_,?_⟩
    . simp at hz
      rcases hz with rfl | rfl
      . exact ⟨⟨by show (-1000 : Int) <= c / 12 % 3; omega,by show c / 12 % 3 <= (1000 : Int); omega⟩,⟨by show (-1000 : Int) <= v; omega,by show v <= (1000 : Int); omega⟩⟩
      . exact ⟨⟨by show (-1000 : Int) <= v + 1 - c / 12 % 2; omega,by show v + 1 - c / 12 % 2 <= (1000 : Int); omega⟩,⟨by show (-1000 : Int) <= v; omega,by show v <= (1000 : Int); omega⟩⟩
    . simp [m_q0h,b_q0h,e1,h3,e2]
theorem q3g (c : Nat) : (⟨#[c]⟩ : Str).length = 1 := rfl
theorem q6x {z : Str} {c : Nat} (hz : cpOk z = true) (hc : c ∈ z.cps.toList) : cpOk ⟨#[c]⟩ = true := by
  unfold cpOk at hz ⊢
  rw [List.all_eq_true] at hz
  simpa using hz c hc
theorem qin (ns : List Int) (c : Int) (h : AH) : ∃ x,Vn x /\ m_q05 [.kst (ns.map AV.int), .int c] h = .ok (.str x) h := by
  by_cases h8 : c % 8 = 7
  . obtain ⟨x,hx,e1⟩ := ixM AV.str (xs := ["", "abcdefghijklm", "Abc", "a-b", "ab ", "k/1"]) (i := c / 8 % 6) (Int.emod_nonneg _ (by decide)) (Int.emod_lt_of_pos _ (by decide))
    have e1 : atI [.str "", .str "abcdefghijklm", .str "Abc", .str "a-b", .str "ab ", .str "k/1"] (c / 8 % 6) = some (AV.str x) := e1
    refine ⟨x,?_,by simp [m_q05,b_q05,h8,e1]⟩
    have key : ∀ x ∈ (["", "abcdefghijklm", "Abc", "a-b", "ab ", "k/1"] : List Str),(decide (x.length <= 100) && cpOk x && (x.cps.toList.contains 97 || decide (x.length <= 11))) = true := by decide +kernel
    have := key x hx
    rw [Bool.and_eq_true,Bool.and_eq_true,Bool.or_eq_true] at this
    exact ⟨of_decide_eq_true this.1.1,this.1.2,this.2.elim (fun z => .inl (by simpa using z)) fun z => .inr (of_decide_eq_true z)⟩
  . obtain ⟨c1,hc1,e1⟩ := ixS (h := h) (z := "0123456789klmnopqrstuvwxyz") (i := c / 8 % 26) (by decide) (Int.emod_nonneg _ (by decide)) (Int.emod_lt_of_pos _ (by decide))
    have p1 := q6x (z := "0123456789klmnopqrstuvwxyz") (by decide +kernel) hc1
    by_cases h3 : c / 208 % 3 = 2
    . obtain ⟨c2,hc2,e2⟩ := ixS (h := h) (z := "0x") (i := c / 624 % 2) (by decide) (Int.emod_nonneg _ (by decide)) (Int.emod_lt_of_pos _ (by decide))
      have p2 := q6x (z := "0x") (by decide +kernel) hc2
      have l2 : ((⟨#[c1]⟩ : Str) ++ (⟨#[c2]⟩ : Str)).length = 2 := by rw [q2m,q3g,q3g]
      refine ⟨_,q5q ns (m := (⟨#[c1]⟩ : Str) ++ (⟨#[c2]⟩ : Str)) (by omega) (by rw [qav,p1,p2]; rfl),?_⟩
      have e3 := q36 ns (m := (⟨#[c1]⟩ : Str) ++ (⟨#[c2]⟩ : Str)) h (by omega)
      have lz : (⟨#[c1]⟩ : Str).length + (⟨#[c2]⟩ : Str).length <= sizeLine := by rw [q3g,q3g]; decide
      simp [m_q05,b_q05,h8, -fIxS,e1,h3,e2,e3,lz]
    . refine ⟨_,q5q ns (m := (⟨#[c1]⟩ : Str)) (by rw [q3g]; omega) p1,?_⟩
      have e3 := q36 ns (m := (⟨#[c1]⟩ : Str)) h (by rw [q3g]; omega)
      simp [m_q05,b_q05,h8, -fIxS,e1,h3,e3]
end K13
namespace K13
open PySem L2 Z PM
def Rt (h : AH) (r : SRe) : Prop := ∃ t g,Vd t /\ r = .rt t.av (h ++ g)
theorem Rt.seq {h h1 h2 : AH} {s t : AS} {env env' : AEnv} (e : s env h1 = .nx env' h2) (r : Rt h (t env' h2)) : Rt h (sSeq s t env h1) := by rw [q61 e]; exact r
theorem str3 : ∀ z ∈ (["xyz", "zxy", "yxz", "xyx", "yzz", "zzx"] : List Str),z.cps.toList.length = 3 /\ cpOk z = true /\ z.length <= 3 := by decide +kernel
def rsOf (ns : List Int) (z : Str) : List Str := z.cps.toList.map fun c => nmOf ns ⟨#[c]⟩
theorem qgn (ns : List Int) (c2 : Int) {x3 x4 x5 : Option AV} {y1 : Option AV} (h : AH) : ∃ rs : List Str,rs.length = 3 /\ (∀ r ∈ rs,Vn r) /\
    (sAsg (aLcC 1 [0] (q5s (a2 fIx (aLst (q12 (aK (.str "xyz")) (q12 (aK (.str "zxy")) (q12 (aK (.str "yxz")) (q12 (aK (.str "xyx")) (q12 (aK (.str "yzz")) (q12 (aK (.str "zzx")) aNil))))))) (a2 fMod (a2 fDiv (aVar 2) (aK (.int 5))) (aK (.int 6))))) (gN 0) aYes (aC m_q04 (q12 (aVar 1) (q12 (aVar 0) aNil)))) (gN 6))
      [some (.kst (ns.map AV.int)),y1,some (.int c2),x3,x4,x5,none,none,none] h = .nx [some (.kst (ns.map AV.int)),y1,some (.int c2),x3,x4,x5,some (.ref h.length),none,none] (h ++ [.lst (rs.map AV.str)]) := by
  obtain ⟨z,hz,e1⟩ := ixM AV.str (xs := ["xyz", "zxy", "yxz", "xyx", "yzz", "zzx"]) (i := c2 / 5 % 6) (Int.emod_nonneg _ (by decide)) (Int.emod_lt_of_pos _ (by decide))
  have e1 : atI [.str "xyz", .str "zxy", .str "yxz", .str "xyx", .str "yzz", .str "zzx"] (c2 / 5 % 6) = some (AV.str z) := e1
  obtain ⟨l3,cp,ll⟩ := str3 z hz
  refine ⟨rsOf ns z,by unfold rsOf; rw [List.length_map,l3],?_,?_⟩
  . intro r hr
    unfold rsOf at hr
    obtain ⟨c,hc,rfl⟩ := List.mem_map.mp hr
    exact q5q ns (by rw [q3g]; omega) (q6x cp hc)
  . have key : lcL none (strA z) (gN 0) aYes (aC m_q04 (q12 (aVar 1) (q12 (aVar 0) aNil))) [none,some (.kst (ns.map AV.int))] (strA z) [] h = .ok ([] ++ z.cps.toList.map fun c => AV.str (nmOf ns ⟨#[c]⟩)) h := by
      refine q4i (k := fun c => AV.str ⟨#[c]⟩) q2o z.cps.toList [] fun c hc => ⟨_,rfl,?_⟩
      have e3 := q36 ns (m := (⟨#[c]⟩ : Str)) h (by rw [q3g]; omega)
      simp [e3]
    have hl : (strA z).length <= sizeLine := by
      unfold strA; rw [List.length_map,l3]; decide
    simp [e1,key,hl,bEnv,rsOf,Function.comp_def]
theorem qhx {rs : List Str} {r : Str} {k : Nat} (hl : rs.length = 3) (hr : ∀ r ∈ rs,Vn r) (hv : Vn r) : (rs.set k r).length = 3 /\ ∀ x ∈ rs.set k r,Vn x := by
  refine ⟨by rw [List.length_set]; exact hl,fun x hx => ?_⟩
  rcases List.mem_or_eq_of_mem_set hx with z | z
  . exact hr x z
  . rw [z]; exact hv
theorem qck {n i : Nat} (hi : i < n) : ixN n (i : Int) = some i := by
  simp [ixN,hi]
theorem i3 {i : Int} (h1 : -1000 <= i) (h2 : i <= 1000) : I3 i := ⟨h1,h2⟩
theorem qgc (ns : List Int) (c1 c2 : Int) (h : AH) : ∃ t,Vd t /\ m_q0b [.kst (ns.map AV.int), .int c1, .int c2] h = .ok t.av h := by
  obtain ⟨n,hn,en⟩ := qin ns (c1 / 6) h
  obtain ⟨cc,hcc,ec⟩ := ixS (h := h) (z := "xyz0q") (i := c2 % 5) (by decide) (Int.emod_nonneg _ (by decide)) (Int.emod_lt_of_pos _ (by decide))
  have hr : Vn (nmOf ns ⟨#[cc]⟩) := q5q ns (by rw [q3g]; omega) (q6x (z := "xyz0q") (by decide +kernel) hcc)
  have er := q36 ns (m := (⟨#[cc]⟩ : Str)) h (by rw [q3g]; omega)
  generalize nmOf ns ⟨#[cc]⟩ = rr at hr er
  have k0 := Int.emod_nonneg c1 (show (6 : Int) ≠ 0 by decide)
  have k1 := Int.emod_lt_of_pos c1 (show (0 : Int) < 6 by decide)
  suffices hh : Rt h (b_q0b [some (.kst (ns.map AV.int)),some (.int c1),some (.int c2),none,none,none,none,none,none] h) by
    obtain ⟨t,g,hv,e⟩ := hh
    refine ⟨t,hv,qgt (g := g) ?_ (qeo _ t)⟩
    show SRe.out (b_q0b [some (.kst (ns.map AV.int)),some (.int c1),some (.int c2),none,none,none,none,none,none] h) = _
    rw [e]; rfl
  unfold b_q0b
  refine Rt.seq (env' := [some (.kst (ns.map AV.int)),some (.int c1),some (.int c2),some (.str n),none,none,none,none,none]) (h2 := h) (by simp [en]) ?_
  refine Rt.seq (env' := [some (.kst (ns.map AV.int)),some (.int c1),some (.int c2),some (.str n),some (.int (c1 % 6)),none,none,none,none]) (h2 := h) (by simp) ?_
  refine Rt.seq (env' := [some (.kst (ns.map AV.int)),some (.int c1),some (.int c2),some (.str n),some (.int (c1 % 6)),some (.str rr),none,none,none]) (h2 := h) (by simp [-fIxS,ec,er]) ?_
  by_cases q0 : c1 % 6 = 0
  . obtain ⟨cd,hcd,ed⟩ := ixS (h := h) (z := "xyz0") (i := c1 / 6 % 4) (by decide) (Int.emod_nonneg _ (by decide)) (Int.emod_lt_of_pos _ (by decide))
    have hr2 : Vn (nmOf ns ⟨#[cd]⟩) := q5q ns (by rw [q3g]; omega) (q6x (z := "xyz0") (by decide +kernel) hcd)
    have er2 := q36 ns (m := (⟨#[cd]⟩ : Str)) h (by rw [q3g]; omega)
    have l1 := Int.emod_nonneg c2 (show (103 : Int) ≠ 0 by decide)
    have l2 := Int.emod_lt_of_pos c2 (show (0 : Int) < 103 by decide)
    have l3 := Int.emod_nonneg (c2 / 103) (show (43 : Int) ≠ 0 by decide)
    have l4 := Int.emod_lt_of_pos (c2 / 103) (show (0 : Int) < 43 by decide)
    refine ⟨.room (nmOf ns ⟨#[cd]⟩) (c2 % 103 - 1) (c2 / 103 % 43 - 1),[],⟨hr2,i3 (by omega) (by omega),i3 (by omega) (by omega)⟩,?_⟩
    simp [-fIxS,q0,ed,er2,Tg.av]
  refine Rt.seq (env' := [some (.kst (ns.map AV.int)),some (.int c1),some (.int c2),some (.str n),some (.int (c1 % 6)),some (.str rr),none,none,none]) (h2 := h) (by simp [q0]) ?_
  by_cases q1 : c1 % 6 = 1
  . refine ⟨.shelf n rr,[],⟨hn,hr⟩,?_⟩
    simp [q1,Tg.av]
  refine Rt.seq (env' := [some (.kst (ns.map AV.int)),some (.int c1),some (.int c2),some (.str n),some (.int (c1 % 6)),some (.str rr),none,none,none]) (h2 := h) (by simp [q1]) ?_
  by_cases q2 : 2 < c1 % 6
  . obtain ⟨kd,hkd,ek⟩ := ixM AV.str (xs := ["farm", "brine", "cloth"]) (i := c1 % 6 - 3) (by omega) (by show c1 % 6 - 3 < (3 : Int); omega)
    have ek : atI [.str "farm", .str "brine", .str "cloth"] (c1 % 6 - 3) = some (AV.str kd) := ek
    refine ⟨.plain kd n,[],⟨by simpa using hkd,hn⟩,?_⟩
    simp [q2,ek,Tg.av]
  refine Rt.seq (env' := [some (.kst (ns.map AV.int)),some (.int c1),some (.int c2),some (.str n),some (.int (c1 % 6)),some (.str rr),none,none,none]) (h2 := h) (by simp [q2]) ?_
  obtain ⟨rs,hl,hv,e7⟩ := qgn ns c2 (x3 := some (.str n)) (x4 := some (.int (c1 % 6))) (x5 := some (.str rr)) (y1 := some (.int c1)) h
  refine Rt.seq e7 ?_
  have l1 := Int.emod_nonneg (c2 / 30) (show (3 : Int) ≠ 0 by decide)
  have l2 := Int.emod_lt_of_pos (c2 / 30) (show (0 : Int) < 3 by decide)
  have l5 := Int.emod_nonneg (c2 / 30) (show (60 : Int) ≠ 0 by decide)
  have l6 := Int.emod_lt_of_pos (c2 / 30) (show (0 : Int) < 60 by decide)
  have l3 := Int.emod_nonneg (c2 / 90) (show (5 : Int) ≠ 0 by decide)
  have l4 := Int.emod_lt_of_pos (c2 / 90) (show (0 : Int) < 5 by decide)
  obtain ⟨k,hk⟩ := Int.eq_ofNat_of_zero_le l1
  obtain ⟨j,hj⟩ := Int.eq_ofNat_of_zero_le l3
  have hk3 : k < 3 := by omega
  have hj5 : j < 5 := by omega
  obtain ⟨rs2,hl2,hv2,e8⟩ : ∃ rs2 : List Str,rs2.length = 3 /\ (∀ r ∈ rs2,Vn r) /\ (sIf (aB (a2 fGt (a2 fMod (aVar 2) (aK (.int 5))) (aK (.int 2))))
     (sAsg (aVar 5) (qac (aVar 6) (a2 fMod (a2 fDiv (aVar 2) (aK (.int 30))) (aK (.int 3)))))
     q1p) [some (.kst (ns.map AV.int)),some (.int c1),some (.int c2),some (.str n),some (.int (c1 % 6)),some (.str rr),some (.ref h.length),none,none] (h ++ [.lst (rs.map AV.str)]) = .nx [some (.kst (ns.map AV.int)),some (.int c1),some (.int c2),some (.str n),some (.int (c1 % 6)),some (.str rr),some (.ref h.length),none,none] (h ++ [.lst (rs2.map AV.str)]) := by
    by_cases q5 : 2 < c2 % 5
    . obtain ⟨s1,s2⟩ := qhx (k := k) hl hv hr
      refine ⟨rs.set k rr,s1,s2,?_⟩
      have := qck (n := rs.length) (i := k) (by omega)
      simp [q5,hk,this,List.map_set]
    . exact ⟨rs,hl,hv,by simp [q5]⟩
  refine Rt.seq e8 ?_
  obtain ⟨ps,hpl,hpv,e9⟩ : ∃ ps : List (Int × Int),ps.length = 5 /\ (∀ z ∈ ps,P3 z) /\ (sAsg (q7j (q12 (aTup (q12 (aK (.int 1)) (q12 (aK (.int 60)) aNil))) (q12 (aTup (q12 (aK (.int 2)) (q12 (aK (.int 3)) aNil))) (q12 (aTup (q12 (aK (.int 1)) (q12 (a2 fAdd (aK (.int 1)) (a2 fMod (a2 fDiv (aVar 2) (aK (.int 30))) (aK (.int 60)))) aNil))) (q12 (aTup (q12 (aK (.int 4)) (q12 (aK (.int 4)) aNil))) (q12 (aTup (q12 (aK (.int 1)) (q12 (aK (.int 1)) aNil))) aNil)))))) (gN 7))
      [some (.kst (ns.map AV.int)),some (.int c1),some (.int c2),some (.str n),some (.int (c1 % 6)),some (.str rr),some (.ref h.length),none,none] (h ++ [.lst (rs2.map AV.str)]) = .nx [some (.kst (ns.map AV.int)),some (.int c1),some (.int c2),some (.str n),some (.int (c1 % 6)),some (.str rr),some (.ref h.length),some (.ref (h.length + 1)),none] (h ++ [.lst (rs2.map AV.str), .lst (ps.map p2)]) := by
    refine ⟨[(1,60),(2,3),(1,1 + c2 / 30 % 60),(4,4),(1,1)],rfl,?_,by simp [p2]⟩
    intro z hz
    simp at hz
    rcases hz with rfl | rfl | rfl | rfl | rfl
    all_goals refine ⟨i3 ?_ ?_,i3 ?_ ?_⟩
    all_goals simp only []
    all_goals omega
  refine Rt.seq e9 ?_
  obtain ⟨gp,hgp,eg⟩ := gap_dr (c2 / 450) (h ++ [.lst (rs2.map AV.str), .lst (ps.map p2)])
  have hps : (ps.set j gp).length = 5 := by rw [List.length_set]; exact hpl
  have hpv2 : ∀ z ∈ ps.set j gp,P3 z := fun z hz => by
    rcases List.mem_or_eq_of_mem_set hz with q | q
    . exact hpv z q
    . rw [q]; exact hgp
  have g7 : (h ++ [Cell.lst (rs2.map AV.str), .lst (ps.map p2)])[h.length + 1]? = some (.lst (ps.map p2)) := by simp
  have g6 : (h ++ [Cell.lst (rs2.map AV.str), .lst (ps.map p2)])[h.length]? = some (.lst (rs2.map AV.str)) := by simp
  have s7 : (h ++ [Cell.lst (rs2.map AV.str), .lst (ps.map p2)]).set (h.length + 1) (.lst ((ps.set j gp).map p2)) = h ++ [Cell.lst (rs2.map AV.str), .lst ((ps.set j gp).map p2)] := by
    rw [List.set_append_right _ _ (by omega)]
    simp
  refine Rt.seq (env' := [some (.kst (ns.map AV.int)),some (.int c1),some (.int c2),some (.str n),some (.int (c1 % 6)),some (.str rr),some (.ref h.length),some (.ref (h.length + 1)),none]) (h2 := h ++ [.lst (rs2.map AV.str), .lst ((ps.set j gp).map p2)]) (by
    have := qck (n := ps.length) (i := j) (by omega)
    rw [<- s7]
    simp [eg,hj,g7,this,List.map_set]) ?_
  generalize ps.set j gp = qs at hps hpv2
  have g7 : (h ++ [Cell.lst (rs2.map AV.str), .lst (qs.map p2)])[h.length + 1]? = some (.lst (qs.map p2)) := by simp
  have g6 : (h ++ [Cell.lst (rs2.map AV.str), .lst (qs.map p2)])[h.length]? = some (.lst (rs2.map AV.str)) := by simp
  generalize hH : h ++ [Cell.lst (rs2.map AV.str), .lst (qs.map p2)] = H at g6 g7
  have gr : ∀ i,i < 3 -> ∃ r,rs2[i]? = some r /\ Vn r := fun i hi => ⟨rs2[i],List.getElem?_eq_getElem (by omega),hv2 _ (List.getElem_mem _)⟩
  have gq : ∀ i,i < 5 -> ∃ z,qs[i]? = some z /\ P3 z := fun i hi => ⟨qs[i],List.getElem?_eq_getElem (by omega),hpv2 _ (List.getElem_mem _)⟩
  have hq0 : rs2.length = 3 := hl2
  let st : Nat -> Str × Int × Int := fun i => (rs2.getD i "",qs.getD (2 + i) (0,0))
  have key : lcL none (Z.intsFrom 0 (1 + k)) (gN 0) aYes (a2 q8u (aTup (q12 (a2 fIx (aVar 2) (aVar 0)) aNil)) (a2 fIx (aVar 1) (a2 fAdd (aK (.int 2)) (aVar 0)))) [none,some (.ref (h.length + 1)),some (.ref h.length)] (Z.intsFrom 0 (1 + k)) [] H = .ok ([] ++ (List.range (1 + k)).map fun i => rt3 (st i)) H := by
    refine q4i (k := fun i : Nat => AV.int (0 + (i : Int))) q2o (List.range (1 + k)) [] fun i hi => ⟨_,rfl,?_⟩
    have hi := List.mem_range.mp hi
    obtain ⟨r,er,_⟩ := gr i (by omega)
    obtain ⟨z,ez,_⟩ := gq (2 + i) (by omega)
    have a1 : atI (rs2.map AV.str) (i : Int) = some (.str r) := q38 (by rw [List.getElem?_map,er]; rfl)
    have a2 : atI (qs.map p2) (2 + (i : Int)) = some (p2 z) := by
      have := q38 (xs := qs.map p2) (j := 2 + i) (v := p2 z) (by rw [List.getElem?_map,ez]; rfl)
      rwa [Int.natCast_add] at this
    have sl : (3 : Nat) <= sizeLine := by decide
    have es : st i = (r,z) := by
      show (rs2.getD i "",qs.getD (2 + i) (0,0)) = _
      rw [List.getD_eq_getElem?_getD,List.getD_eq_getElem?_getD,er,ez]; rfl
    simp [g6,g7,a1,a2,p2,sl,es,rt3]
  obtain ⟨z0,ez0,hz0⟩ := gq 0 (by omega)
  obtain ⟨z1,ez1,hz1⟩ := gq 1 (by omega)
  have b0 : atI (qs.map p2) 0 = some (p2 z0) := q38 (j := 0) (by rw [List.getElem?_map,ez0]; rfl)
  have b1 : atI (qs.map p2) 1 = some (p2 z1) := q38 (j := 1) (by rw [List.getElem?_map,ez1]; rfl)
  refine ⟨.sort n (decide (c2 % 2 = 1)) z0 z1 ((List.range (1 + k)).map st),[.lst (rs2.map AV.str), .lst (qs.map p2)],⟨hn,hz0,hz1,by simp; omega,fun z hz => ?_⟩,?_⟩
  . obtain ⟨i,hi,rfl⟩ := List.mem_map.mp hz
    have hi := List.mem_range.mp hi
    obtain ⟨r,er,vr⟩ := gr i (by omega)
    obtain ⟨z,ez,vz⟩ := gq (2 + i) (by omega)
    show Vn (rs2.getD i "") /\ P3 (qs.getD (2 + i) (0,0))
    rw [List.getD_eq_getElem?_getD,List.getD_eq_getElem?_getD,er,ez]
    exact ⟨vr,vz⟩
  . rw [hH]
    have hb : rng1 (.int ((1 : Int) + (k : Int))) H = .ok (Z.intsFrom 0 (1 + k),none) H := by
      have := qgr (n := 1 + k) (h := H) (by omega)
      rwa [Int.natCast_add] at this
    have hln : (Z.intsFrom 0 (1 + k)).length <= sizeLine := by
      rw [len_from]; exact Nat.le_trans (show 1 + k <= 3 by omega) (by decide)
    simp [hk,hb,hln,bEnv,key,g7,b0,b1,Tg.av,Function.comp_def]
end K13
namespace K13
open PySem L2 Z PM
def Tg.kd : Tg -> Str
  | .room _ _ _ => "room" | .shelf _ _ => "shelf" | .plain kd _ => kd | .sort _ _ _ _ _ => "sort"
def Tg.nm : Tg -> Str
  | .room n _ _ => n | .shelf n _ => n | .plain _ n => n | .sort n _ _ _ _ => n
def Tg.rest : Tg -> List AV
  | .room n x y => [.int x, .int y] | .shelf n r => [.str r] | .plain kd n => [] | .sort n m t w st => [.bl m,p2 t,p2 w, .lst (st.map rt3)]
theorem q55 (t : Tg) : t.av = .tup (.str t.kd :: .str t.nm :: t.rest) := by cases t <;> rfl
def Tg.rooms : Tg -> List Str
  | .shelf _ r => [r] | .sort _ _ _ _ st => st.map (·.1) | _ => []
def badG (z : Int × Int) : Bool := decide (z.1 < 1) || (decide (z.2 < z.1) || decide (60 < z.2))
def Tg.bad : Tg -> Bool
  | .room _ x y => decide (x < 0) || (decide (100 < x) || (decide (y < 0) || decide (40 < y)))
  | .sort _ _ t w st => !((t :: w :: st.map (·.2)).all fun z => !badG z)
  | _ => false
def isR (ks : List Key) (zs : List AV) (r : Str) : Bool := match dval ks zs (.inr r) with | some (.str z) => decide (z = "room") | _ => false
def q56 (ks : List Key) (zs : List AV) (t : Tg) : Str :=
  if isNm t.nm = false then "name" else if (dval ks zs (.inr t.nm)).isSome = true then "taken" else if t.rooms.all (isR ks zs) = false then "unknown" else if t.bad = true then "number" else if (metK t.rooms).length < t.rooms.length then "room" else ""
theorem at0 (x : AV) (r : List AV) : atI (x :: r) 0 = some x := q38 (j := 0) rfl
theorem at1 (x y : AV) (r : List AV) : atI (x :: y :: r) 1 = some y := q38 (j := 1) rfl
theorem at2 (x y z : AV) (r : List AV) : atI (x :: y :: z :: r) 2 = some z := q38 (j := 2) rfl
theorem at3 (x y z u : AV) (r : List AV) : atI (x :: y :: z :: u :: r) 3 = some u := q38 (j := 3) rfl
theorem at4 (x y z u v : AV) (r : List AV) : atI (x :: y :: z :: u :: v :: r) 4 = some v := q38 (j := 4) rfl
theorem at5 (x y z u v w : AV) (r : List AV) : atI (x :: y :: z :: u :: v :: w :: r) 5 = some w := q38 (j := 5) rfl
theorem bad_ok (t : Tg) (hv : Vd t) (h : AH) : m_q00 [t.av] h = .ok (.bl t.bad) h := by
  cases t with
  | room n x y =>
    simp [m_q00,b_q00,Tg.av,Tg.bad,at0,at2,at3]
    by_cases h1 : x < 0
    . simp [h1]
    . by_cases h2 : 100 < x
      . simp [h1,h2]
      . by_cases h3 : y < 0
        . simp [h1,h2,h3]
        . simp [h1,h2,h3]
  | shelf n r => simp [m_q00,b_q00,Tg.av,Tg.bad,at0]
  | plain kd n =>
    have h1 : kd ≠ "room" := by rcases hv.1 with rfl | rfl | rfl <;> decide
    have h2 : kd ≠ "sort" := by rcases hv.1 with rfl | rfl | rfl <;> decide
    simp [m_q00,b_q00,Tg.av,Tg.bad,at0,h1,h2]
  | sort n m t w st =>
    have hl : st.length <= sizeLine := Nat.le_trans hv.2.2.2.1 (by decide)
    have hl2 : 2 + st.length <= sizeLine := Nat.le_trans (show 2 + st.length <= 5 from by have := hv.2.2.2.1; omega) (by decide)
    have key : lcL none (st.map rt3) (gN 0) aYes (aTup (q12 (a2 fIx (aVar 0) (aK (.int 1))) (q12 (a2 fIx (aVar 0) (aK (.int 2))) aNil))) [none] (st.map rt3) [] h = .ok ([] ++ st.map fun z => p2 z.2) h := by
      refine q4i q2o st [] fun z hz => ⟨_,rfl,?_⟩
      simp [rt3,at1,at2,p2]
    let body : AS := sIf (aOr (aB (a2 fLt (aVar 1) (aK (.int 1)))) (aOr (aB (a2 fLt (aVar 2) (aVar 1))) (aB (a2 fGt (aVar 2) (aK (.int 60)))))) (sRet (aK (.bl true))) q1p
    have step : ∀ (z : Int × Int) (x1 x2 : Option AV) (x0 : Option AV),(badG z = true -> body [x0,some (.int z.1),some (.int z.2)] h = .rt (.bl true) h) /\ (badG z = false -> body [x0,some (.int z.1),some (.int z.2)] h = .nx [x0,some (.int z.1),some (.int z.2)] h) := by
      intro z x1 x2 x0
      unfold badG
      by_cases h1 : z.1 < 1
      . simp [body,h1]
      . by_cases h2 : z.2 < z.1
        . simp [body,h1,h2]
        . by_cases h3 : 60 < z.2
          . simp [body,h1,h2,h3]
          . simp [body,h1,h2,h3]
    have eall : AV.tup [.int t.1, .int t.2] :: AV.tup [.int w.1, .int w.2] :: (st.map fun z => AV.tup [.int z.2.1, .int z.2.2]) = (t :: w :: st.map (·.2)).map p2 := by simp [p2,Function.comp_def]
    let E : AEnv -> Prop := fun env => ∃ y1 y2,env = [some (.tup [.str "sort", .str n, .bl m,p2 t,p2 w, .lst (st.map rt3)]),y1,y2]
    by_cases hb : ((t :: w :: st.map (·.2)).all fun z => !badG z) = true
    . obtain ⟨e2,h2,r1,r2,y1,y2,r3⟩ := q4a (wt := none) (all := (t :: w :: st.map (·.2)).map p2) (g := gT 2 (q1u (gN 1) (q1u (gN 2) q3m))) (body := body) (k := p2) (P := fun _ env h' => h' = h /\ E env) (fun _ _ _ _ => q2o) (t :: w :: st.map (·.2)) 0 [some (.tup [.str "sort", .str n, .bl m,p2 t,p2 w, .lst (st.map rt3)]),none,none] h ⟨rfl,_,_,rfl⟩ (by
        rintro j z hj env h' ⟨rfl,y1,y2,rfl⟩
        have hz := List.all_eq_true.mp hb z (List.mem_of_getElem? hj)
        exact ⟨_,_,_,_,rfl, .inl ((step z y1 y2 _).2 (by simpa using hz)),rfl,_,_,rfl⟩)
      subst r2 r3
      simp [m_q00,b_q00,Tg.av,Tg.bad,at0,at3,at4,at5,hb,hl,bEnv,key,hl2]
      rw [show (p2 t :: p2 w :: st.map fun z => p2 z.2) = (t :: w :: st.map (·.2)).map p2 by simp [Function.comp_def]]
      have r1' : q35 none ((t :: w :: st.map (·.2)).map p2) (gT 2 (q1u (gN 1) (q1u (gN 2) q3m))) body ((t :: w :: st.map (·.2)).map p2) [some (.tup [.str "sort", .str n, .bl m,p2 t,p2 w, .lst (st.map rt3)]),none,none] h2 = _ := r1
      simp [body] at r1'
      simp [r1']
    . have hb' : ((t :: w :: st.map (·.2)).all fun z => !badG z) = false := by simpa using hb
      have r1 := q7d (wt := none) (all := (t :: w :: st.map (·.2)).map p2) (g := gT 2 (q1u (gN 1) (q1u (gN 2) q3m))) (body := body) (k := p2) (P := E) (x := .bl true) (h := h) (good := fun z => !badG z) q2o (t :: w :: st.map (·.2)) [some (.tup [.str "sort", .str n, .bl m,p2 t,p2 w, .lst (st.map rt3)]),none,none] ⟨_,_,rfl⟩ hb' (by
        rintro z hz env ⟨y1,y2,rfl⟩
        exact ⟨_,rfl,fun hg => ⟨_,(step z y1 y2 _).2 (by simpa using hg),_,_,rfl⟩,fun hg => (step z y1 y2 _).1 (by simpa using hg)⟩)
      simp [m_q00,b_q00,Tg.av,Tg.bad,at0,at3,at4,at5,hb',hl,bEnv,key,hl2]
      rw [show (p2 t :: p2 w :: st.map fun z => p2 z.2) = (t :: w :: st.map (·.2)).map p2 by simp [Function.comp_def]]
      simp [body] at r1
      simp [r1]
end K13
namespace K13
open PySem L2 Z PM
theorem qdm {t : Tg} (hv : Vd t) : Vn t.nm := by
  cases t with
  | room => exact hv.1
  | shelf => exact hv.1
  | plain => exact hv.2
  | sort => exact hv.1
theorem qfn {t : Tg} (hv : Vd t) : t.rooms.length <= 3 := by
  cases t with
  | room => simp [Tg.rooms]
  | shelf => simp [Tg.rooms]
  | plain => simp [Tg.rooms]
  | sort n m a b st => have := hv.2.2.2.1; simp [Tg.rooms,this]
section
variable {ks : List Key} {zs : List AV} {h : AH} {t : Tg}
def Rd (h : AH) (w : Str) (r : SRe) : Prop := r = .rt (.str w) h
theorem Rd.seq {w : Str} {s u : AS} {env env' : AEnv} (e : s env h = .nx env' h) (r : Rd h w (u env' h)) : Rd h w (sSeq s u env h) := by unfold Rd at *; rw [q61 e]; exact r
theorem Rd.fst {w : Str} {s u : AS} {env : AEnv} (e : s env h = .rt (.str w) h) : Rd h w (sSeq s u env h) := by unfold Rd; simp [e]
theorem due_ok (hj : h[4]? = some (.dk ks zs)) (hz : ∀ r v,dval ks zs (.inr r) = some v -> ∃ kd,v = .str kd) (hv : Vd t) : m_q0g [.ref 4,t.av] h = .ok (.str (q56 ks zs t)) h := by
  have vn := qdm hv
  have l1 : t.nm.length <= sizeLine := Nat.le_trans vn.1 (by decide)
  have e1 : atI (AV.str t.kd :: .str t.nm :: t.rest) 1 = some (.str t.nm) := at1 _ _ _
  suffices hh : Rd h (q56 ks zs t) (b_q0g [some (.ref 4),some t.av,none,none,none] h) by
    show SRe.out (b_q0g [some (.ref 4),some t.av,none,none,none] h) = _
    rw [show b_q0g [some (.ref 4),some t.av,none,none,none] h = _ from hh]; rfl
  unfold b_q0g
  by_cases hn : isNm t.nm = true
  . obtain ⟨n1,n2⟩ : (1 <= t.nm.length /\ t.nm.length <= 12) /\ (t.nm.cps.toList.all fun c => decide (c ∈ NS)) = true := by
      unfold isNm at hn
      rw [Bool.and_eq_true] at hn
      exact ⟨of_decide_eq_true hn.1,hn.2⟩
    have ne : t.nm ≠ Str.ofString "" := fun z => by
      rw [z] at n1
      exact absurd n1.1 (by decide)
    refine Rd.seq (env' := [some (.ref 4),some t.av,none,none,none]) (by rw [q55]; simp [e1,ne,l1]; omega) ?_
    obtain ⟨y,e2⟩ : ∃ y,sFor (q5s (a2 fIx (aVar 1) (aK (.int 1)))) (gN 2) (sIf (aB (a2 q48 (aVar 2) (aK (.str "abcdefghijklmnopqrstuvwxyz0123456789")))) (sRet (aK (.str "name"))) q1p) [some (.ref 4),some t.av,none,none,none] h = .nx [some (.ref 4),some t.av,y,none,none] h := by
      obtain ⟨e2,h2,r1,r2,y1,r3⟩ := q4a (wt := none) (all := strA t.nm) (g := gN 2) (body := (sIf (aB (a2 q48 (aVar 2) (aK (.str "abcdefghijklmnopqrstuvwxyz0123456789")))) (sRet (aK (.str "name"))) q1p)) (k := fun c => AV.str ⟨#[c]⟩) (P := fun _ env h' => h' = h /\ ∃ y,env = [some (.ref 4),some t.av,y,none,none]) (fun _ _ _ _ => q2o) t.nm.cps.toList 0 [some (.ref 4),some t.av,none,none,none] h ⟨rfl,_,rfl⟩ (by
        rintro j c hjc env h' ⟨rfl,y,rfl⟩
        have hc := of_decide_eq_true (List.all_eq_true.mp n2 c (List.mem_of_getElem? hjc))
        unfold NS at hc
        rw [Array.mem_toList_iff] at hc
        exact ⟨_,_,[some (.ref 4),some t.av,some (.str ⟨#[c]⟩),none,none],h',rfl, .inl (by simp [hc]),rfl,_,rfl⟩)
      subst r2 r3
      refine ⟨y1,?_⟩
      have r1' : q35 none (strA t.nm) (gN 2) (sIf (aB (a2 q48 (aVar 2) (aK (.str "abcdefghijklmnopqrstuvwxyz0123456789")))) (sRet (aK (.str "name"))) q1p) (strA t.nm) [some (.ref 4),some t.av,none,none,none] h2 = _ := r1
      unfold sFor
      simp only [q5s,a2,aVar,aK]
      rw [q55] at r1' ⊢
      simp [e1] at r1' ⊢
      exact r1'
    refine Rd.seq e2 ?_
    unfold q56
    rw [if_neg (by simp [hn])]
    by_cases hd : (dval ks zs (.inr t.nm)).isSome = true
    . rw [if_pos hd]
      exact Rd.fst (by rw [q55]; simp [e1,hj,hd])
    . rw [if_neg hd]
      have hd' : (dval ks zs (.inr t.nm)).isSome = false := by simpa using hd
      refine Rd.seq (env' := [some (.ref 4),some t.av,y,none,none]) (by rw [q55]; simp [e1,hj,hd']) ?_
      refine Rd.seq (env' := [some (.ref 4),some t.av,y,some (.lst []),none]) (by simp) ?_
      obtain ⟨r1,e3,e4⟩ : ∃ r1 : List Str,sIf (aB (a2 fEq (a2 fIx (aVar 1) (aK (.int 0))) (aK (.str "shelf"))))
         (sAsg (aLst (q12 (a2 fIx (aVar 1) (aK (.int 2))) aNil)) (gN 3))
         q1p [some (.ref 4),some t.av,y,some (.lst []),none] h = .nx [some (.ref 4),some t.av,y,some (.lst (r1.map AV.str)),none] h /\
         (sIf (aB (a2 fEq (a2 fIx (aVar 1) (aK (.int 0))) (aK (.str "sort"))))
         (sAsg (aLc 1 [] (iLst (a2 fIx (aVar 1) (aK (.int 5)))) (gN 0) aYes (a2 fIx (aVar 0) (aK (.int 0)))) (gN 3))
         q1p) [some (.ref 4),some t.av,y,some (.lst (r1.map AV.str)),none] h = .nx [some (.ref 4),some t.av,y,some (.lst (t.rooms.map AV.str)),none] h := by
        cases t with
        | room n a b => exact ⟨[],by simp [Tg.av,at0],by simp [Tg.av,at0,Tg.rooms]⟩
        | shelf n r => exact ⟨[r],by simp [Tg.av,at0,at2],by simp [Tg.av,at0,Tg.rooms]⟩
        | plain kd n =>
          have h1 : kd ≠ "shelf" := by rcases hv.1 with rfl | rfl | rfl <;> decide
          have h2 : kd ≠ "sort" := by rcases hv.1 with rfl | rfl | rfl <;> decide
          exact ⟨[],by simp [Tg.av,at0,h1],by simp [Tg.av,at0,h2,Tg.rooms]⟩
        | sort n m a b st =>
          have hl : st.length <= sizeLine := Nat.le_trans hv.2.2.2.1 (by decide)
          have key : lcL none (st.map rt3) (gN 0) aYes (a2 fIx (aVar 0) (aK (.int 0))) [none] (st.map rt3) [] h = .ok ([] ++ st.map fun z => AV.str z.1) h :=
            q4i q2o st [] fun z hz => ⟨_,rfl,by simp [rt3,at0]⟩
          exact ⟨[],by simp [Tg.av,at0],by simp [Tg.av,at0,at5,hl,bEnv,key,Tg.rooms,Function.comp_def]⟩
      refine Rd.seq e3 (Rd.seq e4 ?_)
      have rl := qfn hv
      let body : AS := (sIf (aB (a2 fNe (q80 (aVar 0) (aVar 4)) (aK (.str "room")))) (sRet (aK (.str "unknown"))) q1p)
      have g1 : ∀ r,isR ks zs r = true -> dval ks zs (.inr r) = some (.str "room") := fun r hr => by
        unfold isR at hr
        split at hr
        . rename_i z e; rw [e,of_decide_eq_true hr]
        . cases hr
      have g2 : ∀ r,isR ks zs r = false -> eqS ((dval ks zs (.inr r)).getD .non) (.str "room") = some false := fun r hr => by
        cases e : dval ks zs (.inr r) with
        | none => rfl
        | some v =>
          obtain ⟨kd,rfl⟩ := hz r v e
          unfold isR at hr
          rw [e] at hr
          have : ¬ kd = ("room" : Str) := of_decide_eq_false hr
          simp [this]
      let E : AEnv -> Prop := fun env => ∃ y4,env = [some (.ref 4),some t.av,y,some (.lst (t.rooms.map AV.str)),y4]
      by_cases ha : t.rooms.all (isR ks zs) = true
      . rw [if_neg (by simp [ha])]
        obtain ⟨y4,e5⟩ : ∃ y4,sFor (iLst (aVar 3)) (gN 4) body [some (.ref 4),some t.av,y,some (.lst (t.rooms.map AV.str)),none] h = .nx [some (.ref 4),some t.av,y,some (.lst (t.rooms.map AV.str)),y4] h := by
          obtain ⟨e2,h2,r1,r2,y1,r3⟩ := q4a (wt := none) (all := t.rooms.map AV.str) (g := gN 4) (body := body) (k := AV.str) (P := fun _ env h' => h' = h /\ E env) (fun _ _ _ _ => q2o) t.rooms 0 [some (.ref 4),some t.av,y,some (.lst (t.rooms.map AV.str)),none] h ⟨rfl,_,rfl⟩ (by
            rintro j r hjr env h' ⟨rfl,y4,rfl⟩
            have := g1 r (List.all_eq_true.mp ha r (List.mem_of_getElem? hjr))
            exact ⟨_,_,[some (.ref 4),some t.av,y,some (.lst (t.rooms.map AV.str)),some (.str r)],h',rfl, .inl (by simp [body,hj,this]),rfl,_,rfl⟩)
          subst r2 r3
          exact ⟨y1,by simp []; exact r1⟩
        refine Rd.seq e5 ?_
        have eb := bad_ok t hv h
        by_cases hb : t.bad = true
        . rw [if_pos hb]
          exact Rd.fst (by simp [eb,hb])
        . rw [if_neg hb]
          have hb' : t.bad = false := by simpa using hb
          refine Rd.seq (env' := [some (.ref 4),some t.av,y,some (.lst (t.rooms.map AV.str)),y4]) (by simp [eb,hb']) ?_
          have s1 := strs_map (fun r : Str => r) t.rooms
          have s1 : strsOf (t.rooms.map AV.str) = some t.rooms := by rw [show t.rooms.map AV.str = t.rooms.map fun r => AV.str ((fun r : Str => r) r) from rfl,s1,List.map_id']
          have s2 : t.rooms.length <= 1000 := by omega
          by_cases hm : (metK t.rooms).length < t.rooms.length
          . rw [if_pos hm]
            exact Rd.fst (by simp [s1,s2,hm])
          . rw [if_neg hm]
            refine Rd.seq (env' := [some (.ref 4),some t.av,y,some (.lst (t.rooms.map AV.str)),y4]) (by simp [s1,s2]; omega) ?_
            simp [Rd]
      . have ha' : t.rooms.all (isR ks zs) = false := by simpa using ha
        rw [if_pos ha']
        have r1 := q7d (wt := none) (all := t.rooms.map AV.str) (g := gN 4) (body := body) (k := AV.str) (P := E) (x := .str "unknown") (h := h) (good := isR ks zs) q2o t.rooms [some (.ref 4),some t.av,y,some (.lst (t.rooms.map AV.str)),none] ⟨_,rfl⟩ ha' (by
          rintro r hr env ⟨y4,rfl⟩
          refine ⟨_,rfl,fun hg => ⟨[some (.ref 4),some t.av,y,some (.lst (t.rooms.map AV.str)),some (.str r)],by simp [body,hj,g1 r hg],_,rfl⟩,fun hg => by simp [body,hj, -eqS,g2 r hg]⟩)
        exact Rd.fst (by simp []; exact r1)
  . have hn' : isNm t.nm = false := by simpa using hn
    unfold q56
    rw [if_pos hn']
    by_cases h1 : t.nm = Str.ofString ""
    . exact Rd.fst (by rw [q55]; simp [at1,h1])
    . by_cases h2 : 12 < (t.nm.length : Int)
      . exact Rd.fst (by rw [q55]; simp [e1,h1,l1,h2])
      . refine Rd.seq (env' := [some (.ref 4),some t.av,none,none,none]) (by rw [q55]; simp [e1,h1,l1]; omega) ?_
        have n1 : 1 <= t.nm.length := by
          rcases Nat.eq_zero_or_pos t.nm.length with z | z
          . exfalso
            apply h1
            cases ht : t.nm with
            | mk cs =>
              rw [ht] at z
              have : cs = #[] := Array.eq_empty_of_size_eq_zero z
              rw [this]; rfl
          . exact z
        have n2 : (t.nm.cps.toList.all fun c => decide (c ∈ NS)) = false := by
          unfold isNm at hn'
          rw [decide_eq_true (show 1 <= t.nm.length /\ t.nm.length <= 12 by omega),Bool.true_and] at hn'
          exact hn'
        have r1 := q7d (wt := none) (all := strA t.nm) (g := gN 2) (body := (sIf (aB (a2 q48 (aVar 2) (aK (.str "abcdefghijklmnopqrstuvwxyz0123456789")))) (sRet (aK (.str "name"))) q1p)) (k := fun c => AV.str ⟨#[c]⟩) (P := fun env => ∃ y,env = [some (.ref 4),some t.av,y,none,none]) (x := .str "name") (h := h) (good := fun c => decide (c ∈ NS)) q2o t.nm.cps.toList [some (.ref 4),some t.av,none,none,none] ⟨_,rfl⟩ n2 (by
          rintro c hc env ⟨y,rfl⟩
          refine ⟨_,rfl,fun hg => ⟨[some (.ref 4),some t.av,some (.str ⟨#[c]⟩),none,none],?_,_,rfl⟩,fun hg => ?_⟩
          . have hg := of_decide_eq_true hg
            unfold NS at hg
            rw [Array.mem_toList_iff] at hg
            simp [hg]
          . have hg := of_decide_eq_false hg
            unfold NS at hg
            rw [Array.mem_toList_iff] at hg
            simp [hg])
        refine Rd.fst ?_
        have r1' : q35 none (strA t.nm) (gN 2) (sIf (aB (a2 q48 (aVar 2) (aK (.str "abcdefghijklmnopqrstuvwxyz0123456789")))) (sRet (aK (.str "name"))) q1p) (strA t.nm) [some (.ref 4),some t.av,none,none,none] h = _ := r1
        unfold sFor
        simp only [q5s,a2,aVar,aK]
        rw [q55] at r1' ⊢
        simp [e1] at r1' ⊢
        simp [r1']
end
end K13
namespace K13
open PySem L2 Z PM
theorem sm3 {i : Int} (h : I3 i) : Sm i := sm_of (Nat.lt_of_le_of_lt (show i.natAbs <= 1000 by have := h.1; have := h.2; omega) (by decide))
section
variable {h : AH} {a d l e : Nat} {day : Int} {ks : List Key} {xs ws es zs : List AV} {nm : Str}
theorem qg0 (hn : isNm nm = false) (vn : Vn nm) : m_qa [.ref a, .str nm] h = .ex 21 h := by
  have l1 : nm.length <= 100000 := Nat.le_trans vn.1 (by decide)
  have l2 : nm.length <= 1000 := Nat.le_trans vn.1 (by decide)
  simp [m_qa,b_qa,q71 l1,hn,l2,vn.2.1]
theorem qdn (q : Cel h a d l e day ks xs ws es) (hn : isNm nm = true) (vn : Vn nm) (h2 : (dval ks xs (.inr nm)).isSome = true) : m_qa [.ref a, .str nm] h = .ex 22 h := by
  have l1 : nm.length <= 100000 := Nat.le_trans vn.1 (by decide)
  have l2 : nm.length <= 1000 := Nat.le_trans vn.1 (by decide)
  have h0 := q.qc
  have h1 := q.qd
  simp [m_qa,b_qa,q71 l1,hn,l2,vn.2.1,h0,q1n,h1,h2,List.lookup]
theorem gap_no {n m : Int} (hn : I3 n) (hm : I3 m) (hb : badG (n,m) = true) : m_q0d [.int n, .int m] h = .ex 24 h := by
  by_cases h1 : 1 <= m /\ m <= 60
  . have h2 : ¬ (1 <= n /\ n <= m) := by
      intro ⟨q1,q2⟩
      simp [badG] at hb
      omega
    simp [m_q0d,b_q0d,q49 h1.1 h1.2,q5r h2 (sm3 hn) (by decide) (sm3 hm)]
  . simp [m_q0d,b_q0d,q5r h1 (sm3 hm) (by decide) (by decide)]
theorem qho {n m : Int} (hb : badG (n,m) = false) : m_q0d [.int n, .int m] h = .ok .non h := by
  simp [badG] at hb
  exact gap_ok (by omega) (by omega) (by omega)
theorem qfv {α : Type} {wt : Option Nat} {all : List AV} {g : AV -> AEnv -> AH -> Re AEnv} {te : AE} {be : AEnv} {k : α -> AV} {c : Nat} {good : α -> Bool} (hw : okW h all wt = true) :
    ∀ (ys : List α) (acc : List AV),ys.all good = false -> (∀ y ∈ ys, ∃ env,g (k y) be h = .ok env h /\ (good y = true -> ∃ v,te env h = .ok v h) /\ (good y = false -> te env h = .ex c h)) -> lcLX wt all g aYes te be (ys.map k) acc h = .ex c h
  | [],acc,hb,_ => by simp at hb
  | y :: ys,acc,hb,hs => by
    obtain ⟨env,q1,q2,q3⟩ := hs y (by simp)
    rw [List.map_cons,lcLX,if_pos hw,q1]
    simp only [Re.q9a,Re.q4b,aYes,if_true]
    cases hg : good y with
    | false => rw [q3 hg]; rfl
    | true =>
      obtain ⟨v,q4⟩ := q2 hg
      rw [q4]
      simp only [Re.q4b]
      exact qfv hw ys _ (by simpa [hg] using hb) fun y hy => hs y (List.mem_cons_of_mem _ hy)
def q3u (kd nm : Str) : Cell := .ins 4 [(0, .str kd),(1, .str nm),(5, .bl false)]
theorem q7p {kd : Str} : m_qo [.ref h.length, .str kd, .str nm] (h ++ [.ins 4 []]) = .ok .non (h ++ [.ins 4 [(0, .str kd),(1, .str nm),(5, .bl false)]]) := by
  simp [m_qo,b_qo,q4e,flG]
theorem qhe (q : Cel h a d l e day ks xs ws es) (hn : isNm nm = true) (fr : dval ks xs (.inr nm) = none) (hk : ks.length < 100000) (hx : ks.length = xs.length) :
    m_qi [.ref a, .str nm] h = .ok .non ((h ++ [q3u "brine" nm]).set d (.dk (ks ++ [.inr nm]) (xs ++ [AV.ref h.length]))) := by
  have e0 := q.qc
  have e1 := q4o q.qc q.qd hn fr
  have q2 := q.app [q3u "brine" nm]
  have hkk : ks.length < sizeLine := Nat.lt_of_lt_of_le hk (by decide)
  have e9 := q5b (t := h.length) (nm := nm) q2.qc q2.qd (q45 _ _) rfl hkk
  rw [q46 fr hx] at e9
  have f2 := q2.qc
  simp only [q1n,q3u] at e0 e9 f2
  simp [m_qi,b_qi,e0,e1,q7p,e9,f2,q3u]
theorem qbd (q : Cel h a d l e day ks xs ws es) (hn : isNm nm = true) (fr : dval ks xs (.inr nm) = none) (hk : ks.length < 100000) (hx : ks.length = xs.length) :
    m_qj [.ref a, .str nm] h = .ok .non ((h ++ [q3u "cloth" nm]).set d (.dk (ks ++ [.inr nm]) (xs ++ [AV.ref h.length]))) := by
  have e0 := q.qc
  have e1 := q4o q.qc q.qd hn fr
  have q2 := q.app [q3u "cloth" nm]
  have hkk : ks.length < sizeLine := Nat.lt_of_lt_of_le hk (by decide)
  have e9 := q5b (t := h.length) (nm := nm) q2.qc q2.qd (q45 _ _) rfl hkk
  rw [q46 fr hx] at e9
  have f2 := q2.qc
  simp only [q1n,q3u] at e0 e9 f2
  simp [m_qj,b_qj,e0,e1,q7p,e9,f2,q3u]
def q6a (h : AH) (a : Nat) (r : Str) : Prop := m_qq [.ref a, .str r, .str "room"] h = .ex 23 h
theorem qg7 (q : Cel h a d l e day ks xs ws es) {rn : Str} (hf : m_qa [.ref a, .str nm] h = .ok .non h) (kr : q6a h a rn) : m_qh [.ref a, .str nm, .str rn] h = .ex 23 h := by
  have e0 := q.qc
  unfold q6a at kr
  simp only [q1n] at e0
  simp [m_qh,b_qh,e0,hf,kr]
theorem qgo (q : Cel h a d l e day ks xs ws es) {x y : Int} (hf : m_qa [.ref a, .str nm] h = .ok .non h) (hx : I3 x) (hy : I3 y) (hb : (Tg.room nm x y).bad = true) : m_qm [.ref a, .str nm, .int x, .int y] h = .ex 24 h := by
  have e0 := q.qc
  simp only [q1n] at e0
  simp [Tg.bad] at hb
  by_cases h1 : 0 <= x /\ x <= 100
  . have h2 : ¬ (0 <= y /\ y <= 40) := by omega
    simp [m_qm,b_qm,e0,hf,q49 h1.1 h1.2,q5r h2 (sm3 hy) (by decide) (by decide)]
  . simp [m_qm,b_qm,e0,hf,q5r h1 (sm3 hx) (by decide) (by decide)]
end
end K13
namespace K13
open PySem L2 Z PM
section
variable {h : AH} {a d l e : Nat} {day : Int} {ks : List Key} {xs ws es zs : List AV} {nm : Str} {m : Bool} {t w : Int × Int} {st : List (Str × Int × Int)}
def allR (h : AH) (a : Nat) (ks : List Key) (xs : List AV) (good : Str -> Bool) (st : List (Str × Int × Int)) : Prop := ∀ z ∈ st,(good z.1 = true -> qbt h ks xs z.1) /\ (good z.1 = false -> q6a h a z.1)
theorem q9s (q : Cel h a d l e day ks xs ws es) {r : Str} (hr : qbt h ks xs r) (y1 y2 : Option AV) : (aFld 1 (q2u 8 m_qq (aVar 3) (q12 (aVar 0) (q12 (aK (.str "room")) aNil)))) [some (.str r),y1,y2,some (.ref a)] h = .ok (.str r) h := by
  obtain ⟨t,x,y,k1,k2⟩ := hr
  have k3 := qbs (kd := "room") q.qc q.qd k1 k2 rfl
  have e0 := q.qc
  simp only [q4r] at k2
  simp only [q1n] at e0
  simp [e0,k3,k2,List.lookup]
theorem qai (q : Cel h a d l e day ks xs ws es) {r : Str} (hr : q6a h a r) (y1 y2 : Option AV) : (aFld 1 (q2u 8 m_qq (aVar 3) (q12 (aVar 0) (q12 (aK (.str "room")) aNil)))) [some (.str r),y1,y2,some (.ref a)] h = .ex 23 h := by
  unfold q6a at hr
  have e0 := q.qc
  simp only [q1n] at e0
  simp [e0,hr,List.lookup]
theorem qb5 (q : Cel h a d l e day ks xs ws es) (hf : m_qa [.ref a, .str nm] h = .ok .non h) (hl : st.length <= 3) {good : Str -> Bool} (hA : allR h a ks xs good st) (hb : (st.map (·.1)).all good = false) :
    m_qg [.ref a, .str nm, .bl m,p2 t,p2 w, .lst (st.map rt3)] h = .ex 23 h := by
  have e0 := q.qc
  have hpl : st.length <= sizeLine := Nat.le_trans hl (by decide)
  have e3 := qfv (wt := none) (all := st.map rt3) (g := gT 3 (q1u (gN 0) (q1u (gN 1) (q1u (gN 2) q3m)))) (te := aFld 1 (q2u 8 m_qq (aVar 3) (q12 (aVar 0) (q12 (aK (.str "room")) aNil)))) (be := [none,none,none,some (.ref a)]) (k := rt3) (c := 23) (h := h) (good := fun z : Str × Int × Int => good z.1) q2o st [] (by rw [List.all_map] at hb; exact hb) fun z hz => ⟨[some (.str z.1),some (.int z.2.1),some (.int z.2.2),some (.ref a)],rfl,fun hg => ⟨_,q9s q ((hA z hz).1 hg) _ _⟩,fun hg => qai q ((hA z hz).2 hg) _ _⟩
  dsimp only [aFld] at e3
  simp only [q1n] at e0
  simp [m_qg,b_qg,e0,hf,hpl,bEnv,e3]
theorem qax (q : Cel h a d l e day ks xs ws es) {good : Str -> Bool} (hA : allR h a ks xs good st) (hb : (st.map (·.1)).all good = true) :
    lcLX none (st.map rt3) (gT 3 (q1u (gN 0) (q1u (gN 1) (q1u (gN 2) q3m)))) aYes (aFld 1 (q2u 8 m_qq (aVar 3) (q12 (aVar 0) (q12 (aK (.str "room")) aNil)))) [none,none,none,some (.ref a)] (st.map rt3) [] h = .ok ([] ++ st.map fun z => AV.str z.1) h := by
  refine q9c _ _ _ (q4i q2o st [] fun z hz => ⟨[some (.str z.1),some (.int z.2.1),some (.int z.2.2),some (.ref a)],rfl,q9s q ((hA z hz).1 ?_) _ _⟩)
  rw [List.all_map] at hb
  exact List.all_eq_true.mp hb z hz
theorem qb7 : lcL none (st.map rt3) (gT 3 (q1u (gN 0) (q1u (gN 1) (q1u (gN 2) q3m)))) aYes (aTup (q12 (aVar 1) (q12 (aVar 2) aNil))) [none,none,none] (st.map rt3) [] h = .ok ([] ++ st.map fun z => p2 z.2) h :=
  q4i q2o st [] fun z hz => ⟨_,rfl,rfl⟩
def gapB : AS := q2t (aC m_q0d (q12 (a2 fIx (aVar 7) (aK (.int 0))) (q12 (a2 fIx (aVar 7) (aK (.int 1))) aNil)))
def gaps (t w : Int × Int) (st : List (Str × Int × Int)) : List (Int × Int) := t :: w :: st.map (·.2)
theorem qbj : p2 t :: p2 w :: st.map (fun z => p2 z.2) = (gaps t w st).map p2 := by simp [gaps,Function.comp_def]
theorem qce {z : Int × Int} {x0 x1 x2 x3 x4 x5 x6 : Option AV} (hb : badG z = false) : gapB [x0,x1,x2,x3,x4,x5,x6,some (p2 z)] h = .nx [x0,x1,x2,x3,x4,x5,x6,some (p2 z)] h := by
  have := qho (h := h) (n := z.1) (m := z.2) hb
  simp [gapB,p2,at0,at1,this]
theorem qih {z : Int × Int} {x0 x1 x2 x3 x4 x5 x6 : Option AV} (hz : P3 z) (hb : badG z = true) : gapB [x0,x1,x2,x3,x4,x5,x6,some (p2 z)] h = .ex 24 h := by
  have := gap_no (h := h) (n := z.1) (m := z.2) hz.1 hz.2 hb
  simp [gapB,p2,at0,at1,this]
theorem qhm {x0 x1 x2 x3 x4 x5 x6 : Option AV} (hz : ∀ z ∈ gaps t w st,P3 z) (hb : ((gaps t w st).all fun z => !badG z) = false) :
    q35 none ((gaps t w st).map p2) (gN 7) gapB ((gaps t w st).map p2) [x0,x1,x2,x3,x4,x5,x6,none] h = .ex 24 h :=
  qcs (P := fun env => ∃ y,env = [x0,x1,x2,x3,x4,x5,x6,y]) (good := fun z => !badG z) q2o (gaps t w st) _ ⟨_,rfl⟩ hb (by
    rintro z hz' env ⟨y,rfl⟩
    exact ⟨_,rfl,fun hg => ⟨_,qce (by simpa using hg),_,rfl⟩,fun hg => qih (hz z hz') (by simpa using hg)⟩)
theorem qhy {x0 x1 x2 x3 x4 x5 x6 : Option AV} (hb : ((gaps t w st).all fun z => !badG z) = true) :
    ∃ y,q35 none ((gaps t w st).map p2) (gN 7) gapB ((gaps t w st).map p2) [x0,x1,x2,x3,x4,x5,x6,none] h = .nx [x0,x1,x2,x3,x4,x5,x6,y] h := by
  obtain ⟨e2,h2,r1,r2,y1,r3⟩ := q4a (wt := none) (all := (gaps t w st).map p2) (g := gN 7) (body := gapB) (k := p2) (P := fun _ env h' => h' = h /\ ∃ y,env = [x0,x1,x2,x3,x4,x5,x6,y]) (fun _ _ _ _ => q2o) (gaps t w st) 0 [x0,x1,x2,x3,x4,x5,x6,none] h ⟨rfl,_,rfl⟩ (by
    rintro j z hj env h' ⟨rfl,y,rfl⟩
    have hz := List.all_eq_true.mp hb z (List.mem_of_getElem? hj)
    exact ⟨_,_,_,_,rfl, .inl (qce (by simpa using hz)),rfl,_,rfl⟩)
  subst r2 r3
  exact ⟨y1,r1⟩
theorem qgm (q : Cel h a d l e day ks xs ws es) (hf : m_qa [.ref a, .str nm] h = .ok .non h) (hl : st.length <= 3) {good : Str -> Bool} (hA : allR h a ks xs good st) (hr : (st.map (·.1)).all good = true) (hz : ∀ z ∈ gaps t w st,P3 z) (hb : ((gaps t w st).all fun z => !badG z) = false) :
    m_qg [.ref a, .str nm, .bl m,p2 t,p2 w, .lst (st.map rt3)] h = .ex 24 h := by
  have e0 := q.qc
  have hpl : st.length <= sizeLine := Nat.le_trans hl (by decide)
  have hpl2 : 2 + st.length <= sizeLine := Nat.le_trans (show 2 + st.length <= 5 by omega) (by decide)
  have e3 := qax q hA hr
  have e4 := qb7 (st := st) (h := h)
  have e5 := qhm (h := h) (x0 := some (.ref a)) (x1 := some (.str nm)) (x2 := some (.bl m)) (x3 := some (p2 t)) (x4 := some (p2 w)) (x5 := some (.lst (st.map rt3))) (x6 := some (.lst (st.map fun z => AV.str z.1))) hz hb
  unfold gapB at e5
  dsimp only [aFld] at e3
  simp only [q1n] at e0
  simp only [m_qg,fnZ,b_qg]
  simp [e0,hf,hpl,bEnv,e3,e4,hpl2,qbj,e5]
theorem qb2 (q : Cel h a d l e day ks xs ws es) (hf : m_qa [.ref a, .str nm] h = .ok .non h) (hl : st.length <= 3) {good : Str -> Bool} (hA : allR h a ks xs good st) (hr : (st.map (·.1)).all good = true) (hz : ∀ z ∈ gaps t w st,P3 z) (hb : ((gaps t w st).all fun z => !badG z) = true) :
    ∃ y,m_qg [.ref a, .str nm, .bl m,p2 t,p2 w, .lst (st.map rt3)] h = SRe.out ((sSeq (sIf (aB (a2 fLt (a1 q67 (aVar 6)) (aC fLen (q12 (aVar 6) aNil))))
 (q5e 26 mNil)
 q1p)
 (q2t (q2u 8 m_qf (aVar 0) (q12 (q51 3 m_qu (q12 (aVar 1) (q12 (aVar 2) (q12 (aVar 3) (q12 (aVar 4) (q12 (aVar 5) aNil)))))) aNil)))) [some (.ref a),some (.str nm),some (.bl m),some (p2 t),some (p2 w),some (.lst (st.map rt3)),some (.lst (st.map fun z => AV.str z.1)),y] h) := by
  have e0 := q.qc
  have hpl : st.length <= sizeLine := Nat.le_trans hl (by decide)
  have hpl2 : 2 + st.length <= sizeLine := Nat.le_trans (show 2 + st.length <= 5 by omega) (by decide)
  have e3 := qax q hA hr
  have e4 := qb7 (st := st) (h := h)
  obtain ⟨y,e5⟩ := qhy (h := h) (x0 := some (.ref a)) (x1 := some (.str nm)) (x2 := some (.bl m)) (x3 := some (p2 t)) (x4 := some (p2 w)) (x5 := some (.lst (st.map rt3))) (x6 := some (.lst (st.map fun z => AV.str z.1))) hb
  unfold gapB at e5
  dsimp only [aFld] at e3
  simp only [q1n] at e0
  refine ⟨y,?_⟩
  show SRe.out (b_qg [some (.ref a),some (.str nm),some (.bl m),some (p2 t),some (p2 w),some (.lst (st.map rt3)),none,none] h) = _
  unfold b_qg
  rw [q61 (env' := [some (.ref a),some (.str nm),some (.bl m),some (p2 t),some (p2 w),some (.lst (st.map rt3)),none,none]) (h' := h) (by simp [e0,hf])]
  rw [q61 (env' := [some (.ref a),some (.str nm),some (.bl m),some (p2 t),some (p2 w),some (.lst (st.map rt3)),some (.lst (st.map fun z => AV.str z.1)),none]) (h' := h) (by simp [hpl,bEnv,e3])]
  rw [q61 (env' := [some (.ref a),some (.str nm),some (.bl m),some (p2 t),some (p2 w),some (.lst (st.map rt3)),some (.lst (st.map fun z => AV.str z.1)),y]) (h' := h) (by simp [bEnv,e4,hpl,hpl2,qbj,e5])]
theorem qg2 (q : Cel h a d l e day ks xs ws es) (hf : m_qa [.ref a, .str nm] h = .ok .non h) (hl : st.length <= 3) {good : Str -> Bool} (hA : allR h a ks xs good st) (hr : (st.map (·.1)).all good = true) (hz : ∀ z ∈ gaps t w st,P3 z) (hb : ((gaps t w st).all fun z => !badG z) = true) (hm : (metK (st.map (·.1))).length < (st.map (·.1)).length) :
    m_qg [.ref a, .str nm, .bl m,p2 t,p2 w, .lst (st.map rt3)] h = .ex 26 h := by
  obtain ⟨y,e1⟩ := qb2 (m := m) q hf hl hA hr hz hb
  rw [e1]
  have s1 : strsOf (st.map fun z => AV.str z.1) = some (st.map (·.1)) := strs_map _ _
  have s2 : st.length <= 1000 := by omega
  rw [List.length_map] at hm
  simp [s1,s2,hm]
theorem qhc (q : Cel h a d l e day ks xs ws es) (hn : isNm nm = true) (fr : dval ks xs (.inr nm) = none) (hl : st.length <= 3) {good : Str -> Bool} (hA : allR h a ks xs good st) (hr : (st.map (·.1)).all good = true) (hz : ∀ z ∈ gaps t w st,P3 z) (hb : ((gaps t w st).all fun z => !badG z) = true) (hm : ¬ (metK (st.map (·.1))).length < (st.map (·.1)).length) (hk : ks.length < 100000) (hx : ks.length = xs.length) :
    m_qg [.ref a, .str nm, .bl m,p2 t,p2 w, .lst (st.map rt3)] h = .ok .non ((h ++ [Cell.ins 3 (q77 nm m (p2 t) (p2 w) (st.map (·.1)) (q59 st))]).set d (.dk (ks ++ [.inr nm]) (xs ++ [AV.ref h.length]))) := by
  obtain ⟨y,e1⟩ := qb2 (m := m) q (q4o q.qc q.qd hn fr) hl hA hr hz hb
  rw [e1]
  have s1 : strsOf (st.map fun z => AV.str z.1) = some (st.map (·.1)) := strs_map _ _
  have s2 : st.length <= 1000 := by omega
  rw [List.length_map] at hm
  have e0 := q.qc
  have e6 := qfr (h := h) (nm := nm) (m := m) (t1 := t.1) (t2 := t.2) (w1 := w.1) (w2 := w.2) (p := .lst (st.map rt3)) (ro := st) (.inl rfl) (by omega)
  have q2 := q.app [Cell.ins 3 (q77 nm m (p2 t) (p2 w) (st.map (·.1)) (q59 st))]
  have hkk : ks.length < sizeLine := Nat.lt_of_lt_of_le hk (by decide)
  have e9 := q5b (t := h.length) (nm := nm) q2.qc q2.qd (q45 _ _) rfl hkk
  rw [q46 fr hx] at e9
  have f2 := q2.qc
  change m_qu [.ref h.length, .str nm, .bl m,p2 t,p2 w, .lst (st.map rt3)] _ = .ok .non (h ++ [Cell.ins 3 (q77 nm m (p2 t) (p2 w) (st.map (·.1)) (q59 st))]) at e6
  simp only [q1n] at e0 f2
  simp [s1,s2,hm,e0,e6,f2,e9]
end
end K13
namespace K13
open PySem L2 Z PM
structure Sta (h : AH) (ts : List AV) (ks : List Key) (xs zs : List AV) : Prop where
  q : Cel h 0 1 2 3 0 ks xs [] []
  j : h[4]? = some (.dk ks zs)
  i : h[5]? = some (.lst ts)
  hx : ks.length = xs.length
  hz : ks.length = zs.length
  rel : ∀ nm,(dval ks xs (.inr nm) = none /\ dval ks zs (.inr nm) = none) \/ ∃ t c fs kd,dval ks xs (.inr nm) = some (.ref t) /\ 5 < t /\ h[t]? = some (.ins c fs) /\ fs.lookup 0 = some (.str kd) /\ dval ks zs (.inr nm) = some (.str kd) /\ (kd = "room" -> ∃ x y,h[t]? = some (q4r nm x y))
  nms : ∀ k ∈ ks, ∃ nm,k = .inr nm /\ isNm nm = true
  n12 : dval ks zs (.inr "twelvesigns1") = none
def qc8 (t : Tg) (c : Cell) : Prop := ∃ k fs,c = .ins k fs /\ fs.lookup 0 = some (.str t.kd) /\ (t.kd = "room" -> ∃ x y,c = q4r t.nm x y)
section
variable {h : AH} {ts : List AV} {ks : List Key} {xs zs : List AV} {t : Tg}
theorem Sta.zstr (S : Sta h ts ks xs zs) : ∀ r v,dval ks zs (.inr r) = some v -> ∃ kd,v = .str kd := fun r v e => by
  rcases S.rel r with ⟨_,e2⟩ | ⟨t,c,fs,kd,_,_,_,_,e2,_⟩
  . rw [e2] at e; cases e
  . rw [e2] at e; cases e; exact ⟨kd,rfl⟩
theorem Sta.rooms (S : Sta h ts ks xs zs) (hr : ∀ r,Vn r -> True) : ∀ r,(isR ks zs r = true -> qbt h ks xs r) /\ (isR ks zs r = false -> Vn r -> q6a h 0 r) := fun r => by
  rcases S.rel r with ⟨e1,e2⟩ | ⟨t,c,fs,kd,e1,_,e3,e4,e5,e6⟩
  . refine ⟨fun z => ?_,fun _ v => qe3 S.q.qc S.q.qd e1 (Nat.le_trans v.1 (by decide)) v.2.1 (by decide)⟩
    unfold isR at z; rw [e2] at z; cases z
  . refine ⟨fun z => ?_,fun z v => ?_⟩
    . unfold isR at z; rw [e5] at z
      obtain ⟨x,y,e7⟩ := e6 (of_decide_eq_true z)
      exact ⟨t,x,y,e1,e7⟩
    . unfold isR at z; rw [e5] at z
      exact qc4 S.q.qc S.q.qd e1 e3 e4 (of_decide_eq_false z) (Nat.le_trans v.1 (by decide)) v.2.1 (by decide)
theorem Sta.isS (S : Sta h ts ks xs zs) (nm : Str) : (dval ks zs (.inr nm)).isSome = (dval ks xs (.inr nm)).isSome := by
  rcases S.rel nm with ⟨e1,e2⟩ | ⟨t,c,fs,kd,e1,_,e3,e4,e5,e6⟩
  . rw [e1,e2]
  . rw [e1,e5]; rfl
theorem Sta.len (S : Sta h ts ks xs zs) : 5 < h.length := qb4 S.i
theorem qar {c : Nat} (S : Sta h ts ks xs zs) (hv : Vd t) (hf : m_qa [.ref 0, .str t.nm] h = .ex c h) : m_q06 [.ref 0,t.av] h = .ex c h := by
  have e0 := S.q.qc
  simp only [q1n] at e0
  cases t with
  | room n x y =>
    simp only [Tg.nm] at hf
    simp [m_q06,b_q06,Tg.av,at0,at1,at2,at3,e0,m_qm,b_qm,hf]
  | shelf n r =>
    simp only [Tg.nm] at hf
    simp [m_q06,b_q06,Tg.av,at0,at1,at2,at3,e0,m_qh,b_qh,hf]
  | plain kd n =>
    simp only [Tg.nm] at hf
    rcases hv.1 with rfl | rfl | rfl
    . simp [m_q06,b_q06,Tg.av,at0,at1,at2,at3,e0,m_qp,b_qp,hf]
    . simp [m_q06,b_q06,Tg.av,at0,at1,at2,at3,e0,m_qi,b_qi,hf]
    . simp [m_q06,b_q06,Tg.av,at0,at1,at2,at3,e0,m_qj,b_qj,hf]
  | sort n m a b st =>
    simp only [Tg.nm] at hf
    simp [m_q06,b_q06,Tg.av,at0,at1,at2,at3,at4,at5,e0,m_qg,b_qg,hf]
theorem ask_ok (S : Sta h ts ks xs zs) (hv : Vd t) (hk : ks.length < 100000) :
    (q56 ks zs t = "" /\ isNm t.nm = true /\ dval ks xs (.inr t.nm) = none /\ ∃ cell,qc8 t cell /\ m_q06 [.ref 0,t.av] h = .ok .non ((h ++ [cell]).set 1 (.dk (ks ++ [.inr t.nm]) (xs ++ [.ref h.length])))) \/
    (q56 ks zs t ≠ "" /\ ∃ c,wdT c = some (q56 ks zs t) /\ m_q06 [.ref 0,t.av] h = .ex c h) := by
  have vn := qdm hv
  unfold q56
  by_cases hn : isNm t.nm = true
  . rw [if_neg (by simp [hn])]
    by_cases hd : (dval ks zs (.inr t.nm)).isSome = true
    . rw [if_pos hd]
      exact .inr ⟨by decide,22,rfl,qar S hv (qdn S.q hn vn (by rw [<- S.isS]; exact hd))⟩
    . rw [if_neg hd]
      have fr : dval ks xs (.inr t.nm) = none := by
        have := S.isS t.nm
        rw [show (dval ks zs (.inr t.nm)).isSome = false by simpa using hd] at this
        exact Option.isNone_iff_eq_none.mp (by rw [<- Option.not_isSome, <- this]; rfl)
      have hf := q4o S.q.qc S.q.qd hn fr
      have e0 := S.q.qc
      simp only [q1n] at e0
      have rr := S.rooms fun _ _ => trivial
      cases t with
      | room n x y =>
        rw [if_neg (by simp [Tg.rooms])]
        by_cases hb : (Tg.room n x y).bad = true
        . rw [if_pos hb]
          have := qgo S.q hf hv.2.1 hv.2.2 hb
          simp only [Tg.nm] at this
          exact .inr ⟨by decide,24,rfl,by simp [m_q06,b_q06,Tg.av,at0,at1,at2,at3,e0,this]⟩
        . rw [if_neg hb,if_neg (by simp [Tg.rooms])]
          simp [Tg.bad] at hb
          have := qhu S.q (x := x) (y := y) hn fr (by omega) (by omega) (by omega) (by omega) hk S.hx
          simp only [Tg.nm] at this
          exact .inl ⟨rfl,hn,fr,q4r n x y,⟨_,_,rfl,rfl,fun _ => ⟨_,_,rfl⟩⟩,by simp [m_q06,b_q06,Tg.av,Tg.nm,at0,at1,at2,at3,e0,this]⟩
      | shelf n r =>
        by_cases hr : isR ks zs r = true
        . rw [if_neg (by simp [Tg.rooms,hr]),if_neg (by simp [Tg.bad]),if_neg (by
            have := qgy (ts := [r]) (by simp)
            simp only [Tg.rooms]; rw [this]; simp)]
          obtain ⟨tt,x,y,k1,k2⟩ := (rr r).1 hr
          have := qgz S.q hn fr k1 k2 hk S.hx
          simp only [Tg.nm] at this
          exact .inl ⟨rfl,hn,fr,q6p n tt,⟨_,_,rfl,rfl,fun z => absurd z (by simp only [Tg.kd]; decide)⟩,by simp [m_q06,b_q06,Tg.av,Tg.nm,at0,at1,at2,e0,this]⟩
        . have hr' : isR ks zs r = false := by simpa using hr
          rw [if_pos (by simp [Tg.rooms,hr'])]
          have := qg7 S.q hf ((rr r).2 hr' hv.2)
          simp only [Tg.nm] at this
          exact .inr ⟨by decide,23,rfl,by simp [m_q06,b_q06,Tg.av,at0,at1,at2,e0,this]⟩
      | plain kd n =>
        rw [if_neg (by simp [Tg.rooms]),if_neg (by simp [Tg.bad]),if_neg (by simp [Tg.rooms])]
        have h1 : kd ≠ "room" := by rcases hv.1 with rfl | rfl | rfl <;> decide
        refine .inl ⟨rfl,hn,fr,?_⟩
        rcases hv.1 with rfl | rfl | rfl
        . have := qiv S.q hn fr hk S.hx
          simp only [Tg.nm] at this
          exact ⟨q88 n,⟨_,_,rfl,rfl,fun z => absurd z h1⟩,by simp [m_q06,b_q06,Tg.av,Tg.nm,at0,at1,e0,this]⟩
        . have := qhe S.q hn fr hk S.hx
          simp only [Tg.nm] at this
          exact ⟨q3u "brine" n,⟨_,_,rfl,rfl,fun z => absurd z h1⟩,by simp [m_q06,b_q06,Tg.av,Tg.nm,at0,at1,e0,this]⟩
        . have := qbd S.q hn fr hk S.hx
          simp only [Tg.nm] at this
          exact ⟨q3u "cloth" n,⟨_,_,rfl,rfl,fun z => absurd z h1⟩,by simp [m_q06,b_q06,Tg.av,Tg.nm,at0,at1,e0,this]⟩
      | sort n m a b st =>
        obtain ⟨v0,va,vb,hl,vs⟩ := hv
        have hl1 : st.length <= sizeLine := Nat.le_trans hl (by decide)
        have hA : allR h 0 ks xs (isR ks zs) st := fun z hz => ⟨(rr z.1).1,fun g => (rr z.1).2 g (vs z hz).1⟩
        have hz : ∀ z ∈ gaps a b st,P3 z := fun z hz => by
          simp only [gaps,List.mem_cons,List.mem_map] at hz
          rcases hz with rfl | rfl | ⟨y,hy,rfl⟩
          . exact va
          . exact vb
          . exact (vs y hy).2
        have eg : gaps a b st = a :: b :: st.map (·.2) := rfl
        by_cases hr : (Tg.sort n m a b st).rooms.all (isR ks zs) = true
        . rw [if_neg (by simp [hr])]
          have hr' : (st.map (·.1)).all (isR ks zs) = true := hr
          by_cases hb : (Tg.sort n m a b st).bad = true
          . rw [if_pos hb]
            have hb' : ((gaps a b st).all fun z => !badG z) = false := by
              rw [eg]
              simp only [Tg.bad] at hb
              rw [Bool.not_eq_true'] at hb
              exact hb
            have := qgm (m := m) S.q hf hl hA hr' hz hb'
            simp only [Tg.nm] at this
            exact .inr ⟨by decide,24,rfl,by simp [m_q06,b_q06,Tg.av,at0,at1,at2,at3,at4,at5,e0,this]⟩
          . rw [if_neg hb]
            have hb' : ((gaps a b st).all fun z => !badG z) = true := by
              rw [eg]
              simp only [Tg.bad] at hb
              simpa using hb
            by_cases hm : (metK (Tg.sort n m a b st).rooms).length < (Tg.sort n m a b st).rooms.length
            . rw [if_pos hm]
              have := qg2 (m := m) S.q hf hl hA hr' hz hb' hm
              simp only [Tg.nm] at this
              exact .inr ⟨by decide,26,rfl,by simp [m_q06,b_q06,Tg.av,at0,at1,at2,at3,at4,at5,e0,this]⟩
            . rw [if_neg hm]
              have := qhc (m := m) S.q hn fr hl hA hr' hz hb' hm hk S.hx
              simp only [Tg.nm] at this
              exact .inl ⟨rfl,hn,fr,Cell.ins 3 (q77 n m (p2 a) (p2 b) (st.map (·.1)) (q59 st)),⟨_,_,rfl,rfl,fun z => absurd z (by simp only [Tg.kd]; decide)⟩,by simp [m_q06,b_q06,Tg.av,Tg.nm,at0,at1,at2,at3,at4,at5,e0,this]⟩
        . have hr' : (Tg.sort n m a b st).rooms.all (isR ks zs) = false := by simpa using hr
          rw [if_pos hr']
          have := qb5 (t := a) (w := b) (m := m) S.q hf hl hA hr'
          simp only [Tg.nm] at this
          exact .inr ⟨by decide,23,rfl,by simp [m_q06,b_q06,Tg.av,at0,at1,at2,at3,at4,at5,e0,this]⟩
  . have hn' : isNm t.nm = false := by simpa using hn
    rw [if_pos hn']
    exact .inr ⟨by decide,21,rfl,qar S hv (qg0 hn' vn)⟩
end
end K13
namespace K13
open PySem L2 Z PM
theorem q7u {j k : Key} {x : AV} : dval [k] [x] j = if k = j then some x else none := by
  simp [dval]
section
variable {h : AH} {ts : List AV} {ks : List Key} {xs zs : List AV} {t : Tg}
theorem Sta.add (S : Sta h ts ks xs zs) (hn : isNm t.nm = true) (fr : dval ks xs (.inr t.nm) = none) (hv : Vd t) {c : Cell} (hc : qc8 t c) :
    Sta (((h ++ [c]).set 1 (Cell.dk (ks ++ [.inr t.nm]) (xs ++ [.ref h.length]))).set 4 (Cell.dk (ks ++ [.inr t.nm]) (zs ++ [.str t.kd]))) ts (ks ++ [.inr t.nm]) (xs ++ [.ref h.length]) (zs ++ [.str t.kd]) := by
  have q1 := (S.q.app [c]).put_d (ks ++ [.inr t.nm]) (xs ++ [.ref h.length])
  have hlen := S.len
  have j1 : ((h ++ [c]).set 1 (Cell.dk (ks ++ [.inr t.nm]) (xs ++ [.ref h.length])))[4]? = some (.dk ks zs) := by
    rw [q21 (by decide)]; exact q4c S.j
  have old : ∀ k (x : Cell),5 <= k -> h[k]? = some x -> (((h ++ [c]).set 1 (Cell.dk (ks ++ [.inr t.nm]) (xs ++ [.ref h.length]))).set 4 (Cell.dk (ks ++ [.inr t.nm]) (zs ++ [.str t.kd])))[k]? = some x := fun k x hk e => by
    rw [q21 (by omega),q21 (by omega)]; exact q4c e
  have new : (((h ++ [c]).set 1 (Cell.dk (ks ++ [.inr t.nm]) (xs ++ [.ref h.length]))).set 4 (Cell.dk (ks ++ [.inr t.nm]) (zs ++ [.str t.kd])))[h.length]? = some c := by
    rw [q21 (by omega),q21 (by omega)]; exact q45 _ _
  refine ⟨?_,q85 j1,old 5 _ (by omega) S.i,by simp [S.hx],by simp [S.hz],fun nm => ?_,fun k hk => ?_,?_⟩
  . exact ⟨by rw [q21 (by decide)]; exact q1.qc,by rw [q21 (by decide)]; exact q1.qd,by rw [q21 (by decide)]; exact q1.ql,by rw [q21 (by decide)]; exact q1.qe,by decide⟩
  . rw [q7r S.hx,q7r S.hz,q7u,q7u]
    rcases S.rel nm with ⟨e1,e2⟩ | ⟨k,cc,fs,kd,e1,e2,e3,e4,e5,e6⟩
    . rw [e1,e2]
      by_cases hnm : (Sum.inr t.nm : Key) = .inr nm
      . have hnm' : t.nm = nm := Sum.inr.inj hnm
        subst hnm'
        obtain ⟨cc,fs,rfl,g1,g2⟩ := hc
        rw [if_pos rfl,if_pos rfl]
        refine .inr ⟨h.length,cc,fs,t.kd,rfl,hlen,new,g1,rfl,fun z => ?_⟩
        obtain ⟨x,y,g3⟩ := g2 z
        exact ⟨x,y,by rw [new,g3]⟩
      . rw [if_neg hnm,if_neg hnm]; exact .inl ⟨rfl,rfl⟩
    . rw [e1,e5]
      refine .inr ⟨k,cc,fs,kd,rfl,e2,old k _ (by omega) e3,e4,rfl,fun z => ?_⟩
      obtain ⟨x,y,g3⟩ := e6 z
      exact ⟨x,y,old k _ (by omega) g3⟩
  . rcases List.mem_append.mp hk with z | z
    . exact S.nms k z
    . rw [List.mem_singleton] at z
      exact ⟨t.nm,z,hn⟩
  . rw [q7r S.hz,S.n12,q7u,if_neg]; · rfl
    intro z
    have z : t.nm = "twelvesigns1" := Sum.inr.inj z
    obtain ⟨_,_,v⟩ := qdm hv
    rw [z] at v
    rcases v with v | v
    . exact absurd v (by decide +kernel)
    . exact absurd v (by decide +kernel)
theorem qe8 {h' : AH} {x : AV} (e : m_q06 [.ref 0,x] h = .ok .non h') : m_q07 [.ref 0,x] h = .ok (.str "") h' := by
  simp [m_q07,b_q07,e]
theorem qed {c : Nat} {w : Str} {x : AV} (e : m_q06 [.ref 0,x] h = .ex c h) (hw : wdT c = some w) : m_q07 [.ref 0,x] h = .ok (.str w) h := by
  simp [m_q07,b_q07,e,hw]
def q8h : AS := (sSeq (sAsg (aC m_q0g (q12 (aVar 2) (q12 (aVar 5) aNil))) (gN 6))
 (sSeq (sIf (aB (a2 fNe (aC m_q07 (q12 (aVar 1) (q12 (aVar 5) aNil))) (aVar 6)))
 (sRet (aK (.bl false)))
 q1p)
 (sIf (aB (a2 fEq (aVar 6) (aK (.str ""))))
 (q8o (aVar 2) (a2 fIx (aVar 5) (aK (.int 1))) (a2 fIx (aVar 5) (aK (.int 0))))
 q1p)))
def EnvS (ns : List Int) (y4 y5 y6 : Option AV) : AEnv := [some (.kst (ns.map AV.int)),some (.ref 0),some (.ref 4),some (.ref 5),y4,y5,y6,none]
theorem qig (S : Sta h ts ks xs zs) (hv : Vd t) (hk : ks.length < 1000) (ns : List Int) (y4 y6 : Option AV) :
    ∃ h' ks' xs' zs' y6',q8h (EnvS ns y4 (some t.av) y6) h = .nx (EnvS ns y4 (some t.av) y6') h' /\ Sta h' ts ks' xs' zs' /\ ks'.length <= ks.length + 1 := by
  have e1 := due_ok S.j S.zstr hv
  have hkk : ks.length < sizeLine := Nat.lt_of_lt_of_le hk (by decide)
  rcases ask_ok S hv (by omega) with ⟨d1,hn,fr,c,hc,e2⟩ | ⟨d1,c,hw,e2⟩
  . have e3 := qe8 e2
    have S' := S.add hn fr hv hc
    have fz : dval ks zs (.inr t.nm) = none := by
      have := S.isS t.nm
      rw [fr] at this
      exact Option.isNone_iff_eq_none.mp (by rw [<- Option.not_isSome,this]; rfl)
    have j1 : ((h ++ [c]).set 1 (Cell.dk (ks ++ [.inr t.nm]) (xs ++ [.ref h.length])))[4]? = some (.dk ks zs) := by
      rw [q21 (by decide)]; exact q4c S.j
    refine ⟨_,_,_,_,some (.str ""),?_,S',by simp⟩
    rw [d1] at e1
    generalize ((h ++ [c]).set 1 (Cell.dk (ks ++ [.inr t.nm]) (xs ++ [.ref h.length]))) = H at *
    have dp := q46 (j := .inr t.nm) (y := .str t.kd) fz S.hz
    rw [q55] at e1 e3 ⊢
    simp [q8h,EnvS,e1,e3,at0,at1,j1,hkk,dp]
  . have e3 := qed e2 hw
    refine ⟨h,ks,xs,zs,some (.str (q56 ks zs t)),?_,S,by omega⟩
    simp [q8h,EnvS,e1,e3,d1]
end
end K13
namespace K13
open PySem L2 Z PM
def H0 (ts : List Tg) : AH := [q1n 0 1 2 3, .dk [] [], .lst [], .lst [], .dk [] [], .lst (ts.map Tg.av)]
theorem H0_5 (ts : List Tg) : (H0 ts)[5]? = some (.lst (ts.map Tg.av)) := rfl
theorem qfi (ts : List Tg) (t : Tg) : (H0 ts).set 5 (.lst (ts.map Tg.av ++ [t.av])) = H0 (ts ++ [t]) := by simp [H0]
def qdc : AS := (q2t (aMtL q69 (aVar 3) (q12 (aC m_q0b (q12 (aVar 0) (q12 (a2 fIx (aVar 0) (aVar 4)) (q12 (a2 fIx (aVar 0) (a2 fAdd (aVar 4) (aK (.int 1)))) aNil)))) aNil)))
theorem qhr (ns : List Int) (hl : ns.length <= 63) (ts0 : List Tg) (hv0 : ∀ t ∈ ts0,Vd t) (h3 : ts0.length <= 3) : ∃ (ts : List Tg) (y4 : Option AV),(∀ t ∈ ts,Vd t) /\ ts.length <= 100 /\
    sFor (q5x (aK (.int 2)) (a2 fSub (aC fLen (q12 (aVar 0) aNil)) (aK (.int 1))) (aK (.int 2))) (gN 4) qdc (EnvS ns none none none) (H0 ts0) = .nx (EnvS ns y4 none none) (H0 ts) := by
  have hz : (63 : Nat) <= sizeLine := by decide
  have hll : (ns.map AV.int).length <= sizeLine := by rw [List.length_map]; omega
  by_cases h0 : ns.length = 0
  . have : ns = [] := List.eq_nil_of_length_eq_zero h0
    subst this
    exact ⟨ts0,none,hv0,by omega,rfl⟩
  . obtain ⟨e2,h2,r1,ts,y4,r2,r3,r4,r5⟩ := qgp (lo := 2) (n := ns.length - 1) (c := 2) (i := 4) (a := aK (.int 2)) (b := a2 fSub (aC fLen (q12 (aVar 0) aNil)) (aK (.int 1))) (d := aK (.int 2)) (body := qdc)
      (P := fun j env h => ∃ (ts : List Tg) (y4 : Option AV),(∀ t ∈ ts,Vd t) /\ ts.length <= 3 + j /\ h = H0 ts /\ env = EnvS ns y4 none none) (env := EnvS ns none none none) (h := H0 ts0) (by omega) (by omega) (by omega) (by omega) rfl (by
        have : ((ns.length : Int) - 1) = ((ns.length - 1 : Nat) : Int) := by omega
        simp [EnvS,this]) rfl ⟨ts0,none,hv0,by omega,rfl,rfl⟩ (by
        rintro j hj env h ⟨ts,y4,v1,v2,rfl,rfl⟩
        obtain ⟨t,vt,et⟩ := qgc ns (cz ns (2 + j * 2)) (cz ns (2 + j * 2 + 1)) (H0 ts)
        have a1 := qdu (ns := ns) (k := 2 + j * 2) (by omega)
        have a2 := qdu (ns := ns) (k := 2 + j * 2 + 1) (by omega)
        refine ⟨EnvS ns (some (.int ((2 + j * 2 : Nat) : Int))) none none,H0 (ts ++ [t]),?_,ts ++ [t],_,fun x hx => ?_,by rw [List.length_append,List.length_singleton]; omega,rfl,rfl⟩
        . have hts : ts.length < sizeLine := by omega
          have h5 := H0_5 ts
          have hs := qfi ts t
          rw [show (((2 + j * 2 + 1 : Nat) : Int)) = ((2 + j * 2 : Nat) : Int) + 1 by omega] at a2
          generalize H0 ts = G at *
          generalize ((2 + j * 2 : Nat) : Int) = z at *
          simp [qdc,EnvS,h5,a1,a2,et,hts,hs]
        . rcases List.mem_append.mp hx with q | q
          . exact v1 x q
          . rw [List.mem_singleton.mp q]; exact vt)
    subst r4 r5
    exact ⟨ts,y4,r2,by omega,r1⟩
theorem Sta0 (ts : List Tg) : Sta (H0 ts) (ts.map Tg.av) [] [] [] :=
  ⟨⟨rfl,rfl,rfl,rfl,by decide⟩,rfl,rfl,rfl,rfl,fun nm => .inl ⟨rfl,rfl⟩,fun k hk => absurd hk (by simp),rfl⟩
theorem all_ok (ns : List Int) (ts : List Tg) (hv : ∀ t ∈ ts,Vd t) (hl : ts.length <= 100) (y4 : Option AV) : ∃ h ks xs zs y5 y6,sFor (iLst (aVar 3)) (gN 5) q8h (EnvS ns y4 none none) (H0 ts) = .nx (EnvS ns y4 y5 y6) h /\ Sta h (ts.map Tg.av) ks xs zs /\ ks.length <= 100 := by
  obtain ⟨e2,h2,r1,ks,xs,zs,y5,y6,r2,r3,r4⟩ := q4a (wt := some 5) (all := ts.map Tg.av) (g := gN 5) (body := q8h) (k := Tg.av) (P := fun i env h => ∃ ks xs zs y5 y6,Sta h (ts.map Tg.av) ks xs zs /\ ks.length <= i /\ env = EnvS ns y4 y5 y6)
    (fun i env h ⟨ks,xs,zs,y5,y6,S,_,_⟩ => by simp only [okW,S.i]; exact q3h _) ts 0 (EnvS ns y4 none none) (H0 ts) ⟨[],[],[],none,none,Sta0 ts,Nat.le_refl _,rfl⟩ (by
      rintro j t hj env h ⟨ks,xs,zs,y5,y6,S,hk,rfl⟩
      have hjl := (List.getElem?_eq_some_iff.mp hj).1
      obtain ⟨h',ks',xs',zs',y6',e1,S',hk'⟩ := qig S (hv t (List.mem_of_getElem? hj)) (by omega) ns y4 y6
      exact ⟨_,_,_,h',rfl, .inl e1,ks',xs',zs',some t.av,y6',S',by omega,rfl⟩)
  subst r4
  refine ⟨h2,ks,xs,zs,y5,y6,?_,r2,by omega⟩
  unfold sFor
  simp only [iLst,aVar]
  have h5 := H0_5 ts
  generalize H0 ts = G at *
  simp [EnvS,h5] at r1 ⊢
  exact r1
theorem qd8 {h : AH} {ts : List AV} {ks : List Key} {xs zs : List AV} (S : Sta h ts ks xs zs) {g : AH} (q : Cel g 0 1 2 3 0 ks xs [] []) {nm : Str} (hn : isNm nm = true) (hd : (dval ks xs (.inr nm)).isSome = true) : m_q07 [.ref 0, .tup [.str "farm", .str nm]] g = .ok (.str "taken") g := by
  have vl := nm_len hn
  have vc := nm_cp hn
  have l1 : nm.length <= 100000 := Nat.le_trans vl (by decide)
  have l2 : nm.length <= 1000 := Nat.le_trans vl (by decide)
  have h0 := q.qc
  have h1 := q.qd
  have hf : m_qa [.ref 0, .str nm] g = .ex 22 g := by
    simp [m_qa,b_qa,q71 l1,hn,l2,vc,h0,q1n,h1,hd,List.lookup]
  simp only [q1n] at h0
  exact qed (c := 22) (by simp [m_q06,b_q06,at0,at1,h0,m_qp,b_qp,hf]) rfl
theorem qbp : ∀ {ks : List Key} {xs : List AV},ks.length = xs.length -> ∀ k ∈ ks,(dval ks xs k).isSome = true
  | [],_,_,k,hk => by simp at hk
  | j :: ks,[],hl,_,_ => by simp at hl
  | j :: ks,x :: xs,hl,k,hk => by
    unfold dval
    by_cases e : j = k
    . rw [if_pos e]; rfl
    . rw [if_neg e]
      rcases List.mem_cons.mp hk with z | z
      . exact absurd z.symm e
      . exact qbp (by simpa using hl) k z
def keyB : AS := (sIf (aB (a2 fNe (aC m_q07 (q12 (aVar 1) (q12 (aTup (q12 (aK (.str "farm")) (q12 (aVar 7) aNil))) aNil))) (aK (.str "taken")))) (sRet (aK (.bl false))) q1p)
theorem qij (ns : List Int) {h : AH} {ts : List AV} {ks : List Key} {xs zs : List AV} (S : Sta h ts ks xs zs) (y4 y5 y6 : Option AV) : ∃ y7,sFor (q8p (aVar 2)) (gN 7) keyB (EnvS ns y4 y5 y6) h = .nx [some (.kst (ns.map AV.int)),some (.ref 0),some (.ref 4),some (.ref 5),y4,y5,y6,y7] (h.set 4 .dead) := by
  have q : Cel (h.set 4 .dead) 0 1 2 3 0 ks xs [] [] := ⟨by rw [q21 (by decide)]; exact S.q.qc,by rw [q21 (by decide)]; exact S.q.qd,by rw [q21 (by decide)]; exact S.q.ql,by rw [q21 (by decide)]; exact S.q.qe,by decide⟩
  obtain ⟨e2,h2,r1,r2,y7,r3⟩ := q4a (wt := none) (all := ks.map keyA) (g := gN 7) (body := keyB) (k := keyA) (P := fun _ env g => g = h.set 4 .dead /\ ∃ y7,env = [some (.kst (ns.map AV.int)),some (.ref 0),some (.ref 4),some (.ref 5),y4,y5,y6,y7]) (fun _ _ _ _ => q2o) ks 0 (EnvS ns y4 y5 y6) (h.set 4 .dead) ⟨rfl,_,rfl⟩ (by
    rintro j k hj env g ⟨rfl,y7,rfl⟩
    obtain ⟨nm,rfl,hn⟩ := S.nms k (List.mem_of_getElem? hj)
    have := qd8 S q hn (qbp S.hx _ (List.mem_of_getElem? hj))
    exact ⟨_,_,[some (.kst (ns.map AV.int)),some (.ref 0),some (.ref 4),some (.ref 5),y4,y5,y6,some (.str nm)],_,rfl, .inl (by simp [keyB,keyA,this]),rfl,_,rfl⟩)
  subst r2 r3
  refine ⟨y7,?_⟩
  have hj := S.j
  unfold sFor
  simp only [q8p,aVar]
  simp [EnvS,hj] at r1 ⊢
  exact r1
theorem law_true : ∀ ns : List Int,ns.length <= 63 -> ∃ h,m_law [.kst (ns.map AV.int)] [] = .ok (.bl true) h := by
  intro ns hl
  suffices hh : ∃ h,q8v [some (.kst (ns.map AV.int)),none,none,none,none,none,none,none] [] = .rt (.bl true) h by
    obtain ⟨h,e⟩ := hh
    refine ⟨h,?_⟩
    show SRe.out (q8v [some (.kst (ns.map AV.int)),none,none,none,none,none,none,none] []) = _
    rw [e]; rfl
  unfold q8v
  refine q4z (env' := [some (.kst (ns.map AV.int)),some (.ref 0),none,none,none,none,none,none]) (h' := [q1n 0 1 2 3, .dk [] [], .lst [], .lst []]) rfl ?_
  refine q4z (env' := [some (.kst (ns.map AV.int)),some (.ref 0),some (.ref 4),none,none,none,none,none]) (h' := [q1n 0 1 2 3, .dk [] [], .lst [], .lst [], .dk [] []]) rfl ?_
  have nx := q36 ns (m := "x") [q1n 0 1 2 3, .dk [] [], .lst [], .lst [], .dk [] []] (by decide)
  have ny := q36 ns (m := "y") [q1n 0 1 2 3, .dk [] [], .lst [], .lst [], .dk [] []] (by decide)
  have vx := q5q ns (m := "x") (by decide) (by decide +kernel)
  have vy := q5q ns (m := "y") (by decide) (by decide +kernel)
  have vz := q5q ns (m := "z") (by decide) (by decide +kernel)
  have i0 : ∀ i : Int,0 <= i -> i <= 100 -> I3 i := fun i a b => i3 (by omega) (by omega)
  refine q4z (env' := EnvS ns none none none) (h' := H0 [.room (nmOf ns "x") 100 40, .room (nmOf ns "y") 0 0]) (by simp [nx,ny,EnvS,H0,Tg.av]) ?_
  obtain ⟨ts0,hv0,h3,e4⟩ : ∃ ts0 : List Tg,(∀ t ∈ ts0,Vd t) /\ ts0.length <= 3 /\ (sIf (aB (a2 fLt (a2 fMod (a2 fDiv (aC m_q0e (q12 (aVar 0) (q12 (aK (.int 0)) aNil))) (aK (.int 12))) (aK (.int 3))) (aK (.int 2))))
     (q2t (aMtL q69 (aVar 3) (q12 (aTup (q12 (aK (.str "room")) (q12 (aC m_q04 (q12 (aVar 0) (q12 (aK (.str "z")) aNil))) (q12 (aK (.int 55)) (q12 (aK (.int 12)) aNil))))) aNil)))
     q1p) (EnvS ns none none none) (H0 [.room (nmOf ns "x") 100 40, .room (nmOf ns "y") 0 0]) = .nx (EnvS ns none none none) (H0 ts0) := by
    have a0 := qdq ns 0 (H0 [.room (nmOf ns "x") 100 40, .room (nmOf ns "y") 0 0])
    have nz := q36 ns (m := "z") (H0 [.room (nmOf ns "x") 100 40, .room (nmOf ns "y") 0 0]) (by decide)
    have h5 := H0_5 [.room (nmOf ns "x") 100 40, .room (nmOf ns "y") 0 0]
    have hs := qfi [.room (nmOf ns "x") 100 40, .room (nmOf ns "y") 0 0] (.room (nmOf ns "z") 55 12)
    have hz : (2 : Nat) < sizeLine := by decide
    simp only [Int.natCast_zero,Int.ofNat_zero] at a0
    by_cases q : cz ns 0 / 12 % 3 < 2
    . refine ⟨[.room (nmOf ns "x") 100 40, .room (nmOf ns "y") 0 0, .room (nmOf ns "z") 55 12],?_,by simp,?_⟩
      . intro t ht
        simp at ht
        rcases ht with rfl | rfl | rfl
        . exact ⟨vx,i0 _ (by decide) (by decide),i0 _ (by decide) (by decide)⟩
        . exact ⟨vy,i0 _ (by decide) (by decide),i0 _ (by decide) (by decide)⟩
        . exact ⟨vz,i0 _ (by decide) (by decide),i0 _ (by decide) (by decide)⟩
      . rw [show [Tg.room (nmOf ns "x") 100 40, .room (nmOf ns "y") 0 0, .room (nmOf ns "z") 55 12] = [.room (nmOf ns "x") 100 40, .room (nmOf ns "y") 0 0] ++ [.room (nmOf ns "z") 55 12] from rfl, <- hs]
        generalize H0 [.room (nmOf ns "x") 100 40, .room (nmOf ns "y") 0 0] = G at *
        simp only [List.map_cons,List.map_nil,Tg.av] at h5 ⊢
        simp [EnvS,a0,q,nz,h5,hz]
    . refine ⟨[.room (nmOf ns "x") 100 40, .room (nmOf ns "y") 0 0],?_,by simp,?_⟩
      . intro t ht
        simp at ht
        rcases ht with rfl | rfl
        . exact ⟨vx,i0 _ (by decide) (by decide),i0 _ (by decide) (by decide)⟩
        . exact ⟨vy,i0 _ (by decide) (by decide),i0 _ (by decide) (by decide)⟩
      . simp [EnvS,a0,q]
  refine q4z e4 ?_
  obtain ⟨ts,y4,hv,hl2,e5⟩ := qhr ns hl ts0 hv0 h3
  refine q4z e5 ?_
  obtain ⟨h,ks,xs,zs,y5,y6,e6,S,hk⟩ := all_ok ns ts hv hl2 y4
  refine q4z e6 ?_
  have h0 := S.q.qc
  have hE := S.q.qe
  simp only [q1n] at h0
  refine q4z (env' := EnvS ns y4 y5 y6) (h' := h) (by simp [EnvS,h0,hE,m_qz,b_qz,m_q0f,b_q0f,List.lookup]) ?_
  obtain ⟨y7,e7⟩ := qij ns S y4 y5 y6
  refine q4z e7 ?_
  have q : Cel (h.set 4 .dead) 0 1 2 3 0 ks xs [] [] := ⟨by rw [q21 (by decide)]; exact S.q.qc,by rw [q21 (by decide)]; exact S.q.qd,by rw [q21 (by decide)]; exact S.q.ql,by rw [q21 (by decide)]; exact S.q.qe,by decide⟩
  have fr : dval ks xs (.inr "twelvesigns1") = none := by
    have := S.isS "twelvesigns1"
    rw [S.n12] at this
    exact Option.isNone_iff_eq_none.mp (by rw [<- Option.not_isSome, <- this]; rfl)
  have ec := qbd q (nm := "twelvesigns1") (by decide +kernel) fr (by omega) S.hx
  have q0 := q.qc
  simp only [q1n] at q0
  have ea := qe8 (x := .tup [.str "cloth", .str "twelvesigns1"]) (h := h.set 4 .dead) (by simp [m_q06,b_q06,at0,at1,q0,ec]; rfl)
  exact ⟨_,by simp [ea]; rfl⟩
end K13
namespace K13
open PySem L2 Z PM
def top (i : Nat) : Stmt := PySem.Challenge.pw_curdcellar_k13_new_things.main.body.getD i (.Pass ⟨0,0,0,0⟩)
abbrev qi0 : Stmt := top 29
abbrev s_qz : Stmt := inClass (top 29) 21
abbrev s_qj : Stmt := inClass (top 29) 9
abbrev s_qi : Stmt := inClass (top 29) 8
abbrev s_qp : Stmt := inClass (top 29) 7
abbrev s_qg : Stmt := inClass (top 29) 6
abbrev s_qh : Stmt := inClass (top 29) 5
abbrev s_qm : Stmt := inClass (top 29) 4
abbrev s_qf : Stmt := inClass (top 29) 3
abbrev s_qq : Stmt := inClass (top 29) 2
abbrev s_qa : Stmt := inClass (top 29) 1
abbrev s_qr : Stmt := inClass (top 29) 0
abbrev qix : Stmt := top 17
abbrev s_qo : Stmt := inClass (top 17) 0
abbrev qj4 : Stmt := top 16
abbrev s_qu : Stmt := inClass (top 16) 0
abbrev qj1 : Stmt := top 15
abbrev s_qt : Stmt := inClass (top 15) 0
abbrev qj2 : Stmt := top 14
abbrev s_qw : Stmt := inClass (top 14) 0
abbrev qj0 : Stmt := top 13
abbrev s_qb : Stmt := inClass (top 13) 0
abbrev s_q0i : Stmt := top 21
abbrev s_q0j : Stmt := top 22
abbrev s_q01 : Stmt := top 27
abbrev s_q0d : Stmt := top 28
abbrev s_q0e : Stmt := top 31
abbrev s_q0f : Stmt := top 32
abbrev s_q04 : Stmt := top 33
abbrev s_q0c : Stmt := top 34
abbrev s_q05 : Stmt := top 35
abbrev s_q0h : Stmt := top 36
abbrev s_q0b : Stmt := top 37
abbrev s_q00 : Stmt := top 38
abbrev s_q0g : Stmt := top 39
abbrev s_q06 : Stmt := top 40
abbrev s_q07 : Stmt := top 41
abbrev q50 : Stmt := top 42
def c_q0t : Str := "abcdefghijklmnopqrstuvwxyz0123456789"
structure Adr where
  a_q0i : Addr
  fd_q0i : FuncData
  a_q0j : Addr
  fd_q0j : FuncData
  a_q01 : Addr
  fd_q01 : FuncData
  a_q0d : Addr
  fd_q0d : FuncData
  a_q0e : Addr
  fd_q0e : FuncData
  a_q0f : Addr
  fd_q0f : FuncData
  a_q04 : Addr
  fd_q04 : FuncData
  a_q0c : Addr
  fd_q0c : FuncData
  a_q05 : Addr
  fd_q05 : FuncData
  a_q0h : Addr
  fd_q0h : FuncData
  a_q0b : Addr
  fd_q0b : FuncData
  a_q00 : Addr
  fd_q00 : FuncData
  a_q0g : Addr
  fd_q0g : FuncData
  a_q06 : Addr
  fd_q06 : FuncData
  a_q07 : Addr
  fd_q07 : FuncData
  a_law : Addr
  fd_law : FuncData
  c_q0o : Addr
  a_qb : Addr
  fd_qb : FuncData
  c_q0r : Addr
  a_qw : Addr
  fd_qw : FuncData
  c_q0q : Addr
  a_qt : Addr
  fd_qt : FuncData
  c_q0p : Addr
  a_qu : Addr
  fd_qu : FuncData
  c_q0m : Addr
  a_qo : Addr
  fd_qo : FuncData
  c_q09 : Addr
  a_qr : Addr
  fd_qr : FuncData
  a_qa : Addr
  fd_qa : FuncData
  a_qq : Addr
  fd_qq : FuncData
  a_qf : Addr
  fd_qf : FuncData
  a_qm : Addr
  fd_qm : FuncData
  a_qh : Addr
  fd_qh : FuncData
  a_qg : Addr
  fd_qg : FuncData
  a_qp : Addr
  fd_qp : FuncData
  a_qi : Addr
  fd_qi : FuncData
  a_qj : Addr
  fd_qj : FuncData
  a_qz : Addr
  fd_qz : FuncData
  c_q0a : Addr
  c_q02 : Addr
  c_q08 : Addr
  c_q03 : Addr
  c_qx : Addr
  c_q0s : Addr
  c_qy : Addr
  c_q0n : Addr
  c_q0l : Addr
  c_q0k : Addr
structure Txt (K : W.Frag) (mg : Str -> Option Value) (A : Adr) : Prop where
  F_q0i : Fun K "has_only" "has_only" s_q0i A.a_q0i A.fd_q0i
  d_q0i : mg "has_only" = some (.ref A.a_q0i)
  b_q0i : Binds K A.fd_q0i ["text", "signs"] []
  F_q0j : Fun K "is_name" "is_name" s_q0j A.a_q0j A.fd_q0j
  d_q0j : mg "is_name" = some (.ref A.a_q0j)
  b_q0j : Binds K A.fd_q0j ["text"] []
  F_q01 : Fun K "check_bounds" "check_bounds" s_q01 A.a_q01 A.fd_q01
  d_q01 : mg "check_bounds" = some (.ref A.a_q01)
  b_q01 : Binds K A.fd_q01 ["number", "least", "most"] []
  F_q0d : Fun K "check_gap" "check_gap" s_q0d A.a_q0d A.fd_q0d
  d_q0d : mg "check_gap" = some (.ref A.a_q0d)
  b_q0d : Binds K A.fd_q0d ["least", "most"] []
  F_q0e : Fun K "_law_at" "_law_at" s_q0e A.a_q0e A.fd_q0e
  d_q0e : mg "_law_at" = some (.ref A.a_q0e)
  b_q0e : Binds K A.fd_q0e ["_law_script", "_law_k"] []
  F_q0f : Fun K "_law_whole" "_law_whole" s_q0f A.a_q0f A.fd_q0f
  d_q0f : mg "_law_whole" = some (.ref A.a_q0f)
  b_q0f : Binds K A.fd_q0f ["_law_found"] []
  F_q04 : Fun K "_law_name" "_law_name" s_q04 A.a_q04 A.fd_q04
  d_q04 : mg "_law_name" = some (.ref A.a_q04)
  b_q04 : Binds K A.fd_q04 ["_law_script", "_law_mark"] []
  F_q0c : Fun K "_law_word_of" "_law_word_of" s_q0c A.a_q0c A.fd_q0c
  d_q0c : mg "_law_word_of" = some (.ref A.a_q0c)
  b_q0c : Binds K A.fd_q0c ["_law_e"] []
  F_q05 : Fun K "_law_thing_name" "_law_thing_name" s_q05 A.a_q05 A.fd_q05
  d_q05 : mg "_law_thing_name" = some (.ref A.a_q05)
  b_q05 : Binds K A.fd_q05 ["_law_script", "_law_cell"] []
  F_q0h : Fun K "_law_gap" "_law_gap" s_q0h A.a_q0h A.fd_q0h
  d_q0h : mg "_law_gap" = some (.ref A.a_q0h)
  b_q0h : Binds K A.fd_q0h ["_law_cell"] []
  F_q0b : Fun K "_law_thing" "_law_thing" s_q0b A.a_q0b A.fd_q0b
  d_q0b : mg "_law_thing" = some (.ref A.a_q0b)
  b_q0b : Binds K A.fd_q0b ["_law_script", "_law_pick", "_law_cell"] []
  F_q00 : Fun K "_law_bad_numbers" "_law_bad_numbers" s_q00 A.a_q00 A.fd_q00
  d_q00 : mg "_law_bad_numbers" = some (.ref A.a_q00)
  b_q00 : Binds K A.fd_q00 ["_law_thing_here"] []
  F_q0g : Fun K "_law_due" "_law_due" s_q0g A.a_q0g A.fd_q0g
  d_q0g : mg "_law_due" = some (.ref A.a_q0g)
  b_q0g : Binds K A.fd_q0g ["_law_there", "_law_thing_here"] []
  F_q06 : Fun K "_law_ask" "_law_ask" s_q06 A.a_q06 A.fd_q06
  d_q06 : mg "_law_ask" = some (.ref A.a_q06)
  b_q06 : Binds K A.fd_q06 ["_law_cellar", "_law_thing_here"] []
  F_q07 : Fun K "_law_answer" "_law_answer" s_q07 A.a_q07 A.fd_q07
  d_q07 : mg "_law_answer" = some (.ref A.a_q07)
  b_q07 : Binds K A.fd_q07 ["_law_cellar", "_law_thing_here"] []
  F_law : Fun K "law" "law" q50 A.a_law A.fd_law
  d_law : mg "law" = some (.ref A.a_law)
  q8v : Binds K A.fd_law ["_law_script"] []
  n_len : mg "len" = none
  n_all : mg "all" = none
  n_min : mg "min" = none
  n_range : mg "range" = none
  n_int : mg "int" = none
  n_bool : mg "bool" = none
  n_list : mg "list" = none
  n_isinstance : mg "isinstance" = none
  n_ValueError : mg "ValueError" = none
  n_set : mg "set" = none
  c_q0o : mg "Thing" = some (.ref A.c_q0o)
  Cls_q0o : Cls K A.c_q0o
  F_qb : Fun K "__init__" "Thing.__init__" s_qb A.a_qb A.fd_qb
  b_qb : Binds K A.fd_qb ["self", "kind", "name"] []
  mk_q0o : Mk K A.c_q0o A.a_qb
  na_Thing_kind : q25 K A.c_q0o "kind"
  na_Thing_name : q25 K A.c_q0o "name"
  B_qb : Base K A.c_q0o "__init__" A.a_qb
  c_q0r : mg "Room" = some (.ref A.c_q0r)
  Cls_q0r : Cls K A.c_q0r
  F_qw : Fun K "__init__" "Room.__init__" s_qw A.a_qw A.fd_qw
  b_qw : Binds K A.fd_qw ["self", "name", "damp", "warmth"] []
  mk_q0r : Mk K A.c_q0r A.a_qw
  na_Room_kind : q25 K A.c_q0r "kind"
  na_Room_name : q25 K A.c_q0r "name"
  na_Room_damp : q25 K A.c_q0r "damp"
  na_Room_warmth : q25 K A.c_q0r "warmth"
  c_q0q : mg "Shelf" = some (.ref A.c_q0q)
  Cls_q0q : Cls K A.c_q0q
  F_qt : Fun K "__init__" "Shelf.__init__" s_qt A.a_qt A.fd_qt
  b_qt : Binds K A.fd_qt ["self", "name", "room"] []
  mk_q0q : Mk K A.c_q0q A.a_qt
  na_Shelf_kind : q25 K A.c_q0q "kind"
  na_Shelf_name : q25 K A.c_q0q "name"
  na_Shelf_room : q25 K A.c_q0q "room"
  c_q0p : mg "Sort" = some (.ref A.c_q0p)
  Cls_q0p : Cls K A.c_q0p
  F_qu : Fun K "__init__" "Sort.__init__" s_qu A.a_qu A.fd_qu
  b_qu : Binds K A.fd_qu ["self", "name", "mouldy", "turn_gap", "wash_gap", "route"] []
  mk_q0p : Mk K A.c_q0p A.a_qu
  na_Sort_kind : q25 K A.c_q0p "kind"
  na_Sort_name : q25 K A.c_q0p "name"
  na_Sort_mouldy : q25 K A.c_q0p "mouldy"
  na_Sort_turn_gap : q25 K A.c_q0p "turn_gap"
  na_Sort_wash_gap : q25 K A.c_q0p "wash_gap"
  na_Sort_rooms : q25 K A.c_q0p "rooms"
  na_Sort_stays : q25 K A.c_q0p "stays"
  c_q0m : mg "Washer" = some (.ref A.c_q0m)
  Cls_q0m : Cls K A.c_q0m
  F_qo : Fun K "__init__" "Washer.__init__" s_qo A.a_qo A.fd_qo
  b_qo : Binds K A.fd_qo ["self", "kind", "name"] []
  mk_q0m : Mk K A.c_q0m A.a_qo
  na_Washer_kind : q25 K A.c_q0m "kind"
  na_Washer_name : q25 K A.c_q0m "name"
  na_Washer_mouldy : q25 K A.c_q0m "mouldy"
  c_q09 : mg "Cellar" = some (.ref A.c_q09)
  Cls_q09 : Cls K A.c_q09
  F_qr : Fun K "__init__" "Cellar.__init__" s_qr A.a_qr A.fd_qr
  b_qr : Binds K A.fd_qr ["self"] []
  mk_q09 : Mk K A.c_q09 A.a_qr
  F_qa : Fun K "check_free" "Cellar.check_free" s_qa A.a_qa A.fd_qa
  b_qa : Binds K A.fd_qa ["self", "name"] []
  m_qa : Meth K A.c_q09 "check_free" A.a_qa
  F_qq : Fun K "known" "Cellar.known" s_qq A.a_qq A.fd_qq
  b_qq : Binds K A.fd_qq ["self", "name", "kind"] []
  m_qq : Meth K A.c_q09 "known" A.a_qq
  F_qf : Fun K "hold" "Cellar.hold" s_qf A.a_qf A.fd_qf
  b_qf : Binds K A.fd_qf ["self", "thing"] []
  m_qf : Meth K A.c_q09 "hold" A.a_qf
  F_qm : Fun K "new_room" "Cellar.new_room" s_qm A.a_qm A.fd_qm
  b_qm : Binds K A.fd_qm ["self", "name", "damp", "warmth"] []
  m_qm : Meth K A.c_q09 "new_room" A.a_qm
  F_qh : Fun K "new_shelf" "Cellar.new_shelf" s_qh A.a_qh A.fd_qh
  b_qh : Binds K A.fd_qh ["self", "name", "room"] []
  m_qh : Meth K A.c_q09 "new_shelf" A.a_qh
  F_qg : Fun K "new_sort" "Cellar.new_sort" s_qg A.a_qg A.fd_qg
  b_qg : Binds K A.fd_qg ["self", "name", "mouldy", "turn_gap", "wash_gap", "route"] []
  m_qg : Meth K A.c_q09 "new_sort" A.a_qg
  F_qp : Fun K "new_farm" "Cellar.new_farm" s_qp A.a_qp A.fd_qp
  b_qp : Binds K A.fd_qp ["self", "name"] []
  m_qp : Meth K A.c_q09 "new_farm" A.a_qp
  F_qi : Fun K "new_brine" "Cellar.new_brine" s_qi A.a_qi A.fd_qi
  b_qi : Binds K A.fd_qi ["self", "name"] []
  m_qi : Meth K A.c_q09 "new_brine" A.a_qi
  F_qj : Fun K "new_cloth" "Cellar.new_cloth" s_qj A.a_qj A.fd_qj
  b_qj : Binds K A.fd_qj ["self", "name"] []
  m_qj : Meth K A.c_q09 "new_cloth" A.a_qj
  F_qz : Fun K "book" "Cellar.book" s_qz A.a_qz A.fd_qz
  b_qz : Binds K A.fd_qz ["self"] []
  m_qz : Meth K A.c_q09 "book" A.a_qz
  na_Cellar_today : q25 K A.c_q09 "today"
  na_Cellar_things : q25 K A.c_q09 "things"
  na_Cellar_wheels : q25 K A.c_q09 "wheels"
  na_Cellar_entries : q25 K A.c_q09 "entries"
  c_q0a : mg "CellarError" = some (.ref A.c_q0a)
  C_q0a : ClsK K A.c_q0a
  c_q02 : mg "BadName" = some (.ref A.c_q02)
  C_q02 : ClsK K A.c_q02
  c_q08 : mg "Taken" = some (.ref A.c_q08)
  C_q08 : ClsK K A.c_q08
  c_q03 : mg "Unknown" = some (.ref A.c_q03)
  C_q03 : ClsK K A.c_q03
  c_qx : mg "BadNumber" = some (.ref A.c_qx)
  C_qx : ClsK K A.c_qx
  c_q0s : mg "Gone" = some (.ref A.c_q0s)
  C_q0s : ClsK K A.c_q0s
  c_qy : mg "WrongRoom" = some (.ref A.c_qy)
  C_qy : ClsK K A.c_qy
  c_q0n : mg "Mouldy" = some (.ref A.c_q0n)
  C_q0n : ClsK K A.c_q0n
  c_q0l : mg "TooMuch" = some (.ref A.c_q0l)
  C_q0l : ClsK K A.c_q0l
  c_q0k : mg "BadLine" = some (.ref A.c_q0k)
  C_q0k : ClsK K A.c_q0k
  x_q02 : W.excIn K A.c_q02 bmVE "ValueError.__new__" = true
  e_q02 : ExcK K A.c_q02
  v_q02 : W.subIn K (.ref A.c_q02) (.type "ValueError") = some true
  s_BadName_CellarError : W.subIn K (.ref A.c_q02) (.ref A.c_q0a) = some true
  s_BadName_BadName : W.subIn K (.ref A.c_q02) (.ref A.c_q02) = some true
  s_BadName_Taken : W.subIn K (.ref A.c_q02) (.ref A.c_q08) = some false
  s_BadName_Unknown : W.subIn K (.ref A.c_q02) (.ref A.c_q03) = some false
  s_BadName_BadNumber : W.subIn K (.ref A.c_q02) (.ref A.c_qx) = some false
  s_BadName_Gone : W.subIn K (.ref A.c_q02) (.ref A.c_q0s) = some false
  s_BadName_WrongRoom : W.subIn K (.ref A.c_q02) (.ref A.c_qy) = some false
  s_BadName_Mouldy : W.subIn K (.ref A.c_q02) (.ref A.c_q0n) = some false
  s_BadName_TooMuch : W.subIn K (.ref A.c_q02) (.ref A.c_q0l) = some false
  s_BadName_BadLine : W.subIn K (.ref A.c_q02) (.ref A.c_q0k) = some false
  x_q08 : W.excIn K A.c_q08 bmVE "ValueError.__new__" = true
  e_q08 : ExcK K A.c_q08
  v_q08 : W.subIn K (.ref A.c_q08) (.type "ValueError") = some true
  s_Taken_CellarError : W.subIn K (.ref A.c_q08) (.ref A.c_q0a) = some true
  s_Taken_BadName : W.subIn K (.ref A.c_q08) (.ref A.c_q02) = some false
  s_Taken_Taken : W.subIn K (.ref A.c_q08) (.ref A.c_q08) = some true
  s_Taken_Unknown : W.subIn K (.ref A.c_q08) (.ref A.c_q03) = some false
  s_Taken_BadNumber : W.subIn K (.ref A.c_q08) (.ref A.c_qx) = some false
  s_Taken_Gone : W.subIn K (.ref A.c_q08) (.ref A.c_q0s) = some false
  s_Taken_WrongRoom : W.subIn K (.ref A.c_q08) (.ref A.c_qy) = some false
  s_Taken_Mouldy : W.subIn K (.ref A.c_q08) (.ref A.c_q0n) = some false
  s_Taken_TooMuch : W.subIn K (.ref A.c_q08) (.ref A.c_q0l) = some false
  s_Taken_BadLine : W.subIn K (.ref A.c_q08) (.ref A.c_q0k) = some false
  x_q03 : W.excIn K A.c_q03 bmVE "ValueError.__new__" = true
  e_q03 : ExcK K A.c_q03
  v_q03 : W.subIn K (.ref A.c_q03) (.type "ValueError") = some true
  s_Unknown_CellarError : W.subIn K (.ref A.c_q03) (.ref A.c_q0a) = some true
  s_Unknown_BadName : W.subIn K (.ref A.c_q03) (.ref A.c_q02) = some false
  s_Unknown_Taken : W.subIn K (.ref A.c_q03) (.ref A.c_q08) = some false
  s_Unknown_Unknown : W.subIn K (.ref A.c_q03) (.ref A.c_q03) = some true
  s_Unknown_BadNumber : W.subIn K (.ref A.c_q03) (.ref A.c_qx) = some false
  s_Unknown_Gone : W.subIn K (.ref A.c_q03) (.ref A.c_q0s) = some false
  s_Unknown_WrongRoom : W.subIn K (.ref A.c_q03) (.ref A.c_qy) = some false
  s_Unknown_Mouldy : W.subIn K (.ref A.c_q03) (.ref A.c_q0n) = some false
  s_Unknown_TooMuch : W.subIn K (.ref A.c_q03) (.ref A.c_q0l) = some false
  s_Unknown_BadLine : W.subIn K (.ref A.c_q03) (.ref A.c_q0k) = some false
  x_qx : W.excIn K A.c_qx bmVE "ValueError.__new__" = true
  e_qx : ExcK K A.c_qx
  v_qx : W.subIn K (.ref A.c_qx) (.type "ValueError") = some true
  s_BadNumber_CellarError : W.subIn K (.ref A.c_qx) (.ref A.c_q0a) = some true
  s_BadNumber_BadName : W.subIn K (.ref A.c_qx) (.ref A.c_q02) = some false
  s_BadNumber_Taken : W.subIn K (.ref A.c_qx) (.ref A.c_q08) = some false
  s_BadNumber_Unknown : W.subIn K (.ref A.c_qx) (.ref A.c_q03) = some false
  s_BadNumber_BadNumber : W.subIn K (.ref A.c_qx) (.ref A.c_qx) = some true
  s_BadNumber_Gone : W.subIn K (.ref A.c_qx) (.ref A.c_q0s) = some false
  s_BadNumber_WrongRoom : W.subIn K (.ref A.c_qx) (.ref A.c_qy) = some false
  s_BadNumber_Mouldy : W.subIn K (.ref A.c_qx) (.ref A.c_q0n) = some false
  s_BadNumber_TooMuch : W.subIn K (.ref A.c_qx) (.ref A.c_q0l) = some false
  s_BadNumber_BadLine : W.subIn K (.ref A.c_qx) (.ref A.c_q0k) = some false
  x_qy : W.excIn K A.c_qy bmVE "ValueError.__new__" = true
  e_qy : ExcK K A.c_qy
  v_qy : W.subIn K (.ref A.c_qy) (.type "ValueError") = some true
  s_WrongRoom_CellarError : W.subIn K (.ref A.c_qy) (.ref A.c_q0a) = some true
  s_WrongRoom_BadName : W.subIn K (.ref A.c_qy) (.ref A.c_q02) = some false
  s_WrongRoom_Taken : W.subIn K (.ref A.c_qy) (.ref A.c_q08) = some false
  s_WrongRoom_Unknown : W.subIn K (.ref A.c_qy) (.ref A.c_q03) = some false
  s_WrongRoom_BadNumber : W.subIn K (.ref A.c_qy) (.ref A.c_qx) = some false
  s_WrongRoom_Gone : W.subIn K (.ref A.c_qy) (.ref A.c_q0s) = some false
  s_WrongRoom_WrongRoom : W.subIn K (.ref A.c_qy) (.ref A.c_qy) = some true
  s_WrongRoom_Mouldy : W.subIn K (.ref A.c_qy) (.ref A.c_q0n) = some false
  s_WrongRoom_TooMuch : W.subIn K (.ref A.c_qy) (.ref A.c_q0l) = some false
  s_WrongRoom_BadLine : W.subIn K (.ref A.c_qy) (.ref A.c_q0k) = some false
  t_q0a : W.instIn K (.ref A.c_q0a) (.type "tuple") = some false
  b_q0a : W.subIn K (.ref A.c_q0a) (.type "BaseException") = some true
  g_q0t : ∃ t,mg "NAME_SIGNS" = some (.str c_q0t t)
  g_q0u : ∃ t,mg "LONGEST_NAME" = some (.int 12 t)
  g_q0x : ∃ t,mg "MOST_DAMP" = some (.int 100 t)
  g_q0v : ∃ t,mg "MOST_WARMTH" = some (.int 40 t)
  g_q0w : ∃ t,mg "LONGEST_GAP" = some (.int 60 t)
theorem sc_q0i : q1m ["text", "signs"] ["text", "signs"] (q18 s_q0i) := ⟨rfl,rfl,rfl,by decide +kernel,rfl,by decide +kernel,by decide +kernel⟩
theorem sc_q0j : q1m ["text"] ["text"] (q18 s_q0j) := ⟨rfl,rfl,rfl,by decide +kernel,rfl,by decide +kernel,by decide +kernel⟩
theorem sc_q01 : q1m ["number", "least", "most"] ["number", "least", "most"] (q18 s_q01) := ⟨rfl,rfl,rfl,by decide +kernel,rfl,by decide +kernel,by decide +kernel⟩
theorem sc_q0d : q1m ["least", "most"] ["least", "most"] (q18 s_q0d) := ⟨rfl,rfl,rfl,by decide +kernel,rfl,by decide +kernel,by decide +kernel⟩
theorem sc_q0e : q1m ["_law_script", "_law_k"] ["_law_script", "_law_k"] (q18 s_q0e) := ⟨rfl,rfl,rfl,by decide +kernel,rfl,by decide +kernel,by decide +kernel⟩
theorem sc_q0f : q1m ["_law_found"] ["_law_found"] (q18 s_q0f) := ⟨rfl,rfl,rfl,by decide +kernel,rfl,by decide +kernel,by decide +kernel⟩
theorem sc_q04 : q1m ["_law_script", "_law_mark", "_law_base", "_law_spot"] ["_law_script", "_law_mark"] (q18 s_q04) := ⟨rfl,rfl,rfl,by decide +kernel,rfl,by decide +kernel,by decide +kernel⟩
theorem sc_q0c : q1m ["_law_e", "_law_told"] ["_law_e"] (q18 s_q0c) := ⟨rfl,rfl,rfl,by decide +kernel,rfl,by decide +kernel,by decide +kernel⟩
theorem sc_q05 : q1m ["_law_script", "_law_cell", "_law_mark"] ["_law_script", "_law_cell"] (q18 s_q05) := ⟨rfl,rfl,rfl,by decide +kernel,rfl,by decide +kernel,by decide +kernel⟩
theorem sc_q0h : q1m ["_law_cell", "_law_most"] ["_law_cell"] (q18 s_q0h) := ⟨rfl,rfl,rfl,by decide +kernel,rfl,by decide +kernel,by decide +kernel⟩
theorem sc_q0b : q1m ["_law_script", "_law_pick", "_law_cell", "_law_name_here", "_law_kind", "_law_room", "_law_rooms", "_law_pairs", "_law_stays"] ["_law_script", "_law_pick", "_law_cell"] (q18 s_q0b) := ⟨rfl,rfl,rfl,by decide +kernel,rfl,by decide +kernel,by decide +kernel⟩
theorem sc_q00 : q1m ["_law_thing_here", "_law_least", "_law_most"] ["_law_thing_here"] (q18 s_q00) := ⟨rfl,rfl,rfl,by decide +kernel,rfl,by decide +kernel,by decide +kernel⟩
theorem sc_q0g : q1m ["_law_there", "_law_thing_here", "_law_sign", "_law_rooms", "_law_room"] ["_law_there", "_law_thing_here"] (q18 s_q0g) := ⟨rfl,rfl,rfl,by decide +kernel,rfl,by decide +kernel,by decide +kernel⟩
theorem sc_q06 : q1m ["_law_cellar", "_law_thing_here"] ["_law_cellar", "_law_thing_here"] (q18 s_q06) := ⟨rfl,rfl,rfl,by decide +kernel,rfl,by decide +kernel,by decide +kernel⟩
theorem sc_q07 : q1m ["_law_cellar", "_law_thing_here", "_law_found", "_law_answer_here", "_law_e"] ["_law_cellar", "_law_thing_here"] (q18 s_q07) := ⟨rfl,rfl,rfl,by decide +kernel,rfl,by decide +kernel,by decide +kernel⟩
theorem qee : q1m ["_law_script", "_law_cellar", "_law_there", "_law_things", "_law_k", "_law_thing_here", "_law_due_here", "_law_name_here"] ["_law_script"] (q18 q50) := ⟨rfl,rfl,rfl,by decide +kernel,rfl,by decide +kernel,by decide +kernel⟩
theorem sc_qb : q1m ["self", "kind", "name"] ["self", "kind", "name"] (q18 s_qb) := ⟨rfl,rfl,rfl,by decide +kernel,rfl,by decide +kernel,by decide +kernel⟩
theorem sc_qw : q1m ["self", "name", "damp", "warmth"] ["self", "name", "damp", "warmth"] (q18 s_qw) := ⟨rfl,rfl,rfl,by decide +kernel,rfl,by decide +kernel,by decide +kernel⟩
theorem sc_qt : q1m ["self", "name", "room"] ["self", "name", "room"] (q18 s_qt) := ⟨rfl,rfl,rfl,by decide +kernel,rfl,by decide +kernel,by decide +kernel⟩
theorem sc_qu : q1m ["self", "name", "mouldy", "turn_gap", "wash_gap", "route"] ["self", "name", "mouldy", "turn_gap", "wash_gap", "route"] (q18 s_qu) := ⟨rfl,rfl,rfl,by decide +kernel,rfl,by decide +kernel,by decide +kernel⟩
theorem sc_qo : q1m ["self", "kind", "name"] ["self", "kind", "name"] (q18 s_qo) := ⟨rfl,rfl,rfl,by decide +kernel,rfl,by decide +kernel,by decide +kernel⟩
theorem sc_qr : q1m ["self"] ["self"] (q18 s_qr) := ⟨rfl,rfl,rfl,by decide +kernel,rfl,by decide +kernel,by decide +kernel⟩
theorem sc_qa : q1m ["self", "name"] ["self", "name"] (q18 s_qa) := ⟨rfl,rfl,rfl,by decide +kernel,rfl,by decide +kernel,by decide +kernel⟩
theorem sc_qq : q1m ["self", "name", "kind", "thing"] ["self", "name", "kind"] (q18 s_qq) := ⟨rfl,rfl,rfl,by decide +kernel,rfl,by decide +kernel,by decide +kernel⟩
theorem sc_qf : q1m ["self", "thing"] ["self", "thing"] (q18 s_qf) := ⟨rfl,rfl,rfl,by decide +kernel,rfl,by decide +kernel,by decide +kernel⟩
theorem sc_qm : q1m ["self", "name", "damp", "warmth"] ["self", "name", "damp", "warmth"] (q18 s_qm) := ⟨rfl,rfl,rfl,by decide +kernel,rfl,by decide +kernel,by decide +kernel⟩
theorem sc_qh : q1m ["self", "name", "room"] ["self", "name", "room"] (q18 s_qh) := ⟨rfl,rfl,rfl,by decide +kernel,rfl,by decide +kernel,by decide +kernel⟩
theorem sc_qg : q1m ["self", "name", "mouldy", "turn_gap", "wash_gap", "route", "rooms", "gap"] ["self", "name", "mouldy", "turn_gap", "wash_gap", "route"] (q18 s_qg) := ⟨rfl,rfl,rfl,by decide +kernel,rfl,by decide +kernel,by decide +kernel⟩
theorem sc_qp : q1m ["self", "name"] ["self", "name"] (q18 s_qp) := ⟨rfl,rfl,rfl,by decide +kernel,rfl,by decide +kernel,by decide +kernel⟩
theorem sc_qi : q1m ["self", "name"] ["self", "name"] (q18 s_qi) := ⟨rfl,rfl,rfl,by decide +kernel,rfl,by decide +kernel,by decide +kernel⟩
theorem sc_qj : q1m ["self", "name"] ["self", "name"] (q18 s_qj) := ⟨rfl,rfl,rfl,by decide +kernel,rfl,by decide +kernel,by decide +kernel⟩
theorem sc_qz : q1m ["self"] ["self"] (q18 s_qz) := ⟨rfl,rfl,rfl,by decide +kernel,rfl,by decide +kernel,by decide +kernel⟩
def clT (A : Adr) : Nat -> Addr := fun n => match n with | 0 => A.c_q0o | 1 => A.c_q0r | 2 => A.c_q0q | 3 => A.c_q0p | 4 => A.c_q0m | 8 => A.c_q09 | 20 => A.c_q0a | 21 => A.c_q02 | 22 => A.c_q08 | 23 => A.c_q03 | 24 => A.c_qx | 25 => A.c_q0s | 26 => A.c_qy | 27 => A.c_q0n | 28 => A.c_q0l | 29 => A.c_q0k | _ => 0
def fnT : Nat -> Str := fun n => match n with | 0 => "kind" | 1 => "name" | 2 => "damp" | 3 => "warmth" | 4 => "room" | 5 => "mouldy" | 6 => "turn_gap" | 7 => "wash_gap" | 8 => "rooms" | 9 => "stays" | 18 => "today" | 19 => "things" | 20 => "wheels" | 21 => "entries" | _ => ""
theorem injT (c i j : Nat) (hi : i ∈ flT c) (hj : j ∈ flT c) (e : fnT i = fnT j) : i = j := by
  have all : ∀ i ∈ ([0,1,2,3,4,5,6,7,8,9,18,19,20,21] : List Nat), ∀ j ∈ ([0,1,2,3,4,5,6,7,8,9,18,19,20,21] : List Nat),fnT i = fnT j -> i = j := by decide +kernel
  have lt : ∀ c i,i ∈ flT c -> i ∈ ([0,1,2,3,4,5,6,7,8,9,18,19,20,21] : List Nat) := by
    intro c i h
    unfold flT at h
    split at h <;> simp at h ⊢ <;> omega
  exact all i (lt c i hi) j (lt c j hj) e
section
variable {P : Program} {w : World} {K : W.Frag} {mg : Str -> Option Value} {base : Heap} {A : Adr}
theorem fldT (T : Txt K mg A) (c i : Nat) (h : i ∈ flT c) : Cls K (clT A c) /\ q25 K (clT A c) (fnT i) := by
  unfold flT at h
  split at h
  . simp only [List.mem_cons,List.not_mem_nil,or_false] at h
    rcases h with rfl | rfl
    . exact ⟨T.Cls_q0o,T.na_Thing_kind⟩
    . exact ⟨T.Cls_q0o,T.na_Thing_name⟩
  . simp only [List.mem_cons,List.not_mem_nil,or_false] at h
    rcases h with rfl | rfl | rfl | rfl
    . exact ⟨T.Cls_q0r,T.na_Room_kind⟩
    . exact ⟨T.Cls_q0r,T.na_Room_name⟩
    . exact ⟨T.Cls_q0r,T.na_Room_damp⟩
    . exact ⟨T.Cls_q0r,T.na_Room_warmth⟩
  . simp only [List.mem_cons,List.not_mem_nil,or_false] at h
    rcases h with rfl | rfl | rfl
    . exact ⟨T.Cls_q0q,T.na_Shelf_kind⟩
    . exact ⟨T.Cls_q0q,T.na_Shelf_name⟩
    . exact ⟨T.Cls_q0q,T.na_Shelf_room⟩
  . simp only [List.mem_cons,List.not_mem_nil,or_false] at h
    rcases h with rfl | rfl | rfl | rfl | rfl | rfl | rfl
    . exact ⟨T.Cls_q0p,T.na_Sort_kind⟩
    . exact ⟨T.Cls_q0p,T.na_Sort_name⟩
    . exact ⟨T.Cls_q0p,T.na_Sort_mouldy⟩
    . exact ⟨T.Cls_q0p,T.na_Sort_turn_gap⟩
    . exact ⟨T.Cls_q0p,T.na_Sort_wash_gap⟩
    . exact ⟨T.Cls_q0p,T.na_Sort_rooms⟩
    . exact ⟨T.Cls_q0p,T.na_Sort_stays⟩
  . simp only [List.mem_cons,List.not_mem_nil,or_false] at h
    rcases h with rfl | rfl | rfl
    . exact ⟨T.Cls_q0m,T.na_Washer_kind⟩
    . exact ⟨T.Cls_q0m,T.na_Washer_name⟩
    . exact ⟨T.Cls_q0m,T.na_Washer_mouldy⟩
  . simp only [List.mem_cons,List.not_mem_nil,or_false] at h
    rcases h with rfl | rfl | rfl | rfl
    . exact ⟨T.Cls_q09,T.na_Cellar_today⟩
    . exact ⟨T.Cls_q09,T.na_Cellar_things⟩
    . exact ⟨T.Cls_q09,T.na_Cellar_wheels⟩
    . exact ⟨T.Cls_q09,T.na_Cellar_entries⟩
  . simp at h
def ctOf (T : Txt K mg A) : Ct := ⟨K,clT A,fnT,flT,injT,fldT T,flG,none⟩
theorem hsubT (T : Txt K mg A) (c : Nat) (x : Str) (h : wdT c = some x) : W.subIn K (.ref (clT A c)) (.ref A.c_q0a) = some true := by
  unfold wdT at h
  split at h
  . exact T.s_BadName_CellarError
  . exact T.s_Taken_CellarError
  . exact T.s_Unknown_CellarError
  . exact T.s_BadNumber_CellarError
  . exact T.s_WrongRoom_CellarError
  . cases h
theorem isx_q0k (T : Txt K mg A) (c : Nat) (b : Bool) (h : sbT_q0k c = some b) : ExcK K (clT A c) /\ W.kitOne K (.ref (clT A c)) (clsU (.ref A.c_q0k)) = some b := by
  unfold sbT_q0k at h
  split at h
  . cases h; exact ⟨T.e_q02,q1g T.C_q0k T.s_BadName_BadName T.s_BadName_BadLine⟩
  . cases h; exact ⟨T.e_q08,q1g T.C_q0k T.s_Taken_Taken T.s_Taken_BadLine⟩
  . cases h; exact ⟨T.e_q03,q1g T.C_q0k T.s_Unknown_Unknown T.s_Unknown_BadLine⟩
  . cases h; exact ⟨T.e_qx,q1g T.C_q0k T.s_BadNumber_BadNumber T.s_BadNumber_BadLine⟩
  . cases h; exact ⟨T.e_qy,q1g T.C_q0k T.s_WrongRoom_WrongRoom T.s_WrongRoom_BadLine⟩
  . cases h
theorem isx_q02 (T : Txt K mg A) (c : Nat) (b : Bool) (h : sbT_q02 c = some b) : ExcK K (clT A c) /\ W.kitOne K (.ref (clT A c)) (clsU (.ref A.c_q02)) = some b := by
  unfold sbT_q02 at h
  split at h
  . cases h; exact ⟨T.e_q02,q1g T.C_q02 T.s_BadName_BadName T.s_BadName_BadName⟩
  . cases h; exact ⟨T.e_q08,q1g T.C_q02 T.s_Taken_Taken T.s_Taken_BadName⟩
  . cases h; exact ⟨T.e_q03,q1g T.C_q02 T.s_Unknown_Unknown T.s_Unknown_BadName⟩
  . cases h; exact ⟨T.e_qx,q1g T.C_q02 T.s_BadNumber_BadNumber T.s_BadNumber_BadName⟩
  . cases h; exact ⟨T.e_qy,q1g T.C_q02 T.s_WrongRoom_WrongRoom T.s_WrongRoom_BadName⟩
  . cases h
theorem isx_q08 (T : Txt K mg A) (c : Nat) (b : Bool) (h : sbT_q08 c = some b) : ExcK K (clT A c) /\ W.kitOne K (.ref (clT A c)) (clsU (.ref A.c_q08)) = some b := by
  unfold sbT_q08 at h
  split at h
  . cases h; exact ⟨T.e_q02,q1g T.C_q08 T.s_BadName_BadName T.s_BadName_Taken⟩
  . cases h; exact ⟨T.e_q08,q1g T.C_q08 T.s_Taken_Taken T.s_Taken_Taken⟩
  . cases h; exact ⟨T.e_q03,q1g T.C_q08 T.s_Unknown_Unknown T.s_Unknown_Taken⟩
  . cases h; exact ⟨T.e_qx,q1g T.C_q08 T.s_BadNumber_BadNumber T.s_BadNumber_Taken⟩
  . cases h; exact ⟨T.e_qy,q1g T.C_q08 T.s_WrongRoom_WrongRoom T.s_WrongRoom_Taken⟩
  . cases h
theorem isx_q03 (T : Txt K mg A) (c : Nat) (b : Bool) (h : sbT_q03 c = some b) : ExcK K (clT A c) /\ W.kitOne K (.ref (clT A c)) (clsU (.ref A.c_q03)) = some b := by
  unfold sbT_q03 at h
  split at h
  . cases h; exact ⟨T.e_q02,q1g T.C_q03 T.s_BadName_BadName T.s_BadName_Unknown⟩
  . cases h; exact ⟨T.e_q08,q1g T.C_q03 T.s_Taken_Taken T.s_Taken_Unknown⟩
  . cases h; exact ⟨T.e_q03,q1g T.C_q03 T.s_Unknown_Unknown T.s_Unknown_Unknown⟩
  . cases h; exact ⟨T.e_qx,q1g T.C_q03 T.s_BadNumber_BadNumber T.s_BadNumber_Unknown⟩
  . cases h; exact ⟨T.e_qy,q1g T.C_q03 T.s_WrongRoom_WrongRoom T.s_WrongRoom_Unknown⟩
  . cases h
theorem isx_qx (T : Txt K mg A) (c : Nat) (b : Bool) (h : sbT_qx c = some b) : ExcK K (clT A c) /\ W.kitOne K (.ref (clT A c)) (clsU (.ref A.c_qx)) = some b := by
  unfold sbT_qx at h
  split at h
  . cases h; exact ⟨T.e_q02,q1g T.C_qx T.s_BadName_BadName T.s_BadName_BadNumber⟩
  . cases h; exact ⟨T.e_q08,q1g T.C_qx T.s_Taken_Taken T.s_Taken_BadNumber⟩
  . cases h; exact ⟨T.e_q03,q1g T.C_qx T.s_Unknown_Unknown T.s_Unknown_BadNumber⟩
  . cases h; exact ⟨T.e_qx,q1g T.C_qx T.s_BadNumber_BadNumber T.s_BadNumber_BadNumber⟩
  . cases h; exact ⟨T.e_qy,q1g T.C_qx T.s_WrongRoom_WrongRoom T.s_WrongRoom_BadNumber⟩
  . cases h
theorem isx_q0s (T : Txt K mg A) (c : Nat) (b : Bool) (h : sbT_q0s c = some b) : ExcK K (clT A c) /\ W.kitOne K (.ref (clT A c)) (clsU (.ref A.c_q0s)) = some b := by
  unfold sbT_q0s at h
  split at h
  . cases h; exact ⟨T.e_q02,q1g T.C_q0s T.s_BadName_BadName T.s_BadName_Gone⟩
  . cases h; exact ⟨T.e_q08,q1g T.C_q0s T.s_Taken_Taken T.s_Taken_Gone⟩
  . cases h; exact ⟨T.e_q03,q1g T.C_q0s T.s_Unknown_Unknown T.s_Unknown_Gone⟩
  . cases h; exact ⟨T.e_qx,q1g T.C_q0s T.s_BadNumber_BadNumber T.s_BadNumber_Gone⟩
  . cases h; exact ⟨T.e_qy,q1g T.C_q0s T.s_WrongRoom_WrongRoom T.s_WrongRoom_Gone⟩
  . cases h
theorem isx_qy (T : Txt K mg A) (c : Nat) (b : Bool) (h : sbT_qy c = some b) : ExcK K (clT A c) /\ W.kitOne K (.ref (clT A c)) (clsU (.ref A.c_qy)) = some b := by
  unfold sbT_qy at h
  split at h
  . cases h; exact ⟨T.e_q02,q1g T.C_qy T.s_BadName_BadName T.s_BadName_WrongRoom⟩
  . cases h; exact ⟨T.e_q08,q1g T.C_qy T.s_Taken_Taken T.s_Taken_WrongRoom⟩
  . cases h; exact ⟨T.e_q03,q1g T.C_qy T.s_Unknown_Unknown T.s_Unknown_WrongRoom⟩
  . cases h; exact ⟨T.e_qx,q1g T.C_qy T.s_BadNumber_BadNumber T.s_BadNumber_WrongRoom⟩
  . cases h; exact ⟨T.e_qy,q1g T.C_qy T.s_WrongRoom_WrongRoom T.s_WrongRoom_WrongRoom⟩
  . cases h
theorem isx_q0n (T : Txt K mg A) (c : Nat) (b : Bool) (h : sbT_q0n c = some b) : ExcK K (clT A c) /\ W.kitOne K (.ref (clT A c)) (clsU (.ref A.c_q0n)) = some b := by
  unfold sbT_q0n at h
  split at h
  . cases h; exact ⟨T.e_q02,q1g T.C_q0n T.s_BadName_BadName T.s_BadName_Mouldy⟩
  . cases h; exact ⟨T.e_q08,q1g T.C_q0n T.s_Taken_Taken T.s_Taken_Mouldy⟩
  . cases h; exact ⟨T.e_q03,q1g T.C_q0n T.s_Unknown_Unknown T.s_Unknown_Mouldy⟩
  . cases h; exact ⟨T.e_qx,q1g T.C_q0n T.s_BadNumber_BadNumber T.s_BadNumber_Mouldy⟩
  . cases h; exact ⟨T.e_qy,q1g T.C_q0n T.s_WrongRoom_WrongRoom T.s_WrongRoom_Mouldy⟩
  . cases h
theorem isx_q0l (T : Txt K mg A) (c : Nat) (b : Bool) (h : sbT_q0l c = some b) : ExcK K (clT A c) /\ W.kitOne K (.ref (clT A c)) (clsU (.ref A.c_q0l)) = some b := by
  unfold sbT_q0l at h
  split at h
  . cases h; exact ⟨T.e_q02,q1g T.C_q0l T.s_BadName_BadName T.s_BadName_TooMuch⟩
  . cases h; exact ⟨T.e_q08,q1g T.C_q0l T.s_Taken_Taken T.s_Taken_TooMuch⟩
  . cases h; exact ⟨T.e_q03,q1g T.C_q0l T.s_Unknown_Unknown T.s_Unknown_TooMuch⟩
  . cases h; exact ⟨T.e_qx,q1g T.C_q0l T.s_BadNumber_BadNumber T.s_BadNumber_TooMuch⟩
  . cases h; exact ⟨T.e_qy,q1g T.C_q0l T.s_WrongRoom_WrongRoom T.s_WrongRoom_TooMuch⟩
  . cases h
theorem q93 (T : Txt K mg A) (c : Nat) (b : Bool) (h : q42 c = some b) : ExcK K (clT A c) /\ W.kitOne K (.ref (clT A c)) (clsU (.ty "ValueError")) = some b := by
  unfold q42 at h
  split at h
  . cases h; exact ⟨T.e_q02,L2.q5f rfl T.v_q02⟩
  . cases h; exact ⟨T.e_q08,L2.q5f rfl T.v_q08⟩
  . cases h; exact ⟨T.e_q03,L2.q5f rfl T.v_q03⟩
  . cases h; exact ⟨T.e_qx,L2.q5f rfl T.v_qx⟩
  . cases h; exact ⟨T.e_qy,L2.q5f rfl T.v_qy⟩
  . cases h
theorem zq_q0c (T : Txt K mg A) : q8n P w K mg base CX0 1 A.a_q0c A.fd_q0c ["_law_e"] (q8i (ctOf T) wdT) := by
  refine T.F_q0c.okQ sc_q0c (fun vs H Q E h => ?_) (fun cdv A' outer s H vs Q E ah hr hA hv h => ?_)
  . obtain ⟨a,c,x,rfl,_⟩ := h
    rfl
  . have nd := sc_q0c.nd
    obtain ⟨c,h⟩ := qdd hv word_true h
    exact ⟨_,(q19 (q2q (i := 1) nd rfl (Or.inl rfl) (q31 (q0z (q2b (q0z q1b (q0z (q26 q37 rfl T.n_isinstance PyProof.Rows.boot_isinstance (q0z (pv 0) (q0z (q3f (v := .ref A.c_q0k) rfl T.c_q0k rfl) q15))) q15))) (q0z (q2b (q0z q1b (q0z (q26 q37 rfl T.n_isinstance PyProof.Rows.boot_isinstance (q0z (pv 0) (q0z (q3f (v := .ref A.c_q02) rfl T.c_q02 rfl) q15))) q15))) (q0z (q2b (q0z q1b (q0z (q26 q37 rfl T.n_isinstance PyProof.Rows.boot_isinstance (q0z (pv 0) (q0z (q3f (v := .ref A.c_q08) rfl T.c_q08 rfl) q15))) q15))) q15)))))
 (q19 (q2q (i := 1) nd rfl (Or.inl rfl) (q1f q58 (pv 1) (q31 (q0z (q2b (q0z q1b (q0z (q26 q37 rfl T.n_isinstance PyProof.Rows.boot_isinstance (q0z (pv 0) (q0z (q3f (v := .ref A.c_q03) rfl T.c_q03 rfl) q15))) q15))) (q0z (q2b (q0z q1b (q0z (q26 q37 rfl T.n_isinstance PyProof.Rows.boot_isinstance (q0z (pv 0) (q0z (q3f (v := .ref A.c_qx) rfl T.c_qx rfl) q15))) q15))) q15)))))
 (q19 (q2q (i := 1) nd rfl (Or.inl rfl) (q1f q58 (pv 1) (q31 (q0z (q2b (q0z q1b (q0z (q26 q37 rfl T.n_isinstance PyProof.Rows.boot_isinstance (q0z (pv 0) (q0z (q3f (v := .ref A.c_q0s) rfl T.c_q0s rfl) q15))) q15))) (q0z (q2b (q0z q1b (q0z (q26 q37 rfl T.n_isinstance PyProof.Rows.boot_isinstance (q0z (pv 0) (q0z (q3f (v := .ref A.c_qy) rfl T.c_qy rfl) q15))) q15))) q15)))))
 (q19 (q2q (i := 1) nd rfl (Or.inl rfl) (q1f q58 (pv 1) (q31 (q0z (q2b (q0z q1b (q0z (q26 q37 rfl T.n_isinstance PyProof.Rows.boot_isinstance (q0z (pv 0) (q0z (q3f (v := .ref A.c_q0n) rfl T.c_q0n rfl) q15))) q15))) (q0z (q2b (q0z q1b (q0z (q26 q37 rfl T.n_isinstance PyProof.Rows.boot_isinstance (q0z (pv 0) (q0z (q3f (v := .ref A.c_q0l) rfl T.c_q0l rfl) q15))) q15))) q15)))))
 (q19 (q2q (i := 1) nd rfl (Or.inl rfl) (q1f q58 (pv 1) (q31 (q0z (q2b (q0z q1b (q0z (qef (q26 q37 rfl T.n_isinstance PyProof.Rows.boot_isinstance (q0z (pv 0) (q0z (q8z (v := .ty "ValueError") rfl T.n_ValueError PyProof.Rows.Boot.«ValueError» rfl) q15)))) q15))) q15))))
 (q1a (q1v (qdz PySem.F.plainAttrs_str PySem.F.slot_str_join PySem.F.type_str_join qhs q1b (q0z (pe_lcQ (ah := ah) (osc := q18 s_q0c) (N0 := ["_law_e", "_law_told"]) hA rfl rfl (own := ["_law_word", "_law_there"]) (fv := []) ⟨rfl,by decide +kernel,by decide +kernel,by decide +kernel,by decide +kernel,by decide +kernel⟩ (qgk (ah := ah) (pv 1)) (fun _ _ _ => (qhv (K := K) (ah := ah) (n := 2) rfl hA (q2w (q29 (i := 0) (show (["_law_word", "_law_there"] : List Str).Nodup by decide +kernel) rfl (Or.inl rfl) (hf := Or.inr rfl)) (q2w (q29 (i := 1) (show (["_law_word", "_law_there"] : List Str).Nodup by decide +kernel) rfl (Or.inl rfl) (hf := Or.inr rfl)) q5a)))) (fun _ _ _ => (qiu (q7z (pv 1)))) (fun _ _ _ => (pv 0))) q15))))))))),q1z (C := (ctOf T).at ah (clT A c)) (E := E0) ((q1c (q2d (q39 (q11 (q2a (q11 q1d (q11 (q43 (cv := .ref A.c_q0k) (sub := sbT_q0k) rfl (isx_q0k T) q10) q17))) (q11 (q2a (q11 q1d (q11 (q43 (cv := .ref A.c_q02) (sub := sbT_q02) rfl (isx_q02 T) q10) q17))) (q11 (q2a (q11 q1d (q11 (q43 (cv := .ref A.c_q08) (sub := sbT_q08) rfl (isx_q08 T) q10) q17))) q17)))) q1r)
 (q1c (q2d (q16 q68 q10 (q39 (q11 (q2a (q11 q1d (q11 (q43 (cv := .ref A.c_q03) (sub := sbT_q03) rfl (isx_q03 T) q10) q17))) (q11 (q2a (q11 q1d (q11 (q43 (cv := .ref A.c_qx) (sub := sbT_qx) rfl (isx_qx T) q10) q17))) q17)))) q1r)
 (q1c (q2d (q16 q68 q10 (q39 (q11 (q2a (q11 q1d (q11 (q43 (cv := .ref A.c_q0s) (sub := sbT_q0s) rfl (isx_q0s T) q10) q17))) (q11 (q2a (q11 q1d (q11 (q43 (cv := .ref A.c_qy) (sub := sbT_qy) rfl (isx_qy T) q10) q17))) q17)))) q1r)
 (q1c (q2d (q16 q68 q10 (q39 (q11 (q2a (q11 q1d (q11 (q43 (cv := .ref A.c_q0n) (sub := sbT_q0n) rfl (isx_q0n T) q10) q17))) (q11 (q2a (q11 q1d (q11 (q43 (cv := .ref A.c_q0l) (sub := sbT_q0l) rfl (isx_q0l T) q10) q17))) q17)))) q1r)
 (q1c (q2d (q16 q68 q10 (q39 (q11 (q2a (q11 q1d (q11 (qe9 (q43 (cv := .ty "ValueError") (sub := q42) rfl (q93 T) q10)) q17))) q17))) q1r)
 (q1w (se_bmS qhi q1d (q11 (q5v (own := ["_law_word", "_law_there"]) (fv := []) (qgj (C := (ctOf T).at ah _) rfl q10) (qgw (C := (ctOf T).at ah _) rfl (q2x q2p (q2x q2p q5c))) (st_b q10) q10) q17))))))))) rfl h⟩
theorem z_q0i (T : Txt K mg A) : FnOk P w K mg base (CX1 P w) 1 A.a_q0i A.fd_q0i ["text", "signs"] (spZ (ctOf T) 2 m_q0i) := by
  refine T.F_q0i.okR sc_q0i (fun vs H Q E h => q23 h) (fun cdv A' outer s H vs Q E hr h => ?_)
  have nd := sc_q0i.nd
  have hu := q2n hr
  exact ⟨_,(q1a (q1v (q26 (qey rfl) rfl T.n_all PyProof.Rows.boot_all (q0z (q73 (osc := q18 s_q0i) (N0 := ["text", "signs"]) rfl rfl rfl (own := ["sign"]) (fv := [("signs",1)]) ⟨rfl,by decide +kernel,by decide +kernel,by decide +kernel,by decide +kernel,by decide +kernel⟩ (qb9 (pv 0)) (fun _ _ _ => (q29 (i := 0) (show (["sign", "signs"] : List Str).Nodup by decide +kernel) rfl (Or.inl rfl) (hf := Or.inr rfl))) (fun _ _ _ => q41) (fun _ _ _ => (q4p qf3 (pv 0) (pv 1) rfl))) q15)))),q1z (C := ctOf T) ((q1w (q44 sc_all (q11 (q5v (own := ["sign"]) (fv := [("signs",1)]) (qbk q10) q2p q4f (q16 s2_inS q10 q10)) q17)))) rfl h⟩
theorem z_q0j (T : Txt K mg A) : FnOk P w K mg base (CX1 P w) 2 A.a_q0j A.fd_q0j ["text"] (spZ (ctOf T) 1 m_q0j) := by
  refine T.F_q0j.okR sc_q0j (fun vs H Q E h => q23 h) (fun cdv A' outer s H vs Q E hr h => ?_)
  have nd := sc_q0j.nd
  have hu := q2n hr
  exact ⟨_,(q1a (q1v (qfa (qh5 qa5 qa5 q14 (q26 q3o rfl T.n_len PySem.boot_len (q0z (pv 0) q15)) (q6h rfl T.g_q0u)) (qak (q2c (z_q0i T) hr.q9 rfl T.d_q0i T.F_q0i.kp T.b_q0i .nil q1i.passes (q0z (pv 0) (q0z (qhf rfl T.g_q0t) q15))))))),q1z (C := ctOf T) ((q1w (qeb (qaj qa3 qa3 q13 (q44 q4x (q11 q10 q17)) q13) (q22 (q11 q10 (q11 q1d q17)))))) rfl h⟩
theorem z_q01 (T : Txt K mg A) : FnOk P w K mg base (CX1 P w) 1 A.a_q01 A.fd_q01 ["number", "least", "most"] (spZ (ctOf T) 3 m_q01) := by
  refine T.F_q01.okR sc_q01 (fun vs H Q E h => q23 h) (fun cdv A' outer s H vs Q E hr h => ?_)
  have nd := sc_q01.nd
  have hu := q2n hr
  exact ⟨_,(q1a (q2e (qbf (qha qa5 qa5 (pv 1) (pv 0) (pv 2)))
 (q1a (q5l q1i hr.hd rfl T.c_qx T.x_qx PySem.F.excBase_ValueError rfl PySem.F.excBase_ValueError (q0z (q7b (q34 q1b (q34 (q96 (pv 1)) (q34 q1b (q34 (q96 (pv 2)) (q34 q1b (q34 (q96 (pv 0)) q8y))))))) q15)))
 q1s)),q1z (C := ctOf T) ((q2f (qap (q1t (qaj qa3 qa3 q10 q10 q10)))
 (q5j (c := 24) (q75 (q4q (q99 q10 (q4q (q99 q10 (q4q (q99 q10 q7a)))))) (by decide +kernel)))
 q1q)) rfl h⟩
theorem z_q0d (T : Txt K mg A) : FnOk P w K mg base (CX1 P w) 2 A.a_q0d A.fd_q0d ["least", "most"] (spZ (ctOf T) 2 m_q0d) := by
  refine T.F_q0d.okR sc_q0d (fun vs H Q E h => q23 h) (fun cdv A' outer s H vs Q E hr h => ?_)
  have nd := sc_q0d.nd
  have hu := q2n hr
  exact ⟨_,(q19 (q2l (q2c (z_q01 T) hr.q9 rfl T.d_q01 T.F_q01.kp T.b_q01 .nil q1i.passes (q0z (pv 1) (q0z q14 (q0z (q6h rfl T.g_q0w) q15)))))
 (q1a (q2l (q2c (z_q01 T) hr.q9 rfl T.d_q01 T.F_q01.kp T.b_q01 .nil q1i.passes (q0z (pv 0) (q0z q14 (q0z (pv 1) q15))))))),q1z (C := ctOf T) ((q1c (q2i (q22 (q11 q10 (q11 q13 (q11 q13 q17)))))
 (q2i (q22 (q11 q10 (q11 q13 (q11 q10 q17))))))) rfl h⟩
theorem z_q0e (T : Txt K mg A) : FnOk P w K mg base (CX1 P w) 1 A.a_q0e A.fd_q0e ["_law_script", "_law_k"] (spZ (ctOf T) 2 m_q0e) := by
  refine T.F_q0e.okR sc_q0e (fun vs H Q E h => q23 h) (fun cdv A' outer s H vs Q E hr h => ?_)
  have nd := sc_q0e.nd
  have hu := q2n hr
  exact ⟨_,(q19 (q2e (q1x q5n (pv 1) (q26 q3o rfl T.n_len PySem.boot_len (q0z (pv 0) q15)) (q1y _))
 (q1a (q1v (q1j q1h (pv 0) (pv 1) (fun _ _ => rfl))))
 q1s)
 (q1a (q1v q14))),q1z (C := ctOf T) ((q1c (q2f (q1t (q16 q5p q10 (q44 q4x (q11 q10 q17))))
 (q1w (q16 q1l q10 q10))
 q1q)
 (q1w q13))) rfl h⟩
theorem z_q0f (T : Txt K mg A) : FnOk P w K mg base (CX1 P w) 1 A.a_q0f A.fd_q0f ["_law_found"] (spZ (ctOf T) 1 m_q0f) := by
  refine T.F_q0f.okR sc_q0f (fun vs H Q E h => q23 h) (fun cdv A' outer s H vs Q E hr h => ?_)
  have nd := sc_q0f.nd
  have hu := q2n hr
  exact ⟨_,(q1a (q1v (qfa (q26 q9j rfl T.n_isinstance PyProof.Rows.boot_isinstance (q0z (pv 0) (q0z (q8z (v := .ty "int") rfl T.n_int PyProof.Rows.boot_int rfl) q15))) (qak (qef (q26 q9j rfl T.n_isinstance PyProof.Rows.boot_isinstance (q0z (pv 0) (q0z (q8z (v := .ty "bool") rfl T.n_bool PyProof.Rows.boot_bool rfl) q15)))))))),q1z (C := ctOf T) ((q1w (qeb (qf9 .int rfl (by intro z; cases z) q10) (qe9 (qf9 .bool rfl (by intro z; cases z) q10))))) rfl h⟩
theorem z_q04 (T : Txt K mg A) : FnOk P w K mg base (CX1 P w) 2 A.a_q04 A.fd_q04 ["_law_script", "_law_mark"] (spZ (ctOf T) 2 m_q04) := by
  refine T.F_q04.okR sc_q04 (fun vs H Q E h => q23 h) (fun cdv A' outer s H vs Q E hr h => ?_)
  have nd := sc_q04.nd
  have hu := q2n hr
  exact ⟨_,(q19 (q2q (i := 2) nd rfl (Or.inl rfl) (q7t qba q1b q94 (q9b (q26 (qd4 rfl) rfl T.n_min PyProof.Rows.boot_min (q0z (q1f q2j (q2c (z_q0e T) hr.q9 rfl T.d_q0e T.F_q0e.kp T.b_q0e .nil q1i.passes (q0z (pv 0) (q0z q14 q15))) q14) (q0z (q1f q5k q14 (q26 q3o rfl T.n_len PySem.boot_len (q0z (pv 1) q15))) q15))))))
 (q19 (q2q (i := 3) nd rfl (Or.inl rfl) (q1f q2j (q2c (z_q0e T) hr.q9 rfl T.d_q0e T.F_q0e.kp T.b_q0e .nil q1i.passes (q0z (pv 0) (q0z q14 q15))) (q1f q4t (q26 q3o rfl T.n_len PySem.boot_len (q0z (pv 2) q15)) q14)))
 (q1a (q1v (q1f q6k (q1f q6k (q7t qba (pv 2) q94 (q9b (pv 3))) (pv 1)) (q7t qba (pv 2) (q9b (pv 3)) q94)))))),q1z (C := ctOf T) ((q1c (q2d (qd9 qb8 q1d q92 (q90 (q44 qic (q11 (q16 q2k (q22 (q11 q10 (q11 q13 q17))) q13) (q11 (q16 q5m q13 (q44 q4x (q11 q10 q17))) q17))))) q1r)
 (q1c (q2d (q16 q2k (q22 (q11 q10 (q11 q13 q17))) (q16 q4y (q44 q4x (q11 q10 q17)) q13)) q1r)
 (q1w (q16 q97 (q16 q97 (qd9 qb8 q10 q92 (q90 q10)) q10) (qd9 qb8 q10 (q90 q10) q92)))))) rfl h⟩
theorem z_q05 (T : Txt K mg A) : FnOk P w K mg base (CX1 P w) 3 A.a_q05 A.fd_q05 ["_law_script", "_law_cell"] (spZ (ctOf T) 2 m_q05) := by
  refine T.F_q05.okR sc_q05 (fun vs H Q E h => q23 h) (fun cdv A' outer s H vs Q E hr h => ?_)
  have nd := sc_q05.nd
  have hu := q2n hr
  exact ⟨_,(q19 (q2e (q1x q3e (q1f q2j (pv 1) q14) q14 (q1y _))
 (q1a (q1v (q1j q1h (q31 (q0z q1b (q0z q1b (q0z q1b (q0z q1b (q0z q1b (q0z q1b q15))))))) (q1f q2j (q1f q2v (pv 1) q14) q14) (fun _ _ => rfl))))
 q1s)
 (q19 (q2q (i := 2) nd rfl (Or.inl rfl) (q1j q6t q1b (q1f q2j (q1f q2v (pv 1) q14) q14) (fun _ _ => rfl)))
 (q19 (q2e (q1x q3e (q1f q2j (q1f q2v (pv 1) q14) q14) q14 (q1y _))
 (q1a (q2q (i := 2) nd rfl (Or.inl rfl) (q1f q6k (pv 2) (q1j q6t q1b (q1f q2j (q1f q2v (pv 1) q14) q14) (fun _ _ => rfl)))))
 q1s)
 (q1a (q1v (q2c (z_q04 T) hr.q9 rfl T.d_q04 T.F_q04.kp T.b_q04 .nil q1i.passes (q0z (pv 0) (q0z (pv 2) q15)))))))),q1z (C := ctOf T) ((q1c (q2f (q1t (q16 q3d (q16 q2k q10 q13) q13))
 (q1w (q16 q1l (q39 (q11 q1d (q11 q1d (q11 q1d (q11 q1d (q11 q1d (q11 q1d q17))))))) (q16 q2k (q16 q32 q10 q13) q13)))
 q1q)
 (q1c (q2d (q16 q8w q1d (q16 q2k (q16 q32 q10 q13) q13)) q1r)
 (q1c (q2f (q1t (q16 q3d (q16 q2k (q16 q32 q10 q13) q13) q13))
 (q2d (q16 q97 q10 (q16 q8w q1d (q16 q2k (q16 q32 q10 q13) q13))) q1r)
 q1q)
 (q1w (q22 (q11 q10 (q11 q10 q17)))))))) rfl h⟩
theorem z_q0h (T : Txt K mg A) : FnOk P w K mg base (CX1 P w) 1 A.a_q0h A.fd_q0h ["_law_cell"] (spZ (ctOf T) 1 m_q0h) := by
  refine T.F_q0h.okR sc_q0h (fun vs H Q E h => q23 h) (fun cdv A' outer s H vs Q E hr h => ?_)
  have nd := sc_q0h.nd
  have hu := q2n hr
  exact ⟨_,(q19 (q2q (i := 1) nd rfl (Or.inl rfl) (q1j q1h (q31 (q0z (q1f q4t q14 (q1f q2j (q1f q2v (pv 0) q14) q14)) (q0z q14 (q0z q14 (q0z q14 q15))))) (q1f q2j (q1f q2v (pv 0) q14) q14) (fun _ _ => rfl)))
 (q19 (q2e (q1x q3e (q1f q2j (pv 0) q14) q14 (q1y _))
 (q1a (q1v (q2b (q0z (q1f q4t q14 (q1f q2j (q1f q2v (pv 0) q14) (pv 1))) (q0z (pv 1) q15)))))
 q1s)
 (q1a (q1v (q1j q1h (q31 (q0z (q2b (q0z (q1f q2j (q1f q2v (pv 0) q14) q14) (q0z (pv 1) q15))) (q0z (q2b (q0z (q1f q5k (q1f q4t (pv 1) q14) (q1f q2j (q1f q2v (pv 0) q14) q14)) (q0z (pv 1) q15))) q15))) (q1f q5k (q1f q2j (pv 0) q14) q14) (fun _ _ => rfl)))))),q1z (C := ctOf T) ((q1c (q2d (q16 q1l (q39 (q11 (q16 q4y q13 (q16 q2k (q16 q32 q10 q13) q13)) (q11 q13 (q11 q13 (q11 q13 q17))))) (q16 q2k (q16 q32 q10 q13) q13)) q1r)
 (q1c (q2f (q1t (q16 q3d (q16 q2k q10 q13) q13))
 (q1w (q2a (q11 (q16 q4y q13 (q16 q2k (q16 q32 q10 q13) q10)) (q11 q10 q17))))
 q1q)
 (q1w (q16 q1l (q39 (q11 (q2a (q11 (q16 q2k (q16 q32 q10 q13) q13) (q11 q10 q17))) (q11 (q2a (q11 (q16 q5m (q16 q4y q10 q13) (q16 q2k (q16 q32 q10 q13) q13)) (q11 q10 q17))) q17))) (q16 q5m (q16 q2k q10 q13) q13)))))) rfl h⟩
theorem z_q0b (T : Txt K mg A) : FnOk P w K mg base (CX1 P w) 4 A.a_q0b A.fd_q0b ["_law_script", "_law_pick", "_law_cell"] (spZ (ctOf T) 3 m_q0b) := by
  refine FnOk.imp (T.F_q0b.okR sc_q0b (fun vs H Q E h => q23 h) (fun cdv A' outer s H vs Q E hr h => ?_)) (fun vs H Q E h => qh0 h)
  have nd := sc_q0b.nd
  have hu := q2n hr
  exact ⟨_,(q19 (q2q (i := 3) nd rfl (Or.inl rfl) (q2c (z_q05 T) hr.q9 rfl T.d_q05 T.F_q05.kp T.b_q05 .nil q1i.passes (q0z (pv 0) (q0z (q1f q2v (pv 1) q14) q15))))
 (q19 (q2q (i := 4) nd rfl (Or.inl rfl) (q1f q2j (pv 1) q14))
 (q19 (q2q (i := 5) nd rfl (Or.inl rfl) (q2c (z_q04 T) hr.q9 rfl T.d_q04 T.F_q04.kp T.b_q04 .nil q1i.passes (q0z (pv 0) (q0z (q1j q6t q1b (q1f q2j (pv 2) q14) (fun _ _ => rfl)) q15))))
 (q19 (q2e (q1x q3e (pv 4) q14 (q1y _))
 (q1a (q1v (q2b (q0z q1b (q0z (q2c (z_q04 T) hr.q9 rfl T.d_q04 T.F_q04.kp T.b_q04 .nil q1i.passes (q0z (pv 0) (q0z (q1j q6t q1b (q1f q2j (q1f q2v (pv 1) q14) q14) (fun _ _ => rfl)) q15))) (q0z (q1f q5k (q1f q2j (pv 2) q14) q14) (q0z (q1f q5k (q1f q2j (q1f q2v (pv 2) q14) q14) q14) q15)))))))
 q1s)
 (q19 (q2e (q1x q3e (pv 4) q14 (q1y _))
 (q1a (q1v (q2b (q0z q1b (q0z (pv 3) (q0z (pv 5) q15))))))
 q1s)
 (q19 (q2e (q1x q7i (pv 4) q14 (q1y _))
 (q1a (q1v (q2b (q0z (q1j q1h (q31 (q0z q1b (q0z q1b (q0z q1b q15)))) (q1f q5k (pv 4) q14) (fun _ _ => rfl)) (q0z (pv 3) q15)))))
 q1s)
 (q19 (q2q (i := 6) nd rfl (Or.inr rfl) (q73 (osc := q18 s_q0b) (N0 := ["_law_script", "_law_pick", "_law_cell", "_law_name_here", "_law_kind", "_law_room", "_law_rooms", "_law_pairs", "_law_stays"]) rfl rfl rfl (own := ["_law_mark"]) (fv := [("_law_script",0)]) ⟨rfl,by decide +kernel,by decide +kernel,by decide +kernel,by decide +kernel,by decide +kernel⟩ (qb9 (q1j q1h (q31 (q0z q1b (q0z q1b (q0z q1b (q0z q1b (q0z q1b (q0z q1b q15))))))) (q1f q2j (q1f q2v (pv 2) q14) q14) (fun _ _ => rfl))) (fun _ _ _ => (q29 (i := 0) (show (["_law_mark", "_law_script"] : List Str).Nodup by decide +kernel) rfl (Or.inl rfl) (hf := Or.inr rfl))) (fun _ _ _ => q41) (fun _ _ _ => (q2c (z_q04 T) hr.q9 rfl T.d_q04 T.F_q04.kp T.b_q04 .nil q2z (q0z (pv 1) (q0z (pv 0) q15))))))
 (q19 (q2e (q1x q7i (q1f q2j (pv 2) q14) q14 (q1y _))
 (q1a (qec (pv 5) (qek (pv 6) (q1f q2j (q1f q2v (pv 2) q14) q14) set_list)))
 q1s)
 (q19 (q2q (i := 7) nd rfl (Or.inr rfl) (q31 (q0z (q2b (q0z q14 (q0z q14 q15))) (q0z (q2b (q0z q14 (q0z q14 q15))) (q0z (q2b (q0z q14 (q0z (q1f q4t q14 (q1f q2j (q1f q2v (pv 2) q14) q14)) q15))) (q0z (q2b (q0z q14 (q0z q14 q15))) (q0z (q2b (q0z q14 (q0z q14 q15))) q15)))))))
 (q19 (qec (q2c (z_q0h T) hr.q9 rfl T.d_q0h T.F_q0h.kp T.b_q0h .nil q1i.passes (q0z (q1f q2v (pv 2) q14) q15)) (qek (pv 7) (q1f q2j (q1f q2v (pv 2) q14) q14) set_list))
 (q19 (qbr (osc := q18 s_q0b) (N0 := ["_law_script", "_law_pick", "_law_cell", "_law_name_here", "_law_kind", "_law_room", "_law_rooms", "_law_pairs", "_law_stays"]) (i := 8) rfl rfl rfl nd rfl (Or.inl rfl) (own := ["_law_k"]) (fv := [("_law_pairs",7),("_law_rooms",6)]) ⟨rfl,by decide +kernel,by decide +kernel,by decide +kernel,by decide +kernel,by decide +kernel⟩ (qer rfl T.n_range (q0z (q1f q4t q14 (q1f q2j (q1f q2v (pv 2) q14) q14)) q15)) (fun _ _ _ => (q29 (i := 0) (show (["_law_k", "_law_pairs", "_law_rooms"] : List Str).Nodup by decide +kernel) rfl (Or.inl rfl) (hf := Or.inr rfl))) (fun _ _ _ => q41) (fun _ _ _ => (q1f (qez (K := K) rfl) (q2b (q0z (q1j (q65 (K := K) rfl) (pv 2) (pv 0) (fun _ _ => rfl)) q15)) (q1j (q65 (K := K) rfl) (pv 1) (q1f q4t q14 (pv 0)) (fun _ _ => rfl)))))
 (q1a (q1v (q2b (q0z q1b (q0z (pv 3) (q0z (q4p q3e (q1f q2j (pv 2) q14) q14 (q1y _)) (q0z (q1j q1h (pv 7) q14 (fun _ _ => rfl)) (q0z (q1j q1h (pv 7) q14 (fun _ _ => rfl)) (q0z (pv 8) q15)))))))))))))))))))),q1z (C := ctOf T) ((q1c (q2d (q22 (q11 q10 (q11 (q16 q32 q10 q13) q17))) q1r)
 (q1c (q2d (q16 q2k q10 q13) q1r)
 (q1c (q2d (q22 (q11 q10 (q11 (q16 q8w q1d (q16 q2k q10 q13)) q17))) q1r)
 (q1c (q2f (q1t (q16 q3d q10 q13))
 (q1w (q2a (q11 q1d (q11 (q22 (q11 q10 (q11 (q16 q8w q1d (q16 q2k (q16 q32 q10 q13) q13)) q17))) (q11 (q16 q5m (q16 q2k q10 q13) q13) (q11 (q16 q5m (q16 q2k (q16 q32 q10 q13) q13) q13) q17))))))
 q1q)
 (q1c (q2f (q1t (q16 q3d q10 q13))
 (q1w (q2a (q11 q1d (q11 q10 (q11 q10 q17)))))
 q1q)
 (q1c (q2f (q1t (q16 q72 q10 q13))
 (q1w (q2a (q11 (q16 q1l (q39 (q11 q1d (q11 q1d (q11 q1d q17)))) (q16 q5m q10 q13)) (q11 q10 q17))))
 q1q)
 (q1c (q2d (se_lcC (own := ["_law_mark"]) (fv := [("_law_script",0)]) (qbk (q16 q1l (q39 (q11 q1d (q11 q1d (q11 q1d (q11 q1d (q11 q1d (q11 q1d q17))))))) (q16 q2k (q16 q32 q10 q13) q13))) q2p q4f (q22 (q11 q10 (q11 q10 q17)))) q1r)
 (q1c (q2f (q1t (q16 q72 (q16 q2k q10 q13) q13))
 (q2d q10 (qcd q10 (q16 q2k (q16 q32 q10 q13) q13)))
 q1q)
 (q1c (q2d (q74 (q11 (q2a (q11 q13 (q11 q13 q17))) (q11 (q2a (q11 q13 (q11 q13 q17))) (q11 (q2a (q11 q13 (q11 (q16 q4y q13 (q16 q2k (q16 q32 q10 q13) q13)) q17))) (q11 (q2a (q11 q13 (q11 q13 q17))) (q11 (q2a (q11 q13 (q11 q13 q17))) q17)))))) q1r)
 (q1c (q2d (q22 (q11 (q16 q32 q10 q13) q17)) (qcd q10 (q16 q2k (q16 q32 q10 q13) q13)))
 (q1c (q2d (q5v (own := ["_law_k"]) (fv := [("_law_pairs",7),("_law_rooms",6)]) (qe7 (q16 q4y q13 (q16 q2k (q16 q32 q10 q13) q13))) q2p q4f (q16 qiy (q2a (q11 (q16 q1l q10 q10) q17)) (q16 q1l q10 (q16 q4y q13 q10)))) q1r)
 (q1w (q2a (q11 q1d (q11 q10 (q11 (q16 q3d (q16 q2k q10 q13) q13) (q11 (q16 q1l q10 q13) (q11 (q16 q1l q10 q13) (q11 q10 q17)))))))))))))))))))) rfl h⟩
theorem z_q00 (T : Txt K mg A) : FnOk P w K mg base (CX1 P w) 1 A.a_q00 A.fd_q00 ["_law_thing_here"] (spZ (ctOf T) 1 m_q00) := by
  refine T.F_q00.okR sc_q00 (fun vs H Q E h => q23 h) (fun cdv A' outer s H vs Q E hr h => ?_)
  have nd := sc_q00.nd
  have hu := q2n hr
  exact ⟨_,(q19 (q2e (q1x q3e (q1j q1h (pv 0) q14 (fun _ _ => rfl)) q1b (q1y _))
 (q1a (q1v (qe6 (q4p q5n (q1j q1h (pv 0) q14 (fun _ _ => rfl)) q14 (q1y _)) (qe6 (q4p q7i (q1j q1h (pv 0) q14 (fun _ _ => rfl)) q14 (q1y _)) (qe6 (q4p q5n (q1j q1h (pv 0) q14 (fun _ _ => rfl)) q14 (q1y _)) (qak (q4p q7i (q1j q1h (pv 0) q14 (fun _ _ => rfl)) q14 (q1y _))))))))
 q1s)
 (q19 (q2e (q1x q3e (q1j q1h (pv 0) q14 (fun _ _ => rfl)) q1b (q1y _))
 (q1a (q5g PassesOwn.leaving rfl (q3t (q1f q58 (q31 (q0z (q1j q1h (pv 0) q14 (fun _ _ => rfl)) (q0z (q1j q1h (pv 0) q14 (fun _ _ => rfl)) q15))) (q73 (osc := q18 s_q00) (N0 := ["_law_thing_here", "_law_least", "_law_most"]) rfl rfl rfl (own := ["_law_stay"]) (fv := []) ⟨rfl,by decide +kernel,by decide +kernel,by decide +kernel,by decide +kernel,by decide +kernel⟩ (q3t (q1j q1h (pv 0) q14 (fun _ _ => rfl))) (fun _ _ _ => (q29 (i := 0) (show (["_law_stay"] : List Str).Nodup by decide +kernel) rfl (Or.inl rfl) (hf := Or.inr rfl))) (fun _ _ _ => q41) (fun _ _ _ => (q2b (q0z (q1j (q65 (K := K) rfl) (pv 0) q14 (fun _ _ => rfl)) (q0z (q1j (q65 (K := K) rfl) (pv 0) q14 (fun _ _ => rfl)) q15))))))) (qej rfl (q2w (q29 (i := 1) nd rfl (Or.inl rfl)) (q2w (q29 (i := 2) nd rfl (Or.inl rfl)) q5a)))
 (q1a (q2e (PW.pt (q7k (q1x q5n (pv 1) q14 (q1y _)) (q7k (q1x q5n (pv 2) (pv 1) (q1y _)) (q86 (q1x q7i (pv 2) q14 (q1y _))))))
 (q1a (q1v q7c))
 q1s))))
 q1s)
 (q1a (q1v q7c)))),q1z (C := ctOf T) ((q1c (q2f (q1t (q16 q3d (q16 q1l q10 q13) q1d))
 (q1w (qdv (q16 q5p (q16 q1l q10 q13) q13) (qdv (q16 q72 (q16 q1l q10 q13) q13) (qdv (q16 q5p (q16 q1l q10 q13) q13) (q16 q72 (q16 q1l q10 q13) q13)))))
 q1q)
 (q1c (q2f (q1t (q16 q3d (q16 q1l q10 q13) q1d))
 (q5d (q3s (q16 q68 (q39 (q11 (q16 q1l q10 q13) (q11 (q16 q1l q10 q13) q17))) (q5v (own := ["_law_stay"]) (fv := []) (q3s (q16 q1l q10 q13)) q2p q4f (q2a (q11 (q16 q1l q10 q13) (q11 (q16 q1l q10 q13) q17)))))) (sg_tup (qby q1r (qby q1r qi1)))
 (q2f (q78 (q1t (q16 q5p q10 q13)) (q78 (q1t (q16 q5p q10 q10)) (q1t (q16 q72 q10 q13))))
 (q1w q70)
 q1q))
 q1q)
 (q1w q70)))) rfl h⟩
theorem z_q0g (T : Txt K mg A) : FnOk P w K mg base (CX1 P w) 2 A.a_q0g A.fd_q0g ["_law_there", "_law_thing_here"] (spZ (ctOf T) 2 m_q0g) := by
  refine T.F_q0g.okR sc_q0g (fun vs H Q E h => q23 h) (fun cdv A' outer s H vs Q E hr h => ?_)
  have nd := sc_q0g.nd
  have hu := q2n hr
  exact ⟨_,(q19 (q2e (PW.pt (q7k (q1x q3e (q1j q1h (pv 1) q14 (fun _ _ => rfl)) q1b (q1y _)) (q86 (q1x q7i (q26 q3o rfl T.n_len PySem.boot_len (q0z (q1j q1h (pv 1) q14 (fun _ _ => rfl)) q15)) q14 (q1y _)))))
 (q1a (q1v q1b))
 q1s)
 (q19 (q5g PassesOwn.leaving rfl (qb9 (q1j q1h (pv 1) q14 (fun _ _ => rfl))) (q29 (i := 2) nd rfl (Or.inl rfl))
 (q1a (q2e (q1x qbw (pv 2) q1b rfl)
 (q1a (q1v q1b))
 q1s)))
 (q19 (q2e (q8j (qfk hu (q1j q1h (pv 1) q14 (fun _ _ => rfl)) (pv 0)))
 (q1a (q1v q1b))
 q1s)
 (q19 (q2q (i := 3) nd rfl (Or.inl rfl) (q31 q15))
 (q19 (q2e (q1x q3e (q1j q1h (pv 1) q14 (fun _ _ => rfl)) q1b (q1y _))
 (q1a (q2q (i := 3) nd rfl (Or.inl rfl) (q31 (q0z (q1j q1h (pv 1) q14 (fun _ _ => rfl)) q15))))
 q1s)
 (q19 (q2e (q1x q3e (q1j q1h (pv 1) q14 (fun _ _ => rfl)) q1b (q1y _))
 (q1a (qbr (osc := q18 s_q0g) (N0 := ["_law_there", "_law_thing_here", "_law_sign", "_law_rooms", "_law_room"]) (i := 3) rfl rfl rfl nd rfl (Or.inl rfl) (own := ["_law_stay"]) (fv := []) ⟨rfl,by decide +kernel,by decide +kernel,by decide +kernel,by decide +kernel,by decide +kernel⟩ (q3t (q1j q1h (pv 1) q14 (fun _ _ => rfl))) (fun _ _ _ => (q29 (i := 0) (show (["_law_stay"] : List Str).Nodup by decide +kernel) rfl (Or.inl rfl) (hf := Or.inr rfl))) (fun _ _ _ => q41) (fun _ _ _ => (q1j (q65 (K := K) rfl) (pv 0) q14 (fun _ _ => rfl)))))
 q1s)
 (q19 (q5g PassesOwn.leaving rfl (q3t (pv 3)) (q29 (i := 4) nd rfl (Or.inl rfl))
 (q1a (q2e (q1x q81 (qag hu (pv 0) (pv 4) ⟨rfl,rfl,rfl,rfl⟩) q1b (q1y _))
 (q1a (q1v q1b))
 q1s)))
 (q19 (q2e (q7z (q2c (z_q00 T) hr.q9 rfl T.d_q00 T.F_q00.kp T.b_q00 .nil q1i.passes (q0z (pv 1) q15)))
 (q1a (q1v q1b))
 q1s)
 (q19 (q2e (q1x q5n (q26 q9l rfl T.n_len PySem.boot_len (q0z (q5o (q9g rfl) rfl T.n_set PyProof.Rows.boot_set (q0z (pv 3) q15)) q15)) (q26 q3o rfl T.n_len PySem.boot_len (q0z (pv 3) q15)) (q1y _))
 (q1a (q1v q1b))
 q1s)
 (q1a (q1v q1b))))))))))),q1z (C := ctOf T) ((q1c (q2f (q78 (q1t (q16 q3d (q16 q1l q10 q13) q1d)) (q1t (q16 q72 (q44 q4x (q11 (q16 q1l q10 q13) q17)) q13)))
 (q1w q1d)
 q1q)
 (q1c (q5d (qbk (q16 q1l q10 q13)) q1r
 (q2f (q1t (q16 qfg q10 q1d))
 (q1w q1d)
 q1q))
 (q1c (q2f (st_b (qfx (q16 q1l q10 q13) q10))
 (q1w q1d)
 q1q)
 (q1c (q2d (q39 q17) q1r)
 (q1c (q2f (q1t (q16 q3d (q16 q1l q10 q13) q1d))
 (q2d (q39 (q11 (q16 q1l q10 q13) q17)) q1r)
 q1q)
 (q1c (q2f (q1t (q16 q3d (q16 q1l q10 q13) q1d))
 (q2d (q5v (own := ["_law_stay"]) (fv := []) (q3s (q16 q1l q10 q13)) q2p q4f (q16 q1l q10 q13)) q1r)
 q1q)
 (q1c (q5d (q3s q10) q1r
 (q2f (q1t (q16 q89 (qbn q10 q10) q1d))
 (q1w q1d)
 q1q))
 (q1c (q2f (st_b (q22 (q11 q10 q17)))
 (q1w q1d)
 q1q)
 (q1c (q2f (q1t (q16 q5p (q9u q10) (q44 q4x (q11 q10 q17))))
 (q1w q1d)
 q1q)
 (q1w q1d))))))))))) rfl h⟩
theorem z_qa (T : Txt K mg A) : FnOk P w K mg base (CX1 P w) 3 A.a_qa A.fd_qa ["self", "name"] (spZ (ctOf T) 2 m_qa) := by
  refine T.F_qa.okR sc_qa (fun vs H Q E h => q23 h) (fun cdv A' outer s H vs Q E hr h => ?_)
  have nd := sc_qa.nd
  have hu := q2n hr
  exact ⟨_,(q19 (q2e (qbf (q7z (q2c (z_q0j T) hr.q9 rfl T.d_q0j T.F_q0j.kp T.b_q0j .nil q1i.passes (q0z (pv 1) q15))))
 (q1a (q5l q1i hr.hd rfl T.c_q02 T.x_q02 PySem.F.excBase_ValueError rfl PySem.F.excBase_ValueError (q0z (q7b (q34 q1b (q34 (qca (pv 1)) q8y))) q15)))
 q1s)
 (q1a (q2e (q8j (qfk hu (pv 1) (q4j (pv 0) rfl)))
 (q1a (q5l q1i hr.hd rfl T.c_q08 T.x_q08 PySem.F.excBase_ValueError rfl PySem.F.excBase_ValueError (q0z (q7b (q34 q1b (q34 (qcl (pv 1)) q8y))) q15)))
 q1s))),q1z (C := ctOf T) ((q1c (q2f (qap (st_b (q22 (q11 q10 q17))))
 (q5j (c := 21) (q75 (q4q (qcr q10 q7a)) (by decide +kernel)))
 q1q)
 (q2f (st_b (qfx q10 (q4g rfl q10)))
 (q5j (c := 22) (q75 (q4q (qcp q10 q7a)) (by decide +kernel)))
 q1q))) rfl h⟩
theorem z_qf (T : Txt K mg A) : FnOk P w K mg base (CX1 P w) 1 A.a_qf A.fd_qf ["self", "thing"] (spZ (ctOf T) 2 m_qf) := by
  refine T.F_qf.okR sc_qf (fun vs H Q E h => q23 h) (fun cdv A' outer s H vs Q E hr h => ?_)
  have nd := sc_qf.nd
  have hu := q2n hr
  exact ⟨_,(q1a (qco hu (q4j (pv 0) rfl) (q4j (pv 1) rfl) (pv 1) rfl)),q1z (C := ctOf T) ((qcv (q4g rfl q10) (q4g rfl q10) q10)) rfl h⟩
theorem z_qb (T : Txt K mg A) : FnOk P w K mg base (CX1 P w) 1 A.a_qb A.fd_qb ["self", "kind", "name"] (spZ (ctOf T) 3 m_qb) := by
  refine T.F_qb.okR sc_qb (fun vs H Q E h => q23 h) (fun cdv A' outer s H vs Q E hr h => ?_)
  have nd := sc_qb.nd
  have hu := q2n hr
  exact ⟨_,(q19 (q3c (pv 0) (pv 1) rfl)
 (q1a (q3c (pv 0) (pv 2) rfl))),q1z (C := ctOf T) ((q1c (q3b (i := 0) rfl q10 q10)
 (q3b (i := 1) rfl q10 q10))) rfl h⟩
theorem z_qo (T : Txt K mg A) : FnOk P w K mg base (CX1 P w) 3 A.a_qo A.fd_qo ["self", "kind", "name"] (spZ (ctOf T) 3 m_qo) := by
  refine T.F_qo.okR sc_qo (fun vs H Q E h => q23 h) (fun cdv A' outer s H vs Q E hr h => ?_)
  have nd := sc_qo.nd
  have hu := q2n hr
  exact ⟨_,(q19 (q2l (q79 rfl T.c_q0o T.B_qb (z_qb T) hr.q9 T.b_qb .nil q1i.passes (q0z (pv 0) (q0z (pv 1) (q0z (pv 2) q15)))))
 (q1a (q3c (pv 0) q7c rfl))),q1z (C := ctOf T) ((q1c (q2i (q22 (q11 q10 (q11 q10 (q11 q10 q17)))))
 (q3b (i := 5) rfl q10 q70))) rfl h⟩
theorem z_qi (T : Txt K mg A) : FnOk P w K mg base (CX1 P w) 5 A.a_qi A.fd_qi ["self", "name"] (spZ (ctOf T) 2 m_qi) := by
  refine T.F_qi.okR sc_qi (fun vs H Q E h => q23 h) (fun cdv A' outer s H vs Q E hr h => ?_)
  have nd := sc_qi.nd
  have hu := q2n hr
  exact ⟨_,(q19 (q2l (q2s (pv 0) T.Cls_q09 T.m_qa (z_qa T) hr.q9 T.b_qa .nil q1i.passes (q0z (pv 1) q15)))
 (q1a (q2l (q2s (pv 0) T.Cls_q09 T.m_qf (z_qf T) hr.q9 T.b_qf .nil q1i.passes (q0z (q57 T.mk_q0m (z_qo T) hr.q9 rfl T.c_q0m T.b_qo .nil q1i.passes (q0z q1b (q0z (pv 1) q15))) q15))))),q1z (C := ctOf T) ((q1c (q2i (q2r (c := 8) (show ∀ i ∈ flT 8,fnT i ≠ "check_free" by decide +kernel) q10 (q11 q10 q17)))
 (q2i (q2r (c := 8) (show ∀ i ∈ flT 8,fnT i ≠ "hold" by decide +kernel) q10 (q11 (q4m (c := 4) rfl (q11 q1d (q11 q10 q17))) q17))))) rfl h⟩
theorem z_qj (T : Txt K mg A) : FnOk P w K mg base (CX1 P w) 5 A.a_qj A.fd_qj ["self", "name"] (spZ (ctOf T) 2 m_qj) := by
  refine T.F_qj.okR sc_qj (fun vs H Q E h => q23 h) (fun cdv A' outer s H vs Q E hr h => ?_)
  have nd := sc_qj.nd
  have hu := q2n hr
  exact ⟨_,(q19 (q2l (q2s (pv 0) T.Cls_q09 T.m_qa (z_qa T) hr.q9 T.b_qa .nil q1i.passes (q0z (pv 1) q15)))
 (q1a (q2l (q2s (pv 0) T.Cls_q09 T.m_qf (z_qf T) hr.q9 T.b_qf .nil q1i.passes (q0z (q57 T.mk_q0m (z_qo T) hr.q9 rfl T.c_q0m T.b_qo .nil q1i.passes (q0z q1b (q0z (pv 1) q15))) q15))))),q1z (C := ctOf T) ((q1c (q2i (q2r (c := 8) (show ∀ i ∈ flT 8,fnT i ≠ "check_free" by decide +kernel) q10 (q11 q10 q17)))
 (q2i (q2r (c := 8) (show ∀ i ∈ flT 8,fnT i ≠ "hold" by decide +kernel) q10 (q11 (q4m (c := 4) rfl (q11 q1d (q11 q10 q17))) q17))))) rfl h⟩
theorem z_qp (T : Txt K mg A) : FnOk P w K mg base (CX1 P w) 4 A.a_qp A.fd_qp ["self", "name"] (spZ (ctOf T) 2 m_qp) := by
  refine T.F_qp.okR sc_qp (fun vs H Q E h => q23 h) (fun cdv A' outer s H vs Q E hr h => ?_)
  have nd := sc_qp.nd
  have hu := q2n hr
  exact ⟨_,(q19 (q2l (q2s (pv 0) T.Cls_q09 T.m_qa (z_qa T) hr.q9 T.b_qa .nil q1i.passes (q0z (pv 1) q15)))
 (q1a (q2l (q2s (pv 0) T.Cls_q09 T.m_qf (z_qf T) hr.q9 T.b_qf .nil q1i.passes (q0z (q57 T.mk_q0o (z_qb T) hr.q9 rfl T.c_q0o T.b_qb .nil q1i.passes (q0z q1b (q0z (pv 1) q15))) q15))))),q1z (C := ctOf T) ((q1c (q2i (q2r (c := 8) (show ∀ i ∈ flT 8,fnT i ≠ "check_free" by decide +kernel) q10 (q11 q10 q17)))
 (q2i (q2r (c := 8) (show ∀ i ∈ flT 8,fnT i ≠ "hold" by decide +kernel) q10 (q11 (q4m (c := 0) rfl (q11 q1d (q11 q10 q17))) q17))))) rfl h⟩
theorem z_qw (T : Txt K mg A) : FnOk P w K mg base (CX1 P w) 3 A.a_qw A.fd_qw ["self", "name", "damp", "warmth"] (spZ (ctOf T) 4 m_qw) := by
  refine T.F_qw.okR sc_qw (fun vs H Q E h => q23 h) (fun cdv A' outer s H vs Q E hr h => ?_)
  have nd := sc_qw.nd
  have hu := q2n hr
  exact ⟨_,(q19 (q2l (q79 rfl T.c_q0o T.B_qb (z_qb T) hr.q9 T.b_qb .nil q1i.passes (q0z (pv 0) (q0z q1b (q0z (pv 1) q15)))))
 (q19 (q3c (pv 0) (pv 2) rfl)
 (q1a (q3c (pv 0) (pv 3) rfl)))),q1z (C := ctOf T) ((q1c (q2i (q22 (q11 q10 (q11 q1d (q11 q10 q17)))))
 (q1c (q3b (i := 2) rfl q10 q10)
 (q3b (i := 3) rfl q10 q10)))) rfl h⟩
theorem z_qm (T : Txt K mg A) : FnOk P w K mg base (CX1 P w) 5 A.a_qm A.fd_qm ["self", "name", "damp", "warmth"] (spZ (ctOf T) 4 m_qm) := by
  refine T.F_qm.okR sc_qm (fun vs H Q E h => q23 h) (fun cdv A' outer s H vs Q E hr h => ?_)
  have nd := sc_qm.nd
  have hu := q2n hr
  exact ⟨_,(q19 (q2l (q2s (pv 0) T.Cls_q09 T.m_qa (z_qa T) hr.q9 T.b_qa .nil q1i.passes (q0z (pv 1) q15)))
 (q19 (q2l (q2c (z_q01 T) hr.q9 rfl T.d_q01 T.F_q01.kp T.b_q01 .nil q1i.passes (q0z (pv 2) (q0z q14 (q0z (q6h rfl T.g_q0x) q15)))))
 (q19 (q2l (q2c (z_q01 T) hr.q9 rfl T.d_q01 T.F_q01.kp T.b_q01 .nil q1i.passes (q0z (pv 3) (q0z q14 (q0z (q6h rfl T.g_q0v) q15)))))
 (q1a (q2l (q2s (pv 0) T.Cls_q09 T.m_qf (z_qf T) hr.q9 T.b_qf .nil q1i.passes (q0z (q57 T.mk_q0r (z_qw T) hr.q9 rfl T.c_q0r T.b_qw .nil q1i.passes (q0z (pv 1) (q0z (pv 2) (q0z (pv 3) q15)))) q15))))))),q1z (C := ctOf T) ((q1c (q2i (q2r (c := 8) (show ∀ i ∈ flT 8,fnT i ≠ "check_free" by decide +kernel) q10 (q11 q10 q17)))
 (q1c (q2i (q22 (q11 q10 (q11 q13 (q11 q13 q17)))))
 (q1c (q2i (q22 (q11 q10 (q11 q13 (q11 q13 q17)))))
 (q2i (q2r (c := 8) (show ∀ i ∈ flT 8,fnT i ≠ "hold" by decide +kernel) q10 (q11 (q4m (c := 1) rfl (q11 q10 (q11 q10 (q11 q10 q17)))) q17))))))) rfl h⟩
theorem z_qq (T : Txt K mg A) : FnOk P w K mg base (CX1 P w) 1 A.a_qq A.fd_qq ["self", "name", "kind"] (spZ (ctOf T) 3 m_qq) := by
  refine T.F_qq.okR sc_qq (fun vs H Q E h => q23 h) (fun cdv A' outer s H vs Q E hr h => ?_)
  have nd := sc_qq.nd
  have hu := q2n hr
  exact ⟨_,(q19 (q2q (i := 3) nd rfl (Or.inl rfl) (qag hu (q4j (pv 0) rfl) (pv 1) ⟨rfl,rfl,rfl,rfl⟩))
 (q19 (q2e (PW.pt (q7k (q8j (pc_isN (pv 3))) (q86 (q1x q81 (q4j (pv 3) rfl) (pv 2) (q1y _)))))
 (q1a (q5l q1i hr.hd rfl T.c_q03 T.x_q03 PySem.F.excBase_ValueError rfl PySem.F.excBase_ValueError (q0z (q7b (q34 q1b (q34 (qcl (pv 2)) (q34 q1b (q34 (qca (pv 1)) q8y))))) q15)))
 q1s)
 (q1a (q1v (pv 3))))),q1z (C := ctOf T) ((q1c (q2d (qbn (q4g rfl q10) q10) q1r)
 (q1c (q2f (q78 (st_b (se_isN q10)) (q1t (q16 q89 (q4g rfl q10) q10)))
 (q5j (c := 23) (q75 (q4q (qcp q10 (q4q (qcr q10 q7a)))) (by decide +kernel)))
 q1q)
 (q1w q10)))) rfl h⟩
theorem z_qt (T : Txt K mg A) : FnOk P w K mg base (CX1 P w) 3 A.a_qt A.fd_qt ["self", "name", "room"] (spZ (ctOf T) 3 m_qt) := by
  refine T.F_qt.okR sc_qt (fun vs H Q E h => q23 h) (fun cdv A' outer s H vs Q E hr h => ?_)
  have nd := sc_qt.nd
  have hu := q2n hr
  exact ⟨_,(q19 (q2l (q79 rfl T.c_q0o T.B_qb (z_qb T) hr.q9 T.b_qb .nil q1i.passes (q0z (pv 0) (q0z q1b (q0z (pv 1) q15)))))
 (q1a (q3c (pv 0) (pv 2) rfl))),q1z (C := ctOf T) ((q1c (q2i (q22 (q11 q10 (q11 q1d (q11 q10 q17)))))
 (q3b (i := 4) rfl q10 q10))) rfl h⟩
theorem z_qh (T : Txt K mg A) : FnOk P w K mg base (CX1 P w) 5 A.a_qh A.fd_qh ["self", "name", "room"] (spZ (ctOf T) 3 m_qh) := by
  refine T.F_qh.okR sc_qh (fun vs H Q E h => q23 h) (fun cdv A' outer s H vs Q E hr h => ?_)
  have nd := sc_qh.nd
  have hu := q2n hr
  exact ⟨_,(q19 (q2l (q2s (pv 0) T.Cls_q09 T.m_qa (z_qa T) hr.q9 T.b_qa .nil q1i.passes (q0z (pv 1) q15)))
 (q1a (q2l (q2s (pv 0) T.Cls_q09 T.m_qf (z_qf T) hr.q9 T.b_qf .nil q1i.passes (q0z (q57 T.mk_q0q (z_qt T) hr.q9 rfl T.c_q0q T.b_qt .nil q1i.passes (q0z (pv 1) (q0z (q2s (pv 0) T.Cls_q09 T.m_qq (z_qq T) hr.q9 T.b_qq .nil q1i.passes (q0z (pv 2) (q0z q1b q15))) q15))) q15))))),q1z (C := ctOf T) ((q1c (q2i (q2r (c := 8) (show ∀ i ∈ flT 8,fnT i ≠ "check_free" by decide +kernel) q10 (q11 q10 q17)))
 (q2i (q2r (c := 8) (show ∀ i ∈ flT 8,fnT i ≠ "hold" by decide +kernel) q10 (q11 (q4m (c := 2) rfl (q11 q10 (q11 (q2r (c := 8) (show ∀ i ∈ flT 8,fnT i ≠ "known" by decide +kernel) q10 (q11 q10 (q11 q1d q17))) q17))) q17))))) rfl h⟩
theorem z_qu (T : Txt K mg A) : FnOk P w K mg base (CX1 P w) 3 A.a_qu A.fd_qu ["self", "name", "mouldy", "turn_gap", "wash_gap", "route"] (spZ (ctOf T) 6 m_qu) := by
  refine T.F_qu.okR sc_qu (fun vs H Q E h => q23 h) (fun cdv A' outer s H vs Q E hr h => ?_)
  have nd := sc_qu.nd
  have hu := q2n hr
  exact ⟨_,(q19 (q2l (q79 rfl T.c_q0o T.B_qb (z_qb T) hr.q9 T.b_qb .nil q1i.passes (q0z (pv 0) (q0z q1b (q0z (pv 1) q15)))))
 (q19 (q3c (pv 0) (pv 2) rfl)
 (q19 (q3c (pv 0) (pv 3) rfl)
 (q19 (q3c (pv 0) (pv 4) rfl)
 (q19 (q3c (pv 0) (q73 (osc := q18 s_qu) (N0 := ["self", "name", "mouldy", "turn_gap", "wash_gap", "route"]) rfl rfl rfl (own := ["room", "least", "most"]) (fv := []) ⟨rfl,by decide +kernel,by decide +kernel,by decide +kernel,by decide +kernel,by decide +kernel⟩ (q3t (pv 5)) (fun _ _ _ => (q7h (K := K) (n := 3) rfl rfl rfl (q2w (q29 (i := 0) (show (["room", "least", "most"] : List Str).Nodup by decide +kernel) rfl (Or.inl rfl) (hf := Or.inr rfl)) (q2w (q29 (i := 1) (show (["room", "least", "most"] : List Str).Nodup by decide +kernel) rfl (Or.inl rfl) (hf := Or.inr rfl)) (q2w (q29 (i := 2) (show (["room", "least", "most"] : List Str).Nodup by decide +kernel) rfl (Or.inl rfl) (hf := Or.inr rfl)) q5a))))) (fun _ _ _ => q41) (fun _ _ _ => (pv 0))) rfl)
 (q1a (q3c (pv 0) (q73 (osc := q18 s_qu) (N0 := ["self", "name", "mouldy", "turn_gap", "wash_gap", "route"]) rfl rfl rfl (own := ["room", "least", "most"]) (fv := []) ⟨rfl,by decide +kernel,by decide +kernel,by decide +kernel,by decide +kernel,by decide +kernel⟩ (q3t (pv 5)) (fun _ _ _ => (q7h (K := K) (n := 3) rfl rfl rfl (q2w (q29 (i := 0) (show (["room", "least", "most"] : List Str).Nodup by decide +kernel) rfl (Or.inl rfl) (hf := Or.inr rfl)) (q2w (q29 (i := 1) (show (["room", "least", "most"] : List Str).Nodup by decide +kernel) rfl (Or.inl rfl) (hf := Or.inr rfl)) (q2w (q29 (i := 2) (show (["room", "least", "most"] : List Str).Nodup by decide +kernel) rfl (Or.inl rfl) (hf := Or.inr rfl)) q5a))))) (fun _ _ _ => q41) (fun _ _ _ => (q2b (q0z (pv 1) (q0z (pv 2) q15))))) rfl))))))),q1z (C := ctOf T) ((q1c (q2i (q22 (q11 q10 (q11 q1d (q11 q10 q17)))))
 (q1c (q3b (i := 5) rfl q10 q10)
 (q1c (q3b (i := 6) rfl q10 q10)
 (q1c (q3b (i := 7) rfl q10 q10)
 (q1c (q3b (i := 8) rfl q10 (q5v (own := ["room", "least", "most"]) (fv := []) (q3s q10) (q7g (q2x q2p (q2x q2p (q2x q2p q5c)))) q4f q10))
 (q3b (i := 9) rfl q10 (q5v (own := ["room", "least", "most"]) (fv := []) (q3s q10) (q7g (q2x q2p (q2x q2p (q2x q2p q5c)))) q4f (q2a (q11 q10 (q11 q10 q17))))))))))) rfl h⟩
theorem z_qg (T : Txt K mg A) : FnOk P w K mg base (CX1 P w) 5 A.a_qg A.fd_qg ["self", "name", "mouldy", "turn_gap", "wash_gap", "route"] (spZ (ctOf T) 6 m_qg) := by
  refine T.F_qg.okR sc_qg (fun vs H Q E h => q23 h) (fun cdv A' outer s H vs Q E hr h => ?_)
  have nd := sc_qg.nd
  have hu := q2n hr
  exact ⟨_,(q19 (q2l (q2s (pv 0) T.Cls_q09 T.m_qa (z_qa T) hr.q9 T.b_qa .nil q1i.passes (q0z (pv 1) q15)))
 (q19 (qg5 q1i (osc := q18 s_qg) (N0 := ["self", "name", "mouldy", "turn_gap", "wash_gap", "route", "rooms", "gap"]) (i := 6) rfl rfl rfl nd rfl (Or.inl rfl) (own := ["room", "least", "most"]) (fv := [("self",0)]) ⟨rfl,by decide +kernel,by decide +kernel,by decide +kernel,by decide +kernel,by decide +kernel⟩ (q3t (pv 5)) (fun _ _ _ => (q7h (K := K) (n := 3) rfl rfl rfl (q2w (q29 (i := 0) (show (["room", "least", "most", "self"] : List Str).Nodup by decide +kernel) rfl (Or.inl rfl) (hf := Or.inr rfl)) (q2w (q29 (i := 1) (show (["room", "least", "most", "self"] : List Str).Nodup by decide +kernel) rfl (Or.inl rfl) (hf := Or.inr rfl)) (q2w (q29 (i := 2) (show (["room", "least", "most", "self"] : List Str).Nodup by decide +kernel) rfl (Or.inl rfl) (hf := Or.inr rfl)) q5a))))) (fun _ _ _ => q41) (fun _ _ _ => (qip (K := K) rfl (q2s (pv 3) T.Cls_q09 T.m_qq (z_qq T) hr.q9 T.b_qq .nil qgd (q0z (pv 0) (q0z q1b q15))) rfl)))
 (q19 (q5g PassesOwn.leaving rfl (q3t (q1f q58 (q31 (q0z (pv 3) (q0z (pv 4) q15))) (q73 (osc := q18 s_qg) (N0 := ["self", "name", "mouldy", "turn_gap", "wash_gap", "route", "rooms", "gap"]) rfl rfl rfl (own := ["room", "least", "most"]) (fv := []) ⟨rfl,by decide +kernel,by decide +kernel,by decide +kernel,by decide +kernel,by decide +kernel⟩ (q3t (pv 5)) (fun _ _ _ => (q7h (K := K) (n := 3) rfl rfl rfl (q2w (q29 (i := 0) (show (["room", "least", "most"] : List Str).Nodup by decide +kernel) rfl (Or.inl rfl) (hf := Or.inr rfl)) (q2w (q29 (i := 1) (show (["room", "least", "most"] : List Str).Nodup by decide +kernel) rfl (Or.inl rfl) (hf := Or.inr rfl)) (q2w (q29 (i := 2) (show (["room", "least", "most"] : List Str).Nodup by decide +kernel) rfl (Or.inl rfl) (hf := Or.inr rfl)) q5a))))) (fun _ _ _ => q41) (fun _ _ _ => (q2b (q0z (pv 1) (q0z (pv 2) q15))))))) (q29 (i := 7) nd rfl (Or.inl rfl))
 (q1a (q2l (q2c (z_q0d T) hr.q9 rfl T.d_q0d T.F_q0d.kp T.b_q0d .nil q1i.passes (q0z (q1j q1h (pv 7) q14 (fun _ _ => rfl)) (q0z (q1j q1h (pv 7) q14 (fun _ _ => rfl)) q15))))))
 (q19 (q2e (q1x q5n (q26 q9l rfl T.n_len PySem.boot_len (q0z (q5o (q9g rfl) rfl T.n_set PyProof.Rows.boot_set (q0z (pv 6) q15)) q15)) (q26 q3o rfl T.n_len PySem.boot_len (q0z (pv 6) q15)) (q1y _))
 (q1a (q5l q1i hr.hd rfl T.c_qy T.x_qy PySem.F.excBase_ValueError rfl PySem.F.excBase_ValueError (q0z q1b q15)))
 q1s)
 (q1a (q2l (q2s (pv 0) T.Cls_q09 T.m_qf (z_qf T) hr.q9 T.b_qf .nil q1i.passes (q0z (q57 T.mk_q0p (z_qu T) hr.q9 rfl T.c_q0p T.b_qu .nil q1i.passes (q0z (pv 1) (q0z (pv 2) (q0z (pv 3) (q0z (pv 4) (q0z (pv 5) q15)))))) q15)))))))),q1z (C := ctOf T) ((q1c (q2i (q2r (c := 8) (show ∀ i ∈ flT 8,fnT i ≠ "check_free" by decide +kernel) q10 (q11 q10 q17)))
 (q1c (q2d (se_lcX (own := ["room", "least", "most"]) (fv := [("self",0)]) (q3s q10) (q7g (q2x q2p (q2x q2p (q2x q2p q5c)))) q4f (q4g rfl (q2r (c := 8) (show ∀ i ∈ flT 8,fnT i ≠ "known" by decide +kernel) q10 (q11 q10 (q11 q1d q17))))) q1r)
 (q1c (q5d (q3s (q16 q68 (q39 (q11 q10 (q11 q10 q17))) (q5v (own := ["room", "least", "most"]) (fv := []) (q3s q10) (q7g (q2x q2p (q2x q2p (q2x q2p q5c)))) q4f (q2a (q11 q10 (q11 q10 q17)))))) q1r
 (q2i (q22 (q11 (q16 q1l q10 q13) (q11 (q16 q1l q10 q13) q17)))))
 (q1c (q2f (q1t (q16 q5p (q9u q10) (q44 q4x (q11 q10 q17))))
 (q5j (c := 26) ms_lit)
 q1q)
 (q2i (q2r (c := 8) (show ∀ i ∈ flT 8,fnT i ≠ "hold" by decide +kernel) q10 (q11 (q4m (c := 3) rfl (q11 q10 (q11 q10 (q11 q10 (q11 q10 (q11 q10 q17)))))) q17)))))))) rfl h⟩
theorem z_q06 (T : Txt K mg A) : FnOk P w K mg base (CX1 P w) 6 A.a_q06 A.fd_q06 ["_law_cellar", "_law_thing_here"] (spZ (ctOf T) 2 m_q06) := by
  refine T.F_q06.okR sc_q06 (fun vs H Q E h => q23 h) (fun cdv A' outer s H vs Q E hr h => ?_)
  have nd := sc_q06.nd
  have hu := q2n hr
  exact ⟨_,(q19 (q2e (q1x q3e (q1j q1h (pv 1) q14 (fun _ _ => rfl)) q1b (q1y _))
 (q1a (q1v (q2s (pv 0) T.Cls_q09 T.m_qm (z_qm T) hr.q9 T.b_qm .nil q1i.passes (q0z (q1j q1h (pv 1) q14 (fun _ _ => rfl)) (q0z (q1j q1h (pv 1) q14 (fun _ _ => rfl)) (q0z (q1j q1h (pv 1) q14 (fun _ _ => rfl)) q15))))))
 q1s)
 (q19 (q2e (q1x q3e (q1j q1h (pv 1) q14 (fun _ _ => rfl)) q1b (q1y _))
 (q1a (q1v (q2s (pv 0) T.Cls_q09 T.m_qh (z_qh T) hr.q9 T.b_qh .nil q1i.passes (q0z (q1j q1h (pv 1) q14 (fun _ _ => rfl)) (q0z (q1j q1h (pv 1) q14 (fun _ _ => rfl)) q15)))))
 q1s)
 (q19 (q2e (q1x q3e (q1j q1h (pv 1) q14 (fun _ _ => rfl)) q1b (q1y _))
 (q1a (q1v (q2s (pv 0) T.Cls_q09 T.m_qg (z_qg T) hr.q9 T.b_qg .nil q1i.passes (q0z (q1j q1h (pv 1) q14 (fun _ _ => rfl)) (q0z (q1j q1h (pv 1) q14 (fun _ _ => rfl)) (q0z (q1j q1h (pv 1) q14 (fun _ _ => rfl)) (q0z (q1j q1h (pv 1) q14 (fun _ _ => rfl)) (q0z (q5o q8t rfl T.n_list PyProof.Rows.boot_list (q0z (q1j q1h (pv 1) q14 (fun _ _ => rfl)) q15)) q15))))))))
 q1s)
 (q19 (q2e (q1x q3e (q1j q1h (pv 1) q14 (fun _ _ => rfl)) q1b (q1y _))
 (q1a (q1v (q2s (pv 0) T.Cls_q09 T.m_qp (z_qp T) hr.q9 T.b_qp .nil q1i.passes (q0z (q1j q1h (pv 1) q14 (fun _ _ => rfl)) q15))))
 q1s)
 (q19 (q2e (q1x q3e (q1j q1h (pv 1) q14 (fun _ _ => rfl)) q1b (q1y _))
 (q1a (q1v (q2s (pv 0) T.Cls_q09 T.m_qi (z_qi T) hr.q9 T.b_qi .nil q1i.passes (q0z (q1j q1h (pv 1) q14 (fun _ _ => rfl)) q15))))
 q1s)
 (q1a (q1v (q2s (pv 0) T.Cls_q09 T.m_qj (z_qj T) hr.q9 T.b_qj .nil q1i.passes (q0z (q1j q1h (pv 1) q14 (fun _ _ => rfl)) q15))))))))),q1z (C := ctOf T) ((q1c (q2f (q1t (q16 q3d (q16 q1l q10 q13) q1d))
 (q1w (q2r (c := 8) (show ∀ i ∈ flT 8,fnT i ≠ "new_room" by decide +kernel) q10 (q11 (q16 q1l q10 q13) (q11 (q16 q1l q10 q13) (q11 (q16 q1l q10 q13) q17)))))
 q1q)
 (q1c (q2f (q1t (q16 q3d (q16 q1l q10 q13) q1d))
 (q1w (q2r (c := 8) (show ∀ i ∈ flT 8,fnT i ≠ "new_shelf" by decide +kernel) q10 (q11 (q16 q1l q10 q13) (q11 (q16 q1l q10 q13) q17))))
 q1q)
 (q1c (q2f (q1t (q16 q3d (q16 q1l q10 q13) q1d))
 (q1w (q2r (c := 8) (show ∀ i ∈ flT 8,fnT i ≠ "new_sort" by decide +kernel) q10 (q11 (q16 q1l q10 q13) (q11 (q16 q1l q10 q13) (q11 (q16 q1l q10 q13) (q11 (q16 q1l q10 q13) (q11 (q44 qd2 (q11 (q16 q1l q10 q13) q17)) q17)))))))
 q1q)
 (q1c (q2f (q1t (q16 q3d (q16 q1l q10 q13) q1d))
 (q1w (q2r (c := 8) (show ∀ i ∈ flT 8,fnT i ≠ "new_farm" by decide +kernel) q10 (q11 (q16 q1l q10 q13) q17)))
 q1q)
 (q1c (q2f (q1t (q16 q3d (q16 q1l q10 q13) q1d))
 (q1w (q2r (c := 8) (show ∀ i ∈ flT 8,fnT i ≠ "new_brine" by decide +kernel) q10 (q11 (q16 q1l q10 q13) q17)))
 q1q)
 (q1w (q2r (c := 8) (show ∀ i ∈ flT 8,fnT i ≠ "new_cloth" by decide +kernel) q10 (q11 (q16 q1l q10 q13) q17))))))))) rfl h⟩
theorem z_q07 (T : Txt K mg A) : FnOk P w K mg base (CX1 P w) 7 A.a_q07 A.fd_q07 ["_law_cellar", "_law_thing_here"] (spZ (ctOf T) 2 m_q07) := by
  have GQ_q0c : q8n P w K mg base CX0 1 A.a_q0c A.fd_q0c ["_law_e"] (q8i (ctOf T) wdT) := zq_q0c T
  refine T.F_q07.okR sc_q07 (fun vs H Q E h => q23 h) (fun cdv A' outer s H vs Q E hr h => ?_)
  have nd := sc_q07.nd
  have hu := q2n hr
  exact ⟨_,(q19 (q2q (i := 2) nd rfl (Or.inl rfl) q1b)
 (q19 (q2q (i := 3) nd rfl (Or.inl rfl) pe_non)
 (q19 (ps_try (i := 3) (j := 4) rfl rfl rfl nd rfl (Or.inl rfl) rfl rfl rfl T.c_q0a T.t_q0a T.C_q0a.is T.b_q0a (qie (z_q06 T) hr.q9 rfl T.d_q06 T.F_q06.kp T.b_q06 .nil (q0z (pv 0) (q0z (pv 1) q15))) (fun _ => (q1a (q2q (i := 2) nd rfl (Or.inl rfl) (qgf GQ_q0c (hr.x.mono (by decide)).mark rfl rfl T.d_q0c T.F_q0c.kp T.b_q0c .nil pass0 (q0z (pv 4) q15))))))
 (q19 (q2e (q8j (qiz (pv 3)))
 (q1a (q1v q1b))
 q1s)
 (q1a (q1v (pv 2))))))),q1z (C := ctOf T) ((q1c (q2d q1d q1r)
 (q1c (q2d se_non q1r)
 (q1c (qii (qi3 (q11 q10 (q11 q10 q17))) (hsubT T))
 (q1c (q2f (st_b (qht q10))
 (q1w q1d)
 q1q)
 (q1w q10)))))) rfl h⟩
theorem z_qr (T : Txt K mg A) : FnOk P w K mg base (CX1 P w) 1 A.a_qr A.fd_qr ["self"] (spZ (ctOf T) 1 m_qr) := by
  refine T.F_qr.okR sc_qr (fun vs H Q E h => q23 h) (fun cdv A' outer s H vs Q E hr h => ?_)
  have nd := sc_qr.nd
  have hu := q2n hr
  exact ⟨_,(q19 (q3c (pv 0) q14 rfl)
 (q19 (q3c (pv 0) qae rfl)
 (q19 (q3c (pv 0) (q31 q15) rfl)
 (q1a (q3c (pv 0) (q31 q15) rfl))))),q1z (C := ctOf T) ((q1c (q3b (i := 18) rfl q10 q13)
 (q1c (q3b (i := 19) rfl q10 qbu)
 (q1c (q3b (i := 20) rfl q10 (q74 q17))
 (q3b (i := 21) rfl q10 (q74 q17)))))) rfl h⟩
theorem z_qz (T : Txt K mg A) : FnOk P w K mg base (CX1 P w) 1 A.a_qz A.fd_qz ["self"] (spZ (ctOf T) 1 m_qz) := by
  refine T.F_qz.okR sc_qz (fun vs H Q E h => q23 h) (fun cdv A' outer s H vs Q E hr h => ?_)
  have nd := sc_qz.nd
  have hu := q2n hr
  exact ⟨_,(q1a (q1v (q5o q8t rfl T.n_list PyProof.Rows.boot_list (q0z (q4j (pv 0) rfl) q15)))),q1z (C := ctOf T) ((q1w (q44 qd2 (q11 (q4g rfl q10) q17)))) rfl h⟩
end
end K13
namespace K13
open PySem L2 Z PM
section
variable {P : Program} {w : World} {K : W.Frag} {mg : Str -> Option Value} {base : Heap} {A : Adr}
theorem ok_law (T : Txt K mg A) : FnOk P w K mg base CX0 8 A.a_law A.fd_law ["_law_script"] (q8q K) := by
  refine T.F_law.ok qee (fun vs H Q E h => ?_) (fun cdv A' outer s H vs Q E hr h => ?_)
  . obtain ⟨a,ns,rfl,_⟩ := h
    rfl
  . have nd := qee.nd
    have hu := q2n hr
    exact ⟨_,(q19 (q2q (i := 1) nd rfl (Or.inl rfl) (qhd T.mk_q09 (z_qr T) hr.q9 rfl T.c_q09 T.b_qr .nil q2z))
 (q19 (q2q (i := 2) nd rfl (Or.inl rfl) qae)
 (q19 (q2q (i := 3) nd rfl (Or.inl rfl) (q31 (q0z (q2b (q0z q1b (q0z (q2c (z_q04 T) hr.q9 rfl T.d_q04 T.F_q04.kp T.b_q04 .nil q2z (q0z (pv 0) (q0z q1b q15))) (q0z q14 (q0z q14 q15))))) (q0z (q2b (q0z q1b (q0z (q2c (z_q04 T) hr.q9 rfl T.d_q04 T.F_q04.kp T.b_q04 .nil q2z (q0z (pv 0) (q0z q1b q15))) (q0z q14 (q0z q14 q15))))) q15))))
 (q19 (q2e (q1x q5n (q1f q2j (q1f q2v (q2c (z_q0e T) hr.q9 rfl T.d_q0e T.F_q0e.kp T.b_q0e .nil q2z (q0z (pv 0) (q0z q14 q15))) q14) q14) q14 (q1y _))
 (q1a (q2l (qdz PySem.F.plainAttrs_list PySem.F.slot_list_append PySem.F.type_list_append q4v (pv 3) (q0z (q2b (q0z q1b (q0z (q2c (z_q04 T) hr.q9 rfl T.d_q04 T.F_q04.kp T.b_q04 .nil q2z (q0z (pv 0) (q0z q1b q15))) (q0z q14 (q0z q14 q15))))) q15))))
 q1s)
 (q19 (q5g PassesOwn.never rfl (qfj rfl T.n_range (q0z q14 (q0z (q1f q5k (q26 q3o rfl T.n_len PySem.boot_len (q0z (pv 0) q15)) q14) (q0z q14 q15)))) (q29 (i := 4) nd rfl (Or.inl rfl))
 (q1a (q2l (qdz PySem.F.plainAttrs_list PySem.F.slot_list_append PySem.F.type_list_append q4v (pv 3) (q0z (q2c (z_q0b T) hr.q9 rfl T.d_q0b T.F_q0b.kp T.b_q0b .nil q2z (q0z (pv 0) (q0z (q1j q1h (pv 0) (pv 4) (fun _ _ => rfl)) (q0z (q1j q1h (pv 0) (q1f q4t (pv 4) q14) (fun _ _ => rfl)) q15)))) q15)))))
 (q19 (q5g PassesOwn.never rfl (q3t (pv 3)) (q29 (i := 5) nd rfl (Or.inl rfl))
 (q19 (q2q (i := 6) nd rfl (Or.inl rfl) (q2c (z_q0g T) hr.q9 rfl T.d_q0g T.F_q0g.kp T.b_q0g .nil q2z (q0z (pv 2) (q0z (pv 5) q15))))
 (q19 (q2e (q1x q81 (q2c (z_q07 T) hr.q9 rfl T.d_q07 T.F_q07.kp T.b_q07 .nil q2z (q0z (pv 1) (q0z (pv 5) q15))) (pv 6) (q1y _))
 (q1a (q1v q7c))
 q1s)
 (q1a (q2e (q1x q3e (pv 6) q1b (q1y _))
 (q1a (qco hu (pv 2) (q1j q1h (pv 5) q14 (fun _ _ => rfl)) (q1j q1h (pv 5) q14 (fun _ _ => rfl)) rfl))
 q1s)))))
 (q19 (q2e (PW.pt (q7k (q1x (qfm (Nat.lt_of_succ_lt (q2n hr))) (qgb (pv 1) T.Cls_q09 T.m_qz (z_qz T) hr.q9 T.b_qz .nil q2z) (q31 q15) (q1y _)) (q7k (qbf (q7z (q2c (z_q0f T) hr.q9 rfl T.d_q0f T.F_q0f.kp T.b_q0f .nil q2z (q0z (q4j (pv 1) rfl) q15)))) (q86 (q1x q81 (q4j (pv 1) rfl) q14 (q1y _))))))
 (q1a (q1v q7c))
 q1s)
 (q19 (q5g PassesOwn.never rfl (qhn (pv 2)) (q29 (i := 7) nd rfl (Or.inl rfl))
 (q1a (q2e (q1x q81 (q2c (z_q07 T) hr.q9 rfl T.d_q07 T.F_q07.kp T.b_q07 .nil q2z (q0z (pv 1) (q0z (q2b (q0z q1b (q0z (pv 7) q15))) q15))) q1b (q1y _))
 (q1a (q1v q7c))
 q1s)))
 (q1a (q1v (q4p q3e (q2c (z_q07 T) hr.q9 rfl T.d_q07 T.F_q07.kp T.b_q07 .nil q2z (q0z (pv 1) (q0z (q2b (q0z q1b (q0z q1b q15))) q15))) q1b (q1y _)))))))))))),q1z (C := ctOf T) (E := E0) ((q1c (q2d (q4m (c := 8) rfl q17) q1r)
 (q1c (q2d qbu q1r)
 (q1c (q2d (q74 (q11 (q2a (q11 q1d (q11 (q22 (q11 q10 (q11 q1d q17))) (q11 q13 (q11 q13 q17))))) (q11 (q2a (q11 q1d (q11 (q22 (q11 q10 (q11 q1d q17))) (q11 q13 (q11 q13 q17))))) q17))) q1r)
 (q1c (q2f (q1t (q16 q5p (q16 q2k (q16 q32 (q22 (q11 q10 (q11 q13 q17))) q13) q13) q13))
 (q2i (qfd q9t q10 (q11 (q2a (q11 q1d (q11 (q22 (q11 q10 (q11 q1d q17))) (q11 q13 (q11 q13 q17))))) q17)))
 q1q)
 (q1c (q5d (qew q13 (q16 q5m (q44 q4x (q11 q10 q17)) q13) q13) q1r
 (q2i (qfd q9t q10 (q11 (q22 (q11 q10 (q11 (q16 q1l q10 q10) (q11 (q16 q1l q10 (q16 q4y q10 q13)) q17)))) q17))))
 (q1c (q5d (q3s q10) q1r
 (q1c (q2d (q22 (q11 q10 (q11 q10 q17))) q1r)
 (q1c (q2f (q1t (q16 q89 (q22 (q11 q10 (q11 q10 q17))) q10))
 (q1w q70)
 q1q)
 (q2f (q1t (q16 q3d q10 q1d))
 (qcv q10 (q16 q1l q10 q13) (q16 q1l q10 q13))
 q1q))))
 (q1c (q2f (q78 (q1t (q16 qhh (q2r (c := 8) (show ∀ i ∈ flT 8,fnT i ≠ "book" by decide +kernel) q10 q17) (q39 q17))) (q78 (qap (st_b (q22 (q11 (q4g rfl q10) q17)))) (q1t (q16 q89 (q4g rfl q10) q13))))
 (q1w q70)
 q1q)
 (q1c (q5d (qio q10) q1r
 (q2f (q1t (q16 q89 (q22 (q11 q10 (q11 (q2a (q11 q1d (q11 q10 q17))) q17))) q1d))
 (q1w q70)
 q1q))
 (q1w (q16 q3d (q22 (q11 q10 (q11 (q2a (q11 q1d (q11 q1d q17))) q17))) q1d))))))))))) rfl (qfh (C := ctOf T) rfl law_true h)⟩
end
theorem all_mk {l : W.OpenLaw} {w : World} {K : W.Frag} {h : Heap} {mg : Str -> Option Value} {fa : Addr} (X : K.In h) (G : h.Ns mainGlobals mg) (hfa : mg "law" = some (.ref fa))
    {f1 : Addr} {od1 an1 : Option Addr} {sl1 : Array (Option Value)} {oc1 kV1 dc1 pm1 cd1 ct1 : Value}
    {f2 : Addr} {od2 an2 : Option Addr} {sl2 : Array (Option Value)} {oc2 kV2 dc2 pm2 cd2 ct2 : Value}
    {f3 : Addr} {od3 an3 : Option Addr} {sl3 : Array (Option Value)} {oc3 kV3 dc3 pm3 cd3 ct3 : Value}
    {f4 : Addr} {od4 an4 : Option Addr} {sl4 : Array (Option Value)} {oc4 kV4 dc4 pm4 cd4 ct4 : Value}
    {f5 : Addr} {od5 an5 : Option Addr} {sl5 : Array (Option Value)} {oc5 kV5 dc5 pm5 cd5 ct5 : Value}
    {f6 : Addr} {od6 an6 : Option Addr} {sl6 : Array (Option Value)} {oc6 kV6 dc6 pm6 cd6 ct6 : Value}
    {f7 : Addr} {od7 an7 : Option Addr} {sl7 : Array (Option Value)} {oc7 kV7 dc7 pm7 cd7 ct7 : Value}
    {f8 : Addr} {od8 an8 : Option Addr} {sl8 : Array (Option Value)} {oc8 kV8 dc8 pm8 cd8 ct8 : Value}
    {f9 : Addr} {od9 an9 : Option Addr} {sl9 : Array (Option Value)} {oc9 kV9 dc9 pm9 cd9 ct9 : Value}
    {f10 : Addr} {od10 an10 : Option Addr} {sl10 : Array (Option Value)} {oc10 kV10 dc10 pm10 cd10 ct10 : Value}
    {f11 : Addr} {od11 an11 : Option Addr} {sl11 : Array (Option Value)} {oc11 kV11 dc11 pm11 cd11 ct11 : Value}
    {f12 : Addr} {od12 an12 : Option Addr} {sl12 : Array (Option Value)} {oc12 kV12 dc12 pm12 cd12 ct12 : Value}
    {f13 : Addr} {od13 an13 : Option Addr} {sl13 : Array (Option Value)} {oc13 kV13 dc13 pm13 cd13 ct13 : Value}
    {f14 : Addr} {od14 an14 : Option Addr} {sl14 : Array (Option Value)} {oc14 kV14 dc14 pm14 cd14 ct14 : Value}
    {f15 : Addr} {od15 an15 : Option Addr} {sl15 : Array (Option Value)} {oc15 kV15 dc15 pm15 cd15 ct15 : Value}
    {f16 : Addr} {od16 an16 : Option Addr} {sl16 : Array (Option Value)} {oc16 kV16 dc16 pm16 cd16 ct16 : Value}
    {t_q0t : Tok}
    {t_q0u : Tok}
    {t_q0x : Tok}
    {t_q0v : Tok}
    {t_q0w : Tok}
    {c_q0o : Addr}
    {f_qb : Addr} {od_qb an_qb : Option Addr} {sl_qb : Array (Option Value)} {oc_qb kV_qb dc_qb pm_qb cd_qb ct_qb : Value}
    {c_q0r : Addr}
    {f_qw : Addr} {od_qw an_qw : Option Addr} {sl_qw : Array (Option Value)} {oc_qw kV_qw dc_qw pm_qw cd_qw ct_qw : Value}
    {c_q0q : Addr}
    {f_qt : Addr} {od_qt an_qt : Option Addr} {sl_qt : Array (Option Value)} {oc_qt kV_qt dc_qt pm_qt cd_qt ct_qt : Value}
    {c_q0p : Addr}
    {f_qu : Addr} {od_qu an_qu : Option Addr} {sl_qu : Array (Option Value)} {oc_qu kV_qu dc_qu pm_qu cd_qu ct_qu : Value}
    {c_q0m : Addr}
    {f_qo : Addr} {od_qo an_qo : Option Addr} {sl_qo : Array (Option Value)} {oc_qo kV_qo dc_qo pm_qo cd_qo ct_qo : Value}
    {c_q09 : Addr}
    {f_qr : Addr} {od_qr an_qr : Option Addr} {sl_qr : Array (Option Value)} {oc_qr kV_qr dc_qr pm_qr cd_qr ct_qr : Value}
    {f_qa : Addr} {od_qa an_qa : Option Addr} {sl_qa : Array (Option Value)} {oc_qa kV_qa dc_qa pm_qa cd_qa ct_qa : Value}
    {f_qq : Addr} {od_qq an_qq : Option Addr} {sl_qq : Array (Option Value)} {oc_qq kV_qq dc_qq pm_qq cd_qq ct_qq : Value}
    {f_qf : Addr} {od_qf an_qf : Option Addr} {sl_qf : Array (Option Value)} {oc_qf kV_qf dc_qf pm_qf cd_qf ct_qf : Value}
    {f_qm : Addr} {od_qm an_qm : Option Addr} {sl_qm : Array (Option Value)} {oc_qm kV_qm dc_qm pm_qm cd_qm ct_qm : Value}
    {f_qh : Addr} {od_qh an_qh : Option Addr} {sl_qh : Array (Option Value)} {oc_qh kV_qh dc_qh pm_qh cd_qh ct_qh : Value}
    {f_qg : Addr} {od_qg an_qg : Option Addr} {sl_qg : Array (Option Value)} {oc_qg kV_qg dc_qg pm_qg cd_qg ct_qg : Value}
    {f_qp : Addr} {od_qp an_qp : Option Addr} {sl_qp : Array (Option Value)} {oc_qp kV_qp dc_qp pm_qp cd_qp ct_qp : Value}
    {f_qi : Addr} {od_qi an_qi : Option Addr} {sl_qi : Array (Option Value)} {oc_qi kV_qi dc_qi pm_qi cd_qi ct_qi : Value}
    {f_qj : Addr} {od_qj an_qj : Option Addr} {sl_qj : Array (Option Value)} {oc_qj kV_qj dc_qj pm_qj cd_qj ct_qj : Value}
    {f_qz : Addr} {od_qz an_qz : Option Addr} {sl_qz : Array (Option Value)} {oc_qz kV_qz dc_qz pm_qz cd_qz ct_qz : Value}
    {c_q0a : Addr}
    {c_q02 : Addr}
    {c_q08 : Addr}
    {c_q03 : Addr}
    {c_qx : Addr}
    {c_q0s : Addr}
    {c_qy : Addr}
    {c_q0n : Addr}
    {c_q0l : Addr}
    {c_q0k : Addr}
    (a1 : W.nsIn K mainGlobals "has_only" = some (some (.ref f1))) (l1 : K.lookup f1 = some ⟨oc1,od1, .func (W.fnOf "has_only" "has_only" (q1o s_q0i) (q1k s_q0i) (q18 s_q0i) .none kV1 dc1 pm1 an1 cd1 ct1),sl1⟩) (c1 : W.codeIn K cd1 "has_only" = true) (k1 : W.keepIn K (.ref f1) = true)
    (a2 : W.nsIn K mainGlobals "is_name" = some (some (.ref f2))) (l2 : K.lookup f2 = some ⟨oc2,od2, .func (W.fnOf "is_name" "is_name" (q1o s_q0j) (q1k s_q0j) (q18 s_q0j) .none kV2 dc2 pm2 an2 cd2 ct2),sl2⟩) (c2 : W.codeIn K cd2 "is_name" = true) (k2 : W.keepIn K (.ref f2) = true)
    (a3 : W.nsIn K mainGlobals "check_bounds" = some (some (.ref f3))) (l3 : K.lookup f3 = some ⟨oc3,od3, .func (W.fnOf "check_bounds" "check_bounds" (q1o s_q01) (q1k s_q01) (q18 s_q01) .none kV3 dc3 pm3 an3 cd3 ct3),sl3⟩) (c3 : W.codeIn K cd3 "check_bounds" = true) (k3 : W.keepIn K (.ref f3) = true)
    (a4 : W.nsIn K mainGlobals "check_gap" = some (some (.ref f4))) (l4 : K.lookup f4 = some ⟨oc4,od4, .func (W.fnOf "check_gap" "check_gap" (q1o s_q0d) (q1k s_q0d) (q18 s_q0d) .none kV4 dc4 pm4 an4 cd4 ct4),sl4⟩) (c4 : W.codeIn K cd4 "check_gap" = true) (k4 : W.keepIn K (.ref f4) = true)
    (a5 : W.nsIn K mainGlobals "_law_at" = some (some (.ref f5))) (l5 : K.lookup f5 = some ⟨oc5,od5, .func (W.fnOf "_law_at" "_law_at" (q1o s_q0e) (q1k s_q0e) (q18 s_q0e) .none kV5 dc5 pm5 an5 cd5 ct5),sl5⟩) (c5 : W.codeIn K cd5 "_law_at" = true) (k5 : W.keepIn K (.ref f5) = true)
    (a6 : W.nsIn K mainGlobals "_law_whole" = some (some (.ref f6))) (l6 : K.lookup f6 = some ⟨oc6,od6, .func (W.fnOf "_law_whole" "_law_whole" (q1o s_q0f) (q1k s_q0f) (q18 s_q0f) .none kV6 dc6 pm6 an6 cd6 ct6),sl6⟩) (c6 : W.codeIn K cd6 "_law_whole" = true) (k6 : W.keepIn K (.ref f6) = true)
    (a7 : W.nsIn K mainGlobals "_law_name" = some (some (.ref f7))) (l7 : K.lookup f7 = some ⟨oc7,od7, .func (W.fnOf "_law_name" "_law_name" (q1o s_q04) (q1k s_q04) (q18 s_q04) .none kV7 dc7 pm7 an7 cd7 ct7),sl7⟩) (c7 : W.codeIn K cd7 "_law_name" = true) (k7 : W.keepIn K (.ref f7) = true)
    (a8 : W.nsIn K mainGlobals "_law_word_of" = some (some (.ref f8))) (l8 : K.lookup f8 = some ⟨oc8,od8, .func (W.fnOf "_law_word_of" "_law_word_of" (q1o s_q0c) (q1k s_q0c) (q18 s_q0c) .none kV8 dc8 pm8 an8 cd8 ct8),sl8⟩) (c8 : W.codeIn K cd8 "_law_word_of" = true) (k8 : W.keepIn K (.ref f8) = true)
    (a9 : W.nsIn K mainGlobals "_law_thing_name" = some (some (.ref f9))) (l9 : K.lookup f9 = some ⟨oc9,od9, .func (W.fnOf "_law_thing_name" "_law_thing_name" (q1o s_q05) (q1k s_q05) (q18 s_q05) .none kV9 dc9 pm9 an9 cd9 ct9),sl9⟩) (c9 : W.codeIn K cd9 "_law_thing_name" = true) (k9 : W.keepIn K (.ref f9) = true)
    (a10 : W.nsIn K mainGlobals "_law_gap" = some (some (.ref f10))) (l10 : K.lookup f10 = some ⟨oc10,od10, .func (W.fnOf "_law_gap" "_law_gap" (q1o s_q0h) (q1k s_q0h) (q18 s_q0h) .none kV10 dc10 pm10 an10 cd10 ct10),sl10⟩) (c10 : W.codeIn K cd10 "_law_gap" = true) (k10 : W.keepIn K (.ref f10) = true)
    (a11 : W.nsIn K mainGlobals "_law_thing" = some (some (.ref f11))) (l11 : K.lookup f11 = some ⟨oc11,od11, .func (W.fnOf "_law_thing" "_law_thing" (q1o s_q0b) (q1k s_q0b) (q18 s_q0b) .none kV11 dc11 pm11 an11 cd11 ct11),sl11⟩) (c11 : W.codeIn K cd11 "_law_thing" = true) (k11 : W.keepIn K (.ref f11) = true)
    (a12 : W.nsIn K mainGlobals "_law_bad_numbers" = some (some (.ref f12))) (l12 : K.lookup f12 = some ⟨oc12,od12, .func (W.fnOf "_law_bad_numbers" "_law_bad_numbers" (q1o s_q00) (q1k s_q00) (q18 s_q00) .none kV12 dc12 pm12 an12 cd12 ct12),sl12⟩) (c12 : W.codeIn K cd12 "_law_bad_numbers" = true) (k12 : W.keepIn K (.ref f12) = true)
    (a13 : W.nsIn K mainGlobals "_law_due" = some (some (.ref f13))) (l13 : K.lookup f13 = some ⟨oc13,od13, .func (W.fnOf "_law_due" "_law_due" (q1o s_q0g) (q1k s_q0g) (q18 s_q0g) .none kV13 dc13 pm13 an13 cd13 ct13),sl13⟩) (c13 : W.codeIn K cd13 "_law_due" = true) (k13 : W.keepIn K (.ref f13) = true)
    (a14 : W.nsIn K mainGlobals "_law_ask" = some (some (.ref f14))) (l14 : K.lookup f14 = some ⟨oc14,od14, .func (W.fnOf "_law_ask" "_law_ask" (q1o s_q06) (q1k s_q06) (q18 s_q06) .none kV14 dc14 pm14 an14 cd14 ct14),sl14⟩) (c14 : W.codeIn K cd14 "_law_ask" = true) (k14 : W.keepIn K (.ref f14) = true)
    (a15 : W.nsIn K mainGlobals "_law_answer" = some (some (.ref f15))) (l15 : K.lookup f15 = some ⟨oc15,od15, .func (W.fnOf "_law_answer" "_law_answer" (q1o s_q07) (q1k s_q07) (q18 s_q07) .none kV15 dc15 pm15 an15 cd15 ct15),sl15⟩) (c15 : W.codeIn K cd15 "_law_answer" = true) (k15 : W.keepIn K (.ref f15) = true)
    (a16 : W.nsIn K mainGlobals "law" = some (some (.ref f16))) (l16 : K.lookup f16 = some ⟨oc16,od16, .func (W.fnOf "law" "law" (q1o q50) (q1k q50) (q18 q50) .none kV16 dc16 pm16 an16 cd16 ct16),sl16⟩) (c16 : W.codeIn K cd16 "law" = true) (k16 : W.keepIn K (.ref f16) = true)
    (z_len : W.nsIn K mainGlobals "len" = some none)
    (z_all : W.nsIn K mainGlobals "all" = some none)
    (z_min : W.nsIn K mainGlobals "min" = some none)
    (z_range : W.nsIn K mainGlobals "range" = some none)
    (z_int : W.nsIn K mainGlobals "int" = some none)
    (z_bool : W.nsIn K mainGlobals "bool" = some none)
    (z_list : W.nsIn K mainGlobals "list" = some none)
    (z_isinstance : W.nsIn K mainGlobals "isinstance" = some none)
    (z_ValueError : W.nsIn K mainGlobals "ValueError" = some none)
    (z_set : W.nsIn K mainGlobals "set" = some none)
    (g_q0t : W.nsIn K mainGlobals "NAME_SIGNS" = some (some (.str c_q0t t_q0t)))
    (g_q0u : W.nsIn K mainGlobals "LONGEST_NAME" = some (some (.int 12 t_q0u)))
    (g_q0x : W.nsIn K mainGlobals "MOST_DAMP" = some (some (.int 100 t_q0x)))
    (g_q0v : W.nsIn K mainGlobals "MOST_WARMTH" = some (some (.int 40 t_q0v)))
    (g_q0w : W.nsIn K mainGlobals "LONGEST_GAP" = some (some (.int 60 t_q0w)))
    (cn_q0o : W.nsIn K mainGlobals "Thing" = some (some (.ref c_q0o))) (pg_q0o : W.plainGet K c_q0o Str.empty = true) (hd_q0o : W.hasDictIn K c_q0o = true) (po_q0o : W.plainOver K c_q0o = true) (sa_q0o : W.findIn K (.ref c_q0o) "__setattr__" = some (some (.builtin "object.__setattr__"))) (ma_q0o : W.makesIn K c_q0o = true) (kp_q0o : W.keepIn K (.ref c_q0o) = true)
    (a_qb : W.findIn K (.ref c_q0o) "__init__" = some (some (.ref f_qb))) (l_qb : K.lookup f_qb = some ⟨oc_qb,od_qb, .func (W.fnOf "__init__" "Thing.__init__" (q1o s_qb) (q1k s_qb) (q18 s_qb) .none kV_qb dc_qb pm_qb an_qb cd_qb ct_qb),sl_qb⟩) (c_qb : W.codeIn K cd_qb "Thing.__init__" = true) (k_qb : W.keepIn K (.ref f_qb) = true) (i_qb : W.isFn K (.ref f_qb) = true)
    (na_Thing_kind : W.findIn K (.ref c_q0o) "kind" = some none)
    (na_Thing_name : W.findIn K (.ref c_q0o) "name" = some none)
    (bs_qb : W.specialIn K (.ref c_q0o) "__getattribute__" = some (some (.builtin "type.__getattribute__"))) (br_qb : W.readsIn K c_q0o (.type "type") = true) (bf_qb : W.findCls K (.ref c_q0o) (.type "type") "__init__" = some (.val (.ref f_qb)))
    (cn_q0r : W.nsIn K mainGlobals "Room" = some (some (.ref c_q0r))) (pg_q0r : W.plainGet K c_q0r Str.empty = true) (hd_q0r : W.hasDictIn K c_q0r = true) (po_q0r : W.plainOver K c_q0r = true) (sa_q0r : W.findIn K (.ref c_q0r) "__setattr__" = some (some (.builtin "object.__setattr__"))) (ma_q0r : W.makesIn K c_q0r = true) (kp_q0r : W.keepIn K (.ref c_q0r) = true)
    (a_qw : W.findIn K (.ref c_q0r) "__init__" = some (some (.ref f_qw))) (l_qw : K.lookup f_qw = some ⟨oc_qw,od_qw, .func (W.fnOf "__init__" "Room.__init__" (q1o s_qw) (q1k s_qw) (q18 s_qw) .none kV_qw dc_qw pm_qw an_qw cd_qw ct_qw),sl_qw⟩) (c_qw : W.codeIn K cd_qw "Room.__init__" = true) (k_qw : W.keepIn K (.ref f_qw) = true) (i_qw : W.isFn K (.ref f_qw) = true)
    (na_Room_kind : W.findIn K (.ref c_q0r) "kind" = some none)
    (na_Room_name : W.findIn K (.ref c_q0r) "name" = some none)
    (na_Room_damp : W.findIn K (.ref c_q0r) "damp" = some none)
    (na_Room_warmth : W.findIn K (.ref c_q0r) "warmth" = some none)
    (cn_q0q : W.nsIn K mainGlobals "Shelf" = some (some (.ref c_q0q))) (pg_q0q : W.plainGet K c_q0q Str.empty = true) (hd_q0q : W.hasDictIn K c_q0q = true) (po_q0q : W.plainOver K c_q0q = true) (sa_q0q : W.findIn K (.ref c_q0q) "__setattr__" = some (some (.builtin "object.__setattr__"))) (ma_q0q : W.makesIn K c_q0q = true) (kp_q0q : W.keepIn K (.ref c_q0q) = true)
    (a_qt : W.findIn K (.ref c_q0q) "__init__" = some (some (.ref f_qt))) (l_qt : K.lookup f_qt = some ⟨oc_qt,od_qt, .func (W.fnOf "__init__" "Shelf.__init__" (q1o s_qt) (q1k s_qt) (q18 s_qt) .none kV_qt dc_qt pm_qt an_qt cd_qt ct_qt),sl_qt⟩) (c_qt : W.codeIn K cd_qt "Shelf.__init__" = true) (k_qt : W.keepIn K (.ref f_qt) = true) (i_qt : W.isFn K (.ref f_qt) = true)
    (na_Shelf_kind : W.findIn K (.ref c_q0q) "kind" = some none)
    (na_Shelf_name : W.findIn K (.ref c_q0q) "name" = some none)
    (na_Shelf_room : W.findIn K (.ref c_q0q) "room" = some none)
    (cn_q0p : W.nsIn K mainGlobals "Sort" = some (some (.ref c_q0p))) (pg_q0p : W.plainGet K c_q0p Str.empty = true) (hd_q0p : W.hasDictIn K c_q0p = true) (po_q0p : W.plainOver K c_q0p = true) (sa_q0p : W.findIn K (.ref c_q0p) "__setattr__" = some (some (.builtin "object.__setattr__"))) (ma_q0p : W.makesIn K c_q0p = true) (kp_q0p : W.keepIn K (.ref c_q0p) = true)
    (a_qu : W.findIn K (.ref c_q0p) "__init__" = some (some (.ref f_qu))) (l_qu : K.lookup f_qu = some ⟨oc_qu,od_qu, .func (W.fnOf "__init__" "Sort.__init__" (q1o s_qu) (q1k s_qu) (q18 s_qu) .none kV_qu dc_qu pm_qu an_qu cd_qu ct_qu),sl_qu⟩) (c_qu : W.codeIn K cd_qu "Sort.__init__" = true) (k_qu : W.keepIn K (.ref f_qu) = true) (i_qu : W.isFn K (.ref f_qu) = true)
    (na_Sort_kind : W.findIn K (.ref c_q0p) "kind" = some none)
    (na_Sort_name : W.findIn K (.ref c_q0p) "name" = some none)
    (na_Sort_mouldy : W.findIn K (.ref c_q0p) "mouldy" = some none)
    (na_Sort_turn_gap : W.findIn K (.ref c_q0p) "turn_gap" = some none)
    (na_Sort_wash_gap : W.findIn K (.ref c_q0p) "wash_gap" = some none)
    (na_Sort_rooms : W.findIn K (.ref c_q0p) "rooms" = some none)
    (na_Sort_stays : W.findIn K (.ref c_q0p) "stays" = some none)
    (cn_q0m : W.nsIn K mainGlobals "Washer" = some (some (.ref c_q0m))) (pg_q0m : W.plainGet K c_q0m Str.empty = true) (hd_q0m : W.hasDictIn K c_q0m = true) (po_q0m : W.plainOver K c_q0m = true) (sa_q0m : W.findIn K (.ref c_q0m) "__setattr__" = some (some (.builtin "object.__setattr__"))) (ma_q0m : W.makesIn K c_q0m = true) (kp_q0m : W.keepIn K (.ref c_q0m) = true)
    (a_qo : W.findIn K (.ref c_q0m) "__init__" = some (some (.ref f_qo))) (l_qo : K.lookup f_qo = some ⟨oc_qo,od_qo, .func (W.fnOf "__init__" "Washer.__init__" (q1o s_qo) (q1k s_qo) (q18 s_qo) .none kV_qo dc_qo pm_qo an_qo cd_qo ct_qo),sl_qo⟩) (c_qo : W.codeIn K cd_qo "Washer.__init__" = true) (k_qo : W.keepIn K (.ref f_qo) = true) (i_qo : W.isFn K (.ref f_qo) = true)
    (na_Washer_kind : W.findIn K (.ref c_q0m) "kind" = some none)
    (na_Washer_name : W.findIn K (.ref c_q0m) "name" = some none)
    (na_Washer_mouldy : W.findIn K (.ref c_q0m) "mouldy" = some none)
    (cn_q09 : W.nsIn K mainGlobals "Cellar" = some (some (.ref c_q09))) (pg_q09 : W.plainGet K c_q09 Str.empty = true) (hd_q09 : W.hasDictIn K c_q09 = true) (po_q09 : W.plainOver K c_q09 = true) (sa_q09 : W.findIn K (.ref c_q09) "__setattr__" = some (some (.builtin "object.__setattr__"))) (ma_q09 : W.makesIn K c_q09 = true) (kp_q09 : W.keepIn K (.ref c_q09) = true)
    (a_qr : W.findIn K (.ref c_q09) "__init__" = some (some (.ref f_qr))) (l_qr : K.lookup f_qr = some ⟨oc_qr,od_qr, .func (W.fnOf "__init__" "Cellar.__init__" (q1o s_qr) (q1k s_qr) (q18 s_qr) .none kV_qr dc_qr pm_qr an_qr cd_qr ct_qr),sl_qr⟩) (c_qr : W.codeIn K cd_qr "Cellar.__init__" = true) (k_qr : W.keepIn K (.ref f_qr) = true) (i_qr : W.isFn K (.ref f_qr) = true)
    (a_qa : W.findIn K (.ref c_q09) "check_free" = some (some (.ref f_qa))) (l_qa : K.lookup f_qa = some ⟨oc_qa,od_qa, .func (W.fnOf "check_free" "Cellar.check_free" (q1o s_qa) (q1k s_qa) (q18 s_qa) .none kV_qa dc_qa pm_qa an_qa cd_qa ct_qa),sl_qa⟩) (c_qa : W.codeIn K cd_qa "Cellar.check_free" = true) (k_qa : W.keepIn K (.ref f_qa) = true) (i_qa : W.isFn K (.ref f_qa) = true)
    (a_qq : W.findIn K (.ref c_q09) "known" = some (some (.ref f_qq))) (l_qq : K.lookup f_qq = some ⟨oc_qq,od_qq, .func (W.fnOf "known" "Cellar.known" (q1o s_qq) (q1k s_qq) (q18 s_qq) .none kV_qq dc_qq pm_qq an_qq cd_qq ct_qq),sl_qq⟩) (c_qq : W.codeIn K cd_qq "Cellar.known" = true) (k_qq : W.keepIn K (.ref f_qq) = true) (i_qq : W.isFn K (.ref f_qq) = true)
    (a_qf : W.findIn K (.ref c_q09) "hold" = some (some (.ref f_qf))) (l_qf : K.lookup f_qf = some ⟨oc_qf,od_qf, .func (W.fnOf "hold" "Cellar.hold" (q1o s_qf) (q1k s_qf) (q18 s_qf) .none kV_qf dc_qf pm_qf an_qf cd_qf ct_qf),sl_qf⟩) (c_qf : W.codeIn K cd_qf "Cellar.hold" = true) (k_qf : W.keepIn K (.ref f_qf) = true) (i_qf : W.isFn K (.ref f_qf) = true)
    (a_qm : W.findIn K (.ref c_q09) "new_room" = some (some (.ref f_qm))) (l_qm : K.lookup f_qm = some ⟨oc_qm,od_qm, .func (W.fnOf "new_room" "Cellar.new_room" (q1o s_qm) (q1k s_qm) (q18 s_qm) .none kV_qm dc_qm pm_qm an_qm cd_qm ct_qm),sl_qm⟩) (c_qm : W.codeIn K cd_qm "Cellar.new_room" = true) (k_qm : W.keepIn K (.ref f_qm) = true) (i_qm : W.isFn K (.ref f_qm) = true)
    (a_qh : W.findIn K (.ref c_q09) "new_shelf" = some (some (.ref f_qh))) (l_qh : K.lookup f_qh = some ⟨oc_qh,od_qh, .func (W.fnOf "new_shelf" "Cellar.new_shelf" (q1o s_qh) (q1k s_qh) (q18 s_qh) .none kV_qh dc_qh pm_qh an_qh cd_qh ct_qh),sl_qh⟩) (c_qh : W.codeIn K cd_qh "Cellar.new_shelf" = true) (k_qh : W.keepIn K (.ref f_qh) = true) (i_qh : W.isFn K (.ref f_qh) = true)
    (a_qg : W.findIn K (.ref c_q09) "new_sort" = some (some (.ref f_qg))) (l_qg : K.lookup f_qg = some ⟨oc_qg,od_qg, .func (W.fnOf "new_sort" "Cellar.new_sort" (q1o s_qg) (q1k s_qg) (q18 s_qg) .none kV_qg dc_qg pm_qg an_qg cd_qg ct_qg),sl_qg⟩) (c_qg : W.codeIn K cd_qg "Cellar.new_sort" = true) (k_qg : W.keepIn K (.ref f_qg) = true) (i_qg : W.isFn K (.ref f_qg) = true)
    (a_qp : W.findIn K (.ref c_q09) "new_farm" = some (some (.ref f_qp))) (l_qp : K.lookup f_qp = some ⟨oc_qp,od_qp, .func (W.fnOf "new_farm" "Cellar.new_farm" (q1o s_qp) (q1k s_qp) (q18 s_qp) .none kV_qp dc_qp pm_qp an_qp cd_qp ct_qp),sl_qp⟩) (c_qp : W.codeIn K cd_qp "Cellar.new_farm" = true) (k_qp : W.keepIn K (.ref f_qp) = true) (i_qp : W.isFn K (.ref f_qp) = true)
    (a_qi : W.findIn K (.ref c_q09) "new_brine" = some (some (.ref f_qi))) (l_qi : K.lookup f_qi = some ⟨oc_qi,od_qi, .func (W.fnOf "new_brine" "Cellar.new_brine" (q1o s_qi) (q1k s_qi) (q18 s_qi) .none kV_qi dc_qi pm_qi an_qi cd_qi ct_qi),sl_qi⟩) (c_qi : W.codeIn K cd_qi "Cellar.new_brine" = true) (k_qi : W.keepIn K (.ref f_qi) = true) (i_qi : W.isFn K (.ref f_qi) = true)
    (a_qj : W.findIn K (.ref c_q09) "new_cloth" = some (some (.ref f_qj))) (l_qj : K.lookup f_qj = some ⟨oc_qj,od_qj, .func (W.fnOf "new_cloth" "Cellar.new_cloth" (q1o s_qj) (q1k s_qj) (q18 s_qj) .none kV_qj dc_qj pm_qj an_qj cd_qj ct_qj),sl_qj⟩) (c_qj : W.codeIn K cd_qj "Cellar.new_cloth" = true) (k_qj : W.keepIn K (.ref f_qj) = true) (i_qj : W.isFn K (.ref f_qj) = true)
    (a_qz : W.findIn K (.ref c_q09) "book" = some (some (.ref f_qz))) (l_qz : K.lookup f_qz = some ⟨oc_qz,od_qz, .func (W.fnOf "book" "Cellar.book" (q1o s_qz) (q1k s_qz) (q18 s_qz) .none kV_qz dc_qz pm_qz an_qz cd_qz ct_qz),sl_qz⟩) (c_qz : W.codeIn K cd_qz "Cellar.book" = true) (k_qz : W.keepIn K (.ref f_qz) = true) (i_qz : W.isFn K (.ref f_qz) = true)
    (na_Cellar_today : W.findIn K (.ref c_q09) "today" = some none)
    (na_Cellar_things : W.findIn K (.ref c_q09) "things" = some none)
    (na_Cellar_wheels : W.findIn K (.ref c_q09) "wheels" = some none)
    (na_Cellar_entries : W.findIn K (.ref c_q09) "entries" = some none)
    (cn_q0a : W.nsIn K mainGlobals "CellarError" = some (some (.ref c_q0a))) (ci_q0a : W.isClsIn K c_q0a = true) (ct_q0a : W.typeIn K (.ref c_q0a) = some (.type "type"))
    (cn_q02 : W.nsIn K mainGlobals "BadName" = some (some (.ref c_q02))) (ci_q02 : W.isClsIn K c_q02 = true) (ct_q02 : W.typeIn K (.ref c_q02) = some (.type "type"))
    (cn_q08 : W.nsIn K mainGlobals "Taken" = some (some (.ref c_q08))) (ci_q08 : W.isClsIn K c_q08 = true) (ct_q08 : W.typeIn K (.ref c_q08) = some (.type "type"))
    (cn_q03 : W.nsIn K mainGlobals "Unknown" = some (some (.ref c_q03))) (ci_q03 : W.isClsIn K c_q03 = true) (ct_q03 : W.typeIn K (.ref c_q03) = some (.type "type"))
    (cn_qx : W.nsIn K mainGlobals "BadNumber" = some (some (.ref c_qx))) (ci_qx : W.isClsIn K c_qx = true) (ct_qx : W.typeIn K (.ref c_qx) = some (.type "type"))
    (cn_q0s : W.nsIn K mainGlobals "Gone" = some (some (.ref c_q0s))) (ci_q0s : W.isClsIn K c_q0s = true) (ct_q0s : W.typeIn K (.ref c_q0s) = some (.type "type"))
    (cn_qy : W.nsIn K mainGlobals "WrongRoom" = some (some (.ref c_qy))) (ci_qy : W.isClsIn K c_qy = true) (ct_qy : W.typeIn K (.ref c_qy) = some (.type "type"))
    (cn_q0n : W.nsIn K mainGlobals "Mouldy" = some (some (.ref c_q0n))) (ci_q0n : W.isClsIn K c_q0n = true) (ct_q0n : W.typeIn K (.ref c_q0n) = some (.type "type"))
    (cn_q0l : W.nsIn K mainGlobals "TooMuch" = some (some (.ref c_q0l))) (ci_q0l : W.isClsIn K c_q0l = true) (ct_q0l : W.typeIn K (.ref c_q0l) = some (.type "type"))
    (cn_q0k : W.nsIn K mainGlobals "BadLine" = some (some (.ref c_q0k))) (ci_q0k : W.isClsIn K c_q0k = true) (ct_q0k : W.typeIn K (.ref c_q0k) = some (.type "type"))
    (x_q02 : W.excIn K c_q02 bmVE "ValueError.__new__" = true)
    (ega_q02 : W.findIn K (.ref c_q02) "__getattribute__" = some (some (.builtin "BaseException.__getattribute__")))
    (egt_q02 : W.findIn K (.ref c_q02) "__getattr__" = some none)
    (ecl_q02 : W.findIn K (.ref c_q02) "__class__" = some (some (.builtin "object.__class__")))
    (egg_q02 : W.specialIn K (.builtin "object.__class__") "__get__" = some (some (.builtin "getset_descriptor.__get__")))
    (etk_q02 : W.takesIn K (.builtin "object.__class__") = some true)
    (emo_q02 : W.mroIn K c_q02 (.type "object") = some true)
    (emb_q02 : W.mroIn K c_q02 (.type "BaseException") = some true)
    (ev_q02 : W.subIn K (.ref c_q02) (.type "ValueError") = some true)
    (s_BadName_CellarError : W.subIn K (.ref c_q02) (.ref c_q0a) = some true)
    (s_BadName_BadName : W.subIn K (.ref c_q02) (.ref c_q02) = some true)
    (s_BadName_Taken : W.subIn K (.ref c_q02) (.ref c_q08) = some false)
    (s_BadName_Unknown : W.subIn K (.ref c_q02) (.ref c_q03) = some false)
    (s_BadName_BadNumber : W.subIn K (.ref c_q02) (.ref c_qx) = some false)
    (s_BadName_Gone : W.subIn K (.ref c_q02) (.ref c_q0s) = some false)
    (s_BadName_WrongRoom : W.subIn K (.ref c_q02) (.ref c_qy) = some false)
    (s_BadName_Mouldy : W.subIn K (.ref c_q02) (.ref c_q0n) = some false)
    (s_BadName_TooMuch : W.subIn K (.ref c_q02) (.ref c_q0l) = some false)
    (s_BadName_BadLine : W.subIn K (.ref c_q02) (.ref c_q0k) = some false)
    (x_q08 : W.excIn K c_q08 bmVE "ValueError.__new__" = true)
    (ega_q08 : W.findIn K (.ref c_q08) "__getattribute__" = some (some (.builtin "BaseException.__getattribute__")))
    (egt_q08 : W.findIn K (.ref c_q08) "__getattr__" = some none)
    (ecl_q08 : W.findIn K (.ref c_q08) "__class__" = some (some (.builtin "object.__class__")))
    (egg_q08 : W.specialIn K (.builtin "object.__class__") "__get__" = some (some (.builtin "getset_descriptor.__get__")))
    (etk_q08 : W.takesIn K (.builtin "object.__class__") = some true)
    (emo_q08 : W.mroIn K c_q08 (.type "object") = some true)
    (emb_q08 : W.mroIn K c_q08 (.type "BaseException") = some true)
    (ev_q08 : W.subIn K (.ref c_q08) (.type "ValueError") = some true)
    (s_Taken_CellarError : W.subIn K (.ref c_q08) (.ref c_q0a) = some true)
    (s_Taken_BadName : W.subIn K (.ref c_q08) (.ref c_q02) = some false)
    (s_Taken_Taken : W.subIn K (.ref c_q08) (.ref c_q08) = some true)
    (s_Taken_Unknown : W.subIn K (.ref c_q08) (.ref c_q03) = some false)
    (s_Taken_BadNumber : W.subIn K (.ref c_q08) (.ref c_qx) = some false)
    (s_Taken_Gone : W.subIn K (.ref c_q08) (.ref c_q0s) = some false)
    (s_Taken_WrongRoom : W.subIn K (.ref c_q08) (.ref c_qy) = some false)
    (s_Taken_Mouldy : W.subIn K (.ref c_q08) (.ref c_q0n) = some false)
    (s_Taken_TooMuch : W.subIn K (.ref c_q08) (.ref c_q0l) = some false)
    (s_Taken_BadLine : W.subIn K (.ref c_q08) (.ref c_q0k) = some false)
    (x_q03 : W.excIn K c_q03 bmVE "ValueError.__new__" = true)
    (ega_q03 : W.findIn K (.ref c_q03) "__getattribute__" = some (some (.builtin "BaseException.__getattribute__")))
    (egt_q03 : W.findIn K (.ref c_q03) "__getattr__" = some none)
    (ecl_q03 : W.findIn K (.ref c_q03) "__class__" = some (some (.builtin "object.__class__")))
    (egg_q03 : W.specialIn K (.builtin "object.__class__") "__get__" = some (some (.builtin "getset_descriptor.__get__")))
    (etk_q03 : W.takesIn K (.builtin "object.__class__") = some true)
    (emo_q03 : W.mroIn K c_q03 (.type "object") = some true)
    (emb_q03 : W.mroIn K c_q03 (.type "BaseException") = some true)
    (ev_q03 : W.subIn K (.ref c_q03) (.type "ValueError") = some true)
    (s_Unknown_CellarError : W.subIn K (.ref c_q03) (.ref c_q0a) = some true)
    (s_Unknown_BadName : W.subIn K (.ref c_q03) (.ref c_q02) = some false)
    (s_Unknown_Taken : W.subIn K (.ref c_q03) (.ref c_q08) = some false)
    (s_Unknown_Unknown : W.subIn K (.ref c_q03) (.ref c_q03) = some true)
    (s_Unknown_BadNumber : W.subIn K (.ref c_q03) (.ref c_qx) = some false)
    (s_Unknown_Gone : W.subIn K (.ref c_q03) (.ref c_q0s) = some false)
    (s_Unknown_WrongRoom : W.subIn K (.ref c_q03) (.ref c_qy) = some false)
    (s_Unknown_Mouldy : W.subIn K (.ref c_q03) (.ref c_q0n) = some false)
    (s_Unknown_TooMuch : W.subIn K (.ref c_q03) (.ref c_q0l) = some false)
    (s_Unknown_BadLine : W.subIn K (.ref c_q03) (.ref c_q0k) = some false)
    (x_qx : W.excIn K c_qx bmVE "ValueError.__new__" = true)
    (ega_qx : W.findIn K (.ref c_qx) "__getattribute__" = some (some (.builtin "BaseException.__getattribute__")))
    (egt_qx : W.findIn K (.ref c_qx) "__getattr__" = some none)
    (ecl_qx : W.findIn K (.ref c_qx) "__class__" = some (some (.builtin "object.__class__")))
    (egg_qx : W.specialIn K (.builtin "object.__class__") "__get__" = some (some (.builtin "getset_descriptor.__get__")))
    (etk_qx : W.takesIn K (.builtin "object.__class__") = some true)
    (emo_qx : W.mroIn K c_qx (.type "object") = some true)
    (emb_qx : W.mroIn K c_qx (.type "BaseException") = some true)
    (ev_qx : W.subIn K (.ref c_qx) (.type "ValueError") = some true)
    (s_BadNumber_CellarError : W.subIn K (.ref c_qx) (.ref c_q0a) = some true)
    (s_BadNumber_BadName : W.subIn K (.ref c_qx) (.ref c_q02) = some false)
    (s_BadNumber_Taken : W.subIn K (.ref c_qx) (.ref c_q08) = some false)
    (s_BadNumber_Unknown : W.subIn K (.ref c_qx) (.ref c_q03) = some false)
    (s_BadNumber_BadNumber : W.subIn K (.ref c_qx) (.ref c_qx) = some true)
    (s_BadNumber_Gone : W.subIn K (.ref c_qx) (.ref c_q0s) = some false)
    (s_BadNumber_WrongRoom : W.subIn K (.ref c_qx) (.ref c_qy) = some false)
    (s_BadNumber_Mouldy : W.subIn K (.ref c_qx) (.ref c_q0n) = some false)
    (s_BadNumber_TooMuch : W.subIn K (.ref c_qx) (.ref c_q0l) = some false)
    (s_BadNumber_BadLine : W.subIn K (.ref c_qx) (.ref c_q0k) = some false)
    (x_qy : W.excIn K c_qy bmVE "ValueError.__new__" = true)
    (ega_qy : W.findIn K (.ref c_qy) "__getattribute__" = some (some (.builtin "BaseException.__getattribute__")))
    (egt_qy : W.findIn K (.ref c_qy) "__getattr__" = some none)
    (ecl_qy : W.findIn K (.ref c_qy) "__class__" = some (some (.builtin "object.__class__")))
    (egg_qy : W.specialIn K (.builtin "object.__class__") "__get__" = some (some (.builtin "getset_descriptor.__get__")))
    (etk_qy : W.takesIn K (.builtin "object.__class__") = some true)
    (emo_qy : W.mroIn K c_qy (.type "object") = some true)
    (emb_qy : W.mroIn K c_qy (.type "BaseException") = some true)
    (ev_qy : W.subIn K (.ref c_qy) (.type "ValueError") = some true)
    (s_WrongRoom_CellarError : W.subIn K (.ref c_qy) (.ref c_q0a) = some true)
    (s_WrongRoom_BadName : W.subIn K (.ref c_qy) (.ref c_q02) = some false)
    (s_WrongRoom_Taken : W.subIn K (.ref c_qy) (.ref c_q08) = some false)
    (s_WrongRoom_Unknown : W.subIn K (.ref c_qy) (.ref c_q03) = some false)
    (s_WrongRoom_BadNumber : W.subIn K (.ref c_qy) (.ref c_qx) = some false)
    (s_WrongRoom_Gone : W.subIn K (.ref c_qy) (.ref c_q0s) = some false)
    (s_WrongRoom_WrongRoom : W.subIn K (.ref c_qy) (.ref c_qy) = some true)
    (s_WrongRoom_Mouldy : W.subIn K (.ref c_qy) (.ref c_q0n) = some false)
    (s_WrongRoom_TooMuch : W.subIn K (.ref c_qy) (.ref c_q0l) = some false)
    (s_WrongRoom_BadLine : W.subIn K (.ref c_qy) (.ref c_q0k) = some false)
    (t_q0a : W.instIn K (.ref c_q0a) (.type "tuple") = some false) (b_q0a : W.subIn K (.ref c_q0a) (.type "BaseException") = some true)
    : ∃ fd : FuncData,(∀ (s : Shared) (v : Value),BindsTo s fd ⟨[v],[]⟩ [("_law_script",v)]) /\ ∀ base : Heap,K.In base -> base.Ns mainGlobals mg -> FnOk l.prog w K mg base CX0 8 fa fd ["_law_script"] (q8q K) := by
  have e := hfa.symm.trans (W.mg_of X G a16)
  cases e
  have F1 := q27 (st := s_q0i) l1 c1 k1
  have b1 := F1.binds (ps := ["text", "signs"]) fun _ _ _ _ _ _ us hl => match us,hl with | [_,_],_ => rfl
  have F2 := q27 (st := s_q0j) l2 c2 k2
  have b2 := F2.binds (ps := ["text"]) fun _ _ _ _ _ _ us hl => match us,hl with | [_],_ => rfl
  have F3 := q27 (st := s_q01) l3 c3 k3
  have b3 := F3.binds (ps := ["number", "least", "most"]) fun _ _ _ _ _ _ us hl => match us,hl with | [_,_,_],_ => rfl
  have F4 := q27 (st := s_q0d) l4 c4 k4
  have b4 := F4.binds (ps := ["least", "most"]) fun _ _ _ _ _ _ us hl => match us,hl with | [_,_],_ => rfl
  have F5 := q27 (st := s_q0e) l5 c5 k5
  have b5 := F5.binds (ps := ["_law_script", "_law_k"]) fun _ _ _ _ _ _ us hl => match us,hl with | [_,_],_ => rfl
  have F6 := q27 (st := s_q0f) l6 c6 k6
  have b6 := F6.binds (ps := ["_law_found"]) fun _ _ _ _ _ _ us hl => match us,hl with | [_],_ => rfl
  have F7 := q27 (st := s_q04) l7 c7 k7
  have b7 := F7.binds (ps := ["_law_script", "_law_mark"]) fun _ _ _ _ _ _ us hl => match us,hl with | [_,_],_ => rfl
  have F8 := q27 (st := s_q0c) l8 c8 k8
  have b8 := F8.binds (ps := ["_law_e"]) fun _ _ _ _ _ _ us hl => match us,hl with | [_],_ => rfl
  have F9 := q27 (st := s_q05) l9 c9 k9
  have b9 := F9.binds (ps := ["_law_script", "_law_cell"]) fun _ _ _ _ _ _ us hl => match us,hl with | [_,_],_ => rfl
  have F10 := q27 (st := s_q0h) l10 c10 k10
  have b10 := F10.binds (ps := ["_law_cell"]) fun _ _ _ _ _ _ us hl => match us,hl with | [_],_ => rfl
  have F11 := q27 (st := s_q0b) l11 c11 k11
  have b11 := F11.binds (ps := ["_law_script", "_law_pick", "_law_cell"]) fun _ _ _ _ _ _ us hl => match us,hl with | [_,_,_],_ => rfl
  have F12 := q27 (st := s_q00) l12 c12 k12
  have b12 := F12.binds (ps := ["_law_thing_here"]) fun _ _ _ _ _ _ us hl => match us,hl with | [_],_ => rfl
  have F13 := q27 (st := s_q0g) l13 c13 k13
  have b13 := F13.binds (ps := ["_law_there", "_law_thing_here"]) fun _ _ _ _ _ _ us hl => match us,hl with | [_,_],_ => rfl
  have F14 := q27 (st := s_q06) l14 c14 k14
  have b14 := F14.binds (ps := ["_law_cellar", "_law_thing_here"]) fun _ _ _ _ _ _ us hl => match us,hl with | [_,_],_ => rfl
  have F15 := q27 (st := s_q07) l15 c15 k15
  have b15 := F15.binds (ps := ["_law_cellar", "_law_thing_here"]) fun _ _ _ _ _ _ us hl => match us,hl with | [_,_],_ => rfl
  have F16 := q27 (st := q50) l16 c16 k16
  have b16 := F16.binds (ps := ["_law_script"]) fun _ _ _ _ _ _ us hl => match us,hl with | [_],_ => rfl
  have F_qb := q27 (st := s_qb) l_qb c_qb k_qb
  have b_qb := F_qb.binds (ps := ["self", "kind", "name"]) fun _ _ _ _ _ _ us hl => match us,hl with | [_,_,_],_ => rfl
  have F_qw := q27 (st := s_qw) l_qw c_qw k_qw
  have b_qw := F_qw.binds (ps := ["self", "name", "damp", "warmth"]) fun _ _ _ _ _ _ us hl => match us,hl with | [_,_,_,_],_ => rfl
  have F_qt := q27 (st := s_qt) l_qt c_qt k_qt
  have b_qt := F_qt.binds (ps := ["self", "name", "room"]) fun _ _ _ _ _ _ us hl => match us,hl with | [_,_,_],_ => rfl
  have F_qu := q27 (st := s_qu) l_qu c_qu k_qu
  have b_qu := F_qu.binds (ps := ["self", "name", "mouldy", "turn_gap", "wash_gap", "route"]) fun _ _ _ _ _ _ us hl => match us,hl with | [_,_,_,_,_,_],_ => rfl
  have F_qo := q27 (st := s_qo) l_qo c_qo k_qo
  have b_qo := F_qo.binds (ps := ["self", "kind", "name"]) fun _ _ _ _ _ _ us hl => match us,hl with | [_,_,_],_ => rfl
  have F_qr := q27 (st := s_qr) l_qr c_qr k_qr
  have b_qr := F_qr.binds (ps := ["self"]) fun _ _ _ _ _ _ us hl => match us,hl with | [_],_ => rfl
  have F_qa := q27 (st := s_qa) l_qa c_qa k_qa
  have b_qa := F_qa.binds (ps := ["self", "name"]) fun _ _ _ _ _ _ us hl => match us,hl with | [_,_],_ => rfl
  have F_qq := q27 (st := s_qq) l_qq c_qq k_qq
  have b_qq := F_qq.binds (ps := ["self", "name", "kind"]) fun _ _ _ _ _ _ us hl => match us,hl with | [_,_,_],_ => rfl
  have F_qf := q27 (st := s_qf) l_qf c_qf k_qf
  have b_qf := F_qf.binds (ps := ["self", "thing"]) fun _ _ _ _ _ _ us hl => match us,hl with | [_,_],_ => rfl
  have F_qm := q27 (st := s_qm) l_qm c_qm k_qm
  have b_qm := F_qm.binds (ps := ["self", "name", "damp", "warmth"]) fun _ _ _ _ _ _ us hl => match us,hl with | [_,_,_,_],_ => rfl
  have F_qh := q27 (st := s_qh) l_qh c_qh k_qh
  have b_qh := F_qh.binds (ps := ["self", "name", "room"]) fun _ _ _ _ _ _ us hl => match us,hl with | [_,_,_],_ => rfl
  have F_qg := q27 (st := s_qg) l_qg c_qg k_qg
  have b_qg := F_qg.binds (ps := ["self", "name", "mouldy", "turn_gap", "wash_gap", "route"]) fun _ _ _ _ _ _ us hl => match us,hl with | [_,_,_,_,_,_],_ => rfl
  have F_qp := q27 (st := s_qp) l_qp c_qp k_qp
  have b_qp := F_qp.binds (ps := ["self", "name"]) fun _ _ _ _ _ _ us hl => match us,hl with | [_,_],_ => rfl
  have F_qi := q27 (st := s_qi) l_qi c_qi k_qi
  have b_qi := F_qi.binds (ps := ["self", "name"]) fun _ _ _ _ _ _ us hl => match us,hl with | [_,_],_ => rfl
  have F_qj := q27 (st := s_qj) l_qj c_qj k_qj
  have b_qj := F_qj.binds (ps := ["self", "name"]) fun _ _ _ _ _ _ us hl => match us,hl with | [_,_],_ => rfl
  have F_qz := q27 (st := s_qz) l_qz c_qz k_qz
  have b_qz := F_qz.binds (ps := ["self"]) fun _ _ _ _ _ _ us hl => match us,hl with | [_],_ => rfl
  have T : Txt K mg ⟨f1,_,f2,_,f3,_,f4,_,f5,_,f6,_,f7,_,f8,_,f9,_,f10,_,f11,_,f12,_,f13,_,f14,_,f15,_,fa,_,c_q0o,f_qb,_,c_q0r,f_qw,_,c_q0q,f_qt,_,c_q0p,f_qu,_,c_q0m,f_qo,_,c_q09,f_qr,_,f_qa,_,f_qq,_,f_qf,_,f_qm,_,f_qh,_,f_qg,_,f_qp,_,f_qi,_,f_qj,_,f_qz,_,c_q0a,c_q02,c_q08,c_q03,c_qx,c_q0s,c_qy,c_q0n,c_q0l,c_q0k⟩ := ⟨F1,W.mg_of X G a1,b1,F2,W.mg_of X G a2,b2,F3,W.mg_of X G a3,b3,F4,W.mg_of X G a4,b4,F5,W.mg_of X G a5,b5,F6,W.mg_of X G a6,b6,F7,W.mg_of X G a7,b7,F8,W.mg_of X G a8,b8,F9,W.mg_of X G a9,b9,F10,W.mg_of X G a10,b10,F11,W.mg_of X G a11,b11,F12,W.mg_of X G a12,b12,F13,W.mg_of X G a13,b13,F14,W.mg_of X G a14,b14,F15,W.mg_of X G a15,b15,F16,W.mg_of X G a16,b16,W.mg_none_of X G z_len,W.mg_none_of X G z_all,W.mg_none_of X G z_min,W.mg_none_of X G z_range,W.mg_none_of X G z_int,W.mg_none_of X G z_bool,W.mg_none_of X G z_list,W.mg_none_of X G z_isinstance,W.mg_none_of X G z_ValueError,W.mg_none_of X G z_set,W.mg_of X G cn_q0o,⟨pg_q0o,hd_q0o,po_q0o,sa_q0o⟩,F_qb,b_qb,⟨ma_q0o,a_qb,i_qb,kp_q0o⟩,na_Thing_kind,na_Thing_name,⟨bs_qb,br_qb,bf_qb,k_qb⟩,W.mg_of X G cn_q0r,⟨pg_q0r,hd_q0r,po_q0r,sa_q0r⟩,F_qw,b_qw,⟨ma_q0r,a_qw,i_qw,kp_q0r⟩,na_Room_kind,na_Room_name,na_Room_damp,na_Room_warmth,W.mg_of X G cn_q0q,⟨pg_q0q,hd_q0q,po_q0q,sa_q0q⟩,F_qt,b_qt,⟨ma_q0q,a_qt,i_qt,kp_q0q⟩,na_Shelf_kind,na_Shelf_name,na_Shelf_room,W.mg_of X G cn_q0p,⟨pg_q0p,hd_q0p,po_q0p,sa_q0p⟩,F_qu,b_qu,⟨ma_q0p,a_qu,i_qu,kp_q0p⟩,na_Sort_kind,na_Sort_name,na_Sort_mouldy,na_Sort_turn_gap,na_Sort_wash_gap,na_Sort_rooms,na_Sort_stays,W.mg_of X G cn_q0m,⟨pg_q0m,hd_q0m,po_q0m,sa_q0m⟩,F_qo,b_qo,⟨ma_q0m,a_qo,i_qo,kp_q0m⟩,na_Washer_kind,na_Washer_name,na_Washer_mouldy,W.mg_of X G cn_q09,⟨pg_q09,hd_q09,po_q09,sa_q09⟩,F_qr,b_qr,⟨ma_q09,a_qr,i_qr,kp_q09⟩,F_qa,b_qa,⟨a_qa,i_qa,k_qa⟩,F_qq,b_qq,⟨a_qq,i_qq,k_qq⟩,F_qf,b_qf,⟨a_qf,i_qf,k_qf⟩,F_qm,b_qm,⟨a_qm,i_qm,k_qm⟩,F_qh,b_qh,⟨a_qh,i_qh,k_qh⟩,F_qg,b_qg,⟨a_qg,i_qg,k_qg⟩,F_qp,b_qp,⟨a_qp,i_qp,k_qp⟩,F_qi,b_qi,⟨a_qi,i_qi,k_qi⟩,F_qj,b_qj,⟨a_qj,i_qj,k_qj⟩,F_qz,b_qz,⟨a_qz,i_qz,k_qz⟩,na_Cellar_today,na_Cellar_things,na_Cellar_wheels,na_Cellar_entries,W.mg_of X G cn_q0a,⟨ci_q0a,ct_q0a⟩,W.mg_of X G cn_q02,⟨ci_q02,ct_q02⟩,W.mg_of X G cn_q08,⟨ci_q08,ct_q08⟩,W.mg_of X G cn_q03,⟨ci_q03,ct_q03⟩,W.mg_of X G cn_qx,⟨ci_qx,ct_qx⟩,W.mg_of X G cn_q0s,⟨ci_q0s,ct_q0s⟩,W.mg_of X G cn_qy,⟨ci_qy,ct_qy⟩,W.mg_of X G cn_q0n,⟨ci_q0n,ct_q0n⟩,W.mg_of X G cn_q0l,⟨ci_q0l,ct_q0l⟩,W.mg_of X G cn_q0k,⟨ci_q0k,ct_q0k⟩,x_q02,⟨ci_q02,ega_q02,egt_q02,ecl_q02,egg_q02,etk_q02,emo_q02,emb_q02⟩,ev_q02,s_BadName_CellarError,s_BadName_BadName,s_BadName_Taken,s_BadName_Unknown,s_BadName_BadNumber,s_BadName_Gone,s_BadName_WrongRoom,s_BadName_Mouldy,s_BadName_TooMuch,s_BadName_BadLine,x_q08,⟨ci_q08,ega_q08,egt_q08,ecl_q08,egg_q08,etk_q08,emo_q08,emb_q08⟩,ev_q08,s_Taken_CellarError,s_Taken_BadName,s_Taken_Taken,s_Taken_Unknown,s_Taken_BadNumber,s_Taken_Gone,s_Taken_WrongRoom,s_Taken_Mouldy,s_Taken_TooMuch,s_Taken_BadLine,x_q03,⟨ci_q03,ega_q03,egt_q03,ecl_q03,egg_q03,etk_q03,emo_q03,emb_q03⟩,ev_q03,s_Unknown_CellarError,s_Unknown_BadName,s_Unknown_Taken,s_Unknown_Unknown,s_Unknown_BadNumber,s_Unknown_Gone,s_Unknown_WrongRoom,s_Unknown_Mouldy,s_Unknown_TooMuch,s_Unknown_BadLine,x_qx,⟨ci_qx,ega_qx,egt_qx,ecl_qx,egg_qx,etk_qx,emo_qx,emb_qx⟩,ev_qx,s_BadNumber_CellarError,s_BadNumber_BadName,s_BadNumber_Taken,s_BadNumber_Unknown,s_BadNumber_BadNumber,s_BadNumber_Gone,s_BadNumber_WrongRoom,s_BadNumber_Mouldy,s_BadNumber_TooMuch,s_BadNumber_BadLine,x_qy,⟨ci_qy,ega_qy,egt_qy,ecl_qy,egg_qy,etk_qy,emo_qy,emb_qy⟩,ev_qy,s_WrongRoom_CellarError,s_WrongRoom_BadName,s_WrongRoom_Taken,s_WrongRoom_Unknown,s_WrongRoom_BadNumber,s_WrongRoom_Gone,s_WrongRoom_WrongRoom,s_WrongRoom_Mouldy,s_WrongRoom_TooMuch,s_WrongRoom_BadLine,t_q0a,b_q0a,⟨_,W.mg_of X G g_q0t⟩,⟨_,W.mg_of X G g_q0u⟩,⟨_,W.mg_of X G g_q0x⟩,⟨_,W.mg_of X G g_q0v⟩,⟨_,W.mg_of X G g_q0w⟩⟩
  exact ⟨W.fnOf "law" "law" (q1o q50) (q1k q50) (q18 q50) .none kV16 dc16 pm16 an16 cd16 ct16,fun s v => .of_eq rfl,fun base _ _ => ok_law T⟩
theorem walk {l : W.OpenLaw} {q : Program} {loose : List Str} {XP : (Str -> Option Value) -> Heap -> Prop} {YP : World -> Heap -> Prop} {d : DefRec} {K : Params -> W.Frag} (hn : l.most = some 63) (hdf : d.params.defaults = [])
    (hY : ∀ (w : World) (h : Heap),YP w h -> (K w.params).In h)
    (F : ∀ (w : World) (mg : Str -> Option Value) (fa : Addr) (h : Heap),(K w.params).In h -> h.Ns mainGlobals mg -> mg d.name = some (.ref fa) ->
      ∃ fd : FuncData,(∀ (s : Shared) (u : Value),BindsTo s fd ⟨[u],[]⟩ [("_law_script",u)]) /\ ∀ base : Heap,(K w.params).In base -> base.Ns mainGlobals mg -> FnOk l.prog w (K w.params) mg base CX0 8 fa fd ["_law_script"] (q8q (K w.params))) :
    W.WalkO q loose XP YP l.row.toRowW d [] (fun f vs => PySem.call f vs) :=
  L2.qi6 (n := 63) (k := 8) (x := "_law_script") (CX := fun _ => CX0) (sp := fun w => q8q (K w.params)) hn (by decide) hdf ⟨rfl,by decide,by decide⟩ hY F (fun _ _ a ns hl _ hS => ⟨a,ns,rfl,hS,hl,fun _ => rfl⟩) fun _ _ _ _ _ z => z
end K13
open PySem PySem.W PyProof.Rows
set_option maxRecDepth 100000 in
set_option maxHeartbeats 0 in
def PySem.W.Fast.tw12674635054779555203 : Unit := ()
def PySem.W.Fast.tw5580542366359794215 : Unit := ()
def PySem.W.Fast.tw3049822723378411911 : Unit := ()
def PySem.W.Fast.tw10818125187105838478 : Unit := ()
def PySem.W.Fast.tw16424028626793908155 : Unit := ()
def PySem.W.Fast.tw1528306234017510786 : Unit := ()
def PySem.W.Fast.tw2585696452650868113 : Unit := ()
def PySem.W.Fast.tw15175758266408179838 : Unit := ()
def PySem.W.Fast.tw14636288916462346056 : Unit := ()
def PySem.W.Fast.tw546909635093155437 : Unit := ()
def PySem.W.Fast.tw4829737627157379413 : Unit := ()
def PySem.W.Fast.tw14284449787362207443 : Unit := ()
def PySem.W.Fast.tw6687303398073827332 : Unit := ()
def PySem.W.Fast.tw1097885666983637397 : Unit := ()
def PySem.W.Fast.tw1031209071098143762 : Unit := ()
def PySem.W.Fast.tw8739306558859662987 : Unit := ()
def PySem.W.Fast.tw684147557384160803 : Unit := ()
def PySem.W.Fast.tw16571460747073108361 : Unit := ()
def PySem.W.Fast.tw16487327666023288886 : Unit := ()
def PySem.W.Fast.tw15787486748722974573 : Unit := ()
def PySem.W.Fast.tw4784377268583777618 : Unit := ()
def PySem.W.Fast.tw3722344900836735163 : Unit := ()
def PySem.W.Fast.tw8840636554112244535 : Unit := ()
def PySem.W.Fast.tw16233434615470879639 : Unit := ()
def PySem.W.Fast.tw4347688029104664996 : Unit := ()
def PySem.W.Fast.tw7151379686482442018 : Unit := ()
def PySem.W.Fast.tw17659704398859904462 : Unit := ()
def PySem.W.Fast.tw15142221514532480417 : Unit := ()
def PySem.W.Fast.tw17205830104741585980 : Unit := ()
def PySem.W.Fast.tw7256364626615414590 : Unit := ()
def PySem.W.Fast.tw5638793024114620001 : Unit := ()
def PySem.W.Fast.tw15659044570318434641 : Unit := ()
def PySem.W.Fast.tw10389840397676245655 : Unit := ()
def PySem.W.Fast.tw12949500183333480915 : Unit := ()
def PySem.W.Fast.tw17851098312475024436 : Unit := ()
def PySem.W.Fast.tw10771278619289307405 : Unit := ()
def PySem.W.Fast.tw3779670174959754348 : Unit := ()
def PySem.W.Fast.tw12719253113413245693 : Unit := ()
def PySem.W.Fast.tw9898614525825901246 : Unit := ()
def PySem.W.Fast.tw2052298686732524330 : Unit := ()
def PySem.W.Fast.tw986421496474531642 : Unit := ()
def PySem.W.Fast.tw6947267013791900710 : Unit := ()
def PySem.W.Fast.tw4366413446311294600 : Unit := ()
def PySem.W.Fast.tw8913840679545660902 : Unit := ()
def PySem.W.Fast.tw2939683985687277235 : Unit := ()
def PySem.W.Fast.tw2584397838893081254 : Unit := ()
def PySem.W.Fast.tw2519072886892826947 : Unit := ()
def PySem.W.Fast.tw14706750565178491959 : Unit := ()
def PySem.W.Fast.tw10209487231588367470 : Unit := ()
def PySem.W.Fast.tw970229036366883305 : Unit := ()
def PySem.W.Fast.tw5159401596284989201 : Unit := ()
def PySem.W.Fast.tw16146413408800204475 : Unit := ()
def PySem.W.Fast.tw1533969556861527830 : Unit := ()
def PySem.W.Fast.tw4644417681270685686 : Unit := ()
def PySem.W.Fast.tw4439145361977473811 : Unit := ()
def PySem.W.Fast.tw16547527317575230748 : Unit := ()
def PySem.W.Fast.tw3876368301051055135 : Unit := ()
def PySem.W.Fast.tw2110599509051362681 : Unit := ()
def PySem.W.Fast.tw17927084454790695391 : Unit := ()
def PySem.W.Fast.tw3969251604020921120 : Unit := ()
def PySem.W.Fast.tw6543633910130995247 : Unit := ()
def PySem.W.Fast.tw13565506712624540245 : Unit := ()
def PySem.W.Fast.tw811116625584449091 : Unit := ()
def PySem.W.Fast.tw6518141670737137136 : Unit := ()
def PySem.W.Fast.tw7334882598384843317 : Unit := ()
def PySem.W.Fast.tw15579435391020447100 : Unit := ()
def PySem.W.Fast.tw12842134825910106651 : Unit := ()
def PySem.W.Fast.tw8646575891821141083 : Unit := ()
def PySem.W.Fast.tw11580357159839901365 : Unit := ()
def PySem.W.Fast.tw13675775193229858265 : Unit := ()
def PySem.W.Fast.tw2072063231261197374 : Unit := ()
def PySem.W.Fast.tw15399144746545573225 : Unit := ()
def PySem.W.Fast.tw14050875295291738612 : Unit := ()
def PySem.W.Fast.tw13170266296993228969 : Unit := ()
def PySem.W.Fast.tw16612091034673530459 : Unit := ()
def PySem.W.Fast.tw18200484258893958469 : Unit := ()
def PySem.W.Fast.tw17586530060647438831 : Unit := ()
def PySem.W.Fast.tw11245930688521839189 : Unit := ()
def PySem.W.Fast.tw14338908211404970160 : Unit := ()
def PySem.W.Fast.tw18149316633229425318 : Unit := ()
def PySem.W.Fast.tw16174195275573534610 : Unit := ()
def PySem.W.Fast.tw5357173718315589298 : Unit := ()
def PySem.W.Fast.tw9154159923304044587 : Unit := ()
def PySem.W.Fast.tw748974553723883258 : Unit := ()
def PySem.W.Fast.tw15947764170162977551 : Unit := ()
def PySem.W.Fast.tw9978355619295259875 : Unit := ()
def PySem.W.Fast.tw1638230592327528011 : Unit := ()
def PySem.W.Fast.tw10740633677685240853 : Unit := ()
theorem PySem.Challenge.cw_curdcellar_k13_new_things_holds : PySem.Challenge.rw_curdcellar_k13_new_things.Holds := by
  w_on; o_law; k_head; (case hw => w_witness2)
  k_fill
  refine K13.walk (l := PySem.Challenge.rw_curdcellar_k13_new_things) rfl rfl (fun w h Y => W.kIn_of Y) ?F
  case F =>
    intro w mg fa h KX G hmg
    refine' K13.all_mk KX G hmg ..
    all_goals try first | k_exc | k_is
