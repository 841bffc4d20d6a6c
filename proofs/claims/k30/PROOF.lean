import PyProof.Rows.All
import Wide.All
import OpenK.AllK
import Wide.FinOn
import PyProof.EqAt
import PyProof.EqKinds
import PyProof.TupleCall
import PyProof.StrWalks
import PyProof.StrLawsTight
import PyProof.StrLawsIn
import PyProof.StrLawsIdx
import PyProof.ConsumeWalk
import PyProof.StrBlockG
import PyProof.MeetsStr2
import PyProof.ZipIter
import PyProof.Rows.ZipGen
import PyProof.NeKinds
import OpenK.KOwn
import PyProof.NsDelKeeps
import PyProof.ExcClass3
import PyProof.StationsW
import KE.KIsAll
import OpenK.KDescr
import KE.KIntText
import PyProof.FString
import PyProof.ReprStr
import PyProof.StrLawsRepr
import PyProof.DictItems
import PyProof.Rows.DictItemsRows
import KE.KPairComp
import KE.KMinKey
import PyProof.Rows.MinMaxN
import PyProof.Rows.CallKwBuiltin
import PyProof.AutoListH
import PyProof.Rows.TupIter
import PyProof.Rows.StrWeight2
import PyProof.EnumFor
import PyProof.EnumMake
import PyProof.Rows.EnumRows
import PyProof.Rows.SeqGen
import KE.KRevSl
import OpenK.KCls
import PyProof.Rows.SetFrom
import PyProof.SetRoads
import PyProof.DictKinds
import PyProof.Rows.Range3
import KE.KTupSum
import KE.KDictList
import PyProof.DictValues
import KE.KEqDict
import PyProof.DictWalks
import PyProof.Rows.SortShellK
import PyProof.Rows.SortStr
import KE.KSort
import PySem.Challenge.RW_curdcellar_k30_lyings
set_option Elab.async false
set_option linter.all false
set_option maxRecDepth 100000
namespace L2
open PySem PySem.Spec PyProof.Rows
abbrev Key := Sum Int Str
def q4m : Key -> Value -> Bool
  | .inl k,v => Value.isInt k v
  | .inr x,v => Value.isStrOf x v
def keyH (w : World) : Key -> Int
  | .inl k => hashInt k
  | .inr x => hashStr w x
theorem q0i : ∀ {k : Key} {v : Value},q4m k v = true -> (∃ i t,k = Sum.inl i /\ v = Value.int i t) \/ (∃ x t,k = Sum.inr x /\ v = Value.str x t)
  | .inl i,v,h => by
    obtain ⟨t,e⟩ := Value.isInt_shape (k := i) (v := v) h
    exact .inl ⟨i,t,rfl,e⟩
  | .inr x,v,h => by
    obtain ⟨t,e⟩ := Value.isStrOf_shape (x := x) (v := v) h
    exact .inr ⟨x,t,rfl,e⟩
theorem q9q (i : Int) (t : Tok) : q4m (.inl i) (.int i t) = true := by simp [q4m,Value.isInt]
theorem qb0 (x : Str) (t : Tok) : q4m (.inr x) (.str x t) = true := by simp [q4m,Value.isStrOf]
theorem key_ll (a b : Int) : decide ((Sum.inl a : Key) = Sum.inl b) = (a == b) := by
  by_cases e : a = b
  . subst e; simp
  . have h : ¬ (Sum.inl a : Key) = Sum.inl b := fun q => e (Sum.inl.inj q)
    rw [decide_eq_false h]
    exact (beq_eq_false_iff_ne.mpr e).symm
theorem key_rr (a b : Str) : decide ((Sum.inr a : Key) = Sum.inr b) = decide (a = b) := by
  by_cases e : a = b
  . subst e; simp
  . have h : ¬ (Sum.inr a : Key) = Sum.inr b := fun q => e (Sum.inr.inj q)
    rw [decide_eq_false h,decide_eq_false e]
theorem key_lr (a : Int) (b : Str) : decide ((Sum.inl a : Key) = Sum.inr b) = false := decide_eq_false (fun q => nomatch q)
theorem key_rl (a : Str) (b : Int) : decide ((Sum.inr a : Key) = Sum.inl b) = false := decide_eq_false (fun q => nomatch q)
def q0m (prog : Program) (w : World) : PySem.KeyKind prog w Key where
  is := q4m
  hash := keyH w
  inj := fun v a b ha hb => by
    rcases q0i ha with ⟨i,t,rfl,rfl⟩ | ⟨x,t,rfl,rfl⟩
    . rcases q0i hb with ⟨j,u,rfl,e⟩ | ⟨y,u,rfl,e⟩
      . injection e with e1 _; rw [e1]
      . exact nomatch e
    . rcases q0i hb with ⟨j,u,rfl,e⟩ | ⟨y,u,rfl,e⟩
      . exact nomatch e
      . injection e with e1 _; rw [e1]
  byValue := fun k v h => by
    rcases q0i h with ⟨i,t,rfl,rfl⟩ | ⟨x,t,rfl,rfl⟩ <;> rfl
  pyHash := fun hv h => by
    rcases q0i hv with ⟨i,t,rfl,rfl⟩ | ⟨x,t,rfl,rfl⟩
    . exact wpAny_pyHash_int h
    . exact wpAny_pyHash_str h
  eqBool := fun hu hv h => by
    rcases q0i hu with ⟨i,t,rfl,rfl⟩ | ⟨x,t,rfl,rfl⟩
    . rcases q0i hv with ⟨j,u,rfl,rfl⟩ | ⟨y,u,rfl,rfl⟩
      . rw [key_ll] at h; exact wpAny_eqBool_int h
      . rw [key_lr] at h; exact SeqAt.EqAt.int_str i t y u _ _ _ _ h
    . rcases q0i hv with ⟨j,u,rfl,rfl⟩ | ⟨y,u,rfl,rfl⟩
      . rw [key_rl] at h; exact SeqAt.EqAt.str_int x t j u _ _ _ _ h
      . rw [key_rr] at h; exact wpAny_eqBool_str h
  «strs» := fun k x t v h => by
    rcases q0i h with ⟨i,u,rfl,e⟩ | ⟨y,u,rfl,e⟩
    . exact nomatch e
    . injection e with e1 _
      subst e1
      cases v <;> rfl
theorem q85 (prog : Program) (w : World) (i : Int) (t : Tok) : (q0m prog w).is (.inl i) (.int i t) = true := q9q i t
theorem q87 (prog : Program) (w : World) (x : Str) (t : Tok) : (q0m prog w).is (.inr x) (.str x t) = true := qb0 x t
end L2
namespace L2
open PySem PySem.Spec PyProof.Rows
inductive V where
  | non | bl (b : Bool) | int (i : Int) | str (x : Str) | byt (b : Array UInt8) | flt (b : UInt64) | ref (a : Addr) | ty (n : String)
  deriving DecidableEq
def RelV : V -> Value -> Prop
  | .non,u => u = Value.none
  | .bl b,u => u = Value.bool b
  | .int i,u => ∃ t,u = Value.int i t
  | .str x,u => ∃ t,u = Value.str x t
  | .byt b,u => ∃ t,u = Value.bytes b t
  | .flt b,u => ∃ t,u = Value.float b t
  | .ref a,u => u = Value.ref a
  | .ty n,u => u = Value.type n
abbrev Vals : List V -> List Value -> Prop := Paired RelV
theorem Vals.length {xs : List V} {us : List Value} (r : Vals xs us) : xs.length = us.length := Paired.length r
theorem Vals.get : ∀ {xs : List V} {us : List Value} {i : Nat} {x : V},Vals xs us -> xs[i]? = some x -> ∃ u,us[i]? = some u /\ RelV x u
  | _,_,_,_, .nil,e => by simp at e
  | _,_,0,_, .cons r _,e => by simp at e; subst e; exact ⟨_,rfl,r⟩
  | _,_,i + 1,x, .cons _ t,e => by
    obtain ⟨u,h1,h2⟩ := Vals.get (i := i) (x := x) t (by simpa using e)
    exact ⟨u,by simpa using h1,h2⟩
theorem Vals.set {x : V} {u : Value} (r : RelV x u) : ∀ {xs : List V} {us : List Value} (i : Nat),Vals xs us -> Vals (xs.set i x) (us.set i u)
  | _,_,_, .nil => .nil
  | _,_,0, .cons _ t => .cons r t
  | _,_,i + 1, .cons q t => .cons q (Vals.set r i t)
theorem Vals.append : ∀ {xs ys : List V} {us ws : List Value},Vals xs us -> Vals ys ws -> Vals (xs ++ ys) (us ++ ws)
  | _,_,_,_, .nil,s => s
  | _,_,_,_, .cons r t,s => .cons r (Vals.append t s)
theorem Vals.take : ∀ {xs : List V} {us : List Value} (n : Nat),Vals xs us -> Vals (xs.take n) (us.take n)
  | _,_,0,_ => .nil
  | _,_,_ + 1, .nil => .nil
  | _,_,n + 1, .cons r t => .cons r (Vals.take n t)
theorem Vals.drop : ∀ {xs : List V} {us : List Value} (n : Nat),Vals xs us -> Vals (xs.drop n) (us.drop n)
  | _,_,0,r => r
  | _,_,_ + 1, .nil => .nil
  | _,_,n + 1, .cons _ t => Vals.drop n t
def RelO : Option V -> Option Value -> Prop
  | some v,some u => RelV v u
  | none,none => True
  | _,_ => False
def KV {κ : Type} : List (κ × V) -> List (κ × Value) -> Prop := Paired fun (p : κ × V) (q : κ × Value) => p.1 = q.1 /\ RelV p.2 q.2
def kV : Key -> V
  | .inl i => .int i
  | .inr x => .str x
inductive HO where
  | lst (xs : List V)
  | tup (xs : List V)
  | dK (kvs : List (Key × V)) | dT (kvs : List (List Key × V))
  | set (S : Int -> Bool) (n : Nat)
  | ins (C dx : Addr) (fs : List (Str × V))
  | own (x : Addr)
  | xd (fs : List (Str × V))
  | met (f x : Addr)
  | rng (lo hi : Int)
  | frz (o : Obj) (u : HO)
  | tbl (ps : Array Value)
  | ext (φ : Heap -> Prop)
abbrev Hp := Addr -> Option HO
def upd (H : Hp) (a : Addr) (o : HO) : Hp := fun b => if b = a then some o else H b
theorem q0a {H : Hp} {a : Addr} {o : HO} : upd H a o a = some o := by unfold upd; rw [if_pos rfl]
theorem qv {H : Hp} {a b : Addr} {o : HO} (h : b ≠ a) : upd H a o b = H b := by unfold upd; rw [if_neg h]
theorem ne_of {H : Hp} {a b : Addr} {o u : HO} (h : H a = some o) (h' : H b = some u) (d : o ≠ u) : a ≠ b := by
  intro e; subst e; rw [h] at h'; exact d (Option.some.inj h')
theorem q1p {H : Hp} {a b : Addr} {o : HO} (h : H a = some o) (h' : H b = none) : a ≠ b := by
  intro e; subst e; rw [h] at h'; cases h'
section
variable (P : Program) (w : World)
def q05 (H : Hp) (h : Heap) (a : Addr) : HO -> Prop
  | .lst xs => xs.length <= sizeLine /\ ∃ (its : List Value) (n : Nat),Vals xs its /\ h.get? a = some { cls := .type "list",data := .seq its.toArray n }
  | .tup xs => xs.length <= sizeLine /\ ∃ its : List Value,Vals xs its /\ IsTup h a its.toArray
  | .dK kvs => kvs.length <= sizeLine /\ (a == sysModules) = false /\ ∃ vs,KV kvs vs /\ h.DictOf (q0m P w) a vs
  | .dT kvs => kvs.length <= sizeLine /\ (a == sysModules) = false /\ ∃ xs : List (List Key × Addr × Value),
      Paired (fun (p : List Key × V) (q : List Key × Addr × Value) => p.1 = q.1 /\ H q.2.1 = some (.tup (p.1.map kV)) /\ RelV p.2 q.2.2) kvs xs /\
      ∃ o es ep,h.get? a = some o /\ o.ExactDict /\ o.data = .dict es ep /\ es.toList = xs.map (entryOfKey (tupleKind (q0m P w))) /\ (xs.map (·.1)).Nodup
  | .set S n => h.SetOf (intKind P w) a S n
  | .ins C dx fs => H dx = some (.own a) /\ fs.length <= 1000 /\ dx ≠ a /\ h.get? a = some (PySem.W.instObj C dx) /\
      ∃ mA,h.Ns1 dx mA /\ (∀ f,RelO (fs.lookup f) (mA f)) /\ PySem.Within mA (fs.map (·.1))
  | .own _ => ∃ o,h.get? a = some o
  | .xd fs => ∃ mA,h.Ns1 a mA /\ ∀ f,RelO (fs.lookup f) (mA f)
  | .rng lo hi => ∃ t u v,h.get? a = some { cls := .type "range",data := .fields #[.int lo t, .int hi u, .int 1 v] }
  | .frz o u => h.get? a = some o /\ q05 H h a u
  | .tbl ps => h.get? a = some { cls := .none,data := .fields ps }
  | .met f x => h.get? a = some (PySem.W.methodObj (.ref f) (.ref x))
  | .ext φ => φ h /\ (∃ o,h.get? a = some o) /\ ∀ h1 h2 : Heap, φ h1 -> (∀ o,h1.get? a = some o -> h2.get? a = some o) -> φ h2
def HOk (H : Hp) (h : Heap) : Prop := ∀ a o,H a = some o -> q05 P w H h a o
end
section
variable {P : Program} {w : World} {H H' : Hp} {h h' : Heap} {a : Addr} {o : HO}
theorem q05.lt (x : q05 P w H h a o) : a < h.objs.size := by
  cases o with
  | lst xs => obtain ⟨_,_,_,_,e⟩ := x; exact Heap.lt_size e
  | tup xs => obtain ⟨_,_,_,p⟩ := x; exact p.lt
  | dK kvs => obtain ⟨_,_,_,_,o,_,_,e,_⟩ := x; exact Heap.lt_size e
  | dT kvs => obtain ⟨_,_,_,_,o,_,_,e,_⟩ := x; exact Heap.lt_size e
  | set S n => obtain ⟨o,_,_,_,e,_⟩ := x; exact Heap.lt_size e
  | ins C dx fs => obtain ⟨_,_,_,e,_⟩ := x; exact Heap.lt_size e
  | own y => obtain ⟨_,e⟩ := x; exact Heap.lt_size e
  | xd fs => obtain ⟨_,⟨_,_,_,e,_⟩,_⟩ := x; exact Heap.lt_size e
  | rng lo hi => obtain ⟨_,_,_,e⟩ := x; exact Heap.lt_size e
  | frz ob u => obtain ⟨e,_⟩ := x; exact Heap.lt_size e
  | tbl ps => exact Heap.lt_size (show h.get? a = some _ from x)
  | met f y => exact Heap.lt_size (show h.get? a = some _ from x)
  | ext φ => obtain ⟨_,⟨_,e⟩,_⟩ := x; exact Heap.lt_size e
theorem Paired.mapP {α β : Type} {F G : α -> β -> Prop} : ∀ {l₁ : List α} {l₂ : List β},Paired F l₁ l₂ -> (∀ a b,F a b -> G a b) -> Paired G l₁ l₂
  | _,_, .nil,_ => .nil
  | _,_, .cons r t,f => .cons (f _ _ r) (Paired.mapP t f)
theorem q05.stay (x : q05 P w H h a o) (k : ∀ b u,(b = a \/ H b = some (.own a)) -> h.get? b = some u -> h'.get? b = some u)
    (ho : ∀ b,H b = some (.own a) -> H' b = some (.own a)) (ht : ∀ b xs,H b = some (.tup xs) -> H' b = some (.tup xs)) : q05 P w H' h' a o := by
  induction o with
  | lst xs => obtain ⟨z,its,n,r,e⟩ := x; exact ⟨z,its,n,r,k _ _ (.inl rfl) e⟩
  | tup xs => obtain ⟨z,its,r,ob,e,c⟩ := x; exact ⟨z,its,r,ob,k _ _ (.inl rfl) e,c⟩
  | dK kvs => obtain ⟨z,y,vs,r,ob,es,ep,e,c⟩ := x; exact ⟨z,y,vs,r,ob,es,ep,k _ _ (.inl rfl) e,c⟩
  | dT kvs =>
    obtain ⟨z,y,xs,r,ob,es,ep,e,c⟩ := x
    exact ⟨z,y,xs,Paired.mapP r fun p q z => ⟨z.1,ht _ _ z.2.1,z.2.2⟩,ob,es,ep,k _ _ (.inl rfl) e,c⟩
  | set S n => obtain ⟨ob,es,ep,t,e,c⟩ := x; exact ⟨ob,es,ep,t,k _ _ (.inl rfl) e,c⟩
  | ins C dx fs =>
    obtain ⟨d,z,ne,e,mA,⟨od,es,ep,e2,c⟩,r⟩ := x
    exact ⟨ho _ d,z,ne,k _ _ (.inl rfl) e,mA,⟨od,es,ep,k _ _ (.inr d) e2,c⟩,r⟩
  | own y => obtain ⟨ob,e⟩ := x; exact ⟨ob,k _ _ (.inl rfl) e⟩
  | xd fs => obtain ⟨mA,⟨od,es,ep,e,c⟩,r⟩ := x; exact ⟨mA,⟨od,es,ep,k _ _ (.inl rfl) e,c⟩,r⟩
  | rng lo hi => obtain ⟨t,u,v,e⟩ := x; exact ⟨t,u,v,k _ _ (.inl rfl) e⟩
  | frz ob u ih => obtain ⟨e,q⟩ := x; exact ⟨k _ _ (.inl rfl) e,ih q⟩
  | tbl ps =>
    have e : h.get? a = some { cls := .none,data := .fields ps } := x
    show h'.get? a = some { cls := .none,data := .fields ps }
    exact k a _ (.inl rfl) e
  | met f y =>
    have e : h.get? a = some (PySem.W.methodObj (.ref f) (.ref y)) := x
    show h'.get? a = some (PySem.W.methodObj (.ref f) (.ref y))
    exact k a _ (.inl rfl) e
  | ext φ => obtain ⟨p,⟨o,e⟩,st⟩ := x; exact ⟨st _ _ p fun o q => k _ _ (.inl rfl) q,⟨o,k _ _ (.inl rfl) e⟩,st⟩
theorem HOk.lt (x : HOk P w H h) (e : H a = some o) : a < h.objs.size := (x a o e).lt
theorem HOk.fresh (x : HOk P w H h) (e : h.objs.size <= a) : H a = none := by
  cases q : H a with
  | none => rfl
  | some u => exact absurd (Nat.lt_of_lt_of_le (x.lt q) e) (Nat.lt_irrefl _)
theorem HOk.kept (x : HOk P w H h) (k : ∀ b u,h.get? b = some u -> h'.get? b = some u) : HOk P w H h' := fun a o e =>
  (x a o e).stay (fun b u _ q => k b u q) (fun _ q => q) fun _ _ q => q
theorem HOk.laid (x : HOk P w H h) (k : ∀ b u,h.get? b = some u -> h'.get? b = some u) (hp : h.objs.size <= a) (new : q05 P w (upd H a o) h' a o) : HOk P w (upd H a o) h' := fun b u e => by
  have hn := x.fresh hp
  by_cases hb : b = a
  . subst hb; rw [q0a] at e; cases e; exact new
  . rw [qv hb] at e
    exact (x b u e).stay (fun c v _ q => k c v q) (fun c q => by rw [qv (q1p q hn)]; exact q) fun c xs q => by rw [qv (q1p q hn)]; exact q
end
def Rd (H : Hp) (a : Addr) (u : HO) : Prop := H a = some u \/ ∃ o,H a = some (.frz o u)
theorem Rd.ok {P : Program} {w : World} {H : Hp} {h : Heap} {a : Addr} {u : HO} (r : Rd H a u) (x : HOk P w H h) : q05 P w H h a u := by
  rcases r with r | ⟨o,r⟩
  . exact x a u r
  . obtain ⟨_,q⟩ := x a _ r
    exact q
def Mut : Option HO -> Prop
  | some (.lst _) => True
  | some (.dK _) => True
  | some (.dT _) => True
  | some (.set _ _) => True
  | some (.ins _ _ _) => True
  | some (.ext _) => True
  | _ => False
section
variable {P : Program} {w : World} {H : Hp} {h h' : Heap} {x e : Addr} {o' : HO}
theorem HOk.write (ok : HOk P w H h) (mu : Mut (H x)) (he : e = x \/ H e = some (.own x)) (k : ∀ b u,b ≠ e -> h.get? b = some u -> h'.get? b = some u) (heo : ∃ u,h'.get? e = some u)
    (new : q05 P w (upd H x o') h' x o') : HOk P w (upd H x o') h' := fun b u q => by
  have nown : ∀ c y,H c = some (.own y) -> c ≠ x := fun c y r z => by subst z; rw [r] at mu; exact mu
  have ntup : ∀ c xs,H c = some (.tup xs) -> c ≠ x := fun c xs r z => by subst z; rw [r] at mu; exact mu
  by_cases hb : b = x
  . subst hb; rw [q0a] at q; cases q; exact new
  . rw [qv hb] at q
    by_cases hbe : b = e
    . have q' : H b = some (.own x) := by
        rcases he with z | z
        . exact absurd (hbe.trans z) hb
        . rw [hbe]; exact z
      rw [q] at q'; cases q'
      obtain ⟨v,hv⟩ := heo
      exact ⟨v,by rw [hbe]; exact hv⟩
    . refine (ok b u q).stay (fun c v hc r => k c v ?_ r) (fun c r => by rw [qv (nown c b r)]; exact r) fun c xs r => by rw [qv (ntup c xs r)]; exact r
      rcases hc with rfl | hc
      . exact hbe
      . rintro rfl
        rcases he with z | z
        . exact nown c b hc z
        . rw [hc] at z; cases z; exact hb rfl
end
structure Un (fs ex : List Addr) (H H' : Hp) (h h' : Heap) : Prop where
  keep : ∀ b o,h.get? b = some o -> H b = none -> b ∉ fs -> b ∉ ex -> h'.get? b = some o
  slot : ∀ b o,h.get? b = some o -> H b = none -> b ∈ fs -> b ∉ ex -> ∃ sl,h'.get? b = some { o with slots := sl }
  free : ∀ b o,h.get? b = some o -> H b = none -> b ∉ ex -> H' b = none
  there : ∀ b o,h.get? b = some o -> b ∉ ex -> ∃ o',h'.get? b = some o'
  tups : ∀ b xs,H b = some (.tup xs) -> H' b = some (.tup xs)
  frzs : ∀ b o u,H b = some (.frz o u) -> H' b = some (.frz o u)
  tbls : ∀ b ps,H b = some (.tbl ps) -> ∃ more,H' b = some (.tbl (ps ++ more))
section
variable {fs fs' ex ex' : List Addr} {H H1 H2 : Hp} {h h1 h2 h' : Heap} {a x e : Addr} {o : HO}
theorem Un.any (u : Un fs ex H H1 h h1) {b : Addr} {ob : Obj} (q : h.get? b = some ob) (n : H b = none) (hx : b ∉ ex) : ∃ sl,h1.get? b = some { ob with slots := sl } := by
  by_cases hb : b ∈ fs
  . exact u.slot b ob q n hb hx
  . exact ⟨ob.slots,u.keep b ob q n hb hx⟩
theorem Un.kept (k : ∀ b u,h.get? b = some u -> h'.get? b = some u) : Un fs ex H H h h' :=
  ⟨fun b ob q _ _ _ => k b ob q,fun b ob q _ _ _ => ⟨ob.slots,k b ob q⟩,fun _ _ _ n _ => n,fun b ob q _ => ⟨ob,k b ob q⟩,fun _ _ q => q,fun _ _ _ q => q,fun _ ps q => ⟨#[],by rw [q]; simp⟩⟩
theorem Un.refl : Un fs ex H H h h := Un.kept fun _ _ q => q
theorem Un.laid (k : ∀ b u,h.get? b = some u -> h'.get? b = some u) (hp : h.objs.size <= a) (hn : H a = none) : Un fs ex H (upd H a o) h h' where
  keep := fun b u q _ _ _ => k b u q
  slot := fun b u q _ _ _ => ⟨u.slots,k b u q⟩
  free := fun b u q n _ => by rw [qv (Nat.ne_of_lt (Nat.lt_of_lt_of_le (Heap.lt_size q) hp))]; exact n
  there := fun b u q _ => ⟨u,k b u q⟩
  tups := fun b xs q => by rw [qv (q1p q hn)]; exact q
  frzs := fun b u xs q => by rw [qv (q1p q hn)]; exact q
  tbls := fun b ps q => ⟨#[],by rw [qv (q1p q hn),q]; simp⟩
theorem Un.write (mu : Mut (H x)) (he : e = x \/ H e = some (.own x)) (k : ∀ b u,b ≠ e -> h.get? b = some u -> h'.get? b = some u) (heo : ∃ u,h'.get? e = some u) : Un fs ex H (upd H x o) h h' := by
  have hx : ∀ b,H b = none -> b ≠ x := fun b n z => by subst z; rw [n] at mu; exact mu
  have hb : ∀ b,H b = none -> b ≠ e := fun b n z => by
    subst z
    rcases he with r | r
    . exact hx b n r
    . rw [n] at r; cases r
  have hm : ∀ b u,H b = some u -> ¬ Mut (some u) -> b ≠ x := fun b u q nm z => by subst z; rw [q] at mu; exact nm mu
  refine ⟨fun b u q n _ _ => k b u (hb b n) q,fun b u q n _ _ => ⟨u.slots,k b u (hb b n) q⟩,fun b u q n _ => by rw [qv (hx b n)]; exact n,fun b u q _ => ?_,
    fun b xs q => by rw [qv (hm b _ q fun z => z)]; exact q,fun b u xs q => by rw [qv (hm b _ q fun z => z)]; exact q,fun b ps q => ⟨#[],by rw [qv (hm b _ q fun z => z),q]; simp⟩⟩
  by_cases hbe : b = e
  . subst hbe; exact heo
  . exact ⟨u,k b u hbe q⟩
end
def trk (h : Heap) (H : Hp) : List Addr := (List.range h.objs.size).filter fun a => (H a).isSome
def hidT (h : Heap) (H : Hp) : Heap := PySem.W.hideAll h (trk h H)
theorem qai (h : Heap) (H : Hp) : (hidT h H).objs.size = h.objs.size := PySem.W.hideAll_size _ _
theorem qbz {h : Heap} {H : Hp} {b : Addr} {o : Obj} (e : h.get? b = some o) (n : H b = none) : (hidT h H).get? b = some o :=
  PySem.W.hideAll_get _ e fun hm => by
    have q : (H b).isSome = true := (List.mem_filter.mp hm).2
    rw [n] at q; simp at q
theorem qca {h : Heap} {H : Hp} {b : Addr} {o : Obj} (e : (hidT h H).get? b = some o) : h.get? b = some o /\ H b = none := by
  have e' : h.get? b = some o := PySem.W.of_hideAll (trk h H) e
  refine ⟨e',?_⟩
  cases q : H b with
  | none => rfl
  | some x =>
    have hm : b ∈ trk h H := List.mem_filter.mpr ⟨List.mem_range.mpr (Heap.lt_size e'),by simp [q]⟩
    have z : (hidT h H).get? b = none := PySem.W.hideAll_none (trk h H) hm
    rw [z] at e; cases e
end L2
namespace L2
open PySem PySem.Spec PyProof.Rows
structure Mod (K : PySem.W.Frag) (mg : Str -> Option Value) (base : Heap) : Prop where
  kin : K.In base
  glob : base.Ns mainGlobals mg
  blt : ∃ mb,base.Ns builtinsNs mb /\ ∀ x : Str,x ≠ "__name__" -> mb x = bootBuiltins x
  nolimit : base.NoLimit
structure Cx where
  prog : Program
  w : World
  K : PySem.W.Frag
  mg : Str -> Option Value
  base : Heap
  A : Around
  N : List Str
  s₀ : Shared
  H₀ : Hp
  env : Env
  outer : List Env
  stack : List Env
  ex : List Addr
  fn : Str -> Bool
  calm : Bool
  pn : List (Addr × Obj)
  xe : Value -> Shared -> Prop
def frs (l : List Env) : List Addr := l.filterMap (·.frame)
abbrev Cx.fs (X : Cx) : List Addr := frs X.outer
def Vis (sc : Scope) (x : Str) : Prop := sc.names.lookup x = some .local \/ sc.names.lookup x = some .cell \/ sc.names.lookup x = some .free
def Loc (sc : Scope) (x : Str) : Prop := sc.names.lookup x = some .local \/ sc.names.lookup x = some .cell
def Look (env : Env) (h : Heap) (m : Str -> Option Value) (x : Str) (u : Value) : Prop :=
  (env.kindOf x = some .local /\ m x = some u) \/ ((env.kindOf x = some .cell \/ env.kindOf x = some .free) /\ ∃ c,env.cells.lookup x = some c /\ h.IsCell c (some u))
structure Cx.Ok (X : Cx) : Prop where
  mod : Mod X.K X.mg X.base
  kind : X.env.scope.kind = .function
  glob : X.env.globals = mainGlobals
  blt : X.env.builtins = builtinsNs
  above : X.s₀.heap.objs.size <= X.env.locals
  inj : ∀ x y c,X.env.cells.lookup x = some c -> X.env.cells.lookup y = some c -> x = y
  has : ∀ x,(X.env.kindOf x = some .cell \/ X.env.kindOf x = some .free) -> ∃ c,X.env.cells.lookup x = some c
  cab : ∀ x c,X.fn x = true -> X.env.cells.lookup x = some c -> X.s₀.heap.objs.size <= c
  hd : X.calm = true -> X.A.handled = none
  frames : X.A.frames = some X.stack
  stk : X.stack = X.outer \/ (X.stack = X.env :: X.outer /\ X.env.frame = some X.env.locals)
  exf : ∀ b ∈ X.ex,b ≠ X.env.locals /\ ∀ x c,X.env.cells.lookup x = some c -> c ≠ b
  bs : ∀ b o,X.base.get? b = some o -> X.s₀.heap.get? b = some o /\ X.H₀ b = none
  bsz : X.base.objs.size <= X.s₀.heap.objs.size
  noex : ∀ b o,X.base.get? b = some o -> b ∉ X.ex
  exfs : ∀ b ∈ X.ex,b ∉ X.fs
  funs : X.s₀.heap.FunFrames X.base X.outer
  frf : ∀ b ∈ X.fs,X.H₀ b = none
structure Inv (X : Cx) (pins : List (Addr × Obj)) (σ : List (Option V)) (H : Hp) (s : Shared) : Prop where
  ok : X.Ok
  os : s.os = X.s₀.os
  bare : AllBare s.gens
  base : Un X.fs X.ex X.H₀ H X.s₀.heap s.heap
  loc : ∃ m,s.heap.Ns X.env.locals m /\ ∀ (i : Nat) (x : Str) (v : V),X.N[i]? = some x -> σ[i]? = some (some v) -> Vis X.env.scope x -> ∃ u,RelV v u /\ Look X.env s.heap m x u
  cell : ∀ x c,X.env.cells.lookup x = some c -> ∃ v,s.heap.IsCell c v
  free : H X.env.locals = none
  freeC : ∀ x c,X.env.cells.lookup x = some c -> H c = none
  pin : ∀ p ∈ X.pn ++ pins,s.heap.get? p.1 = some p.2 /\ H p.1 = none /\ p.1 ≠ X.env.locals /\ p.1 ∉ X.fs /\ ∀ v,p.2.data ≠ .cell v
  hok : HOk X.prog X.w H s.heap
  len : σ.length = X.N.length
section
variable {X : Cx} {pins : List (Addr × Obj)} {σ : List (Option V)} {H H' : Hp} {s : Shared} {h' : Heap}
theorem Cx.Ok.nofr (ok : X.Ok) {b : Addr} {o : Obj} (e : X.base.get? b = some o) : b ∉ X.fs := fun hb => by
  have := (ok.funs.mem hb).1
  rw [e] at this; cases this
theorem Inv.bs (I : Inv X pins σ H s) : ∀ b o,X.base.get? b = some o -> s.heap.get? b = some o /\ H b = none := fun b o e =>
  ⟨I.base.keep b o (I.ok.bs b o e).1 (I.ok.bs b o e).2 (I.ok.nofr e) (I.ok.noex b o e),I.base.free b o (I.ok.bs b o e).1 (I.ok.bs b o e).2 (I.ok.noex b o e)⟩
theorem Inv.bk (I : Inv X pins σ H s) : ∀ b o,X.base.get? b = some o -> s.heap.get? b = some o := fun b o e => (I.bs b o e).1
theorem Inv.mod (I : Inv X pins σ H s) : Mod X.K X.mg X.base := I.ok.mod
theorem Inv.kIn (I : Inv X pins σ H s) : X.K.In s.heap := I.ok.mod.kin.keeps I.bk
theorem Inv.lt (I : Inv X pins σ H s) : X.env.locals < s.heap.objs.size := let ⟨_,hn,_⟩ := I.loc; hn.lt
theorem Inv.sz (I : Inv X pins σ H s) : X.s₀.heap.objs.size <= s.heap.objs.size := Nat.le_trans I.ok.above (Nat.le_of_lt I.lt)
theorem Inv.nofs (I : Inv X pins σ H s) {a : Addr} (h : s.heap.objs.size <= a) : a ∉ X.fs := fun hb => by
  obtain ⟨_,o,ho,_⟩ := I.ok.funs.mem hb
  exact absurd (Nat.lt_of_lt_of_le (Heap.lt_size ho) (Nat.le_trans I.sz h)) (Nat.lt_irrefl _)
theorem Inv.cne (I : Inv X pins σ H s) : ∀ x c,X.env.cells.lookup x = some c -> c ≠ X.env.locals := fun x c e z => by
  obtain ⟨v,o,ho,hd⟩ := I.cell x c e
  obtain ⟨m,⟨o',es,ep,ho',hd',_⟩,_⟩ := I.loc
  rw [z,ho'] at ho; cases ho; rw [hd'] at hd; cases hd
theorem Inv.funs (I : Inv X pins σ H s) : s.heap.FunFrames X.base X.outer := by
  have all : ∀ (l : List Env),(∀ b ∈ frs l,b ∈ X.fs) -> X.s₀.heap.FunFrames X.base l -> s.heap.FunFrames X.base l := by
    intro l
    induction l with
    | nil => intro _ _; trivial
    | cons env r ih =>
      intro hs hl
      obtain ⟨hk,⟨L,o,hf,hn,ho,hd⟩,hr⟩ := hl
      have hL : L ∈ X.fs := hs L (by unfold frs; rw [List.filterMap_cons,hf]; exact List.mem_cons_self)
      obtain ⟨sl,e⟩ := I.base.slot L o ho (I.ok.frf L hL) hL fun z => I.ok.exfs L z hL
      exact ⟨hk,⟨L,_,hf,hn,e,hd⟩,ih (fun b hb => hs b (by unfold frs; rw [List.filterMap_cons,hf]; exact List.mem_cons_of_mem _ hb)) hr⟩
  exact all X.outer (fun _ hb => hb) I.ok.funs
theorem Inv.stack (I : Inv X pins σ H s) : s.heap.FunFrames X.base X.stack := by
  rcases I.ok.stk with e | ⟨e,hf⟩
  . rw [e]; exact I.funs
  . rw [e]
    obtain ⟨m,hn,_⟩ := I.loc
    refine .cons (by rw [I.ok.kind]; decide) hf hn ?_ I.funs
    exact Heap.get?_none_of_le (Nat.le_trans I.ok.bsz I.ok.above)
theorem Inv.q48 (I : Inv X pins σ H s) : ∀ b ∈ frs X.stack,b ∈ X.env.locals :: X.fs := fun b hb => by
  rcases I.ok.stk with e | ⟨e,hf⟩
  . rw [e] at hb; exact List.mem_cons_of_mem _ hb
  . rw [e] at hb
    unfold frs at hb
    rw [List.filterMap_cons,hf] at hb
    exact hb
theorem Inv.q8q (I : Inv X pins σ H s) : ∀ b ∈ frs X.stack,H b = none := fun b hb => by
  rcases List.mem_cons.mp (I.q48 b hb) with e | hb
  . rw [e]; exact I.free
  . obtain ⟨_,o,ho,_⟩ := I.ok.funs.mem hb
    exact I.base.free b o ho (I.ok.frf b hb) fun z => I.ok.exfs b z hb
theorem Inv.step {g' : Array GenState} {t' : Nat} {d' : Drawn} {ch : List Addr} (I : Inv X pins σ H s)
    (hch : ∀ b ∈ ch,(b ∈ X.ex \/ X.s₀.heap.objs.size <= b) /\ b ≠ X.env.locals /\ (∀ x c,X.env.cells.lookup x = some c -> c ≠ b) /\ ∀ p ∈ X.pn ++ pins,p.1 ≠ b)
    (keep : ∀ b o,b ≠ X.env.locals -> b ∉ X.fs -> b ∉ ch -> s.heap.get? b = some o -> H b = none -> h'.get? b = some o)
    (slot : ∀ b o,b ≠ X.env.locals -> b ∈ X.fs -> b ∉ ch -> s.heap.get? b = some o -> H b = none -> ∃ sl,h'.get? b = some { o with slots := sl }) (free : ∀ b o,b ∉ ch -> s.heap.get? b = some o -> H b = none -> H' b = none)
    (there : ∀ b o,b ∉ ch -> s.heap.get? b = some o -> ∃ o',h'.get? b = some o')
    (tups : ∀ b xs,H b = some (.tup xs) -> H' b = some (.tup xs)) (frzs : ∀ b o u,H b = some (.frz o u) -> H' b = some (.frz o u)) (tbls : ∀ b ps,H b = some (.tbl ps) -> ∃ more,H' b = some (.tbl (ps ++ more)))
    (ns : ∀ m,s.heap.Ns X.env.locals m -> h'.Ns X.env.locals m) (hok : HOk X.prog X.w H' h') (hg : AllBare g') :
    Inv X pins σ H' { s with heap := h',gens := g',drawn := d',toks := t' } := by
  have neL : ∀ b o,X.s₀.heap.get? b = some o -> b ≠ X.env.locals := fun b o e => Nat.ne_of_lt (Nat.lt_of_lt_of_le (Heap.lt_size e) I.ok.above)
  have neC : ∀ b o,X.s₀.heap.get? b = some o -> b ∉ X.ex -> b ∉ ch := fun b o e hx hb => by
    rcases (hch b hb).1 with z | z
    . exact hx z
    . exact absurd (Nat.lt_of_lt_of_le (Heap.lt_size e) z) (Nat.lt_irrefl _)
  have cellK : ∀ x c,X.env.cells.lookup x = some c -> ∀ v,s.heap.IsCell c v -> h'.IsCell c v := fun x c e v ⟨o,ho,hd⟩ => by
    have nch : c ∉ ch := fun z => (hch c z).2.2.1 x c e rfl
    by_cases hc : c ∈ X.fs
    . obtain ⟨sl,q⟩ := slot c o (I.cne x c e) hc nch ho (I.freeC x c e)
      exact ⟨_,q,hd⟩
    . exact ⟨o,keep c o (I.cne x c e) hc nch ho (I.freeC x c e),hd⟩
  refine ⟨I.ok,I.os,hg,⟨fun b o e n hb hx => ?_,fun b o e n hb hx => ?_,fun b o e n hx => ?_,fun b o e hx => ?_,fun b xs e => tups b xs (I.base.tups b xs e),fun b o xs e => frzs b o xs (I.base.frzs b o xs e),fun b ps e => ?_⟩,?_,fun x c e => ?_,?_,fun x c e => ?_,fun p hp => ?_,hok,I.len⟩
  . exact keep b o (neL b o e) hb (neC b o e hx) (I.base.keep b o e n hb hx) (I.base.free b o e n hx)
  . obtain ⟨sl,e1⟩ := I.base.slot b o e n hb hx
    obtain ⟨sl',e2⟩ := slot b _ (neL b o e) hb (neC b o e hx) e1 (I.base.free b o e n hx)
    exact ⟨sl',e2⟩
  . obtain ⟨o',e1⟩ := I.base.there b o e hx
    exact free b o' (neC b o e hx) e1 (I.base.free b o e n hx)
  . obtain ⟨o',e1⟩ := I.base.there b o e hx
    exact there b o' (neC b o e hx) e1
  . obtain ⟨m1,e1⟩ := I.base.tbls b ps e
    obtain ⟨m2,e2⟩ := tbls b _ e1
    exact ⟨m1 ++ m2,by rw [e2,Array.append_assoc]⟩
  . obtain ⟨m,hn,hl⟩ := I.loc
    refine ⟨m,ns m hn,fun i x v e1 e2 e3 => ?_⟩
    obtain ⟨u,r,l⟩ := hl i x v e1 e2 e3
    refine ⟨u,r,?_⟩
    rcases l with l | ⟨k,c,e,z⟩
    . exact .inl l
    . exact .inr ⟨k,c,e,cellK x c e _ z⟩
  . obtain ⟨v,z⟩ := I.cell x c e
    exact ⟨v,cellK x c e v z⟩
  . obtain ⟨m,⟨o,_,_,ho,_⟩,_⟩ := I.loc
    exact free _ o (fun z => (hch _ z).2.1 rfl) ho I.free
  . obtain ⟨v,o,ho,hd⟩ := I.cell x c e
    exact free c o (fun z => (hch c z).2.2.1 x c e rfl) ho (I.freeC x c e)
  . obtain ⟨e,n,ne,nf,d⟩ := I.pin p hp
    have nch : p.1 ∉ ch := fun z => (hch p.1 z).2.2.2 p hp rfl
    exact ⟨keep p.1 p.2 ne nf nch e n,free p.1 p.2 nch e n,ne,nf,d⟩
theorem Inv.un {t' : Nat} (I : Inv X pins σ H s) (u : Un X.fs [] H H' s.heap h') (hok : HOk X.prog X.w H' h') : Inv X pins σ H' { s with heap := h',toks := t' } := by
  obtain ⟨m,⟨o,es,ep,ho,r⟩,_⟩ := id I.loc
  obtain ⟨sl,hL⟩ := u.any ho I.free (by simp)
  exact I.step (g' := s.gens) (d' := s.drawn) (ch := []) (fun _ z => nomatch z) (fun b o _ hb _ e n => u.keep b o e n hb (by simp)) (fun b o _ hb _ e n => u.slot b o e n hb (by simp)) (fun b o _ e n => u.free b o e n (by simp)) (fun b o _ e => u.there b o e (by simp)) u.tups u.frzs u.tbls (fun m' hm => by
    obtain ⟨o',es',ep',ho',r'⟩ := hm
    rw [ho] at ho'; cases ho'
    exact ⟨_,es',ep',hL,r'⟩) hok I.bare
theorem Inv.call {g' : Array GenState} {t' : Nat} {d' : Drawn} {ch : List Addr} (I : Inv X pins σ H s) (u : Un (frs X.stack) ch H H' s.heap h') (hok : HOk X.prog X.w H' h') (hg : AllBare g')
    (hch : ∀ b ∈ ch,(b ∈ X.ex \/ X.s₀.heap.objs.size <= b) /\ b ≠ X.env.locals /\ (∀ x c,X.env.cells.lookup x = some c -> c ≠ b) /\ ∀ p ∈ X.pn ++ pins,p.1 ≠ b) :
    Inv X pins σ H' { s with heap := h',gens := g',drawn := d',toks := t' } := by
  obtain ⟨m,⟨o,es,ep,ho,r⟩,_⟩ := id I.loc
  obtain ⟨sl,hL⟩ := u.any ho I.free fun z => (hch _ z).2.1 rfl
  exact I.step (ch := ch) hch (fun b o hL hb hc e n => u.keep b o e n (fun z => (List.mem_cons.mp (I.q48 b z)).elim hL hb) hc) (fun b o _ _ hc e n => u.any e n hc) (fun b o hc e n => u.free b o e n hc) (fun b o hc e => u.there b o e hc) u.tups u.frzs u.tbls (fun m' hm => by
    obtain ⟨o',es',ep',ho',r'⟩ := hm
    rw [ho] at ho'; cases ho'
    exact ⟨_,es',ep',hL,r'⟩) hok hg
theorem Inv.turned {t' : Nat} {it : Addr} (I : Inv X pins σ H s) (k : ∀ b o,b ≠ it -> s.heap.get? b = some o -> h'.get? b = some o) (hn : H it = none) (hL : it ≠ X.env.locals)
    (h1 : it ∈ X.ex \/ X.s₀.heap.objs.size <= it) (h2 : ∀ x c,X.env.cells.lookup x = some c -> c ≠ it) (h3 : ∀ p ∈ X.pn ++ pins,p.1 ≠ it) : Inv X pins σ H { s with heap := h',toks := t' } := by
  have nit : ∀ b u,H b = some u -> b ≠ it := fun b u e z => by rw [z,hn] at e; cases e
  refine I.step (g' := s.gens) (d' := s.drawn) (ch := [it]) (fun b hb => ?_) (fun b o _ _ hc e _ => k b o (fun z => hc (by simp [z])) e) (fun b o _ _ hc e _ => ⟨o.slots,k b o (fun z => hc (by simp [z])) e⟩) (fun _ _ _ _ n => n)
    (fun b o hc e => ⟨o,k b o (fun z => hc (by simp [z])) e⟩) (fun _ _ e => e) (fun _ _ _ e => e) (fun b ps e => ⟨#[],by rw [e]; simp⟩) (fun m hm => ?_) (fun b u e => ?_) I.bare
  . have e : b = it := by simpa using hb
    subst e
    exact ⟨h1,hL,h2,h3⟩
  . obtain ⟨o,es,ep,ho,r⟩ := hm
    exact ⟨o,es,ep,k _ o (Ne.symm hL) ho,r⟩
  . refine (I.hok b u e).stay (fun c v hc q => k c v ?_ q) (fun _ q => q) fun _ _ q => q
    rcases hc with z | z
    . rw [z]; exact nit b u e
    . exact nit c _ z
theorem Inv.tok (I : Inv X pins σ H s) (t : Nat) : Inv X pins σ H { s with toks := t } := I.un (h' := s.heap) (t' := t) Un.refl I.hok
theorem Inv.kept {t' : Nat} (I : Inv X pins σ H s) (k : ∀ b u,s.heap.get? b = some u -> h'.get? b = some u) : Inv X pins σ H { s with heap := h',toks := t' } := I.un (Un.kept k) (I.hok.kept k)
theorem Inv.laid {a : Addr} {o : HO} {t' : Nat} (I : Inv X pins σ H s) (k : ∀ b u,s.heap.get? b = some u -> h'.get? b = some u) (hp : s.heap.objs.size <= a) (new : q05 X.prog X.w (upd H a o) h' a o) :
    Inv X pins σ (upd H a o) { s with heap := h',toks := t' } := I.un (Un.laid k hp (I.hok.fresh hp)) (I.hok.laid k hp new)
theorem Inv.write {x e : Addr} {o : HO} {t' : Nat} (I : Inv X pins σ H s) (mu : Mut (H x)) (he : e = x \/ H e = some (.own x)) (k : ∀ b u,b ≠ e -> s.heap.get? b = some u -> h'.get? b = some u) (heo : ∃ u,h'.get? e = some u)
    (new : q05 X.prog X.w (upd H x o) h' x o) : Inv X pins σ (upd H x o) { s with heap := h',toks := t' } := I.un (Un.write mu he k heo) (I.hok.write mu he k heo new)
theorem Inv.weak {σ' : List (Option V)} (I : Inv X pins σ H s) (hl : σ'.length = σ.length) (w : ∀ (i : Nat) v, σ'[i]? = some (some v) -> σ[i]? = some (some v)) : Inv X pins σ' H s :=
  ⟨I.ok,I.os,I.bare,I.base,let ⟨m,hn,hl'⟩ := I.loc; ⟨m,hn,fun i x v e1 e2 e3 => hl' i x v e1 (w i v e2) e3⟩,I.cell,I.free,I.freeC,I.pin,I.hok,hl.trans I.len⟩
theorem Inv.q8p {pins' : List (Addr × Obj)} (I : Inv X pins σ H s) (h : ∀ p ∈ pins',s.heap.get? p.1 = some p.2 /\ H p.1 = none /\ p.1 ≠ X.env.locals /\ p.1 ∉ X.fs /\ ∀ v,p.2.data ≠ .cell v) : Inv X pins' σ H s :=
  ⟨I.ok,I.os,I.bare,I.base,I.loc,I.cell,I.free,I.freeC,fun p hp => (List.mem_append.mp hp).elim (fun z => I.pin p (List.mem_append_left _ z)) (h p),I.hok,I.len⟩
theorem q7i {N : List Str} (hN : N.Nodup) {i j : Nat} {x : Str} (a : N[i]? = some x) (b : N[j]? = some x) : i = j := by
  obtain ⟨h1,e1⟩ := List.getElem?_eq_some_iff.mp a
  obtain ⟨h2,e2⟩ := List.getElem?_eq_some_iff.mp b
  exact (List.getElem_inj hN).mp (e1.trans e2.symm)
theorem q64 {M : Model} {A : Around} {E : Value -> Shared -> Prop} {i : Nat} {x : Str} {v : V} {u : Value} {Q : Unit -> Shared -> Prop} (I : Inv X pins σ H s) (hN : X.N.Nodup) (hi : X.N[i]? = some x) (hx : Loc X.env.scope x) (r : RelV v u)
    (h : ∀ s',Inv X pins (σ.set i (some v)) H s' -> (∃ a,Heap.SameBut a s.heap s'.heap /\ (a = X.env.locals \/ X.env.cells.lookup x = some a)) -> Q () s') (hf : X.fn x = true \/ X.env.scope.names.lookup x = some .local := by first | exact .inl rfl | exact .inr rfl | assumption) : wpAny M A (storeName X.env x u) Q E s := by
  obtain ⟨m,hn,hl⟩ := id I.loc
  have hcls : (X.env.scope.kind == .class || (X.env.scope.kind == .module && X.env.locals != X.env.globals)) = false := by rw [I.ok.kind]; rfl
  have hiσ : i < σ.length := by rw [I.len]; exact (List.getElem?_eq_some_iff.mp hi).1
  have cne := I.cne
  have tracked : ∀ {a : Addr} {h' : Heap},(∃ o,s.heap.get? a = some o /\ H a = none) -> Heap.SameBut a s.heap h' -> HOk X.prog X.w H h' := fun {a h'} ha hs b ob e => by
    obtain ⟨_,_,hfree⟩ := ha
    refine (I.hok b ob e).stay (fun c w' hc q => (hs.2 c ?_).trans q) (fun _ q => q) fun _ _ q => q
    rintro rfl
    rcases hc with rfl | hc
    . rw [hfree] at e; cases e
    . rw [hfree] at hc; cases hc
  rcases hx with hk | hk
  . refine wpAny_storeName_local hk hn (fun h' hn' hs => ?_) hcls
    obtain ⟨oL,_,_,hoL,_⟩ := id hn
    refine h _ ⟨I.ok,I.os,I.bare,⟨fun b o e n hb hx => ?_,fun b o e n hb hx => ?_,I.base.free,fun b o e hx => ?_,I.base.tups,I.base.frzs,I.base.tbls⟩,⟨_,hn',fun j y v' e1 e2 e3 => ?_⟩,fun y c e => ?_,I.free,I.freeC,fun p hp => ?_,tracked ⟨oL,hoL,I.free⟩ hs,by simpa using I.len⟩ ⟨_,hs, .inl rfl⟩
    . exact (hs.2 b (Nat.ne_of_lt (Nat.lt_of_lt_of_le (Heap.lt_size e) I.ok.above))).trans (I.base.keep b o e n hb hx)
    . obtain ⟨sl,e1⟩ := I.base.slot b o e n hb hx
      exact ⟨sl,(hs.2 b (Nat.ne_of_lt (Nat.lt_of_lt_of_le (Heap.lt_size e) I.ok.above))).trans e1⟩
    . obtain ⟨o',e1⟩ := I.base.there b o e hx
      exact ⟨o',(hs.2 b (Nat.ne_of_lt (Nat.lt_of_lt_of_le (Heap.lt_size e) I.ok.above))).trans e1⟩
    . by_cases hj : j = i
      . subst hj
        rw [hi] at e1; cases e1
        rw [List.getElem?_set_self hiσ] at e2
        cases e2
        exact ⟨u,r, .inl ⟨hk,by simp⟩⟩
      . rw [List.getElem?_set_ne (Ne.symm hj)] at e2
        obtain ⟨u',r',q⟩ := hl j y v' e1 e2 e3
        refine ⟨u',r',?_⟩
        rcases q with ⟨k,e⟩ | ⟨k,c,e,z⟩
        . refine .inl ⟨k,?_⟩
          have : y ≠ x := fun e => hj (q7i hN e1 (e ▸ hi))
          simp [this,e]
        . exact .inr ⟨k,c,e,z.sameBut hs (cne y c e)⟩
    . obtain ⟨w',z⟩ := I.cell y c e
      exact ⟨w',z.sameBut hs (cne y c e)⟩
    . obtain ⟨e,n,ne,nf,d⟩ := I.pin p hp
      exact ⟨(hs.2 p.1 ne).trans e,n,ne,nf,d⟩
  . have hfn : X.fn x = true := by
      rcases hf with z | z
      . exact z
      . rw [z] at hk; cases hk
    obtain ⟨c,hc⟩ := I.ok.has x (.inl hk)
    obtain ⟨w',z⟩ := I.cell x c hc
    refine wpAny_storeName_cell I.ok.kind hk hc z (fun h' hc' hs => ?_)
    obtain ⟨oc,hoc,hocd⟩ := id z
    refine h { s with heap := h' } ⟨I.ok,I.os,I.bare,⟨fun b o e n hb hx => ?_,fun b o e n hb hx => ?_,I.base.free,fun b o e hx => ?_,I.base.tups,I.base.frzs,I.base.tbls⟩,⟨m,hn.sameBut hs (Ne.symm (cne x c hc)),fun j y v' e1 e2 e3 => ?_⟩,fun y c' e => ?_,I.free,I.freeC,fun p hp => ?_,tracked ⟨oc,hoc,I.freeC x c hc⟩ hs,by simpa using I.len⟩ ⟨c,hs, .inr hc⟩
    . exact (hs.2 b (Nat.ne_of_lt (Nat.lt_of_lt_of_le (Heap.lt_size e) (I.ok.cab x c hfn hc)))).trans (I.base.keep b o e n hb hx)
    . obtain ⟨sl,e1⟩ := I.base.slot b o e n hb hx
      exact ⟨sl,(hs.2 b (Nat.ne_of_lt (Nat.lt_of_lt_of_le (Heap.lt_size e) (I.ok.cab x c hfn hc)))).trans e1⟩
    . obtain ⟨o',e1⟩ := I.base.there b o e hx
      exact ⟨o',(hs.2 b (Nat.ne_of_lt (Nat.lt_of_lt_of_le (Heap.lt_size e) (I.ok.cab x c hfn hc)))).trans e1⟩
    . by_cases hj : j = i
      . subst hj
        rw [hi] at e1; cases e1
        rw [List.getElem?_set_self hiσ] at e2
        cases e2
        exact ⟨u,r, .inr ⟨.inl hk,c,hc,hc'⟩⟩
      . rw [List.getElem?_set_ne (Ne.symm hj)] at e2
        obtain ⟨u',r',q⟩ := hl j y v' e1 e2 e3
        refine ⟨u',r',?_⟩
        rcases q with q | ⟨k,c',e,z'⟩
        . exact .inl q
        . refine .inr ⟨k,c',e,z'.sameBut hs ?_⟩
          rintro rfl
          exact hj (q7i hN e1 (I.ok.inj _ _ _ e hc ▸ hi))
    . by_cases hcc : c' = c
      . subst hcc; exact ⟨_,hc'⟩
      . obtain ⟨w2,z2⟩ := I.cell y c' e
        exact ⟨w2,z2.sameBut hs hcc⟩
    . obtain ⟨e,n,ne,nf,d⟩ := I.pin p hp
      refine ⟨(hs.2 p.1 ?_).trans e,n,ne,nf,d⟩
      intro q
      rw [q,hoc] at e
      have q' : oc = p.2 := Option.some.inj e
      exact d w' (by rw [<- q']; exact hocd)
theorem q6x {M : Model} {A : Around} {E : Value -> Shared -> Prop} {i : Nat} {x : Str} {v : V} {u : Value} {Q : Unit -> Shared -> Prop} (I : Inv X pins σ H s) (hN : X.N.Nodup) (hi : X.N[i]? = some x) (hx : Loc X.env.scope x) (r : RelV v u)
    (h : ∀ s',Inv X pins (σ.set i (some v)) H s' -> Q () s') (hf : X.fn x = true \/ X.env.scope.names.lookup x = some .local := by first | exact .inl rfl | exact .inr rfl | assumption) : wpAny M A (storeName X.env x u) Q E s :=
  q64 I hN hi hx r (fun s' I' _ => h s' I') hf
theorem Inv.call' {s' : Shared} {ch : List Addr} (I : Inv X pins σ H s) (ho : s'.os = s.os) (u : Un (frs X.stack) ch H H' s.heap s'.heap) (hok : HOk X.prog X.w H' s'.heap) (hg : AllBare s'.gens)
    (hch : ∀ b ∈ ch,(b ∈ X.ex \/ X.s₀.heap.objs.size <= b) /\ b ≠ X.env.locals /\ (∀ x c,X.env.cells.lookup x = some c -> c ≠ b) /\ ∀ p ∈ X.pn ++ pins,p.1 ≠ b) : Inv X pins σ H' s' := by
  obtain ⟨h',g',d',t',o'⟩ := s'
  have e : o' = s.os := ho
  subst e
  exact I.call (g' := g') (t' := t') (d' := d') u hok hg hch
end
abbrev XK := Value -> Option Addr -> Hp -> Prop
abbrev St := List (Option V)
abbrev VK := V -> Hp -> Prop
abbrev TE := St -> Hp -> VK -> Prop
abbrev TT := St -> Hp -> (Bool -> Hp -> Prop) -> Prop
abbrev TA := St -> Hp -> (List V -> Hp -> Prop) -> Prop
structure Ends where
  nx : St -> Hp -> Prop
  rt : VK
  bk : St -> Hp -> Prop := fun _ _ => False
  ct : St -> Hp -> Prop := fun _ _ => False
abbrev TS := Ends -> St -> Hp -> Prop
def EP (X : Cx) (pins : List (Addr × Obj)) (σ : St) (Q : VK) (u : Value) (s' : Shared) : Prop := ∃ v H',Inv X pins σ H' s' /\ RelV v u /\ Q v H'
def TP (X : Cx) (pins : List (Addr × Obj)) (σ : St) (Q : Bool -> Hp -> Prop) (b : Bool) (s' : Shared) : Prop := ∃ H',Inv X pins σ H' s' /\ Q b H'
def AP (X : Cx) (pins : List (Addr × Obj)) (σ : St) (Q : List V -> Hp -> Prop) (us : List Value) (s' : Shared) : Prop := ∃ vs H',Inv X pins σ H' s' /\ Vals vs us /\ Q vs H'
def SP (X : Cx) (pins : List (Addr × Obj)) (D : Ends) (f : Flow) (s' : Shared) : Prop :=
  match f with
  | .next => ∃ σ' H',Inv X pins σ' H' s' /\ D.nx σ' H'
  | .brk => ∃ σ' H',Inv X pins σ' H' s' /\ D.bk σ' H'
  | .cont => ∃ σ' H',Inv X pins σ' H' s' /\ D.ct σ' H'
  | .ret u => ∃ v σ' H',Inv X pins σ' H' s' /\ RelV v u /\ D.rt v H'
def PE (X : Cx) (e : Expr) (t : TE) : Prop :=
  ∀ (pins : List (Addr × Obj)) (s : Shared) (σ : St) (H : Hp) (Q : VK),Inv X pins σ H s -> t σ H Q -> wpAny (model X.prog X.w) X.A (eval e X.env) (EP X pins σ Q) X.xe s
def PT (X : Cx) (e : Expr) (t : TT) : Prop :=
  ∀ (pins : List (Addr × Obj)) (s : Shared) (σ : St) (H : Hp) (Q : Bool -> Hp -> Prop),Inv X pins σ H s -> t σ H Q -> wpAny (model X.prog X.w) X.A (isTrue e X.env (eval e X.env)) (TP X pins σ Q) X.xe s
def PW (X : Cx) (e : Expr) (t : TT) : Prop :=
  ∀ (whole : Sem Value) (pins : List (Addr × Obj)) (s : Shared) (σ : St) (H : Hp) (Q : Bool -> Hp -> Prop),Inv X pins σ H s -> t σ H Q -> wpAny (model X.prog X.w) X.A (isTrue e X.env whole) (TP X pins σ Q) X.xe s
theorem PW.pt {X : Cx} {e : Expr} {t : TT} (h : PW X e t) : PT X e t := h _
def PA (X : Cx) (es : List Expr) (t : TA) : Prop :=
  ∀ (pos : Pos) (pins : List (Addr × Obj)) (s : Shared) (σ : St) (H : Hp) (Q : List V -> Hp -> Prop),Inv X pins σ H s -> t σ H Q -> wpAny (model X.prog X.w) X.A (spliced (backTo pos (starEach es X.env))) (AP X pins σ Q) X.xe s
def PS (X : Cx) (st : Stmt) (t : TS) : Prop :=
  ∀ (pins : List (Addr × Obj)) (s : Shared) (σ : St) (H : Hp) (D : Ends),Inv X pins σ H s -> t D σ H -> wpAny (model X.prog X.w) X.A (exec st X.env) (SP X pins D) X.xe s
def PSs (X : Cx) (st : List Stmt) (t : TS) : Prop :=
  ∀ (pins : List (Addr × Obj)) (s : Shared) (σ : St) (H : Hp) (D : Ends),Inv X pins σ H s -> t D σ H -> wpAny (model X.prog X.w) X.A (execs st X.env) (SP X pins D) X.xe s
theorem thn {α : Type} {t : Sem α} {Q Q' : α -> Shared -> Prop} {M : Model} {A : Around} {E : Value -> Shared -> Prop} {s : Shared} (h : wpAny M A t Q E s) (hQ : ∀ a s,Q a s -> Q' a s) : wpAny M A t Q' E s := wpAny_mono h hQ fun _ _ x => x
end L2
namespace L2
open PySem PySem.Spec PyProof.Rows
section
variable {X : Cx}
def tVar (i : Nat) : TE := fun σ H Q => ∃ v, σ[i]? = some (some v) /\ Q v H
def tC (v : V) : TE := fun _ H Q => Q v H
theorem pe_var {i : Nat} {x : Str} {pos : Pos} (hN : X.N[i]? = some x) (hv : Vis X.env.scope x) (hd : (x == ("__debug__" : Str)) = false := by decide) (hcd : (x == ("__classdict__" : Str)) = false := by decide) : PE X (.Name x pos) (tVar i) := by
  intro pins s σ H Q I h
  obtain ⟨v,e,h⟩ := h
  obtain ⟨m,hn,hl⟩ := I.loc
  obtain ⟨u,r,l⟩ := hl i x v hN e hv
  have fin : EP X pins σ Q u s := ⟨v,H,I,r,h⟩
  rcases l with ⟨hk,hm⟩ | ⟨hk,c,hc,hcell⟩
  . exact wpAny_Name (wpAny_loadName_local I.ok.kind hk hn hm fin) hd
  . rcases hk with hk | hk
    . exact wpAny_Name (wpAny_loadName_cell I.ok.kind hk hc hcell fin) hd
    . exact wpAny_Name (wpAny_loadName_free I.ok.kind hk hc hcell fin hcd) hd
theorem qp {i j pos} : PE X (.Constant (.int i) j pos) (tC (.int i)) := fun _ _ _ H _ I h => wpAny_Constant_int ⟨.int i,H,I.tok _,⟨_,rfl⟩,h⟩
theorem pe_bl {b j pos} : PE X (.Constant (.bool b) j pos) (tC (.bl b)) := fun _ _ _ H _ I h => Constant_bool ⟨.bl b,H,I,rfl,h⟩
theorem q0g {x j pos} : PE X (.Constant (.str x) j pos) (tC (.str x)) := fun _ _ _ H _ I h => Calls.Constant_str ⟨.str x,H,I.tok _,⟨_,rfl⟩,h⟩
def Gl (X : Cx) (x : Str) : Prop := X.env.kindOf x = some .globalImplicit
theorem qcm {E : Value -> Shared -> Prop} {pins : List (Addr × Obj)} {s : Shared} {σ : St} {H : Hp} {x : Str} {u : Value} {pos : Pos} {Q : Value -> Shared -> Prop} (I : Inv X pins σ H s) (hg : Gl X x) (hm : X.mg x = some u) (h : Q u s)
    (hd : (x == ("__debug__" : Str)) = false := by decide) : wpAny (model X.prog X.w) X.A (eval (.Name x pos) X.env) Q E s :=
  Calls.Name_function_global I.ok.kind hg (Calls.loadGlobal_global (by rw [I.ok.glob]; exact I.mod.glob.keeps I.bk) hm h) hd
theorem q5i {E : Value -> Shared -> Prop} {pins : List (Addr × Obj)} {s : Shared} {σ : St} {H : Hp} {x : Str} {u : Value} {pos : Pos} {Q : Value -> Shared -> Prop} (I : Inv X pins σ H s) (hg : Gl X x) (hm : X.mg x = none) (hv : bootBuiltins x = some u) (h : Q u s)
    (hn : x ≠ "__name__" := by decide) (hd : (x == ("__debug__" : Str)) = false := by decide) : wpAny (model X.prog X.w) X.A (eval (.Name x pos) X.env) Q E s := by
  obtain ⟨mb,h1,h2⟩ := I.mod.blt
  exact Calls.Name_function_global I.ok.kind hg (Calls.loadGlobal_builtin (by rw [I.ok.glob]; exact I.mod.glob.keeps I.bk) hm (by rw [I.ok.blt]; exact h1.keeps I.bk) ((h2 x hn).trans hv) h) hd
theorem q0y {x : Str} {v : V} {u : Value} {pos : Pos} (hg : Gl X x) (hm : X.mg x = none) (hv : bootBuiltins x = some u) (r : RelV v u) (hn : x ≠ "__name__" := by decide) (hd : (x == ("__debug__" : Str)) = false := by decide) : PE X (.Name x pos) (tC v) :=
  fun _ _ _ H _ I h => q5i I hg hm hv ⟨v,H,I,r,h⟩ hn hd
variable {a b : Expr} {ta tb : TE} {pos : Pos}
def PC (X : Cx) (op : CmpOp) (a b : Expr) (t : TE) : Prop :=
  ∀ (pins : List (Addr × Obj)) (s : Shared) (σ : St) (H : Hp) (Q : VK),Inv X pins σ H s -> t σ H Q ->
    wpAny (model X.prog X.w) X.A (eval a X.env) (fun v s₁ => wpAny (model X.prog X.w) X.A (eval b X.env) (fun u s₂ => wpAny (model X.prog X.w) X.A (compareOp op v u) (EP X pins σ Q) X.xe s₂) X.xe s₁) X.xe s
def tB (t : TE) : TT := fun σ H Q => t σ H fun x H1 => ∃ c,x = .bl c /\ Q c H1
theorem pt_cmp {op : CmpOp} {t : TE} (h : PC X op a b t) (h1 : behindInMarks op b = false := by first | exact nobehind _ (by decide) (by decide) | rfl) : PT X (.Compare a [op] [b] pos) (tB t) := by
  intro pins s σ H Q I hw
  refine wpAny_isTrue_Compare1 (thn (h pins s σ H _ I hw) fun v s1 h1 => thn h1 fun u s2 h2 => thn h2 fun c s3 ⟨x,H1,I1,r1,q1⟩ => ?_) h1
  obtain ⟨d,rfl,q⟩ := q1
  cases r1
  exact wpAny_truthy_bool ⟨H1,I1,q⟩
theorem qab {e : Expr} {t : TE} (h : PE X e t) (he : ∀ whole,isTrue e X.env whole = (do let v <- whole; standAt e.pos; holding [v] (truthy v)) := by intro _; rfl) : PT X e (tB t) := by
  intro pins s σ H Q I hw
  refine isTrue_plain (thn (h pins s σ H _ I hw) fun v s1 ⟨x,H1,I1,r1,q1⟩ => ?_) (he _)
  obtain ⟨d,rfl,q⟩ := q1
  cases r1
  exact wpAny_truthy_bool ⟨H1,I1,q⟩
variable {tA tB' : TT} {rest : List Expr}
def tAnd (t u : TT) : TT := fun σ H Q => t σ H fun c H1 => if c = true then u σ H1 Q else Q false H1
def tOr (t u : TT) : TT := fun σ H Q => t σ H fun c H1 => if c = true then Q true H1 else u σ H1 Q
def tNot (t : TT) : TT := fun σ H Q => t σ H fun c H1 => Q (!c) H1
theorem q8g (ha : PT X a tA) : PW X (.BoolOp .And [a] pos) tA := by
  intro wh pins s σ H Q I h
  refine isTrue_and (thn (ha pins s σ H Q I h) fun c s1 e => ?_)
  cases c with
  | true => exact isTrue_and_nil e
  | false => exact e
theorem qat (ha : PT X a tA) : PW X (.BoolOp .Or [a] pos) tA := by
  intro wh pins s σ H Q I h
  refine isTrue_or (thn (ha pins s σ H Q I h) fun c s1 e => ?_)
  cases c with
  | false => exact isTrue_or_nil e
  | true => exact e
theorem q9w (ha : PT X a tA) (hb : PW X (.BoolOp .And (b :: rest) pos) tB') : PW X (.BoolOp .And (a :: b :: rest) pos) (tAnd tA tB') := by
  intro wh pins s σ H Q I h
  refine isTrue_and (thn (ha pins s σ H _ I h) fun c s1 ⟨H1,I1,q1⟩ => ?_)
  cases c with
  | true => exact hb wh pins s1 σ H1 Q I1 q1
  | false => exact ⟨H1,I1,q1⟩
theorem pw_or (ha : PT X a tA) (hb : PW X (.BoolOp .Or (b :: rest) pos) tB') : PW X (.BoolOp .Or (a :: b :: rest) pos) (tOr tA tB') := by
  intro wh pins s σ H Q I h
  refine isTrue_or (thn (ha pins s σ H _ I h) fun c s1 ⟨H1,I1,q1⟩ => ?_)
  cases c with
  | true => exact ⟨H1,I1,q1⟩
  | false => exact hb wh pins s1 σ H1 Q I1 q1
theorem pt_not (ha : PT X a tA) : PT X (.UnaryOp .Not a pos) (tNot tA) := by
  intro pins s σ H Q I h
  exact isTrue_not (ha pins s σ H (fun c H1 => Q (!c) H1) I h)
def tAndV (ta tb : TE) : TE := fun σ H Q => ta σ H fun x H1 => ∃ c,x = .bl c /\ if c = true then tb σ H1 Q else Q (.bl false) H1
theorem q5n {op} {t : TE} (h : PE X a t) : PE X (.BoolOp op [a] pos) t := fun pins s σ H Q I hw => BoolOp_one (h pins s σ H Q I hw)
theorem q4d (ha : PE X a ta) (hb : PE X (.BoolOp .And (b :: rest) pos) tb) : PE X (.BoolOp .And (a :: b :: rest) pos) (tAndV ta tb) := by
  intro pins s σ H Q I h
  refine BoolOp_and (thn (ha pins s σ H _ I h) fun v s1 ⟨x,H1,I1,r1,q1⟩ => ?_)
  obtain ⟨c,rfl,q1⟩ := q1
  cases r1
  refine wpAny_truthy_bool ?_
  cases c with
  | true => exact hb pins s1 σ H1 Q I1 q1
  | false => exact ⟨.bl false,H1,I1,rfl,q1⟩
end
end L2
namespace L2
open PySem PySem.Spec PyProof.Rows
def SqL (K : PySem.W.Frag) (H : Hp) (a : Addr) (xs : List V) : Prop :=
  Rd H a (.lst xs) \/
    ∃ (o : Obj) (its : Array Value) (n : Nat),K.lookup a = some o /\ o.cls = .type "list" /\ o.dict = none /\ o.data = .seq its n /\ its.size <= sizeLine /\ Vals xs its.toList
def SqT (K : PySem.W.Frag) (H : Hp) (a : Addr) (xs : List V) : Prop :=
  Rd H a (.tup xs) \/
    ∃ (o : Obj) (its : Array Value) (n : Nat),K.lookup a = some o /\ o.cls = .type "tuple" /\ o.data = .seq its n /\ its.size <= sizeLine /\ Vals xs its.toList
def absV : Value -> Option V
  | .none => some .non
  | .bool b => some (.bl b)
  | .int i _ => some (.int i)
  | .str x _ => some (.str x)
  | .bytes b _ => some (.byt b)
  | .float b _ => some (.flt b)
  | .ref a => some (.ref a)
  | .type n => some (.ty n)
  | _ => none
theorem RelV.abs {x : V} {u : Value} (r : RelV x u) : absV u = some x := by
  cases x with
  | non => cases r; rfl
  | bl _ => cases r; rfl
  | int _ => obtain ⟨t,rfl⟩ := r; rfl
  | str _ => obtain ⟨t,rfl⟩ := r; rfl
  | byt _ => obtain ⟨t,rfl⟩ := r; rfl
  | flt _ => obtain ⟨t,rfl⟩ := r; rfl
  | ref _ => cases r; rfl
  | ty _ => cases r; rfl
theorem RelV.inj {x y : V} {u : Value} (r : RelV x u) (q : RelV y u) : x = y := Option.some.inj (r.abs.symm.trans q.abs)
theorem Vals.inj : ∀ {xs ys : List V} {us : List Value},Vals xs us -> Vals ys us -> xs = ys
  | _,_,_, .nil, .nil => rfl
  | _,_,_, .cons r t, .cons r' t' => by rw [r.inj r',Vals.inj t t']
section
variable {X : Cx} {pins : List (Addr × Obj)} {σ : St} {H : Hp} {s : Shared} {a : Addr} {xs ys : List V}
theorem SqT.of {K : PySem.W.Frag} (h : H a = some (.tup xs)) : SqT K H a xs := .inl (.inl h)
theorem Inv.list (I : Inv X pins σ H s) (h : SqL X.K H a xs) : ∃ its : List Value,Vals xs its /\ PlainL s.heap a its.toArray /\ xs.length <= sizeLine := by
  rcases h with h | ⟨o,its,n,hk,hc,hd,hs,hz,r⟩
  . obtain ⟨z,its,n,r,e⟩ := h.ok I.hok
    exact ⟨its,r,⟨_,n,e,rfl,rfl,rfl⟩,z⟩
  . refine ⟨its.toList,r,⟨o,n,I.kIn a o hk,hc,hd,by simpa using hs⟩,?_⟩
    have e := r.length
    simp only [Array.length_toList] at e
    omega
theorem Inv.tuple (I : Inv X pins σ H s) (h : SqT X.K H a xs) : ∃ its : List Value,Vals xs its /\ IsTup s.heap a its.toArray /\ xs.length <= sizeLine := by
  rcases h with h | ⟨o,its,n,hk,hc,hs,hz,r⟩
  . obtain ⟨z,its,r,p⟩ := h.ok I.hok
    exact ⟨its,r,p,z⟩
  . refine ⟨its.toList,r,⟨o,I.kIn a o hk,hc,n,by simpa using hs⟩,?_⟩
    have e := r.length
    simp only [Array.length_toList] at e
    omega
theorem Inv.qbb (I : Inv X pins σ H s) (h : SqL X.K H a xs) (h' : SqL X.K H a ys) : xs = ys := by
  obtain ⟨its,r,⟨o,n,e,_,_,d⟩,_⟩ := I.list h
  obtain ⟨its',r',⟨o',n',e',_,_,d'⟩,_⟩ := I.list h'
  rw [e] at e'; cases e'
  rw [d] at d'
  injection d' with d1 _
  have : its = its' := by simpa using congrArg Array.toList d1
  subst this
  exact r.inj r'
theorem Inv.q9r (I : Inv X pins σ H s) (h : SqT X.K H a xs) (h' : SqT X.K H a ys) : xs = ys := by
  obtain ⟨its,r,⟨o,e,_,n,d⟩,_⟩ := I.tuple h
  obtain ⟨its',r',⟨o',e',_,n',d'⟩,_⟩ := I.tuple h'
  rw [e] at e'; cases e'
  rw [d] at d'
  injection d' with d1 _
  have : its = its' := by simpa using congrArg Array.toList d1
  subst this
  exact r.inj r'
end
abbrev Cx.wish (X : Cx) (E : Value -> Shared -> Prop) : Cx := { X with xe := E }
abbrev Cx.nox (X : Cx) : Cx := X.wish fun _ _ => False
theorem Cx.Ok.wish {X : Cx} (ok : X.Ok) (E : Value -> Shared -> Prop) : (X.wish E).Ok :=
  ⟨ok.mod,ok.kind,ok.glob,ok.blt,ok.above,ok.inj,ok.has,ok.cab,ok.hd,ok.frames,ok.stk,ok.exf,ok.bs,ok.bsz,ok.noex,ok.exfs,ok.funs,ok.frf⟩
theorem Cx.Ok.q2g {X : Cx} {E : Value -> Shared -> Prop} (ok : (X.wish E).Ok) : X.Ok :=
  ⟨ok.mod,ok.kind,ok.glob,ok.blt,ok.above,ok.inj,ok.has,ok.cab,ok.hd,ok.frames,ok.stk,ok.exf,ok.bs,ok.bsz,ok.noex,ok.exfs,ok.funs,ok.frf⟩
section
variable {X : Cx} {pins : List (Addr × Obj)} {σ : St} {H : Hp} {s : Shared} {E : Value -> Shared -> Prop}
theorem Inv.wish (I : Inv X pins σ H s) (E : Value -> Shared -> Prop) : Inv (X.wish E) pins σ H s := ⟨I.ok.wish E,I.os,I.bare,I.base,I.loc,I.cell,I.free,I.freeC,I.pin,I.hok,I.len⟩
theorem Inv.q2g (I : Inv (X.wish E) pins σ H s) : Inv X pins σ H s := ⟨I.ok.q2g,I.os,I.bare,I.base,I.loc,I.cell,I.free,I.freeC,I.pin,I.hok,I.len⟩
theorem SP.q2g {D : Ends} {f : Flow} {s' : Shared} (h : SP (X.wish E) pins D f s') : SP X pins D f s' := by
  cases f with
  | next => obtain ⟨σ',H',I,q⟩ := h; exact ⟨σ',H',I.q2g,q⟩
  | brk => obtain ⟨σ',H',I,q⟩ := h; exact ⟨σ',H',I.q2g,q⟩
  | cont => obtain ⟨σ',H',I,q⟩ := h; exact ⟨σ',H',I.q2g,q⟩
  | ret u => obtain ⟨v, σ',H',I,r,q⟩ := h; exact ⟨v, σ',H',I.q2g,r,q⟩
theorem PSs.nox {st : List Stmt} {t : TS} (h : PSs X.nox st t) : PSs X st t := fun pins s σ H D I hw =>
  wpAny_mono (h pins s σ H D (I.wish _) hw) (fun _ _ q => q.q2g) fun _ _ z => False.elim z
end
section
variable {X : Cx} {st : Stmt} {rest : List Stmt} {t u : TS} {e : Expr} {te : TE} {pos : Pos}
def tNext : TS := fun D σ H => D.nx σ H
def tSeq (t u : TS) : TS := fun D σ H => t { D with nx := u D } σ H
theorem q3i : PSs X [] tNext := fun _ _ σ H _ I h => wpAny_execs_nil ⟨σ,H,I,h⟩
theorem qu (h1 : PS X st t) (h2 : PSs X rest u) : PSs X (st :: rest) (tSeq t u) := by
  intro pins s σ H D I h
  refine wpAny_execs_cons (thn (h1 pins s σ H { D with nx := u D } I h) fun f s1 q => ?_)
  cases f with
  | next =>
    obtain ⟨σ',H',I',q⟩ := q
    exact h2 pins s1 σ' H' D I' q
  | ret v => exact q
  | brk => exact q
  | cont => exact q
theorem qy (h1 : PS X st t) : PSs X [st] t := by
  intro pins s σ H D I h
  refine wpAny_execs_cons (thn (h1 pins s σ H D I h) fun f s1 q => ?_)
  cases f with
  | next => exact wpAny_execs_nil q
  | ret v => exact q
  | brk => exact q
  | cont => exact q
theorem Inv.quiet {pins : List (Addr × Obj)} {σ : St} {H : Hp} {s : Shared} (I : Inv X pins σ H s) : interactive X.env = false := by simp [interactive,I.ok.kind]
def tDrop (te : TE) : TS := fun D σ H => te σ H fun _ H1 => D.nx σ H1
theorem q1w (he : PE X e te) (hs : swapsWith e none pos.line X.env = pure false := by rfl) : PS X (.Expr e pos) (tDrop te) := by
  intro pins s σ H D I h
  exact wpAny_Expr_any (thn (he pins s σ H _ I h) fun v s1 ⟨x,H1,I1,r1,q1⟩ => ⟨σ,H1,I1,q1⟩) I.quiet hs
def tRet (te : TE) : TS := fun D σ H => te σ H D.rt
theorem q1m (he : PE X e te) : PS X (.Return (some e) pos) (tRet te) := by
  intro pins s σ H D I h
  exact wpAny_Return_some (thn (he pins s σ H _ I h) fun v s1 ⟨x,H1,I1,r1,q1⟩ => ⟨x, σ,H1,I1,r1,q1⟩)
def tIfS (c : TT) (t u : TS) : TS := fun D σ H => c σ H fun b H1 => if b = true then t D σ H1 else u D σ H1
theorem q34 {c : Expr} {a b : List Stmt} {tc : TT} (hc : PT X c tc) (ha : PSs X a t) (hb : PSs X b u) : PS X (.If c a b pos) (tIfS tc t u) := by
  intro pins s σ H D I h
  refine wpAny_If (thn (hc pins s σ H _ I h) fun d s1 ⟨H1,I1,q1⟩ => ?_)
  cases d with
  | true => exact ha pins s1 σ H1 D I1 q1
  | false => exact hb pins s1 σ H1 D I1 q1
end
abbrev TG := V -> St -> Hp -> (St -> Hp -> Prop) -> Prop
abbrev TGs := List V -> St -> Hp -> (St -> Hp -> Prop) -> Prop
def PG (X : Cx) (target : Expr) (t : TG) : Prop :=
  ∀ (pins : List (Addr × Obj)) (s : Shared) (σ : St) (H : Hp) (v : V) (u : Value) (Q : St -> Hp -> Prop),Inv X pins σ H s -> RelV v u -> t v σ H Q ->
    wpAny (model X.prog X.w) X.A (assign target X.env u) (fun _ s' => ∃ σ' H',Inv X pins σ' H' s' /\ Q σ' H') X.xe s
def PGs (X : Cx) (ts : List Expr) (t : TGs) : Prop :=
  ∀ (pins : List (Addr × Obj)) (s : Shared) (σ : St) (H : Hp) (vs : List V) (us : List Value) (Q : St -> Hp -> Prop),Inv X pins σ H s -> Vals vs us -> t vs σ H Q ->
    wpAny (model X.prog X.w) X.A (assignInOrder ((assignEach ts X.env).map (·.2)) us) (fun _ s' => ∃ σ' H',Inv X pins σ' H' s' /\ Q σ' H') X.xe s
abbrev TSet := V -> V -> V -> Hp -> (Hp -> Prop) -> Prop
def PSet (X : Cx) (t : TSet) : Prop :=
  ∀ (pins : List (Addr × Obj)) (s : Shared) (σ : St) (H : Hp) (o i v : V) (ov iv u : Value) (Q : Hp -> Prop),Inv X pins σ H s -> RelV o ov -> RelV i iv -> RelV v u -> t o i v H Q ->
    wpAny (model X.prog X.w) X.A (setItem ov iv u) (fun _ s' => ∃ H',Inv X pins σ H' s' /\ Q H') X.xe s
section
variable {X : Cx} {pos : Pos}
def q4s (i : Nat) : TG := fun v σ H Q => Q (σ.set i (some v)) H
theorem q0b {i : Nat} {x : Str} (hN : X.N.Nodup) (hi : X.N[i]? = some x) (hx : Loc X.env.scope x) (hf : X.fn x = true \/ X.env.scope.names.lookup x = some .local := by first | exact .inl rfl | exact .inr rfl | assumption) : PG X (.Name x pos) (q4s i) := by
  intro pins s σ H v u Q I r h
  exact wpAny_assign_Name (q6x I hN hi hx r (fun s' I' => ⟨_,H,I',h⟩) hf)
def gNil : TGs := fun vs σ H Q => vs = [] /\ Q σ H
def gCons (t : TG) (u : TGs) : TGs := fun vs σ H Q => ∃ v r,vs = v :: r /\ t v σ H fun σ' H' => u r σ' H' Q
theorem qdg : PGs X [] gNil := by
  intro pins s σ H vs us Q I r h
  obtain ⟨e,h⟩ := h
  subst e
  cases r
  exact assignInOrder_nil ⟨σ,H,I,h⟩
theorem q3p {e : Expr} {es : List Expr} {t : TG} {u : TGs} (h1 : PG X e t) (h2 : PGs X es u)
    (hs : (assignEach (e :: es) X.env).map (·.2) = assign e X.env :: (assignEach es X.env).map (·.2) := by rfl) : PGs X (e :: es) (gCons t u) := by
  intro pins s σ H vs us Q I r h
  obtain ⟨v,vr,e1,h⟩ := h
  subst e1
  cases r with
  | cons r rr =>
    rw [hs]
    refine assignInOrder_cons (thn (h1 pins s σ H _ _ _ I r h) fun _ s1 ⟨σ1,H1,I1,q1⟩ => ?_)
    exact h2 pins s1 σ1 H1 _ _ Q I1 rr q1
def gTup (K : PySem.W.Frag) (n : Nat) (t : TGs) : TG := fun v σ H Q => ∃ a xs,v = .ref a /\ SqT K H a xs /\ xs.length = n /\ t xs σ H Q
theorem pg_tup {es : List Expr} {k : Nat} {t : TGs} {n : Nat} (hc : X.calm = true) (h : PGs X es t)
    (hn : (assignEach es X.env).length = n := by rfl) (hst : (assignEach es X.env).findIdx? (·.1) = none := by rfl) : PG X (.Tuple es k pos) (gTup X.K n t) := by
  intro pins s σ H v u Q I r hw
  obtain ⟨a,xs,e1,hq,hl,hw⟩ := hw
  subst e1
  cases r
  obtain ⟨its,rv,ht,hz⟩ := I.tuple hq
  refine assign_Tuple_tuple (I.ok.hd hc) ht (by simp [hn, <- hl,rv.length]) hst fun h' hx => ?_
  have I1 : Inv X pins σ H { s with heap := h' } := I.kept (t' := s.toks) fun b o e => hx b o (Nat.ne_of_lt (Heap.lt_size e)) e
  exact h pins _ σ H xs _ Q I1 (by simpa using rv) hw
def gSub (to ti : TE) (t : TSet) : TG := fun v σ H Q => to σ H fun o H1 => ti σ H1 fun i H2 => t o i v H2 fun H3 => Q σ H3
theorem q5e {o i : Expr} {to ti : TE} {t : TSet} (ho : PE X o to) (hi : PE X i ti) (hs : PSet X t)
    (ha : ∀ v,assign (.Subscript o i pos) X.env v = (do
      let ov <- holding [v] (eval o X.env)
      let iv <- holding [v,ov] (eval i X.env)
      standAt pos
      holding [v,ov,iv] (setItem ov iv v)
      release [v,ov,iv] []) := by intro _; rfl) : PG X (.Subscript o i pos) (gSub to ti t) := by
  intro pins s σ H v u Q I r h
  rw [ha]
  refine wpAny_bind (wpAny_holding (thn (ho pins s σ H _ I h) fun ov s1 ⟨x,H1,I1,r1,q1⟩ => ?_))
  refine wpAny_bind (wpAny_holding (thn (hi pins s1 σ H1 _ I1 q1) fun iv s2 ⟨y,H2,I2,r2,q2⟩ => ?_))
  refine wpAny_bind (wpAny_standAt (wpAny_bind (wpAny_holding (thn (hs pins s2 σ H2 x y v ov iv u _ I2 r1 r2 r q2) fun _ s3 ⟨H3,I3,q3⟩ => ?_))))
  exact wpAny_release ⟨σ,H3,I3,q3⟩
def tAsg (te : TE) (g : TG) : TS := fun D σ H => te σ H fun x H1 => g x σ H1 D.nx
theorem q5o {tg e : Expr} {te : TE} {g : TG} (he : PE X e te) (hg : PG X tg g) (hs : swapsWithSole [tg] e pos.line X.env = pure false := by rfl) (hw : swappedStores [tg] e X.env = pure none := by rfl)
    (h1 : (assignEach [tg] X.env).map (·.2) = [assign tg X.env] := by rfl) : PS X (.Assign [tg] e pos) (tAsg te g) := by
  intro pins s σ H D I h
  refine wpAny_Assign_stores (thn (he pins s σ H _ I h) fun v s1 ⟨x,H1,I1,r1,q1⟩ => ?_) hs hw
  rw [h1]
  exact thn (hg pins s1 σ H1 x v _ I1 r1 q1) fun _ s2 q => q
theorem q22 {i : Nat} {x : Str} {e : Expr} {te : TE} {pos' : Pos} (hN : X.N.Nodup) (hi : X.N[i]? = some x) (hx : Loc X.env.scope x) (he : PE X e te) (hs : swapsWith e (some (.Name x pos')) pos.line X.env = pure false := by rfl) (hf : X.fn x = true \/ X.env.scope.names.lookup x = some .local := by first | exact .inl rfl | exact .inr rfl | assumption) :
    PS X (.Assign [.Name x pos'] e pos) (tAsg te (q4s i)) := by
  intro pins s σ H D I h
  refine wpAny_Assign_Name (thn (he pins s σ H _ I h) fun v s1 ⟨y,H1,I1,r1,q1⟩ => ?_) hs
  exact q6x I1 hN hi hx r1 (fun s2 I2 => ⟨_,H1,I2,q1⟩) hf
end
structure It where
  go : Nat -> Hp -> Prop
  yld : Nat -> Hp -> V -> Hp -> Prop
  stop : Nat -> Hp -> Prop
def FpOk (X : Cx) (pins : List (Addr × Obj)) (H : Hp) (b : Addr) : Prop :=
  H b = none /\ b ≠ X.env.locals /\ b ∉ X.fs /\ (b ∈ X.ex \/ X.s₀.heap.objs.size <= b) /\ (∀ x c,X.env.cells.lookup x = some c -> c ≠ b) /\ ∀ p ∈ X.pn ++ pins,p.1 ≠ b
theorem Inv.fpOk {X : Cx} {pins : List (Addr × Obj)} {σ : St} {H H' : Hp} {s : Shared} {b : Addr} (I : Inv X pins σ H s) (hb : s.heap.objs.size <= b) (hn : H' b = none) : FpOk X pins H' b := by
  refine ⟨hn,Nat.ne_of_gt (Nat.lt_of_lt_of_le I.lt hb),I.nofs hb, .inr (Nat.le_trans I.sz hb),fun x c e z => ?_,fun p hp z => ?_⟩
  . obtain ⟨v,q⟩ := I.cell x c e
    exact absurd (Nat.lt_of_lt_of_le q.lt (by rw [z]; exact hb)) (Nat.lt_irrefl _)
  . exact absurd (Nat.lt_of_lt_of_le (Heap.lt_size (I.pin p hp).1) (by rw [z]; exact hb)) (Nat.lt_irrefl _)
structure Turn (P : Program) (w : World) (K : PySem.W.Frag) (tg : Expr) (J : It) (fp : List Addr) (it : Addr) (tn : Nat -> Heap -> Prop) : Prop where
  mem : it ∈ fp
  obj : ∀ i h,tn i h -> ∀ b ∈ fp, ∃ o,h.get? b = some o /\ ∀ v,o.data ≠ .cell v
  keep : ∀ i h h',tn i h -> (∀ b ∈ fp, ∀ o,h.get? b = some o -> h'.get? b = some o) -> tn i h'
  item : ∀ (X : Cx),X.prog = P -> X.w = w -> X.K = K -> X.calm = true -> ∀ (i : Nat) (pins : List (Addr × Obj)) (s : Shared) (σ : St) (H : Hp) (E : Value -> Shared -> Prop),Inv X pins σ H s -> (∀ b ∈ fp,FpOk X pins H b) -> tn i s.heap -> J.go i H ->
    wpAny (model P w) X.A (pyNext (.ref it)) (fun r s1 => ∃ u,r = some u /\
      wpAny (model P w) X.A (letOwnedTupleGo tg (.ref it) u) (fun _ s2 => ∃ x H',Inv X pins σ H' s2 /\ RelV x u /\ J.yld i H x H' /\ tn (i + 1) s2.heap /\ ∀ b ∈ fp,H' b = none) E s1) E s
  done : ∀ (X : Cx),X.prog = P -> X.w = w -> X.K = K -> X.calm = true -> ∀ (i : Nat) (pins : List (Addr × Obj)) (s : Shared) (σ : St) (H : Hp) (E : Value -> Shared -> Prop),Inv X pins σ H s -> (∀ b ∈ fp,FpOk X pins H b) -> tn i s.heap -> J.stop i H ->
    wpAny (model P w) X.A (pyNext (.ref it)) (fun r s1 => r = none /\ Inv X pins σ H s1) E s
  self : ∀ (A : Around) (i : Nat) (s : Shared) (Q : Value -> Shared -> Prop) (E : Value -> Shared -> Prop),tn i s.heap -> Q (.ref it) s -> wpAny (model P w) A (pyIter (.ref it)) Q E s
abbrev TI := St -> Hp -> (It -> Hp -> Prop) -> Prop
def PIE (X : Cx) (pins : List (Addr × Obj)) (σ : St) (tg : Expr) (R : It -> Hp -> Prop) (itv : Value) (s2 : Shared) : Prop :=
  ∃ (it : Addr) (fp : List Addr) (tn : Nat -> Heap -> Prop) (J : It) (H' : Hp),itv = .ref it /\ Inv X pins σ H' s2 /\ Turn X.prog X.w X.K tg J fp it tn /\ tn 0 s2.heap /\ (∀ b ∈ fp,FpOk X pins H' b) /\ R J H'
def PI (X : Cx) (tg iter : Expr) (wi : TI) : Prop :=
  ∀ (pins : List (Addr × Obj)) (s : Shared) (σ : St) (H : Hp) (R : It -> Hp -> Prop),Inv X pins σ H s -> wi σ H R ->
    wpAny (model X.prog X.w) X.A (eval iter X.env) (fun v s1 => wpAny (model X.prog X.w) X.A (pyIter v) (PIE X pins σ tg R) X.xe s1) X.xe s
theorem q9f {M : Model} {A : Around} {E : Value -> Shared -> Prop} {s : Shared} {tg : Expr} {it : Addr} {u : Value} {o : Obj} {n : String} {vs : Array Value} {Q : Unit -> Shared -> Prop} (ho : s.heap.get? it = some o) (hc : o.cls = .type n) (hd : o.data = .fields vs)
    (hn : ["enumerate", "zip", "dict_itemiterator", "dict_reverseitemiterator", "odict_iterator", "itertools.zip_longest", "itertools.pairwise"].contains n = false) (hQ : Q () s) : wpAny M A (letOwnedTupleGo tg (.ref it) u) Q E s := by
  unfold letOwnedTupleGo
  cases tg <;> first
    | exact wpAny_pure hQ
    | (cases u <;> first
        | exact wpAny_pure hQ
        | (refine wpAny_bind (wpAny_load ho ?_)
           rw [hc,hd]
           show wpAny M A (if (["enumerate", "zip", "dict_itemiterator", "dict_reverseitemiterator", "odict_iterator", "itertools.zip_longest", "itertools.pairwise"].contains n && vs[0]? == some (rawInt _)) = true then _ else _) Q E s
           rw [if_neg (by intro h; rw [hn,Bool.false_and] at h; cases h)]
           exact wpAny_pure hQ))
def Itl (K : PySem.W.Frag) (a : Addr) : It :=
  ⟨fun i H => ∃ xs x,SqL K H a xs /\ xs[i]? = some x,fun i H x H' => H' = H /\ ∀ xs,SqL K H a xs -> xs[i]? = some x,fun i H => ∃ xs,SqL K H a xs /\ xs.length <= i⟩
def Itt (K : PySem.W.Frag) (a : Addr) : It :=
  ⟨fun i H => ∃ xs x,SqT K H a xs /\ xs[i]? = some x,fun i H x H' => H' = H /\ ∀ xs,SqT K H a xs -> xs[i]? = some x,fun i H => ∃ xs,SqT K H a xs /\ xs.length <= i⟩
def Itr (lo : Int) (n : Nat) : It := ⟨fun i _ => i < n,fun i H x H' => H' = H /\ x = .int (lo + i),fun i _ => n <= i⟩
theorem q9s {P : Program} {w : World} {K : PySem.W.Frag} {tg : Expr} (a it : Addr) : Turn P w K tg (Itl K a) [it] it (fun i h => h.IsListIter it a i) where
  mem := by simp
  obj := fun i h st b hb => by
    have e : b = it := by simpa using hb
    subst e
    obtain ⟨o,e,c,d⟩ := st
    exact ⟨o,e,fun v z => by rw [d] at z; cases z⟩
  keep := fun i h h' st k => st.at fun o e => k it (by simp) o e
  item := by
    intro X hP hw hK hc i pins s σ H E I hf st hg
    subst hP hw hK
    obtain ⟨xs,x,hq,hx⟩ := hg
    obtain ⟨its,rv,p,hz⟩ := I.list hq
    obtain ⟨u,hu,ru⟩ := rv.get hx
    obtain ⟨f0,f1,f2,f3,f4,f5⟩ := hf it (by simp)
    refine wpAny_pyNext_list_item st p.isList (x := u) (by simpa using hu) fun h' st' sb => ?_
    have I1 : Inv X pins σ H { s with heap := h' } := I.turned (t' := s.toks) (fun b o hb e => (sb.2 b hb).trans e) f0 f1 f3 f4 f5
    obtain ⟨o,e,c,d⟩ := id st'
    exact ⟨u,rfl,q9f (s := { s with heap := h' }) e c d (by decide) ⟨x,H,I1,ru,⟨rfl,fun ys hy => by rw [I.qbb hy hq]; exact hx⟩,st',fun b hb => (hf b hb).1⟩⟩
  done := by
    intro X hP hw hK hc i pins s σ H E I hf st hg
    subst hP hw hK
    obtain ⟨xs,hq,hx⟩ := hg
    obtain ⟨its,rv,p,hz⟩ := I.list hq
    obtain ⟨f0,f1,f2,f3,f4,f5⟩ := hf it (by simp)
    have hl := rv.length
    exact wpAny_pyNext_list_end (I.ok.hd hc) st p.isList (by simp; omega) fun h' eb => ⟨rfl,I.turned (t' := s.toks) (fun b o hb e => eb b o hb e) f0 f1 f3 f4 f5⟩
  self := fun _ _ _ _ _ st h => wpAny_pyIter_listiter st h
theorem q9a {P : Program} {w : World} {K : PySem.W.Frag} {tg : Expr} (a it : Addr) : Turn P w K tg (Itt K a) [it] it (fun i h => h.IsTupleIter it a i) where
  mem := by simp
  obj := fun i h st b hb => by
    have e : b = it := by simpa using hb
    subst e
    obtain ⟨o,e,c,d⟩ := st
    exact ⟨o,e,fun v z => by rw [d] at z; cases z⟩
  keep := fun i h h' st k => st.at fun o e => k it (by simp) o e
  item := by
    intro X hP hw hK hc i pins s σ H E I hf st hg
    subst hP hw hK
    obtain ⟨xs,x,hq,hx⟩ := hg
    obtain ⟨its,rv,p,hz⟩ := I.tuple hq
    obtain ⟨u,hu,ru⟩ := rv.get hx
    obtain ⟨f0,f1,f2,f3,f4,f5⟩ := hf it (by simp)
    refine wpAny_pyNext_tuple_item st (show s.heap.IsTuple a its.toArray from p) (x := u) (by simpa using hu) fun h' st' sb => ?_
    have I1 : Inv X pins σ H { s with heap := h' } := I.turned (t' := s.toks) (fun b o hb e => (sb.2 b hb).trans e) f0 f1 f3 f4 f5
    obtain ⟨o,e,c,d⟩ := id st'
    exact ⟨u,rfl,q9f (s := { s with heap := h' }) e c d (by decide) ⟨x,H,I1,ru,⟨rfl,fun ys hy => by rw [I.q9r hy hq]; exact hx⟩,st',fun b hb => (hf b hb).1⟩⟩
  done := by
    intro X hP hw hK hc i pins s σ H E I hf st hg
    subst hP hw hK
    obtain ⟨xs,hq,hx⟩ := hg
    obtain ⟨its,rv,p,hz⟩ := I.tuple hq
    obtain ⟨f0,f1,f2,f3,f4,f5⟩ := hf it (by simp)
    have hl := rv.length
    exact wpAny_pyNext_tuple_end (I.ok.hd hc) st (show s.heap.IsTuple a its.toArray from p) (by simp; omega) fun h' eb => ⟨rfl,I.turned (t' := s.toks) (fun b o hb e => eb b o hb e) f0 f1 f3 f4 f5⟩
  self := fun _ _ _ _ _ st h => wpAny_pyIter_tupleiter st h
theorem q9n {P : Program} {w : World} {K : PySem.W.Frag} {tg : Expr} (it : Addr) (lo : Int) (n : Nat) : Turn P w K tg (Itr lo n) [it] it (fun i h => IsRangeIter h it (lo + (i : Nat) * 1) ((n : Int) - (i : Nat)) 1) where
  mem := by simp
  obj := fun i h st b hb => by
    have e : b = it := by simpa using hb
    subst e
    exact ⟨_,st,fun v z => by
      have z' : Data.fields _ = Data.cell v := z
      cases z'⟩
  keep := fun i h h' st k => k it (by simp) _ st
  item := by
    intro X hP hw hK hc i pins s σ H E I hf st hg
    subst hP hw hK
    obtain ⟨f0,f1,f2,f3,f4,f5⟩ := hf it (by simp)
    have W := Walks.range (prog := X.prog) (w := X.w) (I.ok.hd hc) it lo 1 n
    refine W.item i s _ _ hg st fun v h' tk hv st' kk => ?_
    obtain ⟨t,rfl⟩ := hv
    have I1 : Inv X pins σ H { s with heap := h',toks := tk } := I.turned (fun b o hb e => kk b o (by simpa using hb) e) f0 f1 f3 f4 f5
    refine ⟨_,rfl,q9f (s := { s with heap := h',toks := tk }) (n := "range_iterator") st' rfl rfl (by decide) ⟨.int (lo + i),H,I1,⟨t,?_⟩,⟨rfl,rfl⟩,st',fun b hb => (hf b hb).1⟩⟩
    rw [Int.mul_one]
  done := by
    intro X hP hw hK hc i pins s σ H E I hf st hg
    subst hP hw hK
    obtain ⟨f0,f1,f2,f3,f4,f5⟩ := hf it (by simp)
    exact wpAny_pyNext_range_end (I.ok.hd hc) st (by have : n <= i := hg; omega) fun h' eb => ⟨rfl,I.turned (t' := s.toks) (fun b o hb e => eb b o hb e) f0 f1 f3 f4 f5⟩
  self := fun _ _ _ _ _ st h => wpAny_pyIter_rangeiter st h
end L2
namespace L2
open PySem PySem.Spec PyProof.Rows
section
variable {X : Cx} {tg : Expr}
def iList (K : PySem.W.Frag) (tl : TE) : TI := fun σ H R => tl σ H fun x H1 => ∃ a,x = .ref a /\ (∃ xs,SqL K H1 a xs) /\ R (Itl K a) H1
def iTup (K : PySem.W.Frag) (tl : TE) : TI := fun σ H R => tl σ H fun x H1 => ∃ a,x = .ref a /\ (∃ xs,SqT K H1 a xs) /\ R (Itt K a) H1
theorem q1g {l : Expr} {tl : TE} (hl : PE X l tl) : PI X tg l (iList X.K tl) := by
  intro pins s σ H R I h
  refine thn (hl pins s σ H _ I h) fun v s1 ⟨x,H1,I1,r1,q1⟩ => ?_
  obtain ⟨a,e,⟨xs,hq⟩,q⟩ := q1
  subst e
  cases r1
  obtain ⟨its,rv,p,hz⟩ := I1.list hq
  refine wpAny_pyIter_list p.isList ?_
  refine ⟨s1.heap.objs.size,[s1.heap.objs.size],_,_,H1,rfl,I1.kept (t' := s1.toks) fun b o e => Heap.get?_push_of_some _ e,q9s a _,⟨_,Heap.get?_push_size _ rfl,rfl,rfl⟩,fun b hb => ?_,q⟩
  have e : b = s1.heap.objs.size := by simpa using hb
  subst e
  exact I1.fpOk (Nat.le_refl _) (I1.hok.fresh (Nat.le_refl _))
theorem pi_tup {l : Expr} {tl : TE} (hl : PE X l tl) : PI X tg l (iTup X.K tl) := by
  intro pins s σ H R I h
  refine thn (hl pins s σ H _ I h) fun v s1 ⟨x,H1,I1,r1,q1⟩ => ?_
  obtain ⟨a,e,⟨xs,hq⟩,q⟩ := q1
  subst e
  cases r1
  obtain ⟨its,rv,p,hz⟩ := I1.tuple hq
  refine wpAny_pyIter_tuple (show s1.heap.IsTuple a its.toArray from p) ?_
  refine ⟨s1.heap.objs.size,[s1.heap.objs.size],_,_,H1,rfl,I1.kept (t' := s1.toks) fun b o e => Heap.get?_push_of_some _ e,q9a a _,⟨_,Heap.get?_push_size _ rfl,rfl,rfl⟩,fun b hb => ?_,q⟩
  have e : b = s1.heap.objs.size := by simpa using hb
  subst e
  exact I1.fpOk (Nat.le_refl _) (I1.hok.fresh (Nat.le_refl _))
theorem qbw {pins : List (Addr × Obj)} {σ : St} {H : Hp} {s : Shared} {R : It -> Hp -> Prop} {E : Value -> Shared -> Prop} {lo hi : Int} {t u v : Tok} {tk : Nat} (I : Inv X pins σ H s) (h1 : -(2 ^ 62) <= lo) (h2 : lo < 2 ^ 62) (h3 : -(2 ^ 62) <= hi) (h4 : hi < 2 ^ 62)
    (q : R (Itr lo (hi - lo).toNat) H) : wpAny (model X.prog X.w) X.A (pyIter (.ref s.heap.objs.size)) (PIE X pins σ tg R) E { s with heap := s.heap.push { cls := .type "range",data := .fields #[.int lo t, .int hi u, .int 1 v] },toks := tk } := by
  refine wpAny_pyIter_range (IsRange.new ..) (small_one h1 h2 h3 h4) ?_
  have I1 : Inv X pins σ H { s with heap := s.heap.push { cls := .type "range",data := .fields #[.int lo t, .int hi u, .int 1 v] },toks := tk } := I.kept fun b o e => Heap.get?_push_of_some _ e
  refine ⟨(s.heap.push { cls := .type "range",data := .fields #[.int lo t, .int hi u, .int 1 v] }).objs.size,[(s.heap.push { cls := .type "range",data := .fields #[.int lo t, .int hi u, .int 1 v] }).objs.size],_,_,H,rfl,
    I1.kept (t' := tk) fun b o e => Heap.get?_push_of_some _ e,q9n _ lo (hi - lo).toNat,?_,fun b hb => ?_,q⟩
  . have e1 : lo + ((0 : Nat) : Int) * 1 = lo := by simp
    have e2 : (((hi - lo).toNat : Nat) : Int) - ((0 : Nat) : Int) = Builtin.Range.rangeSize lo hi 1 := by rw [rangeSize_one]; split <;> omega
    show IsRangeIter _ _ (lo + ((0 : Nat) : Int) * 1) ((((hi - lo).toNat : Nat) : Int) - ((0 : Nat) : Int)) 1
    rw [e1,e2]
    exact Heap.get?_push_size _ rfl
  . have e : b = (s.heap.push { cls := .type "range",data := .fields #[.int lo t, .int hi u, .int 1 v] }).objs.size := by simpa using hb
    subst e
    exact I1.fpOk (Nat.le_refl _) (I1.hok.fresh (Nat.le_refl _))
def iRng1 (ta : TA) : TI := fun σ H R => ta σ H fun vs H1 => ∃ j : Int,vs = [.int j] /\ -(2 ^ 62) <= j /\ j < 2 ^ 62 /\ R (Itr 0 j.toNat) H1
theorem q6b {a : Expr} {ta : TA} {p pos : Pos} (hg : Gl X "range") (hm : X.mg "range" = none) (ha : PA X [a] ta) (hs : starEach [a] X.env = [(false,eval a X.env)] := by rfl) : PI X tg (.Call (.Name "range" p) [a] [] pos) (iRng1 ta) := by
  intro pins s σ H R I h
  refine Call_ (q5i I hg hm boot_range (PyProof.Rows.callWith_type1 (thn (ha pos pins s σ H _ I h) fun us s1 ⟨vs,H1,I1,r1,q1⟩ => ?_) hs rfl))
  obtain ⟨j,e,q1,q2,q⟩ := q1
  subst e
  cases r1 with
  | cons r rr =>
    cases rr
    obtain ⟨t,rfl⟩ := r
    exact call_range_1 (qbw I1 (by omega) (by omega) q1 q2 (by simpa using q))
def tFor (wi : TI) (g : TG) (tb : TS) : TS := fun D σ H => wi σ H fun J H1 => ∃ W : Nat -> Nat -> St -> Hp -> Prop,(∃ m,W 0 m σ H1) /\ ∀ i m σ H,W i m σ H ->
  (J.stop i H /\ D.nx σ H) \/ (J.go i H /\ ∃ N : St -> Hp -> Prop,(∀ σ' H',N σ' H' -> ∃ m',m' < m /\ W (i + 1) m' σ' H') /\ ∀ x H',J.yld i H x H' -> g x σ H' fun σ2 H2 => tb { D with nx := N,ct := N,bk := D.nx } σ2 H2)
def q4c (fp : List Addr) (h : Heap) : List (Addr × Obj) := fp.filterMap fun b => (h.get? b).map fun o => (b,o)
theorem q2j {fp : List Addr} {h : Heap} {b : Addr} {o : Obj} (hb : b ∈ fp) (e : h.get? b = some o) : (b,o) ∈ q4c fp h := List.mem_filterMap.mpr ⟨b,hb,by rw [e]; rfl⟩
theorem qau {fp : List Addr} {h : Heap} {p : Addr × Obj} (hp : p ∈ q4c fp h) : p.1 ∈ fp /\ h.get? p.1 = some p.2 := by
  obtain ⟨b,hb,e⟩ := List.mem_filterMap.mp hp
  cases q : h.get? b with
  | none => rw [q] at e; cases e
  | some o =>
    rw [q] at e
    have e' : (b,o) = p := Option.some.inj e
    subst e'
    exact ⟨hb,q⟩
theorem Inv.pinned {pins : List (Addr × Obj)} {σ : St} {H : Hp} {s : Shared} {fp : List Addr} (I : Inv X pins σ H s) (hf : ∀ b ∈ fp,FpOk X pins H b) (ho : ∀ b ∈ fp, ∃ o,s.heap.get? b = some o /\ ∀ v,o.data ≠ .cell v) : Inv X (pins ++ q4c fp s.heap) σ H s :=
  I.q8p fun p hp => (List.mem_append.mp hp).elim (fun z => I.pin p (List.mem_append_right _ z)) fun z => by
    obtain ⟨hb,e⟩ := qau z
    obtain ⟨f0,f1,f2,_⟩ := hf p.1 hb
    obtain ⟨o,e',d⟩ := ho p.1 hb
    rw [e] at e'; cases e'
    exact ⟨e,f0,f1,f2,d⟩
theorem Inv.q3v {pins pl : List (Addr × Obj)} {σ : St} {H : Hp} {s : Shared} (I : Inv X (pins ++ pl) σ H s) : Inv X pins σ H s := I.q8p fun p hp => I.pin p (List.mem_append_right _ (List.mem_append_left _ hp))
theorem q2v {iter : Expr} {body : List Stmt} {wi : TI} {g : TG} {tb : TS} {pos : Pos} (hp : PassesOwn (model X.prog X.w) X.A X.env X.xe) (hc : X.calm = true) (hi : PI X tg iter wi) (hg : PG X tg g) (hb : PSs X body tb)
    (hs : ∀ x,foldedSetIterable iter X.env x = pure x := by intro _; rfl) : PS X (.For tg iter body [] pos) (tFor wi g tb) := by
  intro pins s σ H D I h
  refine wpAny_For (thn (hi pins s σ H _ I h) fun v s1 h1 => thn h1 fun itv s2 h2 => ?_) hs
  obtain ⟨it,fp,tn,J,H2,e,I2,T,st2,f2,W,⟨m0,w0⟩,turn⟩ := h2
  subst e
  have stat : ∀ {H' : Hp},(∀ b ∈ fp,H' b = none) -> ∀ b ∈ fp,FpOk X pins H' b := fun hn b hb => ⟨hn b hb,(f2 b hb).2⟩
  refine codeAny_forLoop_any (fun n s' => ∃ i σ' H',Inv X pins σ' H' s' /\ tn i s'.heap /\ (∀ b ∈ fp,H' b = none) /\ W i n σ' H') ?_ m0 ⟨0, σ,H2,I2,st2,fun b hb => (f2 b hb).1,w0⟩
  rintro n s3 ⟨i, σ3,H3,I3,st3,fr3,w3⟩
  rcases turn i n σ3 H3 w3 with ⟨stop,qn⟩ | ⟨go,N,hN,step⟩
  . refine wpAny_passesOwn hp (thn (T.done X rfl rfl rfl hc i pins s3 σ3 H3 X.xe I3 (stat fr3) st3 stop) fun r s4 ⟨hr,I4⟩ => ?_)
    subst hr
    exact wpAny_execs_nil ⟨σ3,H3,I4,qn⟩
  . refine wpAny_passesOwn hp (thn (T.item X rfl rfl rfl hc i pins s3 σ3 H3 X.xe I3 (stat fr3) st3 go) fun r s4 ⟨u,hr,h4⟩ => ?_)
    subst hr
    refine wpAny_passesOwn hp (thn h4 fun _ s5 ⟨x,H5,I5,r5,y5,st5,fr5⟩ => ?_)
    have I5' := I5.pinned (stat fr5) (T.obj _ _ st5)
    refine wpAny_passesOwn hp (thn (hg _ s5 σ3 H5 x u _ I5' r5 (step x H5 y5)) fun _ s6 ⟨σ6,H6,I6,q6⟩ => ?_)
    refine wpAny_passesOwn hp (thn (hb _ s6 σ6 H6 _ I6 q6) fun f s7 q7 => ?_)
    have again : ∀ {σ7 : St} {H7 : Hp},Inv X (pins ++ q4c fp s5.heap) σ7 H7 s7 -> N σ7 H7 -> ∃ m,m < n /\ ∃ i σ' H',Inv X pins σ' H' s7 /\ tn i s7.heap /\ (∀ b ∈ fp,H' b = none) /\ W i m σ' H' := fun {σ7 H7} I7 n7 => by
      obtain ⟨m',hm,w7⟩ := hN σ7 H7 n7
      refine ⟨m',hm,i + 1, σ7,H7,I7.q3v,T.keep _ _ _ st5 fun b hb o e => (I7.pin (b,o) (List.mem_append_right _ (List.mem_append_right _ (q2j hb e)))).1,fun b hb => ?_,w7⟩
      obtain ⟨o,e,d⟩ := T.obj _ _ st5 b hb
      exact (I7.pin (b,o) (List.mem_append_right _ (List.mem_append_right _ (q2j hb e)))).2.1
    cases f with
    | next => obtain ⟨σ7,H7,I7,n7⟩ := q7; exact again I7 n7
    | cont => obtain ⟨σ7,H7,I7,n7⟩ := q7; exact again I7 n7
    | brk => obtain ⟨σ7,H7,I7,q7⟩ := q7; exact ⟨σ7,H7,I7.q3v,q7⟩
    | ret v => obtain ⟨x7, σ7,H7,I7,r7,q7⟩ := q7; exact ⟨x7, σ7,H7,I7.q3v,r7,q7⟩
end
end L2
namespace L2
open PySem PySem.Spec PyProof.Rows
abbrev R2 := V -> V -> Hp -> VK -> Prop
def OpR (X : Cx) (f : Value -> Value -> Sem Value) (r : R2) : Prop :=
  ∀ (pins : List (Addr × Obj)) (s : Shared) (σ : St) (H : Hp) (x y : V) (v u : Value) (Q : VK),Inv X pins σ H s -> RelV x v -> RelV y u -> r x y H Q ->
    wpAny (model X.prog X.w) X.A (f v u) (EP X pins σ Q) X.xe s
def UnR (X : Cx) (f : Value -> Sem Value) (r : V -> Hp -> VK -> Prop) : Prop :=
  ∀ (pins : List (Addr × Obj)) (s : Shared) (σ : St) (H : Hp) (x : V) (v : Value) (Q : VK),Inv X pins σ H s -> RelV x v -> r x H Q ->
    wpAny (model X.prog X.w) X.A (f v) (EP X pins σ Q) X.xe s
def q08 (X : Cx) (f : Value) (r : List V -> Hp -> VK -> Prop) : Prop :=
  ∀ (pins : List (Addr × Obj)) (s : Shared) (σ : St) (H : Hp) (xs : List V) (us : List Value) (Q : VK),Inv X pins σ H s -> Vals xs us -> r xs H Q ->
    wpAny (model X.prog X.w) X.A (call f us) (EP X pins σ Q) X.xe s
def TruR (X : Cx) (r : V -> Hp -> (Bool -> Hp -> Prop) -> Prop) : Prop :=
  ∀ (pins : List (Addr × Obj)) (s : Shared) (σ : St) (H : Hp) (x : V) (v : Value) (Q : Bool -> Hp -> Prop),Inv X pins σ H s -> RelV x v -> r x H Q ->
    wpAny (model X.prog X.w) X.A (truthy v) (TP X pins σ Q) X.xe s
def tOp (r : R2) (ta tb : TE) : TE := fun σ H Q => ta σ H fun x H1 => tb σ H1 fun y H2 => r x y H2 Q
def tUn (r : V -> Hp -> VK -> Prop) (ta : TE) : TE := fun σ H Q => ta σ H fun x H1 => r x H1 Q
def rI (C : Int -> Int -> Prop) (g : Int -> Int -> V) : R2 := fun x y H Q => ∃ i j,x = .int i /\ y = .int j /\ C i j /\ Q (g i j) H
def rI0 (g : Int -> Int -> V) : R2 := fun x y H Q => ∃ i j,x = .int i /\ y = .int j /\ Q (g i j) H
def rU (g : Int -> V) : V -> Hp -> VK -> Prop := fun x H Q => ∃ i,x = .int i /\ Q (g i) H
section
variable {X : Cx} {a b c : Expr} {ta tb tc : TE} {pos : Pos}
theorem binT (ha : PE X a ta) (hb : PE X b tb) {pins : List (Addr × Obj)} {s : Shared} {σ : St} {H : Hp} {R : V -> V -> Hp -> Prop} (I : Inv X pins σ H s)
    (h : ta σ H fun x H1 => tb σ H1 fun y H2 => R x y H2) {Q : Value -> Shared -> Prop} {f : Value -> Value -> Sem Value}
    (hf : ∀ v u s2 x y H2,Inv X pins σ H2 s2 -> RelV x v -> RelV y u -> R x y H2 -> wpAny (model X.prog X.w) X.A (f v u) Q X.xe s2) :
    wpAny (model X.prog X.w) X.A (eval a X.env) (fun v s₁ => wpAny (model X.prog X.w) X.A (eval b X.env) (fun u s₂ => wpAny (model X.prog X.w) X.A (f v u) Q X.xe s₂) X.xe s₁) X.xe s := by
  refine thn (ha pins s σ H _ I h) fun v s1 ⟨x,H1,I1,r1,q1⟩ => ?_
  refine thn (hb pins s1 σ H1 _ I1 q1) fun u s2 ⟨y,H2,I2,r2,q2⟩ => ?_
  exact hf v u s2 x y H2 I2 r1 r2 q2
theorem q0w {op : Operator} {r : R2} (ho : OpR X (binaryOp op) r) (ha : PE X a ta) (hb : PE X b tb) : PE X (.BinOp a op b pos) (tOp r ta tb) := by
  intro pins s σ H Q I h
  exact wpAny_BinOp (binT ha hb I h fun v u s2 x y H2 I2 rx ry q => ho pins s2 σ H2 x y v u Q I2 rx ry q)
theorem q6q {op : UnaryOp} {r : V -> Hp -> VK -> Prop} (ho : UnR X (unaryOp op) r) (ha : PE X a ta) : PE X (.UnaryOp op a pos) (tUn r ta) := by
  intro pins s σ H Q I h
  exact UnaryOp_ (thn (ha pins s σ H _ I h) fun v s1 ⟨x,H1,I1,r1,q1⟩ => ho pins s1 σ H1 x v Q I1 r1 q1)
theorem opI {f : Value -> Value -> Sem Value} {C : Int -> Int -> Prop} {g : Int -> Int -> Int}
    (rule : ∀ (i j : Int) (t u : Tok) (s : Shared) (Q : Value -> Shared -> Prop) (E : Value -> Shared -> Prop),C i j -> Q (.int (g i j) s.toks) { s with toks := s.toks + 1 } -> wpAny (model X.prog X.w) X.A (f (.int i t) (.int j u)) Q E s) :
    OpR X f (rI C fun i j => .int (g i j)) := by
  intro pins s σ H x y v u Q I rx ry h
  obtain ⟨i,j,rfl,rfl,hc,q⟩ := h
  obtain ⟨t,rfl⟩ := rx
  obtain ⟨t',rfl⟩ := ry
  exact rule i j t t' s _ _ hc ⟨.int (g i j),H,I.tok _,⟨_,rfl⟩,q⟩
theorem opI0 {f : Value -> Value -> Sem Value} {g : Int -> Int -> Int}
    (rule : ∀ (i j : Int) (t u : Tok) (s : Shared) (Q : Value -> Shared -> Prop) (E : Value -> Shared -> Prop),Q (.int (g i j) s.toks) { s with toks := s.toks + 1 } -> wpAny (model X.prog X.w) X.A (f (.int i t) (.int j u)) Q E s) :
    OpR X f (rI0 fun i j => .int (g i j)) := by
  intro pins s σ H x y v u Q I rx ry h
  obtain ⟨i,j,rfl,rfl,q⟩ := h
  obtain ⟨t,rfl⟩ := rx
  obtain ⟨t',rfl⟩ := ry
  exact rule i j t t' s _ _ ⟨.int (g i j),H,I.tok _,⟨_,rfl⟩,q⟩
theorem opB0 {f : Value -> Value -> Sem Value} {g : Int -> Int -> Bool}
    (rule : ∀ (i j : Int) (t u : Tok) (s : Shared) (Q : Value -> Shared -> Prop) (E : Value -> Shared -> Prop),Q (.bool (g i j)) s -> wpAny (model X.prog X.w) X.A (f (.int i t) (.int j u)) Q E s) :
    OpR X f (rI0 fun i j => .bl (g i j)) := by
  intro pins s σ H x y v u Q I rx ry h
  obtain ⟨i,j,rfl,rfl,q⟩ := h
  obtain ⟨t,rfl⟩ := rx
  obtain ⟨t',rfl⟩ := ry
  exact rule i j t t' s _ _ ⟨.bl (g i j),H,I,rfl,q⟩
def CDiv (i j : Int) : Prop := 0 < j /\ j < 1073741824
theorem q7u : OpR X (binaryOp .Add) (rI0 fun i j => .int (i + j)) := opI0 fun _ _ _ _ _ _ _ q => add_int q
theorem q4l : OpR X (binaryOp .FloorDiv) (rI CDiv fun i j => .int (i / j)) := opI fun i j _ _ _ _ _ hc q => by
  have h1 : (0 : Int) < j := hc.1
  have h2 : j < 1073741824 := hc.2
  exact floordiv_int (by omega) (by rw [Int.fdiv_eq_ediv_of_nonneg i (by omega)]; exact q) (.inl (PyProof.noPylong_small (by omega)))
theorem q2u : OpR X (binaryOp .Mod) (rI (fun _ j => 0 < j) fun i j => .int (i % j)) := opI fun i j _ _ _ _ _ hc q => by
  have h1 : (0 : Int) < j := hc
  exact mod_int' (by omega) (by rw [Int.fmod_eq_emod_of_nonneg i (by omega)]; exact q)
theorem unI {f : Value -> Sem Value} {g : Int -> Int}
    (rule : ∀ (i : Int) (t : Tok) (s : Shared) (Q : Value -> Shared -> Prop) (E : Value -> Shared -> Prop),Q (.int (g i) s.toks) { s with toks := s.toks + 1 } -> wpAny (model X.prog X.w) X.A (f (.int i t)) Q E s) :
    UnR X f (rU fun i => .int (g i)) := by
  intro pins s σ H x v Q I rx h
  obtain ⟨i,rfl,q⟩ := h
  obtain ⟨t,rfl⟩ := rx
  exact rule i t s _ _ ⟨.int (g i),H,I.tok _,⟨_,rfl⟩,q⟩
theorem q59 : UnR X (unaryOp .USub) (rU fun i => .int (-i)) := unI fun _ _ _ _ _ q => neg_int q
end
def scal : V -> V -> Bool
  | .non, .non => true | .non, .int _ => true | .int _, .non => true | .non, .bl _ => true | .bl _, .non => true | .non, .str _ => true | .str _, .non => true
  | .int _, .int _ => true | .bl _, .bl _ => true | .str _, .str _ => true | .byt _, .byt _ => true
  | .int _, .str _ => true | .str _, .int _ => true | .bl _, .str _ => true | .str _, .bl _ => true
  | _,_ => false
def rEq : R2 := fun x y H Q => scal x y = true /\ Q (.bl (decide (x = y))) H
def rNe : R2 := fun x y H Q => scal x y = true /\ Q (.bl (!decide (x = y))) H
theorem q8u {i j : Int} : decide (V.int i = V.int j) = (i == j) := by
  rw [Bool.eq_iff_iff]
  simp
theorem qa9 {i j : Bool} : decide (V.bl i = V.bl j) = (i == j) := by
  rw [Bool.eq_iff_iff]
  simp
theorem q8r {i j : Str} : decide (V.str i = V.str j) = (i == j) := by
  rw [Bool.eq_iff_iff]
  simp
theorem q8j {i j : Array UInt8} : decide (V.byt i = V.byt j) = (i.toList == j.toList) := by
  rw [Bool.eq_iff_iff]
  cases i
  cases j
  simp
section
variable {X : Cx} {a b c : Expr} {ta tb tc : TE} {pos : Pos}
theorem qx {pins : List (Addr × Obj)} {σ : St} {H : Hp} {s : Shared} {Q : VK} {k k' : Bool} (I : Inv X pins σ H s) (q : Q (.bl k) H) (e : k = k') : EP X pins σ Q (.bool k') s := by
  subst e
  exact ⟨.bl k,H,I,rfl,q⟩
theorem q2c : OpR X (compareOp .Eq) rEq := by
  intro pins s σ H x y v u Q I rx ry h
  obtain ⟨hs,q⟩ := h
  cases x with
  | non =>
    cases rx
    cases y with
    | non => cases ry; exact PySem.EqNone.eq_none_none (qx I q (by simp))
    | bl j => cases ry; exact PySem.EqNone.eq_none_bool (qx I q (by simp))
    | int j => obtain ⟨t',rfl⟩ := ry; exact PySem.EqNone.eq_none_int (qx I q (by simp))
    | str j => obtain ⟨t',rfl⟩ := ry; exact PySem.EqNone.eq_none_str (qx I q (by simp))
    | _ => exact absurd (show false = true from hs) Bool.false_ne_true
  | bl i =>
    cases rx
    cases y with
    | non => cases ry; exact PySem.EqNone.eq_bool_none (qx I q (by simp))
    | bl j => cases ry; exact eq_bool (qx I q qa9)
    | str j => obtain ⟨t',rfl⟩ := ry; exact PySem.EqMixed.eq_bool_str (qx I q (by simp))
    | _ => exact absurd (show false = true from hs) Bool.false_ne_true
  | int i =>
    obtain ⟨t,rfl⟩ := rx
    cases y with
    | non => cases ry; exact PySem.EqNone.eq_int_none (qx I q (by simp))
    | int j => obtain ⟨t',rfl⟩ := ry; exact eq_int (qx I q q8u)
    | str j => obtain ⟨t',rfl⟩ := ry; exact PySem.EqMixed.eq_int_str (qx I q (by simp))
    | _ => exact absurd (show false = true from hs) Bool.false_ne_true
  | str i =>
    obtain ⟨t,rfl⟩ := rx
    cases y with
    | non => cases ry; exact PySem.EqNone.eq_str_none (qx I q (by simp))
    | bl j => cases ry; exact PySem.EqMixed.eq_str_bool (qx I q (by simp))
    | int j => obtain ⟨t',rfl⟩ := ry; exact PySem.EqMixed.eq_str_int (qx I q (by simp))
    | str j => obtain ⟨t',rfl⟩ := ry; exact eq_str (qx I q q8r)
    | _ => exact absurd (show false = true from hs) Bool.false_ne_true
  | byt i =>
    obtain ⟨t,rfl⟩ := rx
    cases y with
    | byt j => obtain ⟨t',rfl⟩ := ry; exact PySem.W.eq_bytes (qx I q q8j)
    | _ => exact absurd (show false = true from hs) Bool.false_ne_true
  | _ => cases y <;> exact absurd (show false = true from hs) Bool.false_ne_true
theorem op_ne : OpR X (compareOp .NotEq) rNe := by
  intro pins s σ H x y v u Q I rx ry h
  obtain ⟨hs,q⟩ := h
  cases x with
  | non =>
    cases rx
    cases y with
    | non => cases ry; exact PySem.EqNone.ne_none_none (qx I q (by simp))
    | bl j => cases ry; exact PySem.EqNone.ne_none_bool (qx I q (by simp))
    | int j => obtain ⟨t',rfl⟩ := ry; exact PySem.EqNone.ne_none_int (qx I q (by simp))
    | str j => obtain ⟨t',rfl⟩ := ry; exact PySem.EqNone.ne_none_str (qx I q (by simp))
    | _ => exact absurd (show false = true from hs) Bool.false_ne_true
  | bl i =>
    cases rx
    cases y with
    | non => cases ry; exact PySem.EqNone.ne_bool_none (qx I q (by simp))
    | bl j => cases ry; exact ne_bool (qx I q (congrArg not qa9))
    | str j => obtain ⟨t',rfl⟩ := ry; exact PySem.EqMixed.ne_bool_str (qx I q (by simp))
    | _ => exact absurd (show false = true from hs) Bool.false_ne_true
  | int i =>
    obtain ⟨t,rfl⟩ := rx
    cases y with
    | non => cases ry; exact PySem.EqNone.ne_int_none (qx I q (by simp))
    | int j => obtain ⟨t',rfl⟩ := ry; exact ne_int (qx I q (congrArg not q8u))
    | str j => obtain ⟨t',rfl⟩ := ry; exact PySem.EqMixed.ne_int_str (qx I q (by simp))
    | _ => exact absurd (show false = true from hs) Bool.false_ne_true
  | str i =>
    obtain ⟨t,rfl⟩ := rx
    cases y with
    | non => cases ry; exact PySem.EqNone.ne_str_none (qx I q (by simp))
    | bl j => cases ry; exact PySem.EqMixed.ne_str_bool (qx I q (by simp))
    | int j => obtain ⟨t',rfl⟩ := ry; exact PySem.EqMixed.ne_str_int (qx I q (by simp))
    | str j => obtain ⟨t',rfl⟩ := ry; exact ne_str (qx I q (congrArg not q8r))
    | _ => exact absurd (show false = true from hs) Bool.false_ne_true
  | byt i =>
    obtain ⟨t,rfl⟩ := rx
    cases y with
    | byt j => obtain ⟨t',rfl⟩ := ry; exact PySem.W.ne_bytes (qx I q (congrArg not q8j))
    | _ => exact absurd (show false = true from hs) Bool.false_ne_true
  | _ => cases y <;> exact absurd (show false = true from hs) Bool.false_ne_true
theorem op_lt : OpR X (compareOp .Lt) (rI0 fun i j => .bl (decide (i < j))) := opB0 fun _ _ _ _ _ _ _ q => lt_int q
theorem op_ge : OpR X (compareOp .GtE) (rI0 fun i j => .bl (decide (j <= i))) := opB0 fun _ _ _ _ _ _ _ q => ge_int q
theorem q0n (b : Expr) {op : CmpOp} (h : op ≠ .In := by decide) (h2 : op ≠ .NotIn := by decide) : behindInMarks op b = false := by
  have e1 : (op == CmpOp.In) = false := by cases op <;> first | rfl | exact absurd rfl h
  have e2 : (op == CmpOp.NotIn) = false := by cases op <;> first | rfl | exact absurd rfl h2
  cases b <;> simp [behindInMarks,e1,e2]
theorem q3h {op : CmpOp} {r : R2} (ho : OpR X (compareOp op) r) (ha : PE X a ta) (hb : PE X b tb) (hm : behindInMarks op b = false) : PE X (.Compare a [op] [b] pos) (tOp r ta tb) := by
  intro pins s σ H Q I h
  exact wpAny_Compare1 (binT ha hb I h fun v u s2 x y H2 I2 rx ry q => ho pins s2 σ H2 x y v u Q I2 rx ry q) hm
def tTest (t : TE) : TT := fun σ H Q => t σ H fun x H' => ∃ k,x = .bl k /\ Q k H'
theorem q17 {op : CmpOp} {r : R2} (ho : OpR X (compareOp op) r) (ha : PE X a ta) (hb : PE X b tb) (hm : behindInMarks op b = false) : PT X (.Compare a [op] [b] pos) (tTest (tOp r ta tb)) := by
  intro pins s σ H Q I h
  refine wpAny_isTrue_Compare1 (thn (ha pins s σ H _ I h) fun v s1 ⟨x,H1,I1,r1,q1⟩ => thn (hb pins s1 σ H1 _ I1 q1) fun u s2 ⟨y,H2,I2,r2,q2⟩ =>
    thn (ho pins s2 σ H2 x y v u _ I2 r1 r2 q2) fun c s3 ⟨z,H3,I3,r3,k,e,q3⟩ => ?_) hm
  subst e
  cases r3
  exact wpAny_truthy_bool ⟨H3,I3,q3⟩
def TruV (K : PySem.W.Frag) (x : V) (H : Hp) (k : Bool) : Prop :=
  match x with
  | .non => k = false
  | .bl b => k = b
  | .int i => k = (i != 0)
  | .str y => y.length <= sizeLine /\ k = ((y.length : Int) != 0)
  | .byt y => y.size <= sizeLine /\ k = ((y.size : Int) != 0)
  | .ref p => (∃ xs,SqL K H p xs /\ k = !xs.isEmpty) \/ (∃ xs,SqT K H p xs /\ k = !xs.isEmpty) \/ ∃ kvs,H p = some (.dK kvs) /\ k = !kvs.isEmpty
  | _ => False
theorem q94 {κ : Type} {kvs : List (κ × V)} {vs : List (κ × Value)} (r : KV kvs vs) : (!vs.isEmpty) = !kvs.isEmpty := by
  cases r <;> rfl
theorem q5b {xs : List V} {its : List Value} (r : Vals xs its) : (!its.toArray.isEmpty) = !xs.isEmpty := by
  cases r <;> simp
theorem q2x : (sizeLine : Nat) < 2 ^ 63 := by rw [sizeLine_eq]; decide
theorem tru_ok : TruR X (fun x H Q => ∃ k,TruV X.K x H k /\ Q k H) := by
  intro pins s σ H x v Q I rx h
  obtain ⟨k,e,q⟩ := h
  have hl := q2x
  have hs : sizeLine = 16777216 := sizeLine_eq
  cases x with
  | non =>
    cases rx
    have e' : k = false := e
    subst e'
    exact truthy_none ⟨H,I,q⟩
  | bl b =>
    cases rx
    have e' : k = b := e
    subst e'
    exact wpAny_truthy_bool ⟨H,I,q⟩
  | int i =>
    obtain ⟨t,rfl⟩ := rx
    have e' : k = (i != 0) := e
    subst e'
    exact PySem.P.truthy_int ⟨H,I,q⟩
  | str y =>
    obtain ⟨t,rfl⟩ := rx
    obtain ⟨hy,e'⟩ : y.length <= sizeLine /\ k = ((y.length : Int) != 0) := e
    subst e'
    exact PySem.P.truthy_str (by omega) ⟨H,I.tok _,q⟩
  | byt y =>
    obtain ⟨t,rfl⟩ := rx
    obtain ⟨hy,e'⟩ : y.size <= sizeLine /\ k = ((y.size : Int) != 0) := e
    subst e'
    exact PySem.W.truthy_bytes (by omega) ⟨H,I.tok _,q⟩
  | ref p =>
    cases rx
    have e' : (∃ xs,SqL X.K H p xs /\ k = !xs.isEmpty) \/ (∃ xs,SqT X.K H p xs /\ k = !xs.isEmpty) \/ ∃ kvs,H p = some (.dK kvs) /\ k = !kvs.isEmpty := e
    rcases e' with ⟨xs,hx,e'⟩ | ⟨xs,hx,e'⟩ | ⟨kvs,hx,e'⟩
    . subst e'
      obtain ⟨its,r,pl,hz⟩ := I.list hx
      have hlen := r.length
      exact wpAny_truthy_list pl.isList (by simp only [List.size_toArray]; omega) ⟨H,I.tok _,by rw [q5b r]; exact q⟩
    . subst e'
      obtain ⟨its,r,pl,hz⟩ := I.tuple hx
      have hlen := r.length
      exact truthy_tuple pl (by simp only [List.size_toArray]; omega) ⟨H,I.tok _,by rw [q5b r]; exact q⟩
    . subst e'
      obtain ⟨hz,hS,vs,r,m⟩ : kvs.length <= sizeLine /\ (p == sysModules) = false /\ ∃ vs,KV kvs vs /\ s.heap.DictOf (q0m X.prog X.w) p vs := I.hok p _ hx
      have hlen : kvs.length = vs.length := Paired.length r
      exact wpAny_truthy_dict hS m (by omega) ⟨H,I.tok _,by rw [q94 r]; exact q⟩
  | _ => exact (show False from e).elim
theorem qbt (ha : PE X a ta) (he : ∀ whole,isTrue a X.env whole = (do let v <- whole; standAt a.pos; holding [v] (truthy v))) :
    PT X a (fun σ H Q => ta σ H fun x H' => ∃ k,TruV X.K x H' k /\ Q k H') := by
  intro pins s σ H Q I h
  exact isTrue_plain (thn (ha pins s σ H _ I h) fun v s1 ⟨x,H1,I1,r1,q1⟩ => tru_ok pins s1 σ H1 x v Q I1 r1 q1) (he _)
theorem q2n : OpR X (binaryOp .Add) (fun x y H Q => ∃ i j,x = .str i /\ y = .str j /\ i.length + j.length <= sizeLine /\ Q (.str (i ++ j)) H) := by
  intro pins s σ H x y v u Q I rx ry h
  obtain ⟨i,j,rfl,rfl,hz,q⟩ := h
  obtain ⟨t,rfl⟩ := rx
  obtain ⟨t',rfl⟩ := ry
  exact add_str (fun t' tk => ⟨.str (i ++ j),H,I.tok _,⟨_,rfl⟩,q⟩) hz
theorem vals1 {x : V} {us : List Value} (r : Vals [x] us) : ∃ u,us = [u] /\ RelV x u := by
  cases r with
  | cons r1 r2 => cases r2; exact ⟨_,rfl,r1⟩
theorem vals2 {x y : V} {us : List Value} (r : Vals [x,y] us) : ∃ u w',us = [u,w'] /\ RelV x u /\ RelV y w' := by
  cases r with
  | cons r1 r2 =>
    cases r2 with
    | cons r3 r4 => cases r4; exact ⟨_,_,rfl,r1,r3⟩
theorem qav (hc : X.calm = true) : q08 X (.builtin "min") (fun xs H Q => ∃ i j,xs = [.int i, .int j] /\ Q (.int (if j < i then j else i)) H) := by
  intro pins s σ H xs us Q I r h
  obtain ⟨i,j,rfl,q⟩ := h
  obtain ⟨u,w',rfl,⟨t,rfl⟩,⟨t',rfl⟩⟩ := vals2 r
  refine min_two_ints (I.ok.hd hc) fun h' tk k => ⟨_,H,I.kept k,?_,q⟩
  by_cases hj : j < i
  . rw [if_pos hj,if_pos hj]; exact ⟨_,rfl⟩
  . rw [if_neg hj,if_neg hj]; exact ⟨_,rfl⟩
theorem q82 : q08 X (.type "str") (fun xs H Q => ∃ i,xs = [.int i] /\ i.natAbs.log2 < 1920 /\ Q (.str (toString i)) H) := by
  intro pins s σ H xs us Q I r h
  obtain ⟨i,rfl,hz,q⟩ := h
  obtain ⟨u,rfl,t,rfl⟩ := vals1 r
  exact PySem.P.str_of_int hz ⟨.str _,H,I.tok _,⟨_,rfl⟩,q⟩
end
end L2
namespace L2
open PySem PySem.Spec PyProof.Rows
structure ObjM (h : Heap) (x dx C : Addr) (mA : Str -> Option Value) : Prop where
  obj : h.get? x = some (PySem.W.instObj C dx)
  ns : h.Ns1 dx mA
  ne : dx ≠ x
theorem q9v {h : Heap} {dx : Addr} {mA : Str -> Option Value} (n : h.Ns1 dx mA) : ∃ od,h.get? dx = some od /\ ∀ name,PySem.W.lookIn name od = some (mA name) := by
  obtain ⟨o,es,ep,ho,hd,hk,_,hm⟩ := n
  refine ⟨o,ho,fun name => ?_⟩
  have e := hm name
  unfold nsFind findBy at e
  rw [<- Array.find?_toList] at e
  unfold PySem.W.lookIn
  rw [hd]
  dsimp only
  split
  . rename_i y q
    rw [q] at e
    exact congrArg some e
  . rename_i q
    rw [q] at e
    have a : es.toList.any (·.refKey) = false := by
      rw [List.any_eq_false]
      intro y hy
      obtain ⟨z,t,hkey⟩ := hk y (Array.mem_toList_iff.mp hy)
      simp [DictEntry.refKey,hkey]
    have a' : ¬ es.toList.any (·.refKey) = true := by rw [a]; exact Bool.false_ne_true
    rw [if_neg a']
    exact congrArg some e
theorem ObjM.look {h : Heap} {x dx C : Addr} {mA : Str -> Option Value} (I : ObjM h x dx C mA) : ∃ od,PySem.W.InstAt h x (PySem.W.instObj C dx) C (some od) /\ ∀ name,PySem.W.lookIn name od = some (mA name) :=
  let ⟨od,ho,hl⟩ := q9v I.ns
  ⟨od,⟨I.obj,rfl,rfl,ho⟩,hl⟩
theorem RelO.some_of {v : V} {o : Option Value} (r : RelO (some v) o) : ∃ u,o = some u /\ RelV v u := by
  cases o with
  | none => exact (show False from r).elim
  | some u => exact ⟨u,rfl,r⟩
section
variable {P : Program} {w : World} {H H' : Hp} {h h' : Heap} {a C dx : Addr} {fs fs' : List (Str × V)}
theorem qcc (hok : HOk P w H h) (e : H a = some (.ins C dx fs)) : ∃ mA,ObjM h a dx C mA /\ (∀ f,RelO (fs.lookup f) (mA f)) /\ PySem.Within mA (fs.map (·.1)) /\ fs.length <= 1000 /\ H dx = some (.own a) := by
  obtain ⟨d,z,ne,ob,mA,n,r,q⟩ := (show q05 P w H h a (.ins C dx fs) from hok a _ e)
  exact ⟨mA,⟨ob,n,ne⟩,r,q,z,d⟩
end
structure Cls (K : PySem.W.Frag) (C : Addr) : Prop where
  pg : PySem.W.plainGet K C Str.empty = true
  hd : PySem.W.hasDictIn K C = true
  po : PySem.W.plainOver K C = true
  sa : PySem.W.findIn K (.ref C) "__setattr__" = some (some (.builtin "object.__setattr__"))
theorem Cls.get {K : PySem.W.Frag} {C : Addr} (c : Cls K C) (f : Str) : PySem.W.plainGet K C f = true := c.pg
def qay (K : PySem.W.Frag) (C : Addr) (f : Str) : Prop := PySem.W.findIn K (.ref C) f = some none
section
variable {X : Cx} {pins : List (Addr × Obj)} {σ : St} {H : Hp} {s : Shared} {A : Around} {E : Value -> Shared -> Prop} {Q : Value -> Shared -> Prop} {c : Value} {b : Bool}
inductive TyOf (K : PySem.W.Frag) (H : Hp) : V -> Value -> Prop where
  | non : TyOf K H .non (.type "NoneType")
  | bl (x : Bool) : TyOf K H (.bl x) (.type "bool")
  | int (i : Int) : TyOf K H (.int i) (.type "int")
  | str (x : Str) : TyOf K H (.str x) (.type "str")
  | flt (x : UInt64) : TyOf K H (.flt x) (.type "float")
  | lst {a : Addr} {xs : List V} (e : H a = some (.lst xs)) : TyOf K H (.ref a) (.type "list")
  | frz {a : Addr} {o : Obj} {xs : List V} (e : H a = some (.frz o (.lst xs))) : TyOf K H (.ref a) (.type "list")
  | tup {a : Addr} {xs : List V} (e : H a = some (.tup xs)) : TyOf K H (.ref a) (.type "tuple")
  | dK {a : Addr} {kvs : List (Key × V)} (e : H a = some (.dK kvs)) : TyOf K H (.ref a) (.type "dict")
  | dT {a : Addr} {kvs : List (List Key × V)} (e : H a = some (.dT kvs)) : TyOf K H (.ref a) (.type "dict")
  | ins {a C dx : Addr} {fs : List (Str × V)} (e : H a = some (.ins C dx fs)) (cl : Cls K C) (ha : PySem.W.findIn K (.ref C) "__class__" = some (some (.builtin "object.__class__")))
      (hn : PySem.W.specialIn K (.builtin "object.__class__") "__get__" = some (some (.builtin "getset_descriptor.__get__"))) (htk : PySem.W.takesIn K (.builtin "object.__class__") = some true)
      (hm : PySem.W.mroIn K C (.type "object") = some true) : TyOf K H (.ref a) (.ref C)
end
end L2
namespace L2
open PySem PySem.Spec PyProof.Rows
structure Room (k : Nat) (A : Around) : Prop where
  hd : A.handled = none
  dp : A.depth + 3 * k + 5 < recursionLimit
  un : A.units + 16 * k + 200 < cLine
theorem Room.mono {j k : Nat} {A : Around} (r : Room k A) (h : j <= k) : Room j A := ⟨r.hd,by have := r.dp; omega,by have := r.un; omega⟩
theorem Room.q9 {j k : Nat} {A : Around} (r : Room k A) (h : j <= k := by decide) : Room j A := r.mono h
theorem Room.deeper {k : Nat} {A : Around} (r : Room (k + 1) A) (env : Env) : Room k (A.deeper env) :=
  ⟨r.hd,by have := r.dp; show A.depth + 1 + 3 * k + 5 < _; omega,by have := r.un; show A.units + 3 + 16 * k + 200 < _; omega⟩
theorem Room.depth {k : Nat} {A : Around} (r : Room k A) : A.depth < recursionLimit := by have := r.dp; omega
theorem Room.units {k : Nat} {A : Around} (r : Room k A) : A.units + 64 < cLine := by have := r.un; omega
def tNil : TA := fun _ H Q => Q [] H
def q24 (ta : TE) (tr : TA) : TA := fun σ H Q => ta σ H fun x H1 => tr σ H1 fun xs H2 => Q (x :: xs) H2
section
variable {X : Cx} {e : Expr} {es : List Expr} {te : TE} {t : TA} {pos : Pos}
theorem ql : PA X [] tNil := fun _ _ _ _ H Q I h => Calls.spliced_nil ⟨[],H,I, .nil,h⟩
theorem qi (ha : PE X e te) (hr : PA X es t) (hs : starEach (e :: es) X.env = (false,eval e X.env) :: starEach es X.env := by rfl) : PA X (e :: es) (q24 te t) := by
  intro pos pins s σ H Q I h
  rw [hs]
  show wpAny _ _ (spliced ((false,eval e X.env) :: backTo pos (starEach es X.env))) _ _ s
  refine Calls.spliced_cons (thn (ha pins s σ H _ I h) fun u s1 ⟨x,H1,I1,r1,q1⟩ => ?_)
  exact thn (hr pos pins s1 σ H1 _ I1 q1) fun us s2 ⟨xs,H2,I2,r2,q2⟩ => ⟨x :: xs,H2,I2, .cons r1 r2,q2⟩
def tTup (t : TA) : TE := fun σ H Q => t σ H fun xs H1 => xs.length <= sizeLine /\ ∀ p,H1 p = none -> Q (.ref p) (upd H1 p (.tup xs))
def tLst (t : TA) : TE := fun σ H Q => t σ H fun xs H1 => xs.length <= sizeLine /\ ∀ p,H1 p = none -> Q (.ref p) (upd H1 p (.lst xs))
theorem q16 {x1} (h : PA X es t) : PE X (.Tuple es x1 pos) (tTup t) := by
  intro pins s σ H Q I hq
  refine wpAny_Tuple_spliced (thn (h pos pins s σ H _ I hq) fun us s1 ⟨xs,H1,I1,r,z,q⟩ => ⟨by rw [<- r.length]; exact z,?_⟩)
  have hf : H1 s1.heap.objs.size = none := I1.hok.fresh (Nat.le_refl _)
  refine ⟨.ref s1.heap.objs.size,upd H1 s1.heap.objs.size (.tup xs),I1.laid (t' := s1.toks) (fun b u e => Heap.get?_push_of_some _ e) (Nat.le_refl _) ?_,rfl,q _ hf⟩
  exact ⟨z,us,r,⟨_,Heap.get?_push_size _ rfl,rfl,_,rfl⟩⟩
theorem q2h (h : PA X es t) : PE X (.List es pos) (tLst t) := by
  intro pins s σ H Q I hq
  refine wpAny_List_spliced (thn (h pos pins s σ H _ I hq) fun us s1 ⟨xs,H1,I1,r,z,q⟩ => ⟨by rw [<- r.length]; exact z,?_⟩)
  have hf : H1 s1.heap.objs.size = none := I1.hok.fresh (Nat.le_refl _)
  refine ⟨.ref s1.heap.objs.size,upd H1 s1.heap.objs.size (.lst xs),I1.laid (t' := s1.toks) (fun b u e => Heap.get?_push_of_some _ e) (Nat.le_refl _) ?_,rfl,q _ hf⟩
  exact ⟨z,us,0,r,Heap.get?_push_size _ rfl⟩
end
abbrev Sp := List V -> Hp -> VK -> XK -> Prop
abbrev CXT := List Env -> Hp -> Shared -> XK -> Value -> Shared -> Prop
structure Env0 (P : Program) (w : World) (K : PySem.W.Frag) (mg : Str -> Option Value) (base : Heap) (A : Around) (outer : List Env) (s : Shared) (H : Hp) : Prop where
  frames : A.frames = some outer
  mod : Mod K mg base
  bs : ∀ b o,base.get? b = some o -> s.heap.get? b = some o /\ H b = none
  bsz : base.objs.size <= s.heap.objs.size
  funs : s.heap.FunFrames base outer
  frf : ∀ b ∈ frs outer,H b = none
  hok : HOk P w H s.heap
  bare : AllBare s.gens
def CE (outer : List Env) (P : Program) (w : World) (H : Hp) (s : Shared) (Q : VK) (u : Value) (s' : Shared) : Prop :=
  ∃ v H',s'.os = s.os /\ AllBare s'.gens /\ Un (frs outer) [] H H' s.heap s'.heap /\ HOk P w H' s'.heap /\ RelV v u /\ Q v H'
def CR (CX : CXT) (outer : List Env) (P : Program) (w : World) (H : Hp) (s : Shared) (Q : VK) (E : XK) (r : Result) (s' : Shared) : Prop :=
  match r with
  | .ok (.ret u) => CE outer P w H s Q u s'
  | .ok _ => False
  | .error e => CX outer H s E e s'
structure FnOk (P : Program) (w : World) (K : PySem.W.Frag) (mg : Str -> Option Value) (base : Heap) (CX : CXT) (k : Nat) (f : Addr) (fd : FuncData) (ps : List Str) (sp : Sp) : Prop where
  len : ∀ vs H Q E,sp vs H Q E -> vs.length = ps.length
  run : ∀ (A : Around) (outer : List Env) (s : Shared) (H : Hp) (args : Args) (us : List Value) (vs : List V) (Q : VK) (E : XK),Room k A -> Env0 P w K mg base A outer s H -> BindsTo s fd args (ps.zip us) -> Vals vs us -> sp vs H Q E ->
    codeAny (model P w) A (.call (.ref f) args) (CR CX outer P w H s Q E) s
theorem FnOk.imp {P : Program} {w : World} {K : PySem.W.Frag} {mg : Str -> Option Value} {base : Heap} {CX : CXT} {k : Nat} {f : Addr} {fd : FuncData} {ps : List Str} {sp sp' : Sp} (F : FnOk P w K mg base CX k f fd ps sp)
    (h : ∀ vs H Q E,sp' vs H Q E -> sp vs H Q E) : FnOk P w K mg base CX k f fd ps sp' :=
  ⟨fun vs H Q E q => F.len vs H Q E (h _ _ _ _ q),fun A outer s H args us vs Q E hr he hb hv hs => F.run A outer s H args us vs Q E hr he hb hv (h _ _ _ _ hs)⟩
section
variable {X : Cx} {pins : List (Addr × Obj)} {σ : St} {H : Hp} {s s' : Shared}
theorem Inv.env0 (I : Inv X pins σ H s) : Env0 X.prog X.w X.K X.mg X.base X.A X.stack s H :=
  ⟨I.ok.frames,I.ok.mod,I.bs,Nat.le_trans I.ok.bsz I.sz,I.stack,I.q8q,I.hok,I.bare⟩
theorem Inv.after {Q : VK} {u : Value} (I : Inv X pins σ H s) (h : CE X.stack X.prog X.w H s Q u s') : EP X pins σ Q u s' := by
  obtain ⟨v,H',os,bare,un,hok,r,q⟩ := h
  obtain ⟨hh,g,d,t,os'⟩ := s'
  obtain rfl : os' = s.os := os
  exact ⟨v,H',I.call (h' := hh) (g' := g) (d' := d) (t' := t) (ch := []) un hok bare (fun b z => absurd z (by simp)),r,q⟩
end
def tCall (sp : Sp) (dvs : List V) (E : XK) (t : TA) : TE := fun σ H Q => t σ H fun vs H1 => sp (vs ++ dvs) H1 Q E
def Binds (K : PySem.W.Frag) (fd : FuncData) (ps : List Str) (ds : List Value) : Prop :=
  ∀ (s : Shared) (us : List Value),K.In s.heap -> (us ++ ds).length = ps.length -> BindsTo s fd ⟨us,[]⟩ (ps.zip (us ++ ds))
theorem Binds.all {K : PySem.W.Frag} {fd : FuncData} {ps : List Str} (h : ∀ us : List Value,us.length = ps.length -> bindArgs fd ⟨us,[]⟩ = pure (ps.zip us)) : Binds K fd ps [] := fun s us _ hl => by
  rw [List.append_nil] at hl ⊢
  exact .of_eq (h us hl)
def Passes (CX : CXT) (X : Cx) (E : XK) : Prop := ∀ (pins : List (Addr × Obj)) (σ : St) (H : Hp) (s : Shared) (e : Value) (s' : Shared),Inv X pins σ H s -> CX X.stack H s E e s' -> X.xe e s'
section
variable {X : Cx} {CX : CXT} {k : Nat} {f C : Addr} {fd : FuncData} {ps : List Str} {sp : Sp} {dvs : List V} {ds : List Value} {E : XK} {x m : Str} {p pos apos : Pos} {e o : Expr} {es : List Expr} {ta : TE} {t : TA}
theorem run_fn {pins : List (Addr × Obj)} {σ : St} {H : Hp} {s : Shared} {Q : VK} {us : List Value} {vs : List V} (F : FnOk X.prog X.w X.K X.mg X.base CX k f fd ps sp) (hr : Room k X.A) (hb : Binds X.K fd ps ds) (hd : Vals dvs ds) (hx : Passes CX X E)
    (I : Inv X pins σ H s) (r : Vals vs us) (h : sp (vs ++ dvs) H Q E) : wpAny (model X.prog X.w) X.A (call (.ref f) us) (EP X pins σ Q) X.xe s := by
  have r2 : Vals (vs ++ dvs) (us ++ ds) := r.append hd
  have hl : (us ++ ds).length = ps.length := by rw [<- r2.length]; exact F.len _ _ _ _ h
  refine wpAny_call (codeAny_mono (F.run X.A X.stack s H ⟨us,[]⟩ (us ++ ds) (vs ++ dvs) Q E hr I.env0 (hb s us I.kIn hl) r2 h) fun r s' hq => ?_)
  cases r with
  | error e => exact hx pins σ H s e s' I hq
  | ok fl =>
    cases fl with
    | ret u => exact I.after hq
    | next => exact False.elim hq
    | brk => exact False.elim hq
    | cont => exact False.elim hq
theorem q0q (F : FnOk X.prog X.w X.K X.mg X.base CX k f fd ps sp) (hr : Room k X.A) (hg : Gl X x) (hm : X.mg x = some (.ref f)) (hk : PySem.W.keepIn X.K (.ref f) = true) (hb : Binds X.K fd ps ds) (hd : Vals dvs ds) (hx : Passes CX X E)
    (ha : PA X (e :: es) t) (hdb : (x == ("__debug__" : Str)) = false := by decide) (he : starEach (e :: es) X.env = (false,eval e X.env) :: starEach es X.env := by rfl) (hpl : (backTo pos (starEach es X.env)).any (·.1) = false := by rfl) :
    PE X (.Call (.Name x p) (e :: es) [] pos) (tCall sp dvs E t) := by
  intro pins s σ H Q I h
  refine wpAny_Call_Name_kw (qcm I hg hm ?_ hdb)
  refine PySem.W.callWith_K (h₀ := X.base) I.ok.mod.kin hk (thn (ha pos pins s σ H _ I h) fun us s1 ⟨vs,H1,I1,r,q⟩ => ⟨I1.kIn,?_⟩) he hpl
  exact run_fn F hr hb hd hx I1 r q
end
structure q15 (N P : List Str) (sc : Scope) : Prop where
  kind : sc.kind = .function
  co : sc.isCoroutine = false
  gen : sc.isGenerator = false
  nd : N.Nodup
  pre : N.take P.length = P
  par : ∀ x ∈ P,sc.names.lookup x = some .local \/ sc.names.lookup x = some .cell
  nofree : ∀ y ∈ sc.names,y.2 ≠ .free
theorem q61 {kindOf : Str -> Option NameKind} {x : Str} : ∀ {binds : List (Str × Value)} {m : Str -> Option Value},(∀ v,(x,v) ∉ binds) -> bindL kindOf binds m x = m x
  | [],_,_ => rfl
  | (n,v) :: r,m,h => by
    unfold bindL
    rw [q61 fun w hw => h w (List.mem_cons_of_mem _ hw)]
    split
    . have : x ≠ n := by rintro rfl; exact h v List.mem_cons_self
      simp [this]
    . rfl
theorem q6a {kindOf : Str -> Option NameKind} {x : Str} : ∀ {binds : List (Str × Value)} {m : Str -> Option Value},(∀ v,(x,v) ∉ binds) -> bindC kindOf binds m x = m x
  | [],_,_ => rfl
  | (n,v) :: r,m,h => by
    unfold bindC
    rw [q6a fun w hw => h w (List.mem_cons_of_mem _ hw)]
    split
    . rfl
    . have : x ≠ n := by rintro rfl; exact h v List.mem_cons_self
      simp [this]
theorem q67 {kindOf : Str -> Option NameKind} {x : Str} {v : Value} : ∀ {P : List Str} {vs : List Value} {i : Nat} {m : Str -> Option Value},P.Nodup -> P[i]? = some x -> vs[i]? = some v -> kindOf x = some .local ->
    bindL kindOf (P.zip vs) m x = some v
  | [],_,_,_,_,h,_,_ => by simp at h
  | _ :: _,[],_,_,_,_,h,_ => by simp at h
  | p :: P,w :: vs,0,m,nd,h1,h2,hk => by
    simp at h1 h2; subst h1; subst h2
    show bindL kindOf ((p,w) :: P.zip vs) m p = _
    unfold bindL
    rw [q61 fun v hv => (List.nodup_cons.mp nd).1 (List.of_mem_zip hv).1,if_pos hk]
    simp
  | p :: P,w :: vs,i + 1,m,nd,h1,h2,hk => by
    show bindL kindOf ((p,w) :: P.zip vs) m x = _
    unfold bindL
    exact q67 (i := i) (List.nodup_cons.mp nd).2 (by simpa using h1) (by simpa using h2) hk
theorem q62 {kindOf : Str -> Option NameKind} {x : Str} {v : Value} : ∀ {P : List Str} {vs : List Value} {i : Nat} {m : Str -> Option Value},P.Nodup -> P[i]? = some x -> vs[i]? = some v -> kindOf x ≠ some .local ->
    bindC kindOf (P.zip vs) m x = some v
  | [],_,_,_,_,h,_,_ => by simp at h
  | _ :: _,[],_,_,_,_,h,_ => by simp at h
  | p :: P,w :: vs,0,m,nd,h1,h2,hk => by
    simp at h1 h2; subst h1; subst h2
    show bindC kindOf ((p,w) :: P.zip vs) m p = _
    unfold bindC
    rw [q6a fun v hv => (List.nodup_cons.mp nd).1 (List.of_mem_zip hv).1,if_neg hk]
    simp
  | p :: P,w :: vs,i + 1,m,nd,h1,h2,hk => by
    show bindC kindOf ((p,w) :: P.zip vs) m x = _
    unfold bindC
    exact q62 (i := i) (List.nodup_cons.mp nd).2 (by simpa using h1) (by simpa using h2) hk
def start (N : List Str) (vs : List V) : St := vs.map some ++ List.replicate (N.length - vs.length) none
def cxOf (CX : CXT) (P : Program) (w : World) (K : PySem.W.Frag) (mg : Str -> Option Value) (base : Heap) (N : List Str) (qual : Str) (scope : Scope) (f : Addr) (cd : Value) (A : Around) (outer : List Env) (s : Shared) (H : Hp) (E : XK) : Cx where
  prog := P
  w := w
  K := K
  mg := mg
  base := base
  A := A.deeper (envOfC qual scope s.heap.objs.size f cd)
  N := N
  s₀ := s
  H₀ := H
  env := envOfC qual scope s.heap.objs.size f cd
  outer := outer
  stack := envOfC qual scope s.heap.objs.size f cd :: outer
  ex := []
  calm := true
  fn := fun _ => true
  pn := []
  xe := fun e s' => wpAny (model P w) (A.deeper (envOfC qual scope s.heap.objs.size f cd)) (leaving (envOfC qual scope s.heap.objs.size f cd) e) (fun _ s'' => CX outer H s E e s'') (fun e' s'' => CX outer H s E e' s'') s'
theorem q7g {sc : Scope} {n : Nat} {x : Str} (h : sc.names.lookup x = some .cell) : ∃ c,(cellsFrom n sc.names []).lookup x = some c := by
  have q := PySem.W.cellsFrom_some sc.names n [] (.inl h)
  exact Option.isSome_iff_exists.mp q
theorem qar {CX : CXT} {P : Program} {w : World} {K : PySem.W.Frag} {mg : Str -> Option Value} {base : Heap} {N ps : List Str} {qual : Str} {scope : Scope} {f : Addr} {cd : Value} {A : Around} {outer : List Env} {s s1 : Shared} {H : Hp} {E : XK} {us : List Value} {vs : List V}
    (S : q15 N ps scope) (hd : A.handled = none) (e0 : Env0 P w K mg base A outer s H) (hl : vs.length = ps.length) (r : Vals vs us)
    (x : InCallC s s.heap.objs.size (bindL (envOfC qual scope s.heap.objs.size f cd).kindOf (ps.zip us) fun _ => none) (cellsFrom (s.heap.objs.size + 1) scope.names []) (bindC (envOfC qual scope s.heap.objs.size f cd).kindOf (ps.zip us) fun _ => none) s1) :
    Inv (cxOf CX P w K mg base N qual scope f cd A outer s H E) [] (start N vs) H s1 := by
  have hpl : ps.length <= N.length := by have := congrArg List.length S.pre; rw [List.length_take] at this; omega
  obtain ⟨h1,tk,rfl,hk⟩ := x.done
  have noA : ∀ b : Addr,b ∉ (cxOf CX P w K mg base N qual scope f cd A outer s H E).ex := fun b z => absurd (show b ∈ ([] : List Addr) from z) (by simp)
  refine ⟨⟨e0.mod,S.kind,rfl,rfl,Nat.le_refl _,fun y z c h1 h2 => ?_,fun y hy => ?_,fun y c _ h => ?_,fun _ => hd,Around.frames_deeper e0.frames, .inr ⟨rfl,rfl⟩,fun b z => absurd z (noA b),e0.bs,e0.bsz,fun b _ _ => noA b,fun b z => absurd z (noA b),e0.funs,e0.frf⟩,
    rfl,e0.bare,Un.kept hk,⟨_,x.toInCall.ns,fun i y v h1 h2 h3 => ?_⟩,fun y c h => ⟨_,x.cell y c h⟩,e0.hok.fresh (Nat.le_refl _),fun y c h => ?_,fun p hp => absurd (show p ∈ ([] : List (Addr × Obj)) from hp) (by simp),e0.hok.kept hk,?_⟩
  . exact name_of_addr x.apart (PySem.mem_of_lookup h1) (PySem.mem_of_lookup h2)
  . have hy : scope.names.lookup y = some .cell \/ scope.names.lookup y = some .free := hy
    rcases hy with hy | hy
    . exact q7g hy
    . exact absurd rfl (S.nofree _ (PySem.mem_of_lookup hy))
  . exact Nat.le_of_lt (x.above y c (PySem.mem_of_lookup h))
  . have hi : i < vs.length := by
      unfold start at h2
      by_cases hi : i < vs.length
      . exact hi
      . rw [List.getElem?_append_right (by simpa using hi)] at h2
        rw [List.getElem?_replicate] at h2
        split at h2 <;> cases h2
    have ha : vs[i]? = some v := by
      unfold start at h2
      rw [List.getElem?_append_left (by simpa using hi),List.getElem?_map] at h2
      cases e : vs[i]? with
      | none => rw [e] at h2; cases h2
      | some a => rw [e] at h2; cases h2; rfl
    obtain ⟨u,hu,rv⟩ := r.get ha
    have hp : ps[i]? = some y := by
      rw [<- S.pre,List.getElem?_take_of_lt (by omega)]; exact h1
    have ndP : ps.Nodup := by rw [<- S.pre]; exact S.nd.sublist (List.take_sublist _ _)
    refine ⟨u,rv,?_⟩
    rcases S.par y (List.mem_of_getElem? hp) with k | k
    . exact .inl ⟨k,q67 ndP hp hu k⟩
    . obtain ⟨c,e⟩ := q7g (n := s.heap.objs.size + 1) k
      refine .inr ⟨.inl k,c,e,?_⟩
      have q := x.cell y c e
      rw [q62 ndP hp hu (by show scope.names.lookup y ≠ _; rw [k]; decide)] at q
      exact q
  . exact e0.hok.fresh (Nat.le_of_lt (x.above y c (PySem.mem_of_lookup h)))
  . unfold start
    show _ = N.length
    rw [List.length_append,List.length_map,List.length_replicate]
    omega
theorem fn_of {CX : CXT} {P : Program} {w : World} {K : PySem.W.Frag} {mg : Str -> Option Value} {base : Heap} {k : Nat} {f : Addr} {name qual : Str} {params : Arguments} {body : List Stmt} {scope : Scope} {dV kV doc pm cdv ct oc : Value} {an od : Option Addr}
    {osl : Array (Option Value)} {N ps : List Str} {sp : Sp} (lk : K.lookup f = some ⟨oc,od, .func (PySem.W.fnOf name qual params body scope dV kV doc pm an cdv ct),osl⟩) (hcd : PySem.W.codeIn K cdv qual = true) (S : q15 N ps scope)
    (len : ∀ vs H Q E,sp vs H Q E -> vs.length = ps.length)
    (hbody : ∀ (A : Around) (outer : List Env) (s : Shared) (H : Hp) (vs : List V) (Q : VK) (E : XK),Room k (A.deeper (envOfC qual scope s.heap.objs.size f cdv)) -> sp vs H Q E ->
      ∃ t,PSs (cxOf CX P w K mg base N qual scope f cdv A outer s H E) body t /\ t { nx := fun _ H' => Q .non H',rt := Q } (start N vs) H) :
    FnOk P w K mg base CX (k + 1) f (PySem.W.fnOf name qual params body scope dV kV doc pm an cdv ct) ps sp := by
  refine ⟨len,fun A outer s H args us vs Q E hr e0 hb r hsp => ?_⟩
  have hl := len _ _ _ _ hsp
  have KX : K.In s.heap := e0.mod.kin.keeps fun b o e => (e0.bs b o e).1
  have lim : s.heap.NoLimit := e0.mod.nolimit.keeps fun b o e => (e0.bs b o e).1
  have hkind : ∀ y ∈ ps.zip us,scope.names.lookup y.1 = some .local \/ (scope.names.lookup y.1 = some .cell /\ ((cellsFrom (s.heap.objs.size + 1) scope.names []).lookup y.1).isSome = true) := fun ⟨n,v⟩ hy => by
    rcases S.par n (List.of_mem_zip hy).1 with q | q
    . exact .inl q
    . exact .inr ⟨q,PySem.W.cellsFrom_some _ _ _ (.inl q)⟩
  refine codeAny_call_function hr.depth (KX _ _ lk) rfl S.co S.gen rfl (PySem.W.codeRec_of KX hcd) (hb _ _ _ _ ?_)
  refine wpAny_newFunctionEnv_cells S.kind hkind fun env he s1 x => ?_
  subst he
  refine ⟨lim.keeps x.toInCall.keep,codeAny_func ?_⟩
  obtain ⟨t,ht,hq⟩ := hbody A outer s H vs Q E (hr.deeper _) hsp
  have I : Inv (cxOf CX P w K mg base N qual scope f cdv A outer s H E) [] (start N vs) H s1 := qar S hr.hd e0 hl r x
  refine wpAny_mono (ht [] s1 (start N vs) H _ I hq) (fun fl s' hs => ?_) fun e s' hs => hs
  have fin : ∀ {σ' : St} {H' : Hp} {v : V} {u : Value},Inv (cxOf CX P w K mg base N qual scope f cdv A outer s H E) [] σ' H' s' -> RelV v u -> Q v H' -> CE outer P w H s Q u s' :=
    fun {σ' H' v u} J rv q => ⟨v,H',J.os,J.bare,J.base,J.hok,rv,q⟩
  cases fl with
  | ret u =>
    obtain ⟨v, σ',H',J,rv,q⟩ := hs
    exact fin J rv q
  | next =>
    obtain ⟨σ',H',J,q⟩ := hs
    exact fin (v := V.non) (u := Value.none) J rfl q
  | brk =>
    obtain ⟨_,_,_,q⟩ := hs
    exact False.elim q
  | cont =>
    obtain ⟨_,_,_,q⟩ := hs
    exact False.elim q
end L2
namespace L2
open PySem PySem.Spec PyProof.Rows
section
variable {X : Cx} {x : Str} {p pos : Pos} {e : Expr} {es : List Expr} {t : TA} {id T : String} {r : List V -> Hp -> VK -> Prop}
def tCB (r : List V -> Hp -> VK -> Prop) (t : TA) : TE := fun σ H Q => t σ H fun vs H1 => r vs H1 Q
theorem q01 (hc : q08 X (.builtin id) r) (hg : Gl X x) (hm : X.mg x = none) (hv : bootBuiltins x = some (.builtin id)) (ha : PA X (e :: es) t) (hn : x ≠ "__name__" := by decide) (hdb : (x == ("__debug__" : Str)) = false := by decide)
    (he : starEach (e :: es) X.env = (false,eval e X.env) :: starEach es X.env := by rfl) (hpl : (backTo pos (starEach es X.env)).any (·.1) = false := by rfl) : PE X (.Call (.Name x p) (e :: es) [] pos) (tCB r t) := by
  intro pins s σ H Q I h
  refine wpAny_Call_Name_kw (q5i I hg hm hv ?_ hn hdb)
  exact PyProof.Rows.callWith_builtin1 (thn (ha pos pins s σ H _ I h) fun us s1 ⟨vs,H1,I1,r1,q1⟩ => hc pins s1 σ H1 vs us Q I1 r1 q1) he hpl
theorem q1k (hc : q08 X (.type T) r) (hg : Gl X x) (hm : X.mg x = none) (hv : bootBuiltins x = some (.type T)) (ha : PA X (e :: es) t) (hn : x ≠ "__name__" := by decide) (hdb : (x == ("__debug__" : Str)) = false := by decide)
    (he : starEach (e :: es) X.env = (false,eval e X.env) :: starEach es X.env := by rfl) (hpl : (backTo pos (starEach es X.env)).any (·.1) = false := by rfl) : PE X (.Call (.Name x p) (e :: es) [] pos) (tCB r t) := by
  intro pins s σ H Q I h
  refine wpAny_Call_Name_kw (q5i I hg hm hv ?_ hn hdb)
  exact PyProof.Rows.callWith_type1 (thn (ha pos pins s σ H _ I h) fun us s1 ⟨vs,H1,I1,r1,q1⟩ => hc pins s1 σ H1 vs us Q I1 r1 q1) he hpl
end
end L2
namespace HT
open PySem PyProof.Rows
section
variable {prog : Program} {w : World} {A : Around} {E : Value -> Shared -> Prop} {s : Shared}
def sIx (n d : Nat) : Option Int -> Nat
  | none => d
  | some v => if v < 0 then (v + (n : Int)).toNat else min v.toNat n
theorem qb9 (n d : Nat) : sIx n d none = d := rfl
theorem qcf (n d k : Nat) : sIx n d (some (k : Int)) = min k n := by
  show (if (k : Int) < 0 then ((k : Int) + (n : Int)).toNat else min (k : Int).toNat n) = min k n
  rw [if_neg (by omega),Int.toNat_natCast]
end
end HT
namespace L2
open PySem PySem.Spec PyProof.Rows
abbrev TO := St -> Hp -> (Option Int -> Hp -> Prop) -> Prop
def PO (X : Cx) (e : Option Expr) (t : TO) : Prop :=
  ∀ (pins : List (Addr × Obj)) (s : Shared) (σ : St) (H : Hp) (Q : Option Int -> Hp -> Prop),Inv X pins σ H s -> t σ H Q ->
    wpAny (model X.prog X.w) X.A (evalPart e X.env) (fun u s' => ∃ o H',Inv X pins σ H' s' /\ IsPart u o /\ Q o H') X.xe s
def q8n : TO := fun _ H Q => Q none H
def tPart (t : TE) : TO := fun σ H Q => t σ H fun x H1 => ∃ i,x = .int i /\ Q (some i) H1
section
variable {X : Cx} {e : Expr} {te : TE} {lo hi : Option Expr} {tl th : TO} {pos p2 : Pos}
theorem qd1 : PO X none q8n := by
  intro pins s σ H Q I h
  rw [evalPart_none]
  exact wpAny_pure ⟨none,H,I, .none,h⟩
theorem qcw (h : PE X e te) : PO X (some e) (tPart te) := by
  intro pins s σ H Q I hw
  rw [evalPart_some]
  refine thn (h pins s σ H _ I hw) fun u s1 ⟨x,H1,I1,r1,q1⟩ => ?_
  obtain ⟨i,rfl,q⟩ := q1
  obtain ⟨t,rfl⟩ := r1
  exact ⟨some i,H1,I1, .int i t,q⟩
def SlR (X : Cx) (r : V -> Option Int -> Option Int -> Hp -> VK -> Prop) : Prop :=
  ∀ (pins : List (Addr × Obj)) (s : Shared) (σ : St) (H : Hp) (x : V) (v vl vu : Value) (lo hi : Option Int) (sl : Addr) (Q : VK),Inv X pins σ H s -> RelV x v -> s.heap.IsSliceOf sl vl vu .none -> IsPart vl lo -> IsPart vu hi -> r x lo hi H Q ->
    ∃ T id,typeLookup (.type T) "__getitem__" = pure (some (.builtin id)) /\ s.TypeIs v T /\ wpAny (model X.prog X.w) X.A (getItem v (.ref sl)) (EP X pins σ Q) X.xe s
def tSl (r : V -> Option Int -> Option Int -> Hp -> VK -> Prop) (te : TE) (tl th : TO) : TE := fun σ H Q => te σ H fun x H1 => tl σ H1 fun l H2 => th σ H2 fun u H3 => r x l u H3 Q
theorem qc3 {r : V -> Option Int -> Option Int -> Hp -> VK -> Prop} (hr : SlR X r) (he : PE X e te) (hl : PO X lo tl) (hu : PO X hi th) : PE X (.Subscript e (.Slice lo hi none p2) pos) (tSl r te tl th) := by
  intro pins s σ H Q I h
  refine Subscript_ (thn (he pins s σ H _ I h) fun v s1 ⟨x,H1,I1,r1,q1⟩ => ?_)
  refine wpAny_Slice (thn (hl pins s1 σ H1 _ I1 q1) fun vl s2 ⟨l,H2,I2,pl,q2⟩ => thn (hu pins s2 σ H2 _ I2 q2) fun vu s3 ⟨u,H3,I3,pu,q3⟩ => ?_)
  rw [evalPart_none]
  refine wpAny_pure ?_
  have I4 : Inv X pins σ H3 { s3 with heap := s3.heap.push { cls := .type "slice",data := .fields #[vl,vu, .none] } } := I3.kept (t' := s3.toks) fun b ob q => Heap.get?_push_of_some _ q
  obtain ⟨T,id,hT,ht,hg⟩ := hr pins { s3 with heap := s3.heap.push { cls := .type "slice",data := .fields #[vl,vu, .none] } } σ H3 x v vl vu l u s3.heap.objs.size Q I4 r1 (Heap.IsSliceOf.new ..) pl pu q3
  show wpAny (model X.prog X.w) X.A (subscriptTail e (.Slice lo hi none p2) v (.ref s3.heap.objs.size)) (EP X pins σ Q) X.xe { s3 with heap := s3.heap.push { cls := .type "slice",data := .fields #[vl,vu, .none] } }
  exact tail_any (ops := [.ref s3.heap.objs.size,v]) ht hT hg (by with_unfolding_all rfl)
def cutV (xs : List V) (lo hi : Option Int) : List V := (xs.drop (HT.sIx xs.length 0 lo)).take (HT.sIx xs.length xs.length hi - HT.sIx xs.length 0 lo)
theorem q8a (xs : List V) (lo hi : Option Int) : (cutV xs lo hi).length <= xs.length := by
  unfold cutV
  rw [List.length_take,List.length_drop]
  omega
end
end L2
namespace L2
open PySem PySem.Spec PyProof.Rows
def ixN (n : Nat) (i : Int) : Option Nat := if 0 <= i then (if i < n then some i.toNat else none) else if -(n : Int) <= i then some (i + n).toNat else none
def atI {α : Type} (xs : List α) (i : Int) : Option α := (ixN xs.length i).bind fun j => xs[j]?
theorem q8s {n : Nat} {i : Int} {j : Nat} (h : ixN n i = some j) : seqIndex? i n = some j /\ j < n /\ -(n : Int) <= i /\ i < n := by
  unfold ixN at h
  by_cases h0 : 0 <= i
  . rw [if_pos h0] at h
    by_cases h1 : i < n
    . rw [if_pos h1] at h
      have e : i.toNat = j := Option.some.inj h
      exact ⟨by rw [seqIndex_of h0 h1,e],by omega,by omega,h1⟩
    . rw [if_neg h1] at h; cases h
  . rw [if_neg h0] at h
    by_cases h1 : -(n : Int) <= i
    . rw [if_pos h1] at h
      have e : (i + n).toNat = j := Option.some.inj h
      exact ⟨by rw [seqIndex_neg (by omega) h1,e],by omega,h1,by omega⟩
    . rw [if_neg h1] at h; cases h
theorem q5z {α : Type} {xs : List α} {i : Int} {v : α} (h : atI xs i = some v) : ∃ j,seqIndex? i xs.length = some j /\ xs[j]? = some v /\ j < xs.length /\ -(xs.length : Int) <= i /\ i < xs.length := by
  unfold atI at h
  cases e : ixN xs.length i with
  | none => rw [e] at h; cases h
  | some j =>
    rw [e] at h
    obtain ⟨h1,h2,h3,h4⟩ := q8s e
    exact ⟨j,h1,h,h2,h3,h4⟩
theorem q2r {α : Type} {xs : List α} {j : Nat} {v : α} (h : xs[j]? = some v) : atI xs (j : Int) = some v := by
  have hj : j < xs.length := (List.getElem?_eq_some_iff.mp h).1
  have e : ixN xs.length (j : Int) = some j := by
    unfold ixN
    rw [if_pos (by omega),if_pos (by omega)]; simp
  unfold atI; rw [e]; exact h
theorem qbx {α : Type} (xs : List α) (v : α) : atI (xs ++ [v]) (-1) = some v := by
  have hl : (xs ++ [v]).length = xs.length + 1 := by simp
  have e : ixN (xs ++ [v]).length (-1) = some xs.length := by
    unfold ixN
    rw [hl,if_neg (by decide),if_pos (by omega)]
    congr 1
    omega
  unfold atI
  rw [e]
  show (xs ++ [v])[xs.length]? = some v
  simp
def qcj (b : Expr) : Prop := ∀ o i,subscripted b false o i = operate [o,i] (getItem o i)
def IxR (X : Cx) (r : R2) : Prop :=
  ∀ (value slice : Expr) (pins : List (Addr × Obj)) (s : Shared) (σ : St) (H : Hp) (x y : V) (v u : Value) (Q : VK),Inv X pins σ H s -> RelV x v -> RelV y u -> r x y H Q ->
    subscripted slice false v u = operate [v,u] (getItem v u) -> wpAny (model X.prog X.w) X.A (subscriptTail value slice v u) (EP X pins σ Q) X.xe s
def MtR (X : Cx) (id : String) (r : V -> List V -> Hp -> VK -> Prop) : Prop :=
  ∀ (pins : List (Addr × Obj)) (s : Shared) (σ : St) (H : Hp) (x : V) (xs : List V) (v : Value) (us : List Value) (Q : VK),Inv X pins σ H s -> RelV x v -> Vals xs us -> r x xs H Q ->
    wpAny (model X.prog X.w) X.A (call (.builtin id) (v :: us)) (EP X pins σ Q) X.xe s
section
variable {X : Cx} {a b : Expr} {ta tb : TE} {pos : Pos}
theorem IxR.or {r r' : R2} (h : IxR X r) (h' : IxR X r') : IxR X (fun x y H Q => r x y H Q \/ r' x y H Q) := by
  intro value slice pins s σ H x y v u Q I rx ry q hs
  rcases q with q | q
  . exact h value slice pins s σ H x y v u Q I rx ry q hs
  . exact h' value slice pins s σ H x y v u Q I rx ry q hs
theorem q0j {r : R2} (hr : IxR X r) (ha : PE X a ta) (hb : PE X b tb) (hs : qcj b) : PE X (.Subscript a b pos) (tOp r ta tb) := by
  intro pins s σ H Q I h
  exact Subscript_ (binT ha hb I h fun v u s2 x y H2 I2 rx ry q => hr a b pins s2 σ H2 x y v u Q I2 rx ry q (hs _ _))
def rIxL (K : PySem.W.Frag) : R2 := fun x y H Q => ∃ p xs i v,x = .ref p /\ y = .int i /\ SqL K H p xs /\ atI xs i = some v /\ Q v H
def rIxT (K : PySem.W.Frag) : R2 := fun x y H Q => ∃ p xs i v,x = .ref p /\ y = .int i /\ SqT K H p xs /\ atI xs i = some v /\ Q v H
def rIxS : R2 := fun x y H Q => ∃ z i c,x = .str z /\ y = .int i /\ z.length <= sizeLine /\ atI z.cps.toList i = some c /\ Q (.str ⟨#[c]⟩) H
theorem qcu : IxR X (rIxL X.K) := by
  intro value slice pins s σ H x y v u Q I rx ry h hs
  obtain ⟨p,xs,i,z,rfl,rfl,hq,he,q⟩ := h
  cases rx
  obtain ⟨t,rfl⟩ := ry
  obtain ⟨its,r,pl,hz⟩ := I.list hq
  obtain ⟨j,h1,h2,h3,h4,h5⟩ := q5z he
  obtain ⟨w,ew,rw'⟩ := r.get h2
  have hl := r.length
  have hn := q2x
  have fin : EP X pins σ Q w s := ⟨z,H,I,rw',q⟩
  by_cases h0 : 0 <= i
  . have hj : i.toNat = j := by
      rw [seqIndex_of h0 h5] at h1
      exact Option.some.inj h1
    exact item_listR pl.isList h0 (by omega) (by rw [hj]; simpa using ew) fin hs
  . have hj : (i + (its.toArray.size : Int)).toNat = j := by
      rw [seqIndex_neg (by omega) h4] at h1
      rw [List.size_toArray, <- hl]
      exact Option.some.inj h1
    exact subscriptTail_builtinR (x := w) pl.isList.typeIs slot_list_getitem.lookup
      (wpAny_getItem_list_neg (Q := fun r s' => r = w /\ EP X pins σ Q r s') pl.isList (by omega) (by rw [List.size_toArray] <;> omega) (by omega) (by rw [hj]; simpa using ew) ⟨rfl,fin⟩) hs
theorem ix_tup : IxR X (rIxT X.K) := by
  intro value slice pins s σ H x y v u Q I rx ry h hs
  obtain ⟨p,xs,i,z,rfl,rfl,hq,he,q⟩ := h
  cases rx
  obtain ⟨t,rfl⟩ := ry
  obtain ⟨its,r,pl,hz⟩ := I.tuple hq
  obtain ⟨j,h1,h2,h3,h4,h5⟩ := q5z he
  obtain ⟨w,ew,rw'⟩ := r.get h2
  have hl := r.length
  have hn := q2x
  have fin : EP X pins σ Q w s := ⟨z,H,I,rw',q⟩
  exact subscriptTail_builtinR (x := w) pl.typeIs slot_tuple_getitem.lookup
    (getItem_tuple (j := j) (Q := fun r s' => r = w /\ EP X pins σ Q r s') pl (by omega) (by omega) (by rw [List.size_toArray, <- hl]; exact h1) (by simpa using ew) ⟨rfl,fin⟩) hs
theorem qa7 : IxR X rIxS := by
  intro value slice pins s σ H x y v u Q I rx ry h hs
  obtain ⟨z,i,c,rfl,rfl,hz,he,q⟩ := h
  obtain ⟨t,rfl⟩ := rx
  obtain ⟨t',rfl⟩ := ry
  obtain ⟨j,h1,h2,h3,h4,h5⟩ := q5z he
  have hl : z.cps.toList.length = z.length := by simp [Str.length]
  rw [hl] at h1 h4 h5
  have hn := q2x
  exact tail_any (typeIs_str s z t) slot_str_getitem.lookup (getItem_str (c := c) (by
    have e1 : decide (i < -(2 ^ 63 : Int)) = false := decide_eq_false (by omega)
    have e2 : decide (i ≥ 2 ^ 63) = false := decide_eq_false (by omega)
    rw [e1,e2,Bool.or_false]) (by rw [h1]; simpa using h2) ⟨.str ⟨#[c]⟩,H,I.tok _,⟨_,rfl⟩,q⟩) hs
def rIx (K : PySem.W.Frag) : R2 := fun x y H Q => rIxL K x y H Q \/ rIxT K x y H Q \/ rIxS x y H Q
theorem q0t : IxR X (rIx X.K) := qcu.or (ix_tup.or qa7)
theorem q98 (its : List Value) (n j : Nat) (u : Value) : Obj.mapSeq (·.setIfInBounds j u) { cls := .type "list",data := .seq its.toArray n } = { cls := .type "list",data := .seq (its.set j u).toArray n } := by
  simp [Obj.mapSeq]
theorem Inv.lst {pins : List (Addr × Obj)} {σ : St} {H : Hp} {s : Shared} {p : Addr} {xs : List V} (I : Inv X pins σ H s) (h : H p = some (.lst xs)) :
    ∃ (its : List Value) (n : Nat),Vals xs its /\ s.heap.get? p = some { cls := .type "list",data := .seq its.toArray n } /\ xs.length <= sizeLine := by
  obtain ⟨z,its,n,r,e⟩ := I.hok p _ h
  exact ⟨its,n,r,e,z⟩
theorem Inv.lstUpd {pins : List (Addr × Obj)} {σ : St} {H : Hp} {s : Shared} {p : Addr} {xs ys : List V} {its its' : List Value} {n n' : Nat} {f : Obj -> Obj} (I : Inv X pins σ H s) (h : H p = some (.lst xs))
    (ho : s.heap.get? p = some { cls := .type "list",data := .seq its.toArray n }) (hf : f { cls := .type "list",data := .seq its.toArray n } = { cls := .type "list",data := .seq its'.toArray n' }) (r : Vals ys its') (hz : ys.length <= sizeLine) (t : Nat) :
    Inv X pins σ (upd H p (.lst ys)) { s with heap := s.heap.update p f,toks := t } := by
  have e : (s.heap.update p f).get? p = some { cls := .type "list",data := .seq its'.toArray n' } := by
    rw [Heap.get?_update_self f ho (by rw [hf] <;> rfl),hf]
  refine I.write (x := p) (e := p) (by rw [h]; trivial) (.inl rfl) (fun b u hb q => (Heap.get?_update_other _ _ (Ne.symm hb)).trans q) ⟨_,e⟩ ?_
  exact ⟨hz,its',n',r,e⟩
def rSetL : V -> V -> V -> Hp -> (Hp -> Prop) -> Prop := fun o i v H Q => ∃ p xs k j,o = .ref p /\ i = .int k /\ H p = some (.lst xs) /\ ixN xs.length k = some j /\ Q (upd H p (.lst (xs.set j v)))
theorem set_list : PSet X rSetL := by
  intro pins s σ H o i v ov iv u Q I ro ri rv h
  obtain ⟨p,xs,k,j,rfl,rfl,hp,hj,q⟩ := h
  cases ro
  obtain ⟨t,rfl⟩ := ri
  obtain ⟨its,n,r,ho,hz⟩ := I.lst hp
  obtain ⟨h1,h2,h3,h4⟩ := q8s hj
  have hl := r.length
  have hn := q2x
  have I' : Inv X pins σ (upd H p (.lst (xs.set j v))) { s with heap := s.heap.update p (Obj.mapSeq (·.setIfInBounds j u)) } :=
    I.lstUpd hp ho (q98 its n j u) (r.set rv j) (by rw [List.length_set]; exact hz) s.toks
  by_cases h0 : 0 <= k
  . have hk : k.toNat = j := by
      rw [seqIndex_of h0 h4] at h1
      exact Option.some.inj h1
    exact PySem.W.ki_setAt ho h0 (by omega) (by rw [List.size_toArray, <- hl]; exact h4) (by rw [hk]; exact ⟨_,I',q⟩)
  . have hk : (k + (its.toArray.size : Int)).toNat = j := by
      rw [seqIndex_neg (by omega) h3] at h1
      rw [List.size_toArray, <- hl]
      exact Option.some.inj h1
    exact PySem.W.ki_setBack ho (by omega) (by rw [List.size_toArray, <- hl]; exact h3) (by omega) (by rw [hk]; exact ⟨_,I',q⟩)
theorem q7q (lo hi : Option Int) (n : Nat) : (sliceBounds lo hi none n).1 = ((HT.sIx n 0 lo : Nat) : Int) /\ (sliceBounds lo hi none n).2.1 = ((HT.sIx n n hi : Nat) : Int) /\ (sliceBounds lo hi none n).2.2 = 1 := by
  refine ⟨?_,?_,rfl⟩
  . cases lo with
    | none => simp [sliceBounds,HT.sIx]
    | some i =>
      simp only [sliceBounds,HT.sIx,Option.getD_none,show (1 : Int) > 0 by decide,if_true]
      by_cases h : i < 0
      . simp only [h,if_true] <;> omega
      . simp only [h,if_false] <;> omega
  . cases hi with
    | none => simp [sliceBounds,HT.sIx]
    | some i =>
      simp only [sliceBounds,HT.sIx,Option.getD_none,show (1 : Int) > 0 by decide,if_true]
      by_cases h : i < 0
      . simp only [h,if_true] <;> omega
      . simp only [h,if_false] <;> omega
theorem q6n (its : List Value) (lo hi : Option Int) : slicePick its.toArray lo hi none = ((its.drop (HT.sIx its.length 0 lo)).take (HT.sIx its.length its.length hi - HT.sIx its.length 0 lo)).toArray := by
  obtain ⟨h1,h2,h3⟩ := q7q lo hi its.toArray.size
  unfold slicePick
  rw [h1,h2,h3]
  simp only [sliceRange_one,pick_run,List.size_toArray] <;> rfl
def rSlL (K : PySem.W.Frag) : V -> Option Int -> Option Int -> Hp -> VK -> Prop := fun x lo hi H Q => ∃ a xs,x = .ref a /\ SqL K H a xs /\ ∀ p,H p = none -> Q (.ref p) (upd H p (.lst (cutV xs lo hi)))
theorem qd2 : SlR X (rSlL X.K) := by
  intro pins s σ H x v vl vu lo hi sl Q I rx hs pl pu h
  obtain ⟨a,xs,rfl,hx,q⟩ := h
  cases rx
  obtain ⟨its,r,ht,hz⟩ := I.list hx
  have hlen := r.length
  refine ⟨"list",_,slot_list_getitem.lookup,ht.isList.typeIs,?_⟩
  refine wpAny_getItem_list_slice ht.isList hs pl pu .none (by simp) ?_ (by rw [List.size_toArray] <;> omega)
  rw [q6n, <- hlen]
  refine ⟨.ref s.heap.objs.size,_,I.laid (t' := s.toks) (o := .lst (cutV xs lo hi)) (fun b ob q => Heap.get?_push_of_some _ q) (Nat.le_refl _) ?_,rfl,q _ (I.hok.fresh (Nat.le_refl _))⟩
  exact ⟨Nat.le_trans (q8a xs lo hi) hz,_,0,(r.drop (HT.sIx xs.length 0 lo)).take (HT.sIx xs.length xs.length hi - HT.sIx xs.length 0 lo),Heap.get?_push_size _ rfl⟩
def q2e : V -> Bool
  | .non => true
  | .bl _ => true
  | .int _ => true
  | .str _ => true
  | _ => false
def eqV : V -> V -> Bool
  | .non, .non => true
  | .bl a, .bl b => a == b
  | .bl a, .int b => (if a then 1 else 0) == b
  | .int a, .bl b => a == (if b then 1 else 0)
  | .int a, .int b => a == b
  | .str a, .str b => a == b
  | _,_ => false
theorem eqAt_V {A : Around} {s : Shared} {y x : V} {u v : Value} (ry : RelV y u) (rx : RelV x v) (fy : q2e y = true) (fx : q2e x = true) : SeqAt.EqAt A s u v (eqV y x) := by
  cases y with
  | non =>
    cases ry
    cases x with
    | non => cases rx; exact SeqAt.EqAt.same _
    | bl b => cases rx; exact SeqAt.EqAt.none_bool b
    | int b => obtain ⟨t,rfl⟩ := rx; exact SeqAt.EqAt.none_int b t
    | str b => obtain ⟨t,rfl⟩ := rx; exact SeqAt.EqAt.none_str b t
    | _ => exact absurd (show false = true from fx) Bool.false_ne_true
  | bl a =>
    cases ry
    cases x with
    | non => cases rx; exact SeqAt.EqAt.bool_none a
    | bl b => cases rx; exact SeqAt.EqAt.bool_bool a b
    | int b => obtain ⟨t,rfl⟩ := rx; exact SeqAt.EqAt.bool_int a b t
    | str b => obtain ⟨t,rfl⟩ := rx; exact SeqAt.EqAt.bool_str a b t
    | _ => exact absurd (show false = true from fx) Bool.false_ne_true
  | int a =>
    obtain ⟨t',rfl⟩ := ry
    cases x with
    | non => cases rx; exact SeqAt.EqAt.int_none a t'
    | bl b => cases rx; exact SeqAt.EqAt.int_bool a t' b
    | int b => obtain ⟨t,rfl⟩ := rx; exact SeqAt.EqAt.int_int a t' b t
    | str b => obtain ⟨t,rfl⟩ := rx; exact SeqAt.EqAt.int_str a t' b t
    | _ => exact absurd (show false = true from fx) Bool.false_ne_true
  | str a =>
    obtain ⟨t',rfl⟩ := ry
    cases x with
    | non => cases rx; exact SeqAt.EqAt.str_none a t'
    | bl b => cases rx; exact SeqAt.EqAt.str_bool a t' b
    | int b => obtain ⟨t,rfl⟩ := rx; exact SeqAt.EqAt.str_int a t' b t
    | str b => obtain ⟨t,rfl⟩ := rx; exact SeqAt.EqAt.str_str a t' b t
    | _ => exact absurd (show false = true from fx) Bool.false_ne_true
  | _ => exact absurd (show false = true from fy) Bool.false_ne_true
def eqU (x : V) (u : Value) : Bool := match u with
  | .none => eqV .non x
  | .bool b => eqV (.bl b) x
  | .int i _ => eqV (.int i) x
  | .str z _ => eqV (.str z) x
  | _ => false
theorem qah {x y : V} {u : Value} (r : RelV y u) (f : q2e y = true) : eqU x u = eqV y x := by
  cases y with
  | non => cases r; rfl
  | bl b => cases r; rfl
  | int i => obtain ⟨t,rfl⟩ := r; rfl
  | str z => obtain ⟨t,rfl⟩ := r; rfl
  | _ => exact absurd (show false = true from f) Bool.false_ne_true
theorem q79 {A : Around} {s : Shared} {x : V} {v : Value} (rx : RelV x v) (fx : q2e x = true) : ∀ {xs : List V} {us : List Value},Vals xs us -> xs.all q2e = true -> ∀ u ∈ us,SeqAt.EqAt A s u v (eqU x u)
  | _,_, .nil,_ => fun u hu => by cases hu
  | y :: xs,u :: us, .cons r t,f => fun u' hu => by
    rw [List.all_cons,Bool.and_eq_true] at f
    rcases List.mem_cons.mp hu with rfl | hu
    . rw [qah r f.1]; exact eqAt_V r rx f.1 fx
    . exact q79 rx fx t f.2 u' hu
theorem q83 : q08 X (.builtin "len") (fun xs H Q => ∃ p ys,xs = [.ref p] /\ (SqL X.K H p ys \/ SqT X.K H p ys) /\ Q (.int ys.length) H) := by
  intro pins s σ H xs us Q I r h
  obtain ⟨p,ys,rfl,hq,q⟩ := h
  obtain ⟨u,rfl,rx⟩ := vals1 r
  cases rx
  have hn := q2x
  rcases hq with hq | hq
  . obtain ⟨its,r',pl,hz⟩ := I.list hq
    have hlen := r'.length
    exact Calls.call_len_list pl.isList (by simp only [List.size_toArray] <;> omega) ⟨.int ys.length,H,I.tok _,⟨s.toks + 1,by rw [List.size_toArray,hlen]⟩,q⟩
  . obtain ⟨its,r',pl,hz⟩ := I.tuple hq
    have hlen := r'.length
    exact len_tuple pl (by simp only [List.size_toArray] <;> omega) ⟨.int ys.length,H,I.tok _,⟨s.toks + 1,by rw [List.size_toArray,hlen]⟩,q⟩
theorem q6y : q08 X (.builtin "len") (fun xs H Q => ∃ z,xs = [.str z] /\ z.length <= sizeLine /\ Q (.int z.length) H) := by
  intro pins s σ H xs us Q I r h
  obtain ⟨z,rfl,hz,q⟩ := h
  obtain ⟨u,rfl,t,rfl⟩ := vals1 r
  have hn := q2x
  exact len_str (by omega) ⟨.int z.length,H,I.tok _,⟨_,rfl⟩,q⟩
theorem q08.or {f : Value} {r r' : List V -> Hp -> VK -> Prop} (h : q08 X f r) (h' : q08 X f r') : q08 X f (fun xs H Q => r xs H Q \/ r' xs H Q) := by
  intro pins s σ H xs us Q I rs q
  rcases q with q | q
  . exact h pins s σ H xs us Q I rs q
  . exact h' pins s σ H xs us Q I rs q
theorem q71 : q08 X (.type "list") (fun xs H Q => ∃ p ys,xs = [.ref p] /\ (SqL X.K H p ys \/ SqT X.K H p ys) /\ ∀ l,H l = none -> Q (.ref l) (upd H l (.lst ys))) := by
  intro pins s σ H xs us Q I r h
  obtain ⟨p,ys,rfl,hq,q⟩ := h
  obtain ⟨u,rfl,rx⟩ := vals1 r
  cases rx
  have fin : ∀ (its : List Value),Vals ys its -> ys.length <= sizeLine -> ∀ (h' : Heap) (c' : Nat),(∀ b o',s.heap.get? b = some o' -> h'.get? b = some o') ->
      h'.get? s.heap.objs.size = some { cls := .type "list",dict := none,data := .seq its.toArray c',slots := #[] } -> EP X pins σ Q (.ref s.heap.objs.size) { s with heap := h' } := fun its r' hz h' c' kp e =>
    ⟨.ref s.heap.objs.size,_,I.laid (t' := s.toks) kp (Nat.le_refl _) (show q05 X.prog X.w _ h' _ (.lst ys) from ⟨hz,its,c',r',e⟩),rfl,q _ (I.hok.fresh (Nat.le_refl _))⟩
  rcases hq with hq | hq
  . obtain ⟨its,r',pl,hz⟩ := I.list hq
    have hlen := r'.length
    obtain ⟨o,ho,hc,n,hd⟩ := pl.isList
    exact call_list_seq p (.inl rfl) ho hc hd (fun h' c' kp e => fin its r' hz h' c' kp e) (by simp only [List.size_toArray] <;> omega)
  . obtain ⟨its,r',pl,hz⟩ := I.tuple hq
    have hlen := r'.length
    obtain ⟨o,ho,hc,n,hd⟩ := pl
    exact call_list_seq p (.inr rfl) ho hc hd (fun h' c' kp e => fin its r' hz h' c' kp e) (by simp only [List.size_toArray] <;> omega)
theorem q6j : q08 X (.type "tuple") (fun xs H Q => ∃ p ys,xs = [.ref p] /\ ((SqL X.K H p ys /\ ∀ l,H l = none -> Q (.ref l) (upd H l (.tup ys))) \/ (SqT X.K H p ys /\ Q (.ref p) H))) := by
  intro pins s σ H xs us Q I r h
  obtain ⟨p,ys,rfl,h⟩ := h
  obtain ⟨u,rfl,rx⟩ := vals1 r
  cases rx
  rcases h with ⟨hq,q⟩ | ⟨hq,q⟩
  . obtain ⟨its,r',pl,hz⟩ := I.list hq
    have hlen := r'.length
    refine call_tuple_list pl.isList (fun h' kp => ?_) (by simp only [List.size_toArray] <;> omega)
    have I1 : Inv X pins σ H { s with heap := h' } := I.kept (t' := s.toks) kp
    have I2 : Inv X pins σ (upd H h'.objs.size (.tup ys)) { s with heap := h'.push { cls := .type "tuple",data := .seq its.toArray } } :=
      I1.laid (t' := s.toks) (fun b o e => Heap.get?_push_of_some _ e) (Nat.le_refl _) (show q05 X.prog X.w _ _ _ (.tup ys) from ⟨hz,its,r',IsTup.new _ _⟩)
    exact ⟨.ref h'.objs.size,_,I2,rfl,q _ (I1.hok.fresh (Nat.le_refl _))⟩
  . obtain ⟨its,r',pl,hz⟩ := I.tuple hq
    exact call_tuple_same pl ⟨.ref p,H,I,rfl,q⟩
def tyV (K : PySem.W.Frag) (T : String) (x : V) (H : Hp) : Prop := match x with
  | .str _ => T = "str"
  | .int _ => T = "int"
  | .ref p => (T = "list" /\ ∃ xs,SqL K H p xs) \/ (T = "tuple" /\ ∃ o,K.lookup p = some o /\ o.cls = .type "tuple" /\ o.dict = none) \/
      (T = "dict" /\ ((∃ kvs,H p = some (.dK kvs)) \/ ∃ kvs,H p = some (.dT kvs))) \/ (T = "set" /\ ∃ S n,H p = some (.set S n))
  | _ => False
theorem tyV_is {pins : List (Addr × Obj)} {σ : St} {H : Hp} {s : Shared} {T : String} {x : V} {v : Value} (I : Inv X pins σ H s) (r : RelV x v) (ty : tyV X.K T x H) :
    s.TypeIs v T /\ ∀ a,v = .ref a -> ∃ ob,s.heap.get? a = some ob /\ ob.dict = none := by
  cases x with
  | str z =>
    obtain ⟨t,rfl⟩ := r
    cases (show T = "str" from ty)
    exact ⟨typeIs_str s z t,fun _ e => nomatch e⟩
  | int i =>
    obtain ⟨t,rfl⟩ := r
    cases (show T = "int" from ty)
    exact ⟨typeIs_int s i t,fun _ e => nomatch e⟩
  | ref p =>
    cases r
    rcases ty with ⟨rfl,xs,hq⟩ | ⟨rfl,o,hk,hc,hd⟩ | ⟨rfl,hk⟩ | ⟨rfl,S,n,hk⟩
    . obtain ⟨its,_,pl,_⟩ := I.list hq
      refine ⟨pl.isList.typeIs,fun a e => ?_⟩
      cases e
      obtain ⟨o,n,e,c,hd,_⟩ := pl
      exact ⟨o,e,hd⟩
    . refine ⟨⟨o,I.kIn p o hk,hc⟩,fun a e => ?_⟩
      cases e
      exact ⟨o,I.kIn _ o hk,hd⟩
    . have z : ∃ o,s.heap.get? p = some o /\ o.ExactDict := by
        rcases hk with ⟨kvs,hk⟩ | ⟨kvs,hk⟩
        . obtain ⟨_,_,_,_,o,_,_,e,ex,_⟩ := I.hok p _ hk
          exact ⟨o,e,ex⟩
        . obtain ⟨_,_,_,_,o,_,_,e,ex,_⟩ := I.hok p _ hk
          exact ⟨o,e,ex⟩
      obtain ⟨o,e,ex⟩ := z
      refine ⟨⟨o,e,ex.1⟩,fun a e2 => ?_⟩
      cases e2
      exact ⟨o,e,ex.2.1⟩
    . obtain ⟨o,_,_,_,e,ex,_⟩ := I.hok p _ hk
      refine ⟨⟨o,e,ex.1⟩,fun a e2 => ?_⟩
      cases e2
      exact ⟨o,e,ex.2.1⟩
  | _ => exact False.elim ty
def tBM (K : PySem.W.Frag) (T : String) (r : V -> List V -> Hp -> VK -> Prop) (to : TE) (t : TA) : TE := fun σ H Q => to σ H fun x H1 => tyV K T x H1 /\ t σ H1 fun xs H2 => r x xs H2 Q
variable {o e : Expr} {es : List Expr} {to : TE} {t : TA} {name : Str} {apos cpos : Pos} {T id : String} {r : V -> List V -> Hp -> VK -> Prop}
theorem q2p (pa : PlainAttrs T) (slot : Slot T name id) (hty : typeOf (.builtin id) = pure (.type "method_descriptor")) (hm : MtR X id r) (ho : PE X o to) (ha : PA X (e :: es) t)
    (hbase : attributeBase o name X.env (eval o X.env) = eval o X.env := by rfl)
    (hfew : ((backTo cpos (starEach (e :: es) X.env)).all (fun x => !x.1) && (backToKw cpos (keywordEach [] X.env)).all (fun x => x.1.isSome)
      && decide ((e :: es).length + ([] : List Keyword).length + (if ([] : List Keyword).isEmpty then 0 else 1) < 30)) = true := by rfl)
    (hline : (apos.endLine == cpos.line) = true := by rfl) (hs : starEach (e :: es) X.env = (false,eval e X.env) :: starEach es X.env := by rfl) (hplain : (backTo cpos (starEach es X.env)).any (·.1) = false := by rfl) :
    PE X (.Call (.Attribute o name apos) (e :: es) [] cpos) (tBM X.K T r to t) := by
  intro pins s σ H Q I h
  refine wpAny_Call_method_late hbase hfew hline rfl (thn (ho pins s σ H _ I h) fun v s1 ⟨x,H1,I1,r1,ty,q1⟩ => ?_)
  obtain ⟨h1,h2⟩ := tyV_is I1 r1 ty
  refine ⟨T,id,pa,slot,hty,h1,h2,?_⟩
  have hA := ha cpos pins s1 σ H1 _ I1 q1
  rw [hs] at hA ⊢
  refine Calls.callWith_builtin (by show (false || (backTo cpos (starEach es X.env)).any (·.1)) = false; rw [hplain] <;> rfl) (Calls.evalArgs_plain ?_)
  exact thn hA fun us s2 ⟨vs,H2,I2,r2,q2⟩ => hm pins s2 σ H2 x vs v us Q I2 r1 r2 q2
end
end L2
namespace L2
open PySem PySem.Spec PyProof.Rows
def MtM (X : Cx) (id : String) (r : V -> List V -> Hp -> VK -> Prop) : Prop :=
  ∀ (pins : List (Addr × Obj)) (s : Shared) (σ : St) (H : Hp) (x : V) (xs : List V) (v : Value) (us : List Value) (Q : VK),Inv X pins σ H s -> RelV x v -> Vals xs us -> r x xs H Q ->
    wpAny (model X.prog X.w) X.A (call (.builtin id) (v :: us)) (EP X pins σ Q) X.xe s
theorem Vals.one : ∀ {x : V} {us : List Value},Vals [x] us -> ∃ u,us = [u] /\ RelV x u
  | _,_, .cons r .nil => ⟨_,rfl,r⟩
theorem Vals.zero : ∀ {us : List Value},Vals [] us -> us = []
  | _, .nil => rfl
theorem Vals.dropLast {xs : List V} {us : List Value} (h : Vals xs us) : Vals xs.dropLast us.dropLast := by
  induction h with
  | nil => exact .nil
  | cons r t ih =>
    cases t with
    | nil => exact .nil
    | cons q t' => exact .cons r ih
theorem q9c {α : Type} (l : List α) : l.eraseIdx (l.length - 1) = l.dropLast := by
  induction l with
  | nil => rfl
  | cons a r ih =>
    cases r with
    | nil => rfl
    | cons b r =>
      have e : (a :: b :: r).length - 1 = ((b :: r).length - 1) + 1 := by
        have h1 : (a :: b :: r).length = r.length + 2 := rfl
        have h2 : (b :: r).length = r.length + 1 := rfl
        omega
      rw [e,List.eraseIdx_cons_succ,ih]
      all_goals rfl
section
variable {X : Cx} {pins : List (Addr × Obj)} {σ : St} {H : Hp} {s : Shared} {l b : Addr} {xs ys zs : List V}
theorem Inv.lset {its its' : List Value} {n : Nat} {f : Array Value -> Array Value} {t' : Nat} (I : Inv X pins σ H s) (hH : H l = some (.lst xs))
    (e : s.heap.get? l = some { cls := .type "list",data := .seq its.toArray n }) (hf : f its.toArray = its'.toArray) (hv : Vals ys its') (hz : ys.length <= sizeLine) :
    Inv X pins σ (upd H l (.lst ys)) { s with heap := s.heap.update l (Obj.mapSeq f),toks := t' } := by
  have q := PySem.IsL.update e f
  rw [hf] at q
  refine I.write (x := l) (e := l) (by rw [hH]; exact trivial) (.inl rfl) (fun b' u hb hu => (Heap.get?_update_other s.heap (Obj.mapSeq f) (Ne.symm hb)).trans hu) ⟨_,q⟩ ?_
  exact ⟨hz,its',_,hv,q⟩
theorem Inv.lnew {its : List Value} {t' : Nat} (I : Inv X pins σ H s) (hv : Vals ys its) (hz : ys.length <= sizeLine) :
    Inv X pins σ (upd H s.heap.objs.size (.lst ys)) { s with heap := s.heap.push { cls := .type "list",data := .seq its.toArray },toks := t' } :=
  I.laid (fun _ _ q => Heap.get?_push_of_some _ q) (Nat.le_refl _) ⟨hz,its,0,hv,Heap.get?_push_size _ rfl⟩
theorem Inv.fresh (I : Inv X pins σ H s) : H s.heap.objs.size = none := I.hok.fresh (Nat.le_refl _)
theorem Inv.lstM (I : Inv X pins σ H s) (hH : H l = some (.lst xs)) : xs.length <= sizeLine /\ ∃ (its : List Value) (n : Nat),Vals xs its /\ xs.length = its.length /\ s.heap.get? l = some { cls := .type "list",data := .seq its.toArray n } := by
  obtain ⟨z,its,n,r,e⟩ := I.hok l _ hH
  exact ⟨z,its,n,r,r.length,e⟩
theorem qby {n : Nat} (h : n <= sizeLine) : Builtin.List.listTooLong n = false := by
  unfold Builtin.List.listTooLong
  exact decide_eq_false (by omega)
end
section
variable {X : Cx}
def q8h : V -> List V -> Hp -> VK -> Prop := fun x vs H Q => ∃ l xs y,x = .ref l /\ vs = [y] /\ H l = some (.lst xs) /\ xs.length < sizeLine /\ Q .non (upd H l (.lst (xs ++ [y])))
theorem q18 : MtM X "list.append" q8h := by
  intro pins s σ H x vs v us Q I rx rv h
  obtain ⟨l,xs,y,rfl,rfl,hH,hz,q⟩ := h
  cases rx
  obtain ⟨u,rfl,ru⟩ := rv.one
  obtain ⟨z,its,n,r,hl,e⟩ := I.lstM hH
  refine call_meets F.slot_list_append ⟨_,e,rfl⟩ F.entry_list_append (F.args_list_append_2 _ _) (PySem.list_append l its.toArray n u (by rw [List.size_toArray]; omega)) ⟨e,?_⟩
  refine ⟨.non,_,I.lset (its' := its ++ [u]) hH e (by simp) (r.append (.cons ru .nil)) ?_,rfl,q⟩
  rw [List.length_append,List.length_singleton]
  omega
def rPop : V -> List V -> Hp -> VK -> Prop := fun x vs H Q => ∃ l xs y,x = .ref l /\ vs = [] /\ H l = some (.lst xs) /\ xs[xs.length - 1]? = some y /\ Q y (upd H l (.lst xs.dropLast))
theorem mt_pop : MtM X "list.pop" rPop := by
  intro pins s σ H x vs v us Q I rx rv h
  obtain ⟨l,xs,y,rfl,rfl,hH,hy,q⟩ := h
  cases rx
  have hus := rv.zero
  subst hus
  obtain ⟨z,its,n,r,hl,e⟩ := I.lstM hH
  obtain ⟨u,hu,ru⟩ := r.get hy
  have hy' : its.toArray[its.toArray.size - 1]? = some u := by
    show its.toArray[its.length - 1]? = some u
    rw [<- Array.getElem?_toList, <- hl]
    exact hu
  refine call_meets F.slot_list_pop ⟨_,e,rfl⟩ F.entry_list_pop (F.args_list_pop_1 _) (MeetsSeq.list_pop_last l its.toArray n u hy' (by rw [List.size_toArray]; omega)) ⟨e,?_⟩
  refine ⟨y,_,I.lset (its' := its.dropLast) hH e ?_ r.dropLast ?_,ru,q⟩
  . show its.toArray.eraseIdxIfInBounds (its.toArray.size - 1) = its.dropLast.toArray
    rw [List.size_toArray,List.eraseIdxIfInBounds_toArray,q9c]
  . rw [List.length_dropLast]
    omega
end
end L2
namespace Att
open PySem PySem.W PySem.Calls PyProof.Rows
theorem q5k {P : Params} {h : Heap} : ∀ (ns : List Int) (vs : List Value),WellAll P h vs (ns.map WData.int) -> IntsAre vs ns := by
  intro ns
  induction ns with
  | nil =>
    intro vs w
    rw [List.map_nil] at w
    cases w
    exact .nil
  | cons n ns ih =>
    intro vs w
    rw [List.map_cons] at w
    cases w with
    | cons a b =>
      cases a
      exact .cons _ _ (ih _ b)
theorem qac {l : OpenLaw} {n : Nat} (hn : l.most = some n) {P : Params} {h : Heap} {args : List WData} {vals : List Value}
    (hpre : l.row.toRowW.claim.pre args = true) (hwl : WellAll P h vals args) :
    ∃ a vs ns,vals = [Value.ref a] /\ args = [WData.list (ns.map WData.int)] /\ h.get? a = some { cls := .type "list",data := .seq vs.toArray } /\ IntsAre vs ns /\ ns.length <= n := by
  have hsh : WShape.hasAll [] args [.list .int] = true := (pre_splitW hpre).1
  have hc : l.pre.holds [] { args := args } = true := (pre_splitW hpre).2
  obtain ⟨d,r,rfl,h1,h2⟩ := hasAllW_cons hsh
  obtain rfl := hasAllW_nil h2
  obtain ⟨xs,rfl,h3⟩ := hasW_list h1
  obtain ⟨ns,rfl⟩ := items_int h3
  have hlen : ns.length <= n := by
    unfold OpenLaw.pre at hc
    have h4 : (WTm.not (.lt (.lit (.int (n : Int))) (.len (.arg 0)))).holds [] { args := [.list (ns.map .int)] } = true := by
      have h4 := (holds_andW hc).1
      rw [hn] at h4
      exact h4
    have h5 := condW_of h4 (w_not (w_lt w_lit (w_len_list (w_arg rfl))))
    rw [List.length_map] at h5
    refine Nat.le_of_not_lt fun q => ?_
    have q' : (n : Int) < ((ns.length : Nat) : Int) := by omega
    first
      | (rw [decide_eq_true q'] at h5; exact absurd h5 (by decide))
      | (simp at h5; omega)
  cases hwl with
  | cons w1 w2 =>
    cases w2
    cases w1 with
    | list ho hall => exact ⟨_,_,ns,rfl,rfl,ho,q5k ns _ hall,hlen⟩
theorem qaz (l : OpenLaw) (args : List WData) : l.row.toRowW.claim.post args (.bool true) args = true :=
  postW_of (r := l.row.toRowW) (X := (true == true))
    (show WShape.has [] (.bool true) .bool = true by first | rfl | decide | simp [WShape.has,WShape.arms,WShape.armsAll])
    (show (WTm.eq .res (.lit (.bool true))).value [] { args := args,res := some (.bool true),after := args } = some (.bool (true == true)) from w_eq_bool (w_res rfl) w_lit) rfl
theorem q8e {l : OpenLaw} {n : Nat} {q : Program} {loose : List Str} {XP : (Str -> Option Value) -> Heap -> Prop} {YP : World -> Heap -> Prop} {d : DefRec}
    (hn : l.most = some n) (hdf : d.params.defaults = [])
    (call : ∀ (w : World) (s₀ s₁ : Shared) (mg mb : Str -> Option Value) (fa : Addr) (o : Obj) (pm cd doc : Value) (a : Addr) (vs : List Value) (ns : List Int),
      Ground q loose [] XP w s₀ mg mb s₁.heap -> YP w s₁.heap ->
      s₁.heap.get? fa = some o -> o.data = .func (docDef d.name d.params d.body d.scope pm cd doc) -> s₁.heap.CodeRec cd d.name -> mg d.name = some (.ref fa) ->
      s₁.heap.get? a = some { cls := .type "list",data := .seq vs.toArray } -> IntsAre vs ns -> ns.length <= n -> s₁.gens = #[] ->
      codeAny (model l.prog w) callerA (.call (.ref fa) ⟨[.ref a],[]⟩) (fun r s' => r = .ok (.ret (.bool true)) /\ OldK s₁.heap s'.heap /\ s'.os = s₁.os /\ AllBare s'.gens) s₁) :
    WalkO q loose XP YP l.row.toRowW d [] (fun f vs => PySem.call f vs) := by
  intro w s₀ s₁ mg mb G Y fa o pm cd doc dV kV ho hd hcd hD hmg hg args vals as hpre hlay hrd hwl hlo
  obtain rfl : dV = .none := Dflts.none hD hdf
  obtain rfl : kV = .none := Dflts.noKw hD
  obtain ⟨a,vs,ns,rfl,rfl,hobj,hints,hlen⟩ := qac hn hpre hwl
  refine enter_call (codeAny_mono (call w s₀ s₁ mg mb fa o pm cd doc a vs ns G Y ho (fd_plain hd) hcd hmg hobj hints hlen hg) fun r s' hq => ?_)
  obtain ⟨rfl,h2,h3,h4⟩ := hq
  exact ⟨.inl ⟨.bool true, .bool true,[],rfl,fun _ => rfl, .bool true,qaz l _,fun _ => ⟨List.Pairwise.nil,fun _ hm => (nomatch hm)⟩⟩,h2,h3,h4⟩
end Att
namespace L2
open PySem PySem.Spec PyProof.Rows
theorem q6i : ∀ {vs : List Value} {ns : List Int},IntsAre vs ns -> Vals (ns.map V.int) vs
  | _,_, .nil => .nil
  | _,_, .cons n t h => .cons ⟨t,rfl⟩ (q6i h)
def Only (H : Hp) : Prop := ∀ b,H b = none \/ ∃ o xs,H b = some (.frz o (.lst xs))
theorem qbk {P : Program} {w : World} {K : PySem.W.Frag} {mg mb : Str -> Option Value} {CX : CXT} {k : Nat} {fa a : Addr} {fd : FuncData} {x : Str} {sp : Sp} {s₁ : Shared} {vs : List Value} {ns : List Int}
    (KX : K.In s₁.heap) (hns : s₁.heap.Ns mainGlobals mg) (hb : s₁.heap.Ns builtinsNs mb) (hbb : ∀ x : Str,x ≠ "__name__" -> mb x = bootBuiltins x) (hlim : s₁.heap.NoLimit) (hg : s₁.gens = #[])
    (ha : s₁.heap.get? a = some { cls := .type "list",data := .seq vs.toArray }) (hi : IntsAre vs ns) (hl : ns.length <= sizeLine) (hr : Room k callerA)
    (F : ∀ base : Heap,K.In base -> base.Ns mainGlobals mg -> FnOk P w K mg base CX k fa fd [x] sp) (hbind : ∀ (s : Shared) (u : Value),BindsTo s fd ⟨[u],[]⟩ [(x,u)])
    (hsp : ∀ H : Hp,Only H -> SqL K H a (ns.map V.int) -> sp [.ref a] H (fun v _ => v = .bl true) fun _ _ _ => False)
    (hCX : ∀ H e s',CX [] H s₁ (fun _ _ _ => False) e s' -> False) :
    codeAny (model P w) callerA (.call (.ref fa) ⟨[.ref a],[]⟩) (fun r s' => r = .ok (.ret (.bool true)) /\ OldK s₁.heap s'.heap /\ s'.os = s₁.os /\ AllBare s'.gens) s₁ := by
  have rv := q6i hi
  have lenV := hi.length
  have core : ∀ H : Hp,Only H -> SqL K H a (ns.map V.int) -> HOk P w H s₁.heap -> (∀ b,H b ≠ none -> b = a) -> (H a ≠ none -> K.lookup a = none) ->
      codeAny (model P w) callerA (.call (.ref fa) ⟨[.ref a],[]⟩) (fun r s' => r = .ok (.ret (.bool true)) /\ OldK s₁.heap s'.heap /\ s'.os = s₁.os /\ AllBare s'.gens) s₁ := by
    intro H hO hS hok hA hK
    have base_of : ∀ {b : Addr} {o : Obj},s₁.heap.get? b = some o -> H b = none -> (hidT s₁.heap H).get? b = some o := fun e n => qbz e n
    have noA : ∀ {b : Addr} {o : Obj} {es : Array DictEntry} {ep : Nat},s₁.heap.get? b = some o -> o.data = .dict es ep -> H b = none := fun {b o es ep} e d => by
      cases q : H b with
      | none => rfl
      | some u =>
        have e' : b = a := hA b (by rw [q]; simp)
        subst e'
        rw [ha] at e; cases e
        have d' : Data.seq vs.toArray _ = Data.dict es ep := d
        cases d'
    have nsK : ∀ {b : Addr} {m : Str -> Option Value},s₁.heap.Ns b m -> (hidT s₁.heap H).Ns b m := fun {b m} ⟨o,es,ep,e,d,r⟩ => ⟨o,es,ep,base_of e (noA e d),d,r⟩
    have hKb : K.In (hidT s₁.heap H) := fun b o e => base_of (KX b o e) (by
      cases q : H b with
      | none => rfl
      | some u =>
        have e' : b = a := hA b (by rw [q]; simp)
        subst e'
        rw [hK (by rw [q]; simp)] at e; cases e)
    have hM : Mod K mg (hidT s₁.heap H) := ⟨hKb,nsK hns,⟨mb,nsK hb,hbb⟩,let ⟨mc,h1,h2⟩ := hlim; ⟨mc,nsK h1,h2⟩⟩
    have e0 : Env0 P w K mg (hidT s₁.heap H) callerA [] s₁ H := ⟨rfl,hM,fun b o e => qca e,Nat.le_of_eq (qai _ _),trivial,fun b hb => absurd (show b ∈ ([] : List Addr) from hb) (by simp),hok, .of_eq hg⟩
    refine codeAny_mono ((F _ hKb (nsK hns)).run callerA [] s₁ H ⟨[.ref a],[]⟩ [.ref a] [.ref a] _ _ hr e0 (hbind s₁ (.ref a)) (.cons rfl .nil) (hsp H hO hS)) fun r s' h => ?_
    cases r with
    | error e => exact (hCX H e s' h).elim
    | ok fl =>
      cases fl with
      | next => exact False.elim h
      | brk => exact False.elim h
      | cont => exact False.elim h
      | ret u =>
        obtain ⟨v,H',os,bare,un,hok',r',q⟩ := h
        have q' : v = .bl true := q
        subst q'
        obtain rfl : u = Value.bool true := r'
        refine ⟨rfl,OldK.of_keep fun b o e => ?_,os,bare⟩
        cases q : H b with
        | none => exact un.keep b o e q (by intro z; exact absurd (show b ∈ ([] : List Addr) from z) (by simp)) (by simp)
        | some u =>
          rcases hO b with z | ⟨ob,xs,z⟩
          . rw [q] at z; cases z
          . have z2 := un.frzs b ob _ z
            obtain ⟨e1,_⟩ := hok b _ z
            obtain ⟨e2,_⟩ := hok' b _ z2
            rw [e] at e1; cases e1
            exact e2
  cases hk : K.lookup a with
  | some o =>
    have e := KX a o hk
    rw [ha] at e
    cases e
    refine core (fun _ => none) (fun _ => .inl rfl) (.inr ⟨_,vs.toArray,_,hk,rfl,rfl,rfl,by rw [List.size_toArray,lenV]; exact hl,by simpa using rv⟩) (fun b u z => by have z' : (none : Option HO) = some u := z; cases z') (fun b z => absurd rfl z) fun z => absurd rfl z
  | none =>
    refine core (fun b => if b = a then some (.frz { cls := .type "list",data := .seq vs.toArray } (.lst (ns.map V.int))) else none) (fun b => ?_) (.inl (.inr ⟨{ cls := .type "list",data := .seq vs.toArray },if_pos rfl⟩)) (fun b u z => ?_) (fun b z => ?_) fun _ => hk
    . by_cases hb : b = a
      . exact .inr ⟨_,_,if_pos hb⟩
      . exact .inl (if_neg hb)
    . by_cases hb : b = a
      . have z' := (if_pos hb).symm.trans z
        cases z'
        subst hb
        exact ⟨ha,by rw [List.length_map]; exact hl,vs,_,rv,ha⟩
      . have z' := (if_neg hb).symm.trans z
        cases z'
    . by_cases hb : b = a
      . exact hb
      . exact absurd (if_neg hb) z
end L2
namespace L2
open PySem PySem.Spec PyProof.Rows
theorem qd3 {l : PySem.W.OpenLaw} {n k : Nat} {q : Program} {loose : List Str} {XP : (Str -> Option Value) -> Heap -> Prop} {YP : World -> Heap -> Prop} {d : DefRec} {K : Params -> PySem.W.Frag} {CX : World -> CXT} {sp : World -> Sp} {x : Str}
    (hn : l.most = some n) (hn2 : n <= sizeLine) (hdf : d.params.defaults = []) (hr : Room k callerA)
    (hY : ∀ (w : World) (h : Heap),YP w h -> (K w.params).In h)
    (F : ∀ (w : World) (mg : Str -> Option Value) (fa : Addr) (h : Heap),(K w.params).In h -> h.Ns mainGlobals mg -> mg d.name = some (.ref fa) ->
      ∃ fd : FuncData,(∀ (s : Shared) (u : Value),BindsTo s fd ⟨[u],[]⟩ [(x,u)]) /\
        ∀ base : Heap,(K w.params).In base -> base.Ns mainGlobals mg -> FnOk l.prog w (K w.params) mg base (CX w) k fa fd [x] (sp w))
    (hsp : ∀ (w : World) (H : Hp) (a : Addr) (ns : List Int),ns.length <= n -> Only H -> SqL (K w.params) H a (ns.map V.int) -> sp w [.ref a] H (fun v _ => v = .bl true) fun _ _ _ => False)
    (hCX : ∀ (w : World) (H : Hp) (s : Shared) (e : Value) (s' : Shared),CX w [] H s (fun _ _ _ => False) e s' -> False) :
    PySem.W.WalkO q loose XP YP l.row.toRowW d [] (fun f vs => PySem.call f vs) := by
  refine Att.q8e hn hdf fun w s₀ s₁ mg mb fa o pm cd doc a vs ns G Y ho hd hcd hmg hobj hints hlen hg => ?_
  have KX := hY w _ Y
  obtain ⟨fd,hb,hF⟩ := F w mg fa _ KX G.T.g hmg
  exact qbk KX G.T.g G.T.b G.T.builtins G.T.nolimit hg hobj hints (Nat.le_trans hlen hn2) hr hF hb (fun H hO hS => hsp w H a ns hlen hO hS) fun H e s' => hCX w H s₁ e s'
end L2
namespace L2
open PySem PySem.Spec PyProof.Rows
def q0z (s : Stmt) : Arguments := match s with
  | .FunctionDef _ a _ _ _ _ _ _ _ _ => a
  | _ => { posonlyargs := [],args := [],vararg := none,kwonlyargs := [],kw_defaults := [],kwarg := none,defaults := [] }
def q0l (s : Stmt) : List Stmt := match s with
  | .FunctionDef _ _ b _ _ _ _ _ _ _ => b
  | _ => []
def qr (s : Stmt) : Scope := match s with
  | .FunctionDef _ _ _ _ _ _ sc _ _ _ => sc
  | _ => { kind := .function,names := [],isGenerator := false,isCoroutine := false }
abbrev CX0 : CXT := fun _ _ _ _ _ _ => False
abbrev E0 : XK := fun _ _ _ => False
structure Fun (K : PySem.W.Frag) (x qual : Str) (st : Stmt) (f : Addr) (fd : FuncData) : Prop where
  ex : ∃ (oc : Value) (od : Option Addr) (kV doc pm : Value) (an : Option Addr) (cdv ct : Value) (osl : Array (Option Value)),
    fd = PySem.W.fnOf x qual (q0z st) (q0l st) (qr st) .none kV doc pm an cdv ct /\ K.lookup f = some ⟨oc,od, .func fd,osl⟩ /\ PySem.W.codeIn K cdv qual = true
  kp : PySem.W.keepIn K (.ref f) = true
section
variable {P : Program} {w : World} {K : PySem.W.Frag} {mg : Str -> Option Value} {base : Heap}
theorem Fun.ok {x qual : Str} {st : Stmt} {f : Addr} {fd : FuncData} {N ps : List Str} {k : Nat} {sp : Sp} (F : Fun K x qual st f fd) (S : q15 N ps (qr st)) (len : ∀ vs H Q E,sp vs H Q E -> vs.length = ps.length)
    (hbody : ∀ (cdv : Value) (A : Around) (outer : List Env) (s : Shared) (H : Hp) (vs : List V) (Q : VK) (E : XK),Room k (A.deeper (envOfC qual (qr st) s.heap.objs.size f cdv)) -> sp vs H Q E ->
      ∃ t,PSs (cxOf CX0 P w K mg base N qual (qr st) f cdv A outer s H E).nox (q0l st) t /\ t { nx := fun _ H' => Q .non H',rt := Q } (start N vs) H) : FnOk P w K mg base CX0 (k + 1) f fd ps sp := by
  obtain ⟨oc,od,kV,doc,pm,an,cdv,ct,osl,rfl,lk,hcd⟩ := F.ex
  refine fn_of lk hcd S len fun A outer s H vs Q E hr hsp => ?_
  obtain ⟨t,h,q⟩ := hbody cdv A outer s H vs Q E hr hsp
  exact ⟨t,h.nox,q⟩
theorem Fun.binds {x qual : Str} {st : Stmt} {f : Addr} {fd : FuncData} {ps : List Str} (F : Fun K x qual st f fd)
    (h : ∀ (kV doc pm : Value) (an : Option Addr) (cdv ct : Value) (us : List Value),us.length = ps.length -> bindArgs (PySem.W.fnOf x qual (q0z st) (q0l st) (qr st) .none kV doc pm an cdv ct) ⟨us,[]⟩ = pure (ps.zip us)) : Binds K fd ps [] := by
  obtain ⟨oc,od,kV,doc,pm,an,cdv,ct,osl,rfl,lk,hcd⟩ := F.ex
  exact .all (h kV doc pm an cdv ct)
theorem q2w {x qual : Str} {st : Stmt} {f : Addr} {oc : Value} {od an : Option Addr} {osl : Array (Option Value)} {kV doc pm cdv ct : Value} (l : K.lookup f = some ⟨oc,od, .func (PySem.W.fnOf x qual (q0z st) (q0l st) (qr st) .none kV doc pm an cdv ct),osl⟩)
    (c : PySem.W.codeIn K cdv qual = true) (k : PySem.W.keepIn K (.ref f) = true) : Fun K x qual st f (PySem.W.fnOf x qual (q0z st) (q0l st) (qr st) .none kV doc pm an cdv ct) := ⟨⟨oc,od,kV,doc,pm,an,cdv,ct,osl,rfl,l,c⟩,k⟩
end
theorem q3b {A : Around} {k : Nat} (hr : Room k A) : A.units + 1 < cLine := Nat.lt_of_le_of_lt (Nat.add_le_add_left (by decide : 1 <= 64) _) hr.units
section
variable {X : Cx}
theorem pv (i : Nat) {x : Str} {pos : Pos} (hN : X.N[i]? = some x := by rfl) (hv : Vis X.env.scope x := by first | exact Or.inl rfl | exact Or.inr (Or.inl rfl) | exact Or.inr (Or.inr rfl)) (hd : (x == ("__debug__" : Str)) = false := by decide)
    (hcd : (x == ("__classdict__" : Str)) = false := by decide) : PE X (.Name x pos) (tVar i) := pe_var hN hv hd hcd
end
theorem iteF {A B : Prop} (h : B) : if false = true then A else B := by
  rw [if_neg Bool.false_ne_true]
  exact h
theorem iteT {A B : Prop} (h : A) : if true = true then A else B := by
  rw [if_pos rfl]
  exact h
end L2
namespace L2
open PySem PySem.Spec PyProof.Rows
section
variable {κ : Type} [DecidableEq κ]
def valV (kvs : List (κ × V)) (k : κ) : Option V := (kvs.find? fun kv => decide (kv.1 = k)).map (·.2)
def putK (kvs : List (κ × V)) (k : κ) (v : V) : List (κ × V) :=
  if (kvs.any fun kv => decide (kv.1 = k)) = true then kvs.map (fun kv => if kv.1 = k then (kv.1,v) else kv) else kvs ++ [(k,v)]
theorem q41 {p : κ × V} {r : List (κ × V)} {k : κ} (e : p.1 = k) : valV (p :: r) k = some p.2 := by simp [valV,List.find?_cons,e]
theorem q3z {p : κ × V} {r : List (κ × V)} {k : κ} (e : ¬ p.1 = k) : valV (p :: r) k = valV r k := by simp [valV,List.find?_cons,e]
theorem q6z (k : κ) : ∀ kvs : List (κ × V),(kvs.any fun kv => decide (kv.1 = k)) = (valV kvs k).isSome
  | [] => rfl
  | p :: r => by
    rw [List.any_cons]
    by_cases e : p.1 = k
    . simp only [q41 e,decide_eq_true e,Bool.true_or,Option.isSome_some]
    . rw [q3z e,decide_eq_false e,Bool.false_or]; exact q6z k r
theorem q4w (kvs : List (κ × V)) (k : κ) (v : V) : (putK kvs k v).length <= kvs.length + 1 := by
  unfold putK
  split
  . rw [List.length_map]; omega
  . rw [List.length_append,List.length_cons,List.length_nil]; omega
theorem RelO.q4a {o : Option V} {u : Option Value} (r : RelO o u) : o.isSome = u.isSome := by
  cases o with
  | none => cases u with
    | none => rfl
    | some _ => exact (show False from r).elim
  | some _ => cases u with
    | none => exact (show False from r).elim
    | some _ => rfl
theorem KV.val {kvs : List (κ × V)} {vs : List (κ × Value)} (r : KV kvs vs) (k : κ) : RelO (valV kvs k) (valueAt vs k) := by
  unfold KV at r
  induction r with
  | nil => exact True.intro
  | @cons p q ps qs h t ih =>
    obtain ⟨h1,h2⟩ := h
    by_cases e : p.1 = k
    . have e' : q.1 = k := h1.symm.trans e
      have b : valueAt (q :: qs) k = some q.2 := by simp [valueAt,List.find?_cons,e']
      rw [q41 e,b]; exact h2
    . have e' : ¬ q.1 = k := fun z => e (h1.trans z)
      have b : valueAt (q :: qs) k = valueAt qs k := by simp [valueAt,List.find?_cons,e']
      rw [q3z e,b]; exact ih
theorem KV.any {kvs : List (κ × V)} {vs : List (κ × Value)} (r : KV kvs vs) (k : κ) : (kvs.any fun kv => decide (kv.1 = k)) = vs.any fun kv => decide (kv.1 = k) := by
  unfold KV at r
  induction r with
  | nil => rfl
  | cons h t ih => rw [List.any_cons,List.any_cons,ih,h.1]
theorem KV.repl {kvs : List (κ × V)} {vs : List (κ × Value)} (r : KV kvs vs) (k : κ) {y : V} {u : Value} (ry : RelV y u) :
    KV (kvs.map fun kv => if kv.1 = k then (kv.1,y) else kv) (vs.map fun kv => if kv.1 = k then (kv.1,u) else kv) := by
  unfold KV at r ⊢
  induction r with
  | nil => exact .nil
  | @cons p q ps qs h t ih =>
    rw [List.map_cons,List.map_cons]
    refine .cons ?_ ih
    obtain ⟨h1,h2⟩ := h
    by_cases e : p.1 = k
    . rw [if_pos e,if_pos (h1.symm.trans e)]; exact ⟨h1,ry⟩
    . rw [if_neg e,if_neg (fun z => e (h1.trans z))]; exact ⟨h1,h2⟩
theorem KV.put {kvs : List (κ × V)} {vs : List (κ × Value)} (r : KV kvs vs) (k : κ) {y : V} {u : Value} (ry : RelV y u) : KV (putK kvs k y) (stored vs k u) := by
  unfold putK stored
  rw [r.any k]
  by_cases e : (vs.any fun kv => decide (kv.1 = k)) = true
  . rw [if_pos e,if_pos e]; exact r.repl k ry
  . rw [if_neg e,if_neg e]; exact Paired.snoc r ⟨rfl,ry⟩
theorem KV.length {kvs : List (κ × V)} {vs : List (κ × Value)} (r : KV kvs vs) : kvs.length = vs.length := Paired.length r
end
theorem q6r {P : Program} {w : World} {k : Key} {u : Value} (r : RelV (kV k) u) : (q0m P w).is k u = true := by
  cases k with
  | inl i => obtain ⟨t,e⟩ := (show ∃ t,u = Value.int i t from r); subst e; exact q85 P w i t
  | inr x => obtain ⟨t,e⟩ := (show ∃ t,u = Value.str x t from r); subst e; exact q87 P w x t
theorem q66 {P : Program} {w : World} : ∀ {ks : List Key} {us : List Value},Vals (ks.map kV) us -> ItemsAre (q0m P w) ks us
  | [],_,r => by rw [List.map_nil] at r; cases r; exact .nil
  | k :: ks,_,r => by
    rw [List.map_cons] at r
    cases r with
    | cons h t => exact .cons (q6r h) (q66 t)
abbrev KT (H : Hp) : List (List Key × V) -> List (List Key × Addr × Value) -> Prop := Paired fun p q => p.1 = q.1 /\ H q.2.1 = some (.tup (p.1.map kV)) /\ RelV p.2 q.2.2
theorem KT.val {H : Hp} {kvs : List (List Key × V)} {xs : List (List Key × Addr × Value)} (r : KT H kvs xs) (k : List Key) : RelO (valV kvs k) ((atKey xs k).map (·.2)) := by
  induction r with
  | nil => exact True.intro
  | @cons p q ps qs h t ih =>
    obtain ⟨h1,_,h2⟩ := h
    by_cases e : p.1 = k
    . have e' : q.1 = k := h1.symm.trans e
      have b : atKey (q :: qs) k = some q.2 := by simp [atKey,List.find?_cons,e']
      rw [q41 e,b]; exact h2
    . have e' : ¬ q.1 = k := fun z => e (h1.trans z)
      have b : atKey (q :: qs) k = atKey qs k := by simp [atKey,List.find?_cons,e']
      rw [q3z e,b]; exact ih
theorem KT.repl {H : Hp} {kvs : List (List Key × V)} {xs : List (List Key × Addr × Value)} (r : KT H kvs xs) (k : List Key) {y : V} {u : Value} (ry : RelV y u) :
    KT H (kvs.map fun kv => if kv.1 = k then (kv.1,y) else kv) (xs.map (putAt k u)) := by
  induction r with
  | nil => exact .nil
  | @cons p q ps qs h t ih =>
    rw [List.map_cons,List.map_cons]
    refine .cons ?_ ih
    obtain ⟨h1,h2,h3⟩ := h
    unfold putAt
    by_cases e : p.1 = k
    . rw [if_pos e,if_pos (h1.symm.trans e)]; exact ⟨h1,h2,ry⟩
    . rw [if_neg e,if_neg (fun z => e (h1.trans z))]; exact ⟨h1,h2,h3⟩
theorem KT.put {H : Hp} {kvs : List (List Key × V)} {xs : List (List Key × Addr × Value)} (r : KT H kvs xs) (k : List Key) {b : Addr} {y : V} {u : Value} (hb : H b = some (.tup (k.map kV))) (ry : RelV y u) :
    KT H (putK kvs k y) (storedH xs k b u) := by
  have e : (kvs.any fun kv => decide (kv.1 = k)) = (atKey xs k).isSome := by
    rw [q6z,(r.val k).q4a,Option.isSome_map]
  unfold putK storedH
  rw [e]
  by_cases q : (atKey xs k).isSome = true
  . rw [if_pos q,if_pos q]; exact r.repl k ry
  . rw [if_neg q,if_neg q]; exact Paired.snoc r ⟨rfl,hb,ry⟩
theorem KT.keeps {H H' : Hp} {kvs : List (List Key × V)} {xs : List (List Key × Addr × Value)} (r : KT H kvs xs) (ht : ∀ b ys,H b = some (.tup ys) -> H' b = some (.tup ys)) : KT H' kvs xs :=
  Paired.mapP r fun _ _ z => ⟨z.1,ht _ _ z.2.1,z.2.2⟩
section
variable {P : Program} {w : World} {H : Hp} {h : Heap} {a : Addr}
theorem rd_of {u : HO} (ok : HOk P w H h) (e : Rd H a u) : q05 P w H h a u := e.ok ok
theorem q6u {kvs : List (Key × V)} (ok : HOk P w H h) (e : Rd H a (.dK kvs)) : kvs.length <= sizeLine /\ (a == sysModules) = false /\ ∃ vs,KV kvs vs /\ h.DictOf (q0m P w) a vs :=
  show q05 P w H h a (.dK kvs) from rd_of ok e
theorem dk_of {kvs : List (Key × V)} (ok : HOk P w H h) (e : H a = some (.dK kvs)) : kvs.length <= sizeLine /\ (a == sysModules) = false /\ ∃ vs,KV kvs vs /\ h.DictOf (q0m P w) a vs := q6u ok (.inl e)
theorem q58 {ks : List Key} (ok : HOk P w H h) (e : H a = some (.tup (ks.map kV))) : (tupleKind (q0m P w)).is h ks a := by
  obtain ⟨_,its,r,o,h1,h2,n,h3⟩ := (show q05 P w H h a (.tup (ks.map kV)) from ok a _ e)
  exact ⟨o,its.toArray,n,h1,h2,h3,by simpa using q66 r⟩
theorem q6p {kvs : List (List Key × V)} (ok : HOk P w H h) (e : Rd H a (.dT kvs)) : kvs.length <= sizeLine /\ (a == sysModules) = false /\
    ∃ xs,KT H kvs xs /\ h.DictOfH (tupleKind (q0m P w)) a xs := by
  obtain ⟨z,y,xs,r,o,es,ep,h1,h2,h3,h4,h5⟩ := (show q05 P w H h a (.dT kvs) from rd_of ok e)
  refine ⟨z,y,xs,r,o,es,ep,h1,h2,h3,h4,fun x hx => ?_,h5⟩
  have all : ∀ {l : List (List Key × V)} {m : List (List Key × Addr × Value)},KT H l m -> ∀ x ∈ m,(tupleKind (q0m P w)).is h x.1 x.2.1 := by
    intro l m q
    induction q with
    | nil => intro x hx; exact nomatch hx
    | @cons p q ps qs hq t ih =>
      intro x hx
      rcases List.mem_cons.mp hx with e | hx
      . subst e
        exact q58 ok (by rw [<- hq.1]; exact hq.2.1)
      . exact ih x hx
  exact all r x hx
theorem dt_of {kvs : List (List Key × V)} (ok : HOk P w H h) (e : H a = some (.dT kvs)) : kvs.length <= sizeLine /\ (a == sysModules) = false /\
    ∃ xs,KT H kvs xs /\ h.DictOfH (tupleKind (q0m P w)) a xs := q6p ok (.inl e)
end
def DGet (H : Hp) (a : Addr) (y : V) (r : Option V) : Prop :=
  (∃ kvs k,Rd H a (.dK kvs) /\ y = kV k /\ r = valV kvs k) \/ ∃ kvs k b,Rd H a (.dT kvs) /\ y = .ref b /\ H b = some (.tup (k.map kV)) /\ r = valV kvs k
def DPut (H : Hp) (a : Addr) (y v : V) (H' : Hp) : Prop :=
  (∃ kvs k,H a = some (.dK kvs) /\ y = kV k /\ kvs.length < sizeLine /\ H' = upd H a (.dK (putK kvs k v))) \/
  ∃ kvs k b,H a = some (.dT kvs) /\ y = .ref b /\ H b = some (.tup (k.map kV)) /\ kvs.length < sizeLine /\ H' = upd H a (.dT (putK kvs k v))
section
variable {X : Cx} {pins : List (Addr × Obj)} {σ : St} {H : Hp} {s : Shared} {a : Addr} {y v : V} {u r : Value} {o : Option V} {A : Around} {E : Value -> Shared -> Prop}
theorem Inv.big (I : Inv X pins σ H s) : sysModules < s.heap.objs.size := by
  have h : mainGlobals < s.heap.objs.size := (I.mod.glob.keeps I.bk).lt
  exact Nat.lt_trans (by decide) h
theorem qad {Q : Value -> Shared -> Prop} (hu : A.units + 1 < cLine) (I : Inv X pins σ H s) (g : DGet H a y (some v)) (ry : RelV y u) (h : ∀ w' s',Inv X pins σ H s' -> RelV v w' -> Q w' s') :
    wpAny (model X.prog X.w) A (getItem (.ref a) u) Q E s := by
  rcases g with ⟨kvs,k,e,ey,l⟩ | ⟨kvs,k,b,e,ey,eb,l⟩
  . subst ey
    obtain ⟨z,hd,vs,rel,dd⟩ := q6u I.hok e
    obtain ⟨w',hw,rw'⟩ := RelO.some_of (v := v) (o := valueAt vs k) (by rw [l]; exact rel.val k)
    exact wpAny_getItem_of (q6r ry) dd.mapOf hw (h w' _ (I.tok _) rw')
  . subst ey
    cases (show u = Value.ref b from ry)
    obtain ⟨z,hd,xs,rel,dd⟩ := q6p I.hok e
    obtain ⟨w',hw,rw'⟩ := RelO.some_of (v := v) (o := (atKey xs k).map (·.2)) (by rw [l]; exact rel.val k)
    obtain ⟨p,hp,hp2⟩ := Option.map_eq_some_iff.mp hw
    refine wpAny_getItem_heap (tupleKind_room_in1 hu) (q58 I.hok eb) dd hp ?_
    rw [hp2]
    exact h w' _ (I.tok _) rw'
theorem d_in {Q : Value -> Shared -> Prop} (hu : A.units + 1 < cLine) (I : Inv X pins σ H s) (g : DGet H a y o) (ry : RelV y u) (h : ∀ s',Inv X pins σ H s' -> Q (.bool o.isSome) s') :
    wpAny (model X.prog X.w) A (compareOp .In u (.ref a)) Q E s := by
  rcases g with ⟨kvs,k,e,ey,l⟩ | ⟨kvs,k,b,e,ey,eb,l⟩
  . subst ey
    obtain ⟨z,hd,vs,rel,dd⟩ := q6u I.hok e
    refine wpAny_in_of (q6r ry) hd dd.mapOf ?_
    rw [<- (rel.val k).q4a, <- l]
    exact h _ (I.tok _)
  . subst ey
    cases (show u = Value.ref b from ry)
    obtain ⟨z,hd,xs,rel,dd⟩ := q6p I.hok e
    refine wpAny_in_heap (tupleKind_room_in1 hu) (q58 I.hok eb) hd dd ?_
    have q := (rel.val k).q4a
    rw [Option.isSome_map] at q
    rw [<- q, <- l]
    exact h _ (I.tok _)
theorem q8m {h' : Heap} {t' : Nat} {ob : HO} (I : Inv X pins σ H s) (mu : Mut (H a)) (hs : Heap.SameBut a s.heap h') (he : ∃ q,h'.get? a = some q) (new : q05 X.prog X.w (upd H a ob) h' a ob) :
    Inv X pins σ (upd H a ob) { s with heap := h',toks := t' } :=
  I.write (x := a) (e := a) mu (.inl rfl) (fun b q hb z => (hs.2 b hb).trans z) he new
theorem dk_new {P : Program} {w : World} {H' : Hp} {h' : Heap} {kvs : List (Key × V)} {vs : List (Key × Value)} (z : kvs.length <= sizeLine) (hd : (a == sysModules) = false) (rel : KV kvs vs) (dd : h'.DictOf (q0m P w) a vs) :
    q05 P w H' h' a (.dK kvs) := ⟨z,hd,vs,rel,dd⟩
theorem qa4 {H' : Hp} {Q : Unit -> Shared -> Prop} (hu : A.units + 1 < cLine) (I : Inv X pins σ H s) (g : DPut H a y v H') (ry : RelV y u) (rv : RelV v r) (h : ∀ s',Inv X pins σ H' s' -> Q () s') :
    wpAny (model X.prog X.w) A (setItem (.ref a) u r) Q E s := by
  rcases g with ⟨kvs,k,e,ey,l,eH⟩ | ⟨kvs,k,b,e,ey,eb,l,eH⟩
  . subst ey eH
    obtain ⟨z,hd,vs,rel,dd⟩ := dk_of I.hok e
    have hz : vs.length <= sizeLine := by rw [<- rel.length]; exact z
    have hl : (putK kvs k v).length <= sizeLine := by have := q4w kvs k v; omega
    refine wpAny_setItem_pairs (hsz := hz) (q6r ry) dd fun h' dd' hs => h _ ?_
    have he : ∃ q,h'.get? a = some q := let ⟨q,_,_,hq,_⟩ := dd'; ⟨q,hq⟩
    exact q8m I (by rw [e]; exact True.intro) hs he (dk_new hl hd (rel.put k rv) dd')
  . subst ey eH
    cases (show u = Value.ref b from ry)
    obtain ⟨z,hd,xs,rel,dd⟩ := dt_of I.hok e
    have hz : xs.length <= sizeLine := by rw [<- Paired.length rel]; exact z
    have hl : (putK kvs k v).length <= sizeLine := by have := q4w kvs k v; omega
    refine wpAny_setItem_heap (hsz := hz) (tupleKind_room_in1 hu) (q58 I.hok eb) dd fun h' dd' hs => h _ ?_
    obtain ⟨q,es,ep,hq,h2,h3,h4,_,h5⟩ := dd'
    refine q8m I (by rw [e]; exact True.intro) hs ⟨q,hq⟩ ⟨hl,hd,_,(rel.put k eb rv).keeps fun c ys ec => ?_,q,es,ep,hq,h2,h3,h4,h5⟩
    rw [qv (ne_of ec e (fun z => nomatch z))]
    exact ec
end
def NoSl (i : Expr) : Prop := ∀ ov iv,subscripted i false ov iv = operate [ov,iv] (getItem ov iv)
theorem qcz {prog : Program} {w : World} {A : Around} {E : Value -> Shared -> Prop} {s : Shared} {env : Env} {value slice : Expr} {pos : Pos} {T id : String} {Q : Value -> Shared -> Prop}
    (hl : typeLookup (.type T) "__getitem__" = pure (some (.builtin id))) (hs : NoSl slice)
    (h : wpAny (model prog w) A (eval value env) (fun o s₁ => wpAny (model prog w) A (eval slice env) (fun i s₂ => s₂.TypeIs o T /\ wpAny (model prog w) A (getItem o i) Q E s₂) E s₁) E s) :
    wpAny (model prog w) A (eval (.Subscript value slice pos) env) Q E s := by
  refine Subscript_ (wpAny_mono h (fun o s₁ h₁ => wpAny_mono h₁ (fun i s₂ h₂ => ?_) fun _ _ x => x) fun _ _ x => x)
  obtain ⟨hT,h₂⟩ := h₂
  unfold subscriptTail
  refine wpAny_bind ?_
  rw [getitemInPython_of_ne hT.not_modules]
  refine wpAny_bind (wpAny_specialOf hT hl ?_)
  have fin : wpAny (model prog w) A (subscripted slice false o i) (fun r s₃ => wpAny (model prog w) A (letTemporaryGo value o r >>= fun _ => pure r) Q E s₃) E s₂ := by
    rw [hs o i]
    exact wpAny_operating (wpAny_mono h₂ (fun r s₃ h₃ => wpAny_bind (wpAny_letTemporaryGo (wpAny_pure h₃))) fun _ _ x => x)
  first
    | exact wpAny_pure (wpAny_bind fin)
    | exact wpAny_bind (wpAny_pure (wpAny_bind fin))
    | exact wpAny_bind fin
theorem q8b {X : Cx} {pins : List (Addr × Obj)} {σ : St} {H : Hp} {s : Shared} {a : Addr} {y : V} {o : Option V} (I : Inv X pins σ H s) (g : DGet H a y o) : s.TypeIs (.ref a) "dict" := by
  rcases g with ⟨kvs,k,e,_,_⟩ | ⟨kvs,k,b,e,_,_,_⟩
  . obtain ⟨_,_,vs,_,dd⟩ := q6u I.hok e
    exact dd.typeIs
  . obtain ⟨_,_,xs,_,dd⟩ := q6p I.hok e
    exact dd.typeIs
def tDGet (td ty : TE) : TE := fun σ H Q => td σ H fun x H1 => ty σ H1 fun y H2 => ∃ a v,x = .ref a /\ DGet H2 a y (some v) /\ Q v H2
def tDIn (ty td : TE) : TE := fun σ H Q => ty σ H fun y H1 => td σ H1 fun x H2 => ∃ a o,x = .ref a /\ DGet H2 a y o /\ Q (.bl o.isSome) H2
def sDPut (td ty tv : TE) : TS := fun D σ H => tv σ H fun v H1 => td σ H1 fun x H2 => ty σ H2 fun y H3 => ∃ a H4,x = .ref a /\ DPut H3 a y v H4 /\ D.nx σ H4
section
variable {X : Cx} {o i e value : Expr} {pos pos' tpos : Pos} {td ty tv : TE}
theorem q0x (hu : X.A.units + 1 < cLine) (ho : PE X o td) (hi : PE X i ty) (hs : NoSl i) : PE X (.Subscript o i pos) (tDGet td ty) := by
  intro pins s σ H Q I h
  refine qcz PySem.F.slot_dict_getitem.lookup hs (thn (ho pins s σ H _ I h) fun u s1 ⟨x,H1,I1,rx,q1⟩ => thn (hi pins s1 σ H1 _ I1 q1) fun iv s2 ⟨y,H2,I2,ry,a,v,ex,g,q2⟩ => ?_)
  subst ex
  obtain rfl : u = Value.ref a := rx
  exact ⟨q8b I2 g,qad hu I2 g ry fun w' s3 I3 rw' => ⟨v,H2,I3,rw',q2⟩⟩
theorem pc_din (hu : X.A.units + 1 < cLine) (hi : PE X i ty) (ho : PE X o td) : PC X .In i o (tDIn ty td) := by
  intro pins s σ H Q I h
  refine thn (hi pins s σ H _ I h) fun iv s1 ⟨y,H1,I1,ry,q1⟩ => thn (ho pins s1 σ H1 _ I1 q1) fun u s2 ⟨x,H2,I2,rx,a,ov,ex,g,q2⟩ => ?_
  subst ex
  obtain rfl : u = Value.ref a := rx
  exact d_in hu I2 g ry fun s3 I3 => ⟨.bl ov.isSome,H2,I3,rfl,q2⟩
theorem qdb (hu : X.A.units + 1 < cLine) (ho : PE X o td) (hi : PE X i ty) (hv : PE X value tv) (hs : swapsWith value (some (.Subscript o i pos')) pos.line X.env = pure false) :
    PS X (.Assign [.Subscript o i pos'] value pos) (sDPut td ty tv) := by
  intro pins s σ H D I h
  refine wpAny_Assign_Subscript (thn (hv pins s σ H _ I h) fun r s1 ⟨v,H1,I1,rv,q1⟩ => thn (ho pins s1 σ H1 _ I1 q1) fun u s2 ⟨x,H2,I2,rx,q2⟩ => thn (hi pins s2 σ H2 _ I2 q2) fun iv s3 ⟨y,H3,I3,ry,a,H4,ex,g,q3⟩ => ?_) hs
  subst ex
  obtain rfl : u = Value.ref a := rx
  exact qa4 hu I3 g ry rv fun s4 I4 => ⟨σ,H4,I4,q3⟩
end
theorem qc1 {P : Program} {w : World} {H : Hp} (h : Heap) (hb : sysModules < h.objs.size) : q05 P w H (h.push { cls := .type "dict",data := .dict #[] }) h.objs.size (.dK []) :=
  ⟨Nat.zero_le _,beq_eq_false_iff_ne.mpr (Ne.symm (Nat.ne_of_lt hb)),[], .nil,Heap.DictOf.new h⟩
def qa2 : TE := fun _ H Q => ∀ p,H p = none -> Q (.ref p) (upd H p (.dK []))
section
variable {X : Cx} {pos : Pos}
theorem qbf : PE X (.Dict [] [] pos) qa2 := fun pins s σ H Q I h =>
  wpAny_Dict_empty ⟨.ref s.heap.objs.size,_,I.laid (a := s.heap.objs.size) (o := .dK []) (t' := s.toks) (fun _ _ q => Heap.get?_push_of_some _ q) (Nat.le_refl _) (qc1 s.heap I.big),rfl,h _ (I.hok.fresh (Nat.le_refl _))⟩
end
end L2
set_option maxHeartbeats 4000000
namespace L2
open PySem PySem.Spec PyProof.Rows
theorem q30 {α β : Type} {f : α -> β -> Sem (ForInStep β)} {g : β -> α -> β} : ∀ (l : List α) (c : β),(∀ x ∈ l, ∀ c,f x c = pure (.yield (g c x))) -> forIn l c f = (pure (l.foldl g c) : Sem β)
  | [],c,_ => rfl
  | x :: l,c,h => by
    rw [List.forIn_cons,h x List.mem_cons_self c,pure_bind]
    exact q30 l (g c x) fun y hy c => h y (List.mem_cons_of_mem _ hy) c
def q2a (cells : List (Str × Addr)) (cs : List (Str × Addr)) (x : Str × NameKind) : List (Str × Addr) :=
  if (x.2 == .free) = true then match cells.lookup x.1 with | some c => (x.1,c) :: cs | none => cs else cs
def clos (names : List (Str × NameKind)) (cells : List (Str × Addr)) : List (Str × Addr) := names.foldl (q2a cells) []
theorem q6k {scope : Scope} {env : Env} (h : ∀ x ∈ scope.names,x.2 = .free -> ∃ c,env.cells.lookup x.1 = some c) : closureFor scope env = pure (clos scope.names env.cells) := by
  simp only [closureFor]
  rw [q30 (g := q2a env.cells) scope.names [] (fun x hx c => by
    obtain ⟨n,kind⟩ := x
    by_cases hk : kind = .free
    . subst hk
      obtain ⟨a,ha⟩ := h _ hx rfl
      simp only [q2a,cellOf,ha,beq_self_eq_true,if_true,pure_bind]
    . have : (kind == NameKind.free) = false := by simpa using hk
      simp only [q2a,this,Bool.false_eq_true,if_false])]
  rfl
theorem q4g {cells : List (Str × Addr)} {x : Str} {c : Addr} : ∀ (names : List (Str × NameKind)) (acc : List (Str × Addr)),(x,c) ∈ names.foldl (q2a cells) acc -> (x,c) ∈ acc \/ cells.lookup x = some c
  | [],acc,h => .inl h
  | y :: r,acc,h => by
    rcases q4g r _ h with h | h
    . unfold q2a at h
      split at h
      . cases e : cells.lookup y.1 with
        | none => rw [e] at h; exact .inl h
        | some d =>
          rw [e] at h
          rcases List.mem_cons.mp h with h | h
          . cases h; exact .inr e
          . exact .inl h
      . exact .inl h
    . exact .inr h
theorem q43 {cells : List (Str × Addr)} {p : Str × Addr} : ∀ (names : List (Str × NameKind)) (acc : List (Str × Addr)),p ∈ acc -> p ∈ names.foldl (q2a cells) acc
  | [],acc,h => h
  | y :: r,acc,h => by
    refine q43 r _ ?_
    unfold q2a
    split
    . cases e : cells.lookup y.1 with
      | none => exact h
      | some d => exact List.mem_cons_of_mem _ h
    . exact h
theorem q4x {cells : List (Str × Addr)} {x : Str} {c : Addr} (hc : cells.lookup x = some c) : ∀ (names : List (Str × NameKind)) (acc : List (Str × Addr)),(x,NameKind.free) ∈ names -> (x,c) ∈ names.foldl (q2a cells) acc
  | [],acc,h => by simp at h
  | y :: r,acc,h => by
    rcases List.mem_cons.mp h with h | h
    . subst h
      refine q43 r _ ?_
      simp only [q2a,beq_self_eq_true,if_true,hc]
      exact List.mem_cons_self
    . exact q4x hc r _ h
theorem q42 {x : Str} {c : Addr} : ∀ {l : List (Str × Addr)},(x,c) ∈ l -> ∃ d,l.lookup x = some d
  | [],h => by simp at h
  | (y,d) :: r,h => by
    by_cases e : x = y
    . subst e; exact ⟨d,by simp [List.lookup_cons]⟩
    . rcases List.mem_cons.mp h with h | h
      . cases h; exact absurd rfl e
      . obtain ⟨d',q⟩ := q42 h
        have : (x == y) = false := by simpa using e
        exact ⟨d',by simp [List.lookup_cons,this,q]⟩
theorem q1v {names : List (Str × NameKind)} {cells : List (Str × Addr)} {x : Str} {c : Addr} (h : (clos names cells).lookup x = some c) : cells.lookup x = some c := by
  rcases q4g names [] (PySem.mem_of_lookup h) with h | h
  . simp at h
  . exact h
theorem q7r {names : List (Str × NameKind)} {cells : List (Str × Addr)} {x : Str} {c : Addr} (hn : (x,NameKind.free) ∈ names) (hc : cells.lookup x = some c) : (clos names cells).lookup x = some c := by
  obtain ⟨d,q⟩ := q42 (q4x hc names [] hn)
  have := q1v (names := names) q
  rw [hc] at this
  cases this
  exact q
theorem q4y {g : Str -> NameKind -> NameKind} {x : Str} : ∀ (l : List (Str × NameKind)),(l.map fun p => (p.1,g p.1 p.2)).lookup x = (l.lookup x).map (g x)
  | [] => rfl
  | (y,k) :: r => by
    by_cases e : x = y
    . subst e; simp [List.lookup_cons]
    . have : (x == y) = false := by simpa using e
      simp only [List.map_cons,List.lookup_cons,this]
      exact q4y r
theorem q3j {scope : Scope} {env : Env} {x : Str} : (relabel scope env).names.lookup x = (scope.names.lookup x).map fun k => if (k == .free && env.scope.kind == .function && env.kindOf x == some .cell) = true then .cell else k := by
  rw [<- q4y (g := fun x k => if (k == .free && env.scope.kind == .function && env.kindOf x == some .cell) = true then .cell else k)]
  unfold relabel
  congr 1
  apply List.map_congr_left
  rintro ⟨n,k⟩ _
  dsimp only
  split <;> rfl
structure Blk (osc : Scope) (N : List Str) (scope : Scope) (own : List Str) (fv : List (Str × Nat)) : Prop where
  kind : scope.kind = .function
  nocell : ∀ y ∈ scope.names,y.2 ≠ .cell
  loc : ∀ y ∈ scope.names,y.2 = .local -> scope.names.lookup y.1 = some .local
  free : ∀ y ∈ scope.names,y.2 = .free -> (osc.names.lookup y.1 = some .cell \/ osc.names.lookup y.1 = some .free)
  at' : ∀ p ∈ fv,N[p.2]? = some p.1 /\ scope.names.lookup p.1 = some .free
  hown : ∀ x ∈ own,scope.names.lookup x = some .local
def blk (X : Cx) (scope : Scope) (own : List Str) (fv : List (Str × Nat)) (s : Shared) (H : Hp) (fp : List Addr) : Cx :=
  { X with N := own ++ fv.map (·.1),s₀ := s,H₀ := H,env := compEnvC scope (clos scope.names X.env.cells) s.heap.objs.size X.env,outer := X.stack,ex := fp,fn := fun _ => false,pn := [],xe := fun _ _ => False }
def q3w (fv : List (Str × Nat)) (σ : St) : St := fv.map fun p => (σ[p.2]?).join
def bσ (own : List Str) (fv : List (Str × Nat)) (σ : St) : St := own.map (fun _ => none) ++ q3w fv σ
def PTs (X : Cx) (ifs : List Expr) (t : TT) : Prop :=
  ∀ (pins : List (Addr × Obj)) (s : Shared) (σ : St) (H : Hp) (Q : Bool -> Hp -> Prop),Inv X pins σ H s -> t σ H Q ->
    wpAny (model X.prog X.w) X.A (forIn ifs true fun c r => if r = true then do let ok <- isTrue c X.env (eval c X.env); pure (ForInStep.yield ok) else pure (ForInStep.yield r)) (TP X pins σ Q) X.xe s
def tYes : TT := fun _ H Q => Q true H
theorem q5t {X : Cx} : PTs X [] tYes := fun pins s σ H Q I h => wpAny_tests_nil ⟨H,I,h⟩
theorem q60 {X : Cx} {c : Expr} {t : TT} (h : PT X c t) : PTs X [c] t := fun pins s σ H Q I q => wpAny_tests_one (h pins s σ H Q I q)
def LcW (own : List Str) (fv : List (Str × Nat)) (J : It) (g : TG) (tc : TT) (te : TE) (σ : St) (D : Addr) (Q : VK) (H0 : Hp) : Prop := ∃ W : Nat -> Nat -> Hp -> Prop,
  (∃ m,W 0 m H0) /\ ∀ i m H,W i m H -> (J.stop i H /\ Q (.ref D) H) \/ (J.go i H /\ ∃ (NE : VK) (NF : Hp -> Prop),(∀ v H5,NE v H5 -> ∃ ys,H5 D = some (.lst ys) /\ ys.length < sizeLine /\ ∃ m',m' < m /\ W (i + 1) m' (upd H5 D (.lst (ys ++ [v])))) /\
    (∀ H4,NF H4 -> ∃ m',m' < m /\ W (i + 1) m' H4) /\ ∀ x H2,J.yld i H x H2 -> g x (bσ own fv σ) H2 fun σ3 H3 =>
    (∃ os : St,os.length = own.length /\ σ3 = os ++ q3w fv σ) /\ tc σ3 H3 fun b H4 => if b = true then te σ3 H4 NE else NF H4)
def tLc (own : List Str) (fv : List (Str × Nat)) (wi : TI) (g : TG) (tc : TT) (te : TE) : TE := fun σ H Q => wi σ H fun J H1 => ∀ D,H1 D = none -> LcW own fv J g tc te σ D Q (upd H1 D (.lst []))
section
variable {prog : Program} {w : World} {A : Around} {R : Result -> Shared -> Prop} {s : Shared}
theorem q44 {elt target iter : Expr} {ifs : List Expr} {scope : Scope} {pos : Pos} {it acc : Value} {env : Env} (I : Nat -> Shared -> Prop)
    (turn : ∀ n s,I n s -> wpAny (model prog w) A (pyNext it) (fun r s₁ => match r with
      | none => R (.ok .next) s₁
      | some v => wpAny (model prog w) A (letOwnedTupleGo target it v) (fun _ s₁' => wpAny (model prog w) A (assign target env v) (fun _ s₂ =>
          wpAny (model prog w) A (forIn ifs true fun c r => if r = true then do let ok <- isTrue c env (eval c env); pure (ForInStep.yield ok) else pure (ForInStep.yield r)) (fun ok s₃ =>
            if ok = true then wpAny (model prog w) A (eval elt env) (fun x s₄ =>
              wpAny (model prog w) A (call (.builtin "list.append") [acc,x]) (fun _ s₅ => ∃ m,m < n /\ I m s₅) (fun _ _ => False) s₄) (fun _ _ => False) s₃
            else ∃ m,m < n /\ I m s₃) (fun _ _ => False) s₂) (fun _ _ => False) s₁') (fun _ _ => False) s₁) (fun _ _ => False) s)
    (n : Nat) (h : I n s) :
    codeAny (model prog w) A (.compLoop (.ListComp elt [⟨target,iter,ifs,0⟩] scope pos) 0 it acc env) R s := by
  refine codeAny_loop rfl I (fun n s hI => ?_) n h
  show wpAny _ A ((compTurn (.ListComp elt [⟨target,iter,ifs,0⟩] scope pos) 0 it acc env).onRaise (fun x => do noteFrame x env; theTreesLotGoes x)) _ _ s
  refine wpAny_noted ?_
  rw [compTurn_list]
  refine wpAny_bind (wpAny_standAt (wpAny_bind (wpAny_mono (turn n s hI) (fun r s₁ h₁ => ?_) fun _ _ h' => h'.elim)))
  cases r with
  | none => exact wpAny_pure h₁
  | some v =>
    refine wpAny_bind (wpAny_mono h₁ (fun _ s₁' h₁' => ?_) fun _ _ h' => h'.elim)
    refine wpAny_bind (wpAny_mono h₁' (fun _ s₂ h₂ => wpAny_bind (wpAny_mono h₂ (fun ok s₃ h₃ => ?_) fun _ _ h' => h'.elim)) fun _ _ h' => h'.elim)
    cases ok with
    | false => exact wpAny_pure ⟨rfl,h₃⟩
    | true =>
      exact wpAny_bind (wpAny_bind (wpAny_mono h₃ (fun x s₄ h₄ => wpAny_bind (wpAny_mono h₄ (fun _ s₅ h₅ => wpAny_pure (wpAny_pure ⟨rfl,h₅⟩)) fun _ _ h' => h'.elim)) fun _ _ h' => h'.elim))
end
section
variable {X : Cx} {pins : List (Addr × Obj)} {σ : St} {H : Hp} {s : Shared} {scope : Scope} {own : List Str} {fv : List (Str × Nat)}
theorem blk_ok (I : Inv X pins σ H s) (B : Blk X.env.scope X.N scope own fv) {fp : List Addr} {H0 : Hp} (hf : ∀ b ∈ fp,FpOk X pins H0 b) (hlt : ∀ b ∈ fp,b < s.heap.objs.size) : (blk X scope own fv s H fp).Ok where
  mod := I.ok.mod
  kind := B.kind
  glob := I.ok.glob
  blt := I.ok.blt
  above := Nat.le_refl _
  inj := fun x y c h1 h2 => I.ok.inj x y c (q1v h1) (q1v h2)
  has := fun x h => by
    have h : (relabel scope X.env).names.lookup x = some .cell \/ (relabel scope X.env).names.lookup x = some .free := h
    rw [q3j] at h
    cases e : scope.names.lookup x with
    | none => rw [e] at h; rcases h with h | h <;> cases h
    | some k =>
      have hm := PySem.mem_of_lookup e
      have hk : k = .free := by
        rw [e] at h
        by_cases hk : k = .free
        . exact hk
        . have hb : (k == NameKind.free) = false := by simpa using hk
          have nc := B.nocell _ hm
          simp only [hb,Bool.false_and,Bool.false_eq_true,if_false,Option.map_some,Option.some.injEq] at h
          rcases h with h | h
          . exact absurd h nc
          . exact h
      subst hk
      have hc : X.env.kindOf x = some .cell \/ X.env.kindOf x = some .free := B.free _ hm rfl
      obtain ⟨c,hc⟩ := I.ok.has x hc
      exact ⟨c,q7r hm hc⟩
  cab := fun x c h => by cases h
  hd := I.ok.hd
  frames := I.ok.frames
  stk := .inl rfl
  exf := fun b hb => ⟨Nat.ne_of_lt (hlt b hb),fun x c h => (hf b hb).2.2.2.2.1 x c (q1v h)⟩
  bs := I.bs
  bsz := Nat.le_trans I.ok.bsz I.sz
  noex := fun b o e hb => by
    rcases (hf b hb).2.2.2.1 with z | z
    . exact I.ok.noex b o e z
    . exact absurd (Nat.lt_of_lt_of_le (Heap.lt_size e) (Nat.le_trans I.ok.bsz z)) (Nat.lt_irrefl _)
  exfs := fun b hb z => by
    rcases List.mem_cons.mp (I.q48 b z) with e | e
    . exact (hf b hb).2.1 e
    . exact (hf b hb).2.2.1 e
  funs := I.stack
  frf := I.q8q
theorem qae (I : Inv X pins σ H s) (B : Blk X.env.scope X.N scope own fv) {fp : List Addr} {H0 : Hp} (hf : ∀ b ∈ fp,FpOk X pins H0 b) (hlt : ∀ b ∈ fp,b < s.heap.objs.size) {h' : Heap} {tk : Nat} {m : Str -> Option Value}
    (hn : h'.Ns s.heap.objs.size m) (k : ∀ b o,s.heap.get? b = some o -> h'.get? b = some o) : Inv (blk X scope own fv s H fp) [] (bσ own fv σ) H { s with heap := h',toks := tk } := by
  refine ⟨blk_ok I B hf hlt,rfl,I.bare,Un.kept k,⟨m,hn,fun i x v e1 e2 e3 => ?_⟩,fun x c e => ?_,I.hok.fresh (Nat.le_refl _),fun x c e => I.freeC x c (q1v e),fun p hp => absurd (show p ∈ ([] : List (Addr × Obj)) from hp) (by simp),I.hok.kept k,?_⟩
  . have e1 : (own ++ fv.map (·.1))[i]? = some x := e1
    have hi : own.length <= i := by
      by_cases hi : i < own.length
      . unfold bσ at e2
        rw [List.getElem?_append_left (by simpa using hi),List.getElem?_map] at e2
        cases q : own[i]? with
        | none => rw [q] at e2; cases e2
        | some y => rw [q] at e2; cases e2
      . omega
    rw [List.getElem?_append_right hi,List.getElem?_map] at e1
    unfold bσ at e2
    rw [List.getElem?_append_right (by simpa using hi),List.length_map] at e2
    unfold q3w at e2
    rw [List.getElem?_map] at e2
    cases q : fv[i - own.length]? with
    | none => rw [q] at e1; cases e1
    | some p =>
      rw [q] at e1 e2
      have e1 : p.1 = x := Option.some.inj e1
      subst e1
      have e2 : (σ[p.2]?).join = some v := Option.some.inj e2
      have e2 : σ[p.2]? = some (some v) := by
        cases z : σ[p.2]? with
        | none => rw [z] at e2; cases e2
        | some o => rw [z] at e2; rw [show o = some v from e2]
      obtain ⟨hN,hfree⟩ := B.at' p (List.mem_of_getElem? q)
      have hm := PySem.mem_of_lookup hfree
      have hc := B.free _ hm rfl
      have hvis : Vis X.env.scope p.1 := hc.elim (fun z => .inr (.inl z)) fun z => .inr (.inr z)
      obtain ⟨mo,hno,hl⟩ := I.loc
      obtain ⟨u,r,l⟩ := hl p.2 p.1 v hN e2 hvis
      refine ⟨u,r,?_⟩
      rcases l with ⟨z,_⟩ | ⟨_,c,ec,hcell⟩
      . have z : X.env.scope.names.lookup p.1 = some .local := z
        rcases hc with q | q <;> · rw [q] at z; cases z
      . refine .inr ⟨?_,c,q7r hm ec,?_⟩
        . show (relabel scope X.env).names.lookup p.1 = some .cell \/ (relabel scope X.env).names.lookup p.1 = some .free
          rw [q3j,hfree,Option.map_some]
          by_cases z : ((NameKind.free == NameKind.free && X.env.scope.kind == .function && X.env.kindOf p.1 == some .cell) = true)
          . rw [if_pos z]; exact .inl rfl
          . rw [if_neg z]; exact .inr rfl
        . obtain ⟨o,ho,hd⟩ := hcell
          exact ⟨o,k _ _ ho,hd⟩
  . obtain ⟨v,o,ho,hd⟩ := I.cell x c (q1v e)
    exact ⟨v,o,k _ _ ho,hd⟩
  . unfold bσ q3w
    simp [blk]
theorem qci {H' : Hp} {s' : Shared} {σ' : St} {fp : List Addr} {H0 : Hp} (I : Inv X pins σ H s) (hf : ∀ b ∈ fp,FpOk X pins H0 b) (J : Inv (blk X scope own fv s H fp) [] σ' H' s') : Inv X pins σ H' s' /\ FpOk X pins H' s.heap.objs.size /\ ∃ m,s'.heap.Ns s.heap.objs.size m := by
  have C : FpOk X pins H' s.heap.objs.size := I.fpOk (Nat.le_refl _) J.free
  refine ⟨I.call' (ch := fp) J.os J.base J.hok J.bare fun b hb => ⟨(hf b hb).2.2.2.1,(hf b hb).2.1,(hf b hb).2.2.2.2.1,(hf b hb).2.2.2.2.2⟩,C,?_⟩
  obtain ⟨m,hn,_⟩ := J.loc
  exact ⟨m,hn⟩
theorem q7f {C : Addr} {h' : Heap} (I : Inv X pins σ H s) (c : FpOk X pins H C) (hs : Heap.SameBut C s.heap h') : Inv X pins σ H { s with heap := h' } :=
  I.turned (t' := s.toks) (fun b o hb e => (hs.2 b hb).trans e) c.1 c.2.1 c.2.2.2.1 c.2.2.2.2.1 c.2.2.2.2.2
theorem qaj {elt tg iter : Expr} {ifs : List Expr} {pos : Pos} {g : TG} {tc : TT} {te : TE} {R : Value -> Addr -> Result -> Shared -> Prop} {E : Value -> Shared -> Prop}
    (hc : X.calm = true) (B : Blk X.env.scope X.N scope own fv) (hg : ∀ s H fp,PG (blk X scope own fv s H fp) tg g) (ht : ∀ s H fp,PTs (blk X scope own fv s H fp) ifs tc) (he : ∀ s H fp,PE (blk X scope own fv s H fp) elt te)
    {it : Addr} {fp : List Addr} {tn : Nat -> Heap -> Prop} {J : It} (I : Inv X pins σ H s) (T : Turn X.prog X.w X.K tg J fp it tn) (st : tn 0 s.heap) (hf : ∀ b ∈ fp,FpOk X pins H b) {Q : VK}
    (hw : ∀ D,H D = none -> LcW own fv J g tc te σ D Q (upd H D (.lst [])))
    (hR : ∀ D C H' s',Inv X pins σ H' s' -> FpOk X pins H' C -> (∃ m,s'.heap.Ns C m) -> Q (.ref D) H' -> R (.ref D) C (.ok .next) s') :
    wpAny (model X.prog X.w) X.A (newList []) (fun acc s₃ => wpAny (model X.prog X.w) X.A (newFunctionEnv scope X.env.globals (clos scope.names X.env.cells) [] X.env.qual none .none (some X.env)) (fun cenv s₄ =>
      codeAny (model X.prog X.w) X.A (.compStart (.ListComp elt [⟨tg,iter,ifs,0⟩] scope pos) 0 (.ref it) acc { cenv with scope := relabel scope X.env }) (R acc cenv.locals) s₄) E s₃) E s := by
  refine wpAny_newObj_type (wpAny_newFunctionEnv B.nocell (by intro y hy; simp at hy) (fun h₁ hns₁ hsb₁ => ?_) B.kind)
  dsimp only at hns₁ hsb₁ ⊢
  have I3 : Inv X pins σ (upd H s.heap.objs.size (.lst [])) { s with heap := s.heap.push { cls := .type "list",data := .seq ([] : List Value).toArray } } := I.lnew (t' := s.toks) .nil (Nat.zero_le _)
  obtain ⟨W,⟨m0,w0⟩,turn⟩ := hw s.heap.objs.size I.fresh
  have fpl : ∀ b ∈ fp,b < s.heap.objs.size := fun b hb => by
    obtain ⟨o,e,_⟩ := T.obj _ _ st b hb
    exact Heap.lt_size e
  have hf3 : ∀ b ∈ fp,FpOk X pins (upd H s.heap.objs.size (.lst [])) b := fun b hb => ⟨by rw [qv (Nat.ne_of_lt (fpl b hb))]; exact (hf b hb).1,(hf b hb).2⟩
  generalize hS3 : ({ s with heap := s.heap.push { cls := .type "list",data := .seq ([] : List Value).toArray } } : Shared) = s3 at I3
  have hS3h : s.heap.push { cls := .type "list",data := .seq ([] : List Value).toArray } = s3.heap := by rw [<- hS3]
  have fpl3 : ∀ b ∈ fp,b < s3.heap.objs.size := fun b hb => by
    rw [<- hS3h,Heap.size_push]
    exact Nat.lt_succ_of_lt (fpl b hb)
  have e3 : ∀ (h : Heap) (tk : Nat),({ s with heap := h,toks := tk } : Shared) = { s3 with heap := h,toks := tk } := fun h tk => by rw [<- hS3]
  rw [hS3h] at hns₁ hsb₁ ⊢
  rw [e3]
  have k3 : ∀ b o,s3.heap.get? b = some o -> h₁.get? b = some o := fun b o e => hsb₁.extBut b o (Nat.ne_of_lt (Heap.lt_size e)) (Heap.get?_push_of_some _ e)
  have J0 := qae (σ := σ) I3 B hf3 fpl3 (tk := s.toks + ([] : List (Str × Value)).length) hns₁ k3
  have ksz : ∀ b o,s.heap.get? b = some o -> h₁.get? b = some o := fun b o e => k3 b o (by rw [<- hS3h]; exact Heap.get?_push_of_some _ e)
  have st1 : tn 0 h₁ := T.keep _ _ _ st fun b _ o e => ksz b o e
  have stat : ∀ {H' : Hp},(∀ b ∈ fp,H' b = none) -> ∀ b ∈ fp,FpOk (blk X scope own fv s3 (upd H s.heap.objs.size (.lst [])) fp) [] H' b := fun hn b hb =>
    ⟨hn b hb,Nat.ne_of_lt (fpl3 b hb),fun z => (by
      rcases List.mem_cons.mp (I.q48 b z) with e | e
      . exact (hf b hb).2.1 e
      . exact (hf b hb).2.2.1 e), .inl hb,fun x c e => (hf b hb).2.2.2.2.1 x c (q1v e),fun p hp => absurd (show p ∈ ([] : List (Addr × Obj)) from hp) (by simp)⟩
  generalize hX' : blk X scope own fv s3 (upd H s.heap.objs.size (.lst [])) fp = X' at J0 stat
  have eP : X'.prog = X.prog := by rw [<- hX']; rfl
  have eW : X'.w = X.w := by rw [<- hX']; rfl
  have eK : X'.K = X.K := by rw [<- hX']; rfl
  have eA : X'.A = X.A := by rw [<- hX']; rfl
  have eE : X'.xe = fun _ _ => False := by rw [<- hX']; rfl
  have eC : X'.calm = true := by rw [<- hX']; exact hc
  have eEnv : compEnvC scope (clos scope.names X.env.cells) s3.heap.objs.size X.env = X'.env := by rw [<- hX']; rfl
  have Hg : PG X' tg g := by rw [<- hX']; exact hg _ _ _
  have Ht : PTs X' ifs tc := by rw [<- hX']; exact ht _ _ _
  have He : PE X' elt te := by rw [<- hX']; exact he _ _ _
  have loop : codeAny (model X.prog X.w) X.A (.compLoop (.ListComp elt [⟨tg,iter,ifs,0⟩] scope pos) 0 (.ref it) (.ref s.heap.objs.size) X'.env) (R (.ref s.heap.objs.size) s3.heap.objs.size) { s3 with heap := h₁,toks := s.toks + ([] : List (Str × Value)).length } := by
    refine q44 (fun n s' => ∃ i H',Inv X' [] (bσ own fv σ) H' s' /\ tn i s'.heap /\ (∀ b ∈ fp,H' b = none) /\ W i n H') ?_ m0 ⟨0,_,J0,st1,fun b hb => (hf3 b hb).1,w0⟩
    rintro n s4 ⟨i,H4,J4,st4,fr4,w4⟩
    rcases turn i n H4 w4 with ⟨stop,q⟩ | ⟨go,NE,NF,hNE,hNF,step⟩
    . have key := T.done X' eP eW eK eC i [] s4 _ H4 (fun _ _ => False) J4 (stat fr4) st4 stop
      rw [eA] at key
      refine thn key fun r s5 ⟨hr,J5⟩ => ?_
      subst hr
      rw [<- hX'] at J5
      obtain ⟨I5,c5,m5⟩ := qci I3 hf3 J5
      exact hR _ _ _ _ I5 c5 m5 q
    . have key := T.item X' eP eW eK eC i [] s4 _ H4 (fun _ _ => False) J4 (stat fr4) st4 go
      rw [eA] at key
      refine thn key fun r s5 ⟨u,hr,h5⟩ => ?_
      subst hr
      refine thn h5 fun _ s6 ⟨x,H6,J6,r6,y6,st6,fr6⟩ => ?_
      have J6' := J6.pinned (stat fr6) (T.obj _ _ st6)
      have kg := Hg _ s6 _ H6 x u _ J6' r6 (step x H6 y6)
      rw [eP,eW,eA,eE] at kg
      refine thn kg fun _ s7 ⟨σ7,H7,J7,⟨os,ol,eσ⟩,q7⟩ => ?_
      have kt := Ht _ s7 σ7 H7 _ J7 q7
      rw [eP,eW,eA,eE] at kt
      refine thn kt fun ok s8 ⟨H8,J8,q8⟩ => ?_
      have again : ∀ {s9 : Shared} {H9 : Hp} {mm : Nat},Inv X' ([] ++ q4c fp s6.heap) σ7 H9 s9 -> mm < n -> W (i + 1) mm H9 -> ∃ m,m < n /\ ∃ i H',Inv X' [] (bσ own fv σ) H' s9 /\ tn i s9.heap /\ (∀ b ∈ fp,H' b = none) /\ W i m H' := fun {s9 H9 mm} J9 hm w9 => by
        refine ⟨mm,hm,i + 1,H9,(J9.q3v).weak ?_ ?_,T.keep _ _ _ st6 fun b hb o e => (J9.pin (b,o) (List.mem_append_right _ (List.mem_append_right _ (q2j hb e)))).1,fun b hb => ?_,w9⟩
        . rw [eσ]; unfold bσ; rw [List.length_append,List.length_append,List.length_map,ol]
        . intro j v e
          rw [eσ]
          unfold bσ at e
          by_cases hj : j < own.length
          . rw [List.getElem?_append_left (by simpa using hj),List.getElem?_map] at e
            cases q : own[j]? with
            | none => rw [q] at e; cases e
            | some y => rw [q] at e; cases e
          . rw [List.getElem?_append_right (by simpa using hj),List.length_map] at e
            rw [List.getElem?_append_right (by omega),ol]
            exact e
        . obtain ⟨o,e,d⟩ := T.obj _ _ st6 b hb
          exact (J9.pin (b,o) (List.mem_append_right _ (List.mem_append_right _ (q2j hb e)))).2.1
      cases ok with
      | false =>
        rw [if_neg Bool.false_ne_true] at q8 ⊢
        obtain ⟨m',hm,w8⟩ := hNF _ q8
        exact again J8 hm w8
      | true =>
        rw [if_pos rfl] at q8 ⊢
        have ke := He _ s8 σ7 H8 _ J8 q8
        rw [eP,eW,eA,eE] at ke
        refine thn ke fun xv s9 ⟨v,H9,J9,r9,q9⟩ => ?_
        obtain ⟨ys,hD,hz,m',hm,w9⟩ := hNE v H9 q9
        have := (q18 (X := X')) _ s9 σ7 H9 (.ref s.heap.objs.size) [v] (.ref s.heap.objs.size) [xv] (fun _ H10 => W (i + 1) m' H10) J9 rfl (.cons r9 .nil) ⟨_,ys,v,rfl,rfl,hD,hz,w9⟩
        rw [eP,eW,eA,eE] at this
        exact thn this fun _ s10 ⟨_,H10,J10,_,w10⟩ => again J10 hm w10
  rw [<- eEnv] at loop
  exact codeAny_compStart_list loop (T.self _ 0 _ _ _ st1 loop)
end
section
variable {X : Cx} {scope : Scope} {own : List Str} {fv : List (Str × Nat)} {elt tg iter : Expr} {ifs : List Expr} {pos : Pos} {wi : TI} {g : TG} {tc : TT} {te : TE}
theorem Blk.clos (B : Blk X.env.scope X.N scope own fv) (ok : X.Ok) : closureFor scope X.env = pure (L2.clos scope.names X.env.cells) :=
  q6k fun y hy hk => ok.has y.1 (B.free y hy hk)
theorem q9m {osc : Scope} {N0 : List Str} (hc : X.calm = true) (hsc : X.env.scope = osc) (hN0 : X.N = N0) (B : Blk osc N0 scope own fv) (hi : PI X tg iter wi) (hg : ∀ s H fp,PG (blk X scope own fv s H fp) tg g) (ht : ∀ s H fp,PTs (blk X scope own fv s H fp) ifs tc) (he : ∀ s H fp,PE (blk X scope own fv s H fp) elt te)
    (hs : ∀ x,foldedSetIterable iter X.env x = pure x := by intro _; rfl) : PE X (.ListComp elt [⟨tg,iter,ifs,0⟩] scope pos) (tLc own fv wi g tc te) := by
  subst hsc hN0
  intro pins s σ H Q I h
  rw [eval_ListComp]
  refine wpAny_comprehension_free (use := none) rfl hs (B.clos I.ok) B.kind B.loc (thn (hi pins s σ H _ I h) fun v s1 h1 => thn h1 fun itv s2 h2 => ?_)
  obtain ⟨it,fp,tn,J,H2,rfl,I2,T,st2,f2,hw⟩ := h2
  refine qaj hc B hg ht he I2 T st2 f2 hw fun D C H' s' I' c' m' q => ?_
  obtain ⟨m,hn⟩ := m'
  exact ⟨m,hn,fun h' hs' => ⟨.ref D,H',q7f I' c' hs',rfl,q⟩⟩
theorem q56 {osc : Scope} {N0 : List Str} {i : Nat} {x : Str} {pos' spos : Pos} (hc : X.calm = true) (hsc : X.env.scope = osc) (hN0 : X.N = N0) (hN : X.N.Nodup) (hi' : X.N[i]? = some x) (hx : Loc X.env.scope x) (B : Blk osc N0 scope own fv) (hi : PI X tg iter wi) (hg : ∀ s H fp,PG (blk X scope own fv s H fp) tg g) (ht : ∀ s H fp,PTs (blk X scope own fv s H fp) ifs tc) (he : ∀ s H fp,PE (blk X scope own fv s H fp) elt te)
    (hsw : swapsWith (.ListComp elt [⟨tg,iter,ifs,0⟩] scope pos) (some (.Name x pos')) spos.line X.env = pure true := by rfl)
    (hs : ∀ x,foldedSetIterable iter X.env x = pure x := by intro _; rfl) (hf : X.fn x = true \/ X.env.scope.names.lookup x = some .local := by first | exact .inl rfl | exact .inr rfl | assumption) :
    PS X (.Assign [.Name x pos'] (.ListComp elt [⟨tg,iter,ifs,0⟩] scope pos) spos) (tAsg (tLc own fv wi g tc te) (q4s i)) := by
  subst hsc hN0
  intro pins s σ H D I h
  rw [exec_Assign_Name_used _ _ _ _ hsw]
  refine wpAny_bind (wpAny_standAt (wpAny_bind ?_))
  show wpAny _ X.A (do let _ <- comprehension (.ListComp elt [⟨tg,iter,ifs,0⟩] scope pos) scope X.env _ (newList []) false (eval iter X.env) (some (assign (.Name x pos') X.env))) _ _ s
  refine wpAny_bind (wpAny_mono (wpAny_comprehension_free (use := some (assign (.Name x pos') X.env)) (Q := fun _ s' => SP X pins D .next s') rfl hs (B.clos I.ok) B.kind B.loc
    (thn (hi pins s σ H _ I h) fun v s1 h1 => thn h1 fun itv s2 h2 => ?_)) (fun _ s' hq => wpAny_pure (wpAny_pure hq)) fun _ _ e => e)
  obtain ⟨it,fp,tn,J,H2,rfl,I2,T,st2,f2,hw⟩ := h2
  refine qaj (Q := fun x H1 => q4s i x σ H1 D.nx) hc B hg ht he I2 T st2 f2 hw fun L C H' s' I' c' m' q => ?_
  obtain ⟨m,hn⟩ := m'
  show wpAny _ X.A (assign (.Name x pos') X.env (.ref L)) _ _ _
  refine wpAny_assign_Name (q64 I' hN hi' hx (v := .ref L) rfl (fun s'' I'' ⟨a,hsb,ha⟩ => ?_) hf)
  have hCa : C ≠ a := by
    rcases ha with ha | ha
    . rw [ha]; exact c'.2.1
    . exact (c'.2.2.2.2.1 x a ha).symm
  exact ⟨m,hn.sameBut hsb hCa,fun h' hs' => ⟨_,H',q7f I'' c' hs',q⟩⟩
end
end L2
namespace L2
open PySem PySem.Spec PyProof.Rows
section
variable {X : Cx}
theorem q6m (bs : List Bool) : ((List.range bs.length).all fun i => bs.getD i false) = bs.all id := by
  rw [Bool.eq_iff_iff,List.all_eq_true,List.all_eq_true]
  constructor
  . intro h x hx
    obtain ⟨i,hi⟩ := List.getElem?_of_mem hx
    have hlt := (List.getElem?_eq_some_iff.mp hi).1
    have := h i (List.mem_range.mpr hlt)
    rw [List.getD_eq_getElem?_getD,hi] at this
    exact this
  . intro h i hi
    have hlt := List.mem_range.mp hi
    rw [List.getD_eq_getElem?_getD,List.getElem?_eq_getElem hlt]
    exact h _ (List.getElem_mem hlt)
theorem qbo (hc : X.calm = true) : q08 X (.builtin "all") (fun xs H Q => ∃ p, ∃ bs : List Bool,xs = [.ref p] /\ SqL X.K H p (bs.map V.bl) /\ Q (.bl (bs.all id)) H) := by
  intro pins s σ H xs us Q I r h
  obtain ⟨p,bs,rfl,hq,q⟩ := h
  obtain ⟨u,rfl,ru⟩ := vals1 r
  cases ru
  obtain ⟨its,rv,pl,hz⟩ := I.list hq
  have hlen : bs.length = its.length := by have := rv.length; simpa using this
  have hv : ∀ (i : Nat) v,its[i]? = some v -> v = .bool (bs.getD i false) := fun i v hi => by
    have hib : i < bs.length := by rw [hlen]; exact (List.getElem?_eq_some_iff.mp hi).1
    have hb : (bs.map V.bl)[i]? = some (.bl (bs.getD i false)) := by
      rw [List.getElem?_map,List.getElem?_eq_getElem hib,List.getD_eq_getElem?_getD,List.getElem?_eq_getElem hib]; rfl
    obtain ⟨u,hu,ru⟩ := rv.get hb
    rw [hi] at hu; cases hu
    exact ru
  have hne : p ≠ s.heap.objs.size := Nat.ne_of_lt (by obtain ⟨o,n,e,_⟩ := pl; exact Heap.lt_size e)
  refine call_all_walk ?_
  refine wpAny_pyIter_list pl.isList ?_
  refine ⟨s.heap.objs.size,_,_,its.toArray.size,_,_,fun i => bs.getD i false,rfl,Walks.list (A := X.A.in1) (I.ok.hd hc) s.heap.objs.size p hne its.toArray,⟨⟨_,Heap.get?_push_size _ rfl,rfl,rfl⟩,?_⟩,?_,?_⟩
  . exact pl.isList.at fun o e => Heap.get?_push_of_some _ e
  . intro i v s' Q' E' hP hQ'
    have hP : its.toArray[i]? = some v := hP
    rw [hv i v (by simpa using hP)]
    exact wpAny_truthy_bool hQ'
  . intro h' tk kk
    rw [List.size_toArray, <- hlen,q6m]
    refine ⟨.bl _,H,I.kept fun b o e => kk b o ?_ (Heap.get?_push_of_some _ e),rfl,q⟩
    intro z
    have z : b = s.heap.objs.size := by simpa using z
    exact absurd (z ▸ Heap.lt_size e) (Nat.lt_irrefl _)
theorem TyOf.kit {pins : List (Addr × Obj)} {σ : St} {H : Hp} {s : Shared} {x : V} {u t : Value} (I : Inv X pins σ H s) (rx : RelV x u) (ty : TyOf X.K H x t) : ∃ HH,PySem.W.KitX X.K u t HH /\ HH s.heap /\ u ≠ .builtin "__main__.__loader__#opaque" := by
  cases ty with
  | non => cases (show u = Value.none from rx); exact ⟨_,PySem.W.kitx_none,True.intro,fun z => nomatch z⟩
  | bl y => cases (show u = Value.bool y from rx); exact ⟨_,PySem.W.kitx_bool,True.intro,fun z => nomatch z⟩
  | int i => obtain ⟨t,q⟩ := (show ∃ t,u = Value.int i t from rx); cases q; exact ⟨_,PySem.W.kitx_int,True.intro,fun z => nomatch z⟩
  | str y => obtain ⟨t,q⟩ := (show ∃ t,u = Value.str y t from rx); cases q; exact ⟨_,PySem.W.kitx_str,True.intro,fun z => nomatch z⟩
  | flt y => obtain ⟨t,q⟩ := (show ∃ t,u = Value.float y t from rx); cases q; exact ⟨_,PySem.W.kitx_float,True.intro,fun z => nomatch z⟩
  | @lst a xs ea =>
    cases (show u = Value.ref a from rx)
    obtain ⟨_,_,n,_,h1⟩ := (show q05 X.prog X.w H s.heap a (.lst xs) from I.hok a _ ea)
    exact ⟨_,PySem.W.kitx_list,⟨_,h1,rfl⟩,fun z => nomatch z⟩
  | @frz a ob xs ea =>
    cases (show u = Value.ref a from rx)
    obtain ⟨_,_,_,n,_,h1⟩ := (show q05 X.prog X.w H s.heap a (.frz ob (.lst xs)) from I.hok a _ ea)
    exact ⟨_,PySem.W.kitx_list,⟨_,h1,rfl⟩,fun z => nomatch z⟩
  | @tup a xs ea =>
    cases (show u = Value.ref a from rx)
    obtain ⟨_,_,_,p⟩ := (show q05 X.prog X.w H s.heap a (.tup xs) from I.hok a _ ea)
    obtain ⟨o,h1,h2,_⟩ := p
    exact ⟨_,PySem.W.kitx_tuple,⟨o,h1,h2⟩,fun z => nomatch z⟩
  | @dK a kvs ea =>
    cases (show u = Value.ref a from rx)
    obtain ⟨_,_,vs,_,p⟩ := (show q05 X.prog X.w H s.heap a (.dK kvs) from I.hok a _ ea)
    obtain ⟨o,es,ep,h1,h2,_⟩ := p
    exact ⟨_,PySem.W.kitx_dict,⟨o,h1,h2.1⟩,fun z => nomatch z⟩
  | @dT a kvs ea =>
    cases (show u = Value.ref a from rx)
    obtain ⟨_,_,xs,_,o,es,ep,h1,h2,_⟩ := (show q05 X.prog X.w H s.heap a (.dT kvs) from I.hok a _ ea)
    exact ⟨_,PySem.W.kitx_dict,⟨o,h1,h2.1⟩,fun z => nomatch z⟩
  | @ins a C dx fs ea cl ha hn htk hm =>
    cases (show u = Value.ref a from rx)
    obtain ⟨mA,O,_⟩ := qcc I.hok ea
    obtain ⟨od,J,_⟩ := O.look
    exact ⟨_,PySem.W.kitx_own (cl.get _) cl.hd ha hn htk hm,J,fun z => nomatch z⟩
theorem q8l : ∀ {ns : List String} {its : List Value},Vals (ns.map V.ty) its -> its = ns.map Value.type
  | [],_,rv => by cases rv; rfl
  | a :: r,_,rv => by
    rw [List.map_cons] at rv
    cases rv with
    | cons r1 r2 =>
      cases r1
      rw [List.map_cons,q8l r2]
end
end L2
namespace L2
open PySem PySem.Spec PyProof.Rows
section
variable {X : Cx} {K : PySem.W.Frag}
theorem q2t (h : X.K = K) : IxR X (rIx K) := h ▸ q0t
end
end L2
namespace L2
open PySem PySem.Spec PyProof.Rows
def TrQ (h B : Heap) (e : Addr) (cls fl : Value) : Prop :=
  ∃ oe vs T oT ts,h.get? e = some oe /\ oe.cls = cls /\ oe.data = .fields vs /\ vs[1]? = some (.ref T) /\ vs[2]? = some .none /\ B.get? T = none /\ T ≠ e /\ h.get? T = some oT /\ oT.data = .fields ts /\ ts[3]? = some fl
structure At (B : Heap) (l : List Env) (e : Addr) (cls fl : Value) (h : Heap) : Prop where
  st : B.StaysIn h
  nw : B.get? e = none
  fr : h.FunFrames B l
  tr : TrQ h B e cls fl
section
variable {M : Model} {A : Around} {E : Value -> Shared -> Prop} {s : Shared} {B : Heap} {env : Env} {outer : List Env} {L e : Addr} {oe : Obj} {vs : Array Value} {head cls fl : Value} {hadNext : Bool} {Q : Unit -> Shared -> Prop}
theorem entryQ (hfr : A.frames = some (env :: outer)) (hl : s.heap.FunFrames B (env :: outer)) (hf : env.frame = some L) (he : s.heap.get? e = some oe) (hkb : B.StaysIn s.heap) (hen : B.get? e = none) (hd : oe.data = .fields vs)
    (hsz : 1 < vs.size) (h2 : vs[2]? = some .none) (h : ∀ h',At B (env :: outer) e oe.cls (rawInt L) h' -> s.heap.UpToSlots h' -> Q () { s with heap := h' }) :
    wpAny M A (do let a <- frameOf env; let pl <- entryPlaceOf L hadNext; let b <- EntryCells.newEntry head a .none (rawInt L) .none pl; setField (.ref e) 1 b) Q E s := by
  have hene : e ∉ (env :: outer).filterMap (·.frame) := fun hm => by
    obtain ⟨_,o,ho,hnf⟩ := hl.mem hm
    rw [he] at ho; cases ho; exact hnf vs hd
  refine wpAny_bind (wpAny_frameOf_fun hfr hl hf fun h₁ hs₁ => ?_)
  refine wpAny_bind (wpAny_entryPlaceOf fun pl hpl => ?_)
  unfold EntryCells.newEntry newFields
  refine wpAny_bind (wpAny_newObj_type ?_ (hpl.sizeOk5 _ _ _ _ _))
  have he₁ : h₁.get? e = some oe := (hs₁.2.1 e hene).trans he
  have kb₁ : B.StaysIn h₁ := fun b o hbo => (hs₁.2.1 b fun hm => by rw [(hl.mem hm).1] at hbo; cases hbo).trans (hkb b o hbo)
  generalize hT : ([head, .ref L, .none,rawInt L, .none] ++ (if pl.isEmpty then List.replicate 6 Value.none else pl)).toArray = tb
  have htb : tb[3]? = some (rawInt L) := by subst hT; rcases hpl with rfl | ⟨_,_,_,_,_,_,_,rfl⟩ <;> simp
  have he₂ := Heap.get?_push_of_some (h := h₁) { cls := .type "traceback",dict := none,data := .fields tb } he₁
  refine wpAny_setField he₂ hd hsz (h _ ?_ fun b o hb hnf => ?_)
  . have hTe : h₁.objs.size ≠ e := Nat.ne_of_gt (Heap.lt_size he₁)
    have hd₃ := Obj.data_mapFields hd (·.setIfInBounds 1 (Value.ref h₁.objs.size))
    have he₃ := Heap.get?_update_self (Obj.mapFields (·.setIfInBounds 1 (Value.ref h₁.objs.size))) he₂ (Obj.isFreed_of_fields hd₃)
    have hT₃ := (Heap.get?_update_other (h₁.push { cls := .type "traceback",dict := none,data := .fields tb }) (Obj.mapFields (·.setIfInBounds 1 (Value.ref h₁.objs.size))) (Ne.symm hTe)).trans (Heap.get?_push_size h₁ rfl)
    have keep : ∀ b o,b ≠ e -> h₁.get? b = some o -> ((h₁.push { cls := .type "traceback",dict := none,data := .fields tb }).update e (Obj.mapFields (·.setIfInBounds 1 (Value.ref h₁.objs.size)))).get? b = some o := fun b o hbe hb => by
      rw [Heap.get?_update_other _ _ (Ne.symm hbe)]
      exact Heap.get?_push_of_some _ hb
    refine ⟨fun b o hbo => keep b o (fun q => by rw [q,hen] at hbo; cases hbo) (kb₁ b o hbo),hen,hl.of_keeps fun b o hb hnf => ?_,?_⟩
    . obtain ⟨sl,hs⟩ := hs₁.2.2 b o hb
      exact ⟨_,keep b _ (fun q => by rw [q,he] at hb; cases hb; exact hnf vs hd) hs,rfl⟩
    . exact ⟨_,_,h₁.objs.size,_,_,he₃,Obj.cls_mapFields _ _,hd₃,by simp [hsz],by rw [Array.getElem?_setIfInBounds_ne (by decide)]; exact h2,kb₁.fresh,hTe,hT₃,rfl,htb⟩
  . obtain ⟨sl,hs⟩ := hs₁.2.2 b o hb
    refine ⟨sl,?_⟩
    rw [Heap.get?_update_other _ _ (fun q => by rw [<- q,he] at hb; cases hb; exact hnf vs hd)]
    exact Heap.get?_push_of_some _ hs
theorem q90 (hfr : A.frames = some (env :: outer)) (hf : env.frame = some L) (x : At B (env :: outer) e cls .none s.heap)
    (h : ∀ h',At B (env :: outer) e cls (rawInt L) h' -> s.heap.UpToSlots h' -> Q () { s with heap := h' }) : wpAny M A (noteFrame (.ref e) env) Q E s := by
  obtain ⟨hkb,hen,hl,oe,vs,T,oT,ts,he,hcls,hd,h1,h2,hnT,hTe,hT,hdT,h3⟩ := x
  subst hcls
  unfold noteFrame
  simp only [hf]
  refine wpAny_bind (wpAny_field he hd h1 ?_)
  rw [if_pos (show (Value.ref T != Value.none) = true from by simp)]
  refine wpAny_bind (wpAny_field hT hdT h3 ?_)
  rw [if_neg (show ¬ ((Value.none == rawInt L) = true) from by simp [rawInt])]
  refine wpAny_bind (wpAny_setField hT hdT (Array.getElem?_eq_some_iff.mp h3).1 ?_)
  have other : ∀ b,b ≠ T -> (s.heap.update T (Obj.mapFields (·.setIfInBounds 3 Value.none))).get? b = s.heap.get? b := fun b hb => Heap.get?_update_other _ _ (Ne.symm hb)
  have noRecord : ∀ b o,s.heap.get? b = some o -> (∀ vs,o.data ≠ .fields vs) -> b ≠ T := fun b o hb hnf q => by
    rw [q,hT] at hb; cases hb; exact hnf ts hdT
  refine entryQ hfr (hl.of_keeps fun b o hb hnf => ⟨o,(other b (noRecord b o hb hnf)).trans hb,rfl⟩) hf ((other e (Ne.symm hTe)).trans he)
    (fun b o hbo => (other b fun q => by rw [q,hnT] at hbo; cases hbo).trans (hkb b o hbo)) hen hd (Array.getElem?_eq_some_iff.mp h1).1 h2 fun h' x1 x2 => h h' x1 fun b o hb hnf => x2 b o ((other b (noRecord b o hb hnf)).trans hb) hnf
theorem qde {l : List Env} (x : At B l e cls fl s.heap) (h : ∀ h',At B l e cls .none h' -> s.heap.UpToSlots h' -> Q () { s with heap := h' }) : wpAny M A (setFlight (.ref e) none) Q E s := by
  obtain ⟨hkb,hen,hl,oe,vs,T,oT,ts,he,hcls,hd,h1,h2,hnT,hTe,hT,hdT,h3⟩ := x
  have hsz3 : 3 < ts.size := (Array.getElem?_eq_some_iff.mp h3).1
  have other : ∀ b,b ≠ T -> (s.heap.update T (Obj.mapFields (·.setIfInBounds 3 ((none : Option Addr).elim Value.none fun f => rawInt f)))).get? b = s.heap.get? b := fun b hb => Heap.get?_update_other _ _ (Ne.symm hb)
  have noRecord : ∀ b o,s.heap.get? b = some o -> (∀ vs,o.data ≠ .fields vs) -> b ≠ T := fun b o hb hnf q => by
    rw [q,hT] at hb; cases hb; exact hnf ts hdT
  unfold setFlight
  refine wpAny_bind (wpAny_field he hd h1 ?_)
  rw [if_pos (show (Value.ref T != Value.none) = true from by simp)]
  refine wpAny_setField hT hdT hsz3 (h _ ⟨fun b o hbo => (other b fun q => by rw [q,hnT] at hbo; cases hbo).trans (hkb b o hbo),hen,
    hl.of_keeps fun b o hb hnf => ⟨o,(other b (noRecord b o hb hnf)).trans hb,rfl⟩,?_⟩ fun b o hb hnf => ⟨o.slots,(other b (noRecord b o hb hnf)).trans hb⟩)
  exact ⟨oe,vs,T,_,_,(other e (Ne.symm hTe)).trans he,hcls,hd,h1,h2,hnT,hTe,Heap.get?_update_self _ hT (Obj.isFreed_of_fields (Obj.data_mapFields hdT _)),Obj.data_mapFields hdT _,by simp [hsz3]⟩
theorem At.pop {l : List Env} {h : Heap} (x : At B (env :: l) e cls fl h) : At B l e cls fl h := ⟨x.st,x.nw,x.fr.2.2,x.tr⟩
theorem q9p (hfr : A.frames = some (env :: outer)) (hf : env.frame = some L) (x : At B (env :: outer) e cls .none s.heap) (hQ : ∀ h',At B outer e cls .none h' -> s.heap.UpToSlots h' -> Q () { s with heap := h' }) :
    wpAny M A (leaving env (.ref e)) Q E s := by
  unfold leaving
  refine wpAny_bind (q90 hfr hf x fun h' x up => ?_)
  exact qde x fun h'' x' up' => hQ h'' x'.pop (up.trans up')
end
end L2
namespace L2
open PySem PySem.Spec PyProof.Rows
structure Fly (P : Program) (w : World) (outer : List Env) (H : Hp) (s : Shared) (a C : Addr) (H' : Hp) (B : Heap) (s' : Shared) : Prop where
  os : s'.os = s.os
  bare : AllBare s'.gens
  hok : HOk P w H' B
  kp : ∀ b o,s.heap.get? b = some o -> H b = none -> b ∉ frs outer -> B.get? b = some o
  th : ∀ b o,s.heap.get? b = some o -> b ∉ frs outer -> ∃ o',B.get? b = some o'
  un : Un (frs outer) [] H H' s.heap s'.heap
  fly : At B outer a (.ref C) .none s'.heap
def CX1 (P : Program) (w : World) : CXT := fun outer H s E e s' => ∃ a C H' B,e = .ref a /\ Fly P w outer H s a C H' B s' /\ E (.ref C) none H'
section
variable {X : Cx} {pins : List (Addr × Obj)} {σ : St} {H H' : Hp} {s s' : Shared} {a C : Addr} {B : Heap}
theorem Inv.ff0 (I : Inv X pins σ H s) : ∀ b ∈ frs X.outer,X.H₀ b = none /\ ∃ o,X.s₀.heap.get? b = some o /\ ∀ vs,o.data ≠ .fields vs := fun b hb => ⟨I.ok.frf b hb,(I.ok.funs.mem hb).2⟩
theorem qdd (I : Inv X pins σ H s) (st : X.stack = X.env :: X.outer) (ex : X.ex = []) (os : s'.os = s.os) (bare : AllBare s'.gens) (hok : HOk X.prog X.w H' B)
    (k1 : ∀ b o,s.heap.get? b = some o -> H b = none -> b ∉ frs X.stack -> B.get? b = some o) (k2 : ∀ b o,s.heap.get? b = some o -> b ∉ frs X.stack -> ∃ o',B.get? b = some o')
    (un : Un (frs X.stack) [] H H' s.heap s'.heap) (st' : B.StaysIn s'.heap) {h'' : Heap} (fl : At B X.outer a (.ref C) .none h'') (up : s'.heap.UpToSlots h'') : Fly X.prog X.w X.outer X.H₀ X.s₀ a C H' B { s' with heap := h'' } := by
  have I' : Inv X pins σ H' s' := I.call' os un (hok.kept st') bare fun b hb => absurd hb (by simp)
  have nst : ∀ b o,X.s₀.heap.get? b = some o -> b ∉ frs X.outer -> b ∉ frs X.stack := fun b o q nf hb => by
    rcases List.mem_cons.mp (I.q48 b hb) with z | z
    . have e1 := Heap.lt_size q
      have e2 := I.ok.above
      rw [z] at e1
      exact absurd e1 (Nat.not_lt.mpr e2)
    . exact nf z
  have nex : ∀ b,b ∉ X.ex := fun b => by rw [ex]; simp
  have kk : ∀ b o,X.s₀.heap.get? b = some o -> X.H₀ b = none -> b ∉ frs X.outer -> B.get? b = some o := fun b o q n nf =>
    k1 b o (I.base.keep b o q n nf (nex b)) (I.base.free b o q n (nex b)) (nst b o q nf)
  have tt : ∀ b o,X.s₀.heap.get? b = some o -> b ∉ frs X.outer -> ∃ o',B.get? b = some o' := fun b o q nf => by
    obtain ⟨o1,e1⟩ := I.base.there b o q (nex b)
    exact k2 b o1 e1 (nst b o q nf)
  have sl : ∀ b o,X.s₀.heap.get? b = some o -> b ∈ frs X.outer -> ∃ sl,h''.get? b = some { o with slots := sl } := fun b o q hf => by
    obtain ⟨n,o1,q1,nd⟩ := I.ff0 b hf
    rw [q] at q1; cases q1
    obtain ⟨sl,e⟩ := I'.base.slot b o q n hf (nex b)
    obtain ⟨sl',e'⟩ := up b _ e nd
    exact ⟨sl',e'⟩
  refine ⟨os.trans I.os,bare,hok,kk,tt,?_,fl⟩
  refine ⟨fun b o q n nf _ => fl.st b o (kk b o q n nf),fun b o q n hf _ => sl b o q hf,fun b o q n _ => I'.base.free b o q n (nex b),fun b o q hx => ?_,I'.base.tups,I'.base.frzs,I'.base.tbls⟩
  by_cases hb : b ∈ frs X.outer
  . obtain ⟨sl',e⟩ := sl b o q hb
    exact ⟨_,e⟩
  . obtain ⟨o',e⟩ := tt b o q hb
    exact ⟨o',fl.st b o' e⟩
structure Out (X : Cx) (E : XK) : Prop where
  st : X.stack = X.env :: X.outer
  fr : X.env.frame = some X.env.locals
  ex : X.ex = []
  pass : ∀ a s',wpAny (model X.prog X.w) X.A (leaving X.env (.ref a)) (fun _ s'' => CX1 X.prog X.w X.outer X.H₀ X.s₀ E (.ref a) s'') (fun _ _ => False) s' -> X.xe (.ref a) s'
theorem Out.passes {E : XK} (O : Out X E) : Passes (CX1 X.prog X.w) X E := by
  intro pins σ H s e s' I hx
  obtain ⟨a,C,H',B,rfl,F,q⟩ := hx
  refine O.pass a s' (q9p (by rw [I.ok.frames,O.st]) O.fr (by rw [<- O.st]; exact F.fly) fun h' fl' up => ?_)
  exact ⟨a,C,H',B,rfl,qdd I O.st O.ex F.os F.bare F.hok F.kp F.th F.un F.fly.st fl' up,q⟩
end
end L2
namespace L2
open PySem PySem.Spec PyProof.Rows
def excO (a C : Addr) : HO := .ext fun h => ∃ o vs,h.get? a = some o /\ o.cls = .ref C /\ o.data = .fields vs /\ vs[2]? = some .none
end L2
namespace L2
open PySem PySem.Spec PyProof.Rows Builtin Builtin.ObjectAttr Builtin.Getset_descriptor
section
variable {P : Program} {w : World} {K : PySem.W.Frag} {mg : Str -> Option Value} {base : Heap} {x qual : Str} {st : Stmt} {f : Addr} {fd : FuncData} {N ps : List Str} {k : Nat} {sp : Sp}
theorem out_of {qual : Str} {sc : Scope} {cdv : Value} {A : Around} {outer : List Env} {s : Shared} {H : Hp} {E : XK} : Out (cxOf (CX1 P w) P w K mg base N qual sc f cdv A outer s H E) E :=
  ⟨rfl,rfl,rfl,fun a s' h => wpAny_mono h (fun _ _ q => q) fun _ _ z => False.elim z⟩
theorem Fun.okR (F : Fun K x qual st f fd) (S : q15 N ps (qr st)) (len : ∀ vs H Q E,sp vs H Q E -> vs.length = ps.length)
    (hbody : ∀ (cdv : Value) (A : Around) (outer : List Env) (s : Shared) (H : Hp) (vs : List V) (Q : VK) (E : XK),Room k (A.deeper (envOfC qual (qr st) s.heap.objs.size f cdv)) -> sp vs H Q E ->
      ∃ t,PSs (cxOf (CX1 P w) P w K mg base N qual (qr st) f cdv A outer s H E) (q0l st) t /\ t { nx := fun _ H' => Q .non H',rt := Q } (start N vs) H) : FnOk P w K mg base (CX1 P w) (k + 1) f fd ps sp := by
  obtain ⟨oc,od,kV,doc,pm,an,cdv,ct,osl,rfl,lk,hcd⟩ := F.ex
  exact fn_of lk hcd S len fun A outer s H vs Q E hr hsp => hbody cdv A outer s H vs Q E hr hsp
end
end L2
namespace L2
open PySem PySem.Spec PyProof.Rows
section
variable {X : Cx}
theorem qcr {K : PySem.W.Frag} {ts : List Expr} {t : TGs} {kk : Nat} {tpos : Pos} {n : Nat} (hK : X.K = K) (hn : n = ts.length) (hc : X.calm = true) (h : PGs X ts t) (h1 : (assignEach ts X.env).length = n := by rfl) (h2 : (assignEach ts X.env).findIdx? (·.1) = none := by rfl) : PG X (.Tuple ts kk tpos) (gTup K n t) := by
  subst hK
  subst h1
  exact pg_tup hc h rfl h2
end
end L2
set_option maxHeartbeats 8000000
namespace L2
open PySem PySem.Spec PyProof.Rows
def meet {κ : Type} [DecidableEq κ] (acc : List κ) (x : κ) : List κ := if x ∈ acc then acc else acc ++ [x]
def metK {κ : Type} [DecidableEq κ] (xs : List κ) : List κ := xs.foldl meet []
theorem qan {κ : Type} [DecidableEq κ] (xs : List κ) (x : κ) : metK (xs ++ [x]) = meet (metK xs) x := by unfold metK; rw [List.foldl_append]; rfl
theorem qd7 {κ : Type} [DecidableEq κ] (xs : List κ) : ∀ acc : List κ,(xs.foldl meet acc).length <= acc.length + xs.length := by
  induction xs with
  | nil => intro acc; exact Nat.le_refl _
  | cons x r ih =>
    intro acc
    have h1 := ih (meet acc x)
    have h2 : (meet acc x).length <= acc.length + 1 := by
      unfold meet; split
      . omega
      . rw [List.length_append]; exact Nat.le_refl _
    rw [List.foldl_cons,List.length_cons]; omega
end L2
namespace L2
open PySem PySem.Spec PyProof.Rows
section
variable {X : Cx}
theorem q0e : Passes (CX1 X.prog X.w) X (fun _ _ _ => False) := by
  intro pins σ H s e s' I hx
  obtain ⟨a,C,H',B,_,_,q⟩ := hx
  exact q.elim
end
end L2
namespace L2
open PySem PySem.Spec PyProof.Rows
section
variable {X : Cx} {pins : List (Addr × Obj)} {σ : St} {H : Hp} {s : Shared} {l b : Addr} {xs ys zs : List V}
theorem Inv.lstR (I : Inv X pins σ H s) (hH : Rd H l (.lst xs)) : xs.length <= sizeLine /\ ∃ (its : List Value) (n : Nat),Vals xs its /\ xs.length = its.length /\ s.heap.get? l = some { cls := .type "list",data := .seq its.toArray n } := by
  obtain ⟨z,its,n,r,e⟩ := hH.ok I.hok
  exact ⟨z,its,n,r,r.length,e⟩
def q77 : V -> List V -> Hp -> VK -> Prop := fun x vs H Q => ∃ l b xs zs,x = .ref l /\ vs = [.ref b] /\ H l = some (.lst xs) /\ Rd H b (.lst zs) /\ xs.length + zs.length <= sizeLine /\ Q .non (upd H l (.lst (xs ++ zs)))
theorem q9o : MtM X "list.extend" q77 := by
  intro pins s σ H x vs v us Q I rx rv h
  obtain ⟨l,b,xs,zs,rfl,rfl,hH,hB,hz,q⟩ := h
  cases rx
  obtain ⟨u,rfl,ru⟩ := rv.one
  cases ru
  obtain ⟨z,its,n,r,hl,e⟩ := I.lstM hH
  obtain ⟨z2,its2,n2,r2,hl2,e2⟩ := I.lstR hB
  have hsz : its.toArray.size + its2.toArray.size <= sizeLine := by rw [List.size_toArray,List.size_toArray]; omega
  have hlong : ¬ (!its.toArray.isEmpty && Builtin.List.listTooLong (its.toArray.size + its2.toArray.size)) = true := by
    rw [qby hsz,Bool.and_false]
    exact Bool.false_ne_true
  refine call_meets F.slot_list_extend ⟨_,e,rfl⟩ F.entry_list_extend (F.args_list_extend_2 _ _)
    (AutoSeq1.list_extend_list_list_0 l its.toArray n b its2.toArray n2 hlong (by rw [List.size_toArray]; omega) (by omega)) ⟨e,e2,?_⟩
  refine ⟨.non,_,I.lset (its' := its ++ its2) hH e (by simp) (r.append r2) ?_,rfl,q⟩
  rw [List.length_append]
  omega
end
end L2
namespace L2
open PySem PySem.Spec PyProof.Rows
inductive TyZ (K : PySem.W.Frag) (H : Hp) : V -> Value -> Prop where
  | of {x : V} {t : Value} (h : TyOf K H x t) : TyZ K H x t
  | tup {a : Addr} {xs : List V} (h : SqT K H a xs) : TyZ K H (.ref a) (.type "tuple")
  | lst {a : Addr} {xs : List V} (h : Rd H a (.lst xs)) : TyZ K H (.ref a) (.type "list")
  | dK {a : Addr} {kvs : List (Key × V)} (h : Rd H a (.dK kvs)) : TyZ K H (.ref a) (.type "dict")
section
variable {X : Cx}
theorem TyZ.kit {pins : List (Addr × Obj)} {σ : St} {H : Hp} {s : Shared} {x : V} {u t : Value} (I : Inv X pins σ H s) (rx : RelV x u) (ty : TyZ X.K H x t) : ∃ HH,PySem.W.KitX X.K u t HH /\ HH s.heap /\ u ≠ .builtin "__main__.__loader__#opaque" := by
  cases ty with
  | of h => exact h.kit I rx
  | @tup a xs h =>
    cases (show u = Value.ref a from rx)
    obtain ⟨its,r,p,hz⟩ := I.tuple h
    obtain ⟨o,h1,h2,_⟩ := p
    exact ⟨_,PySem.W.kitx_tuple,⟨o,h1,h2⟩,fun z => nomatch z⟩
  | @lst a xs h =>
    cases (show u = Value.ref a from rx)
    obtain ⟨_,_,n,_,h1⟩ := h.ok I.hok
    exact ⟨_,PySem.W.kitx_list,⟨_,h1,rfl⟩,fun z => nomatch z⟩
  | @dK a kvs h =>
    cases (show u = Value.ref a from rx)
    obtain ⟨_,_,vs,_,p⟩ := h.ok I.hok
    obtain ⟨o,es,ep,h1,h2,_⟩ := p
    exact ⟨_,PySem.W.kitx_dict,⟨o,h1,h2.1⟩,fun z => nomatch z⟩
def rIsi (K : PySem.W.Frag) : List V -> Hp -> VK -> Prop := fun xs H Q => ∃ x n t b,xs = [x, .ty n] /\ TyZ K H x t /\ PySem.W.kitOne K t (.type n) = some b /\ Q (.bl b) H
theorem q0p : q08 X (.builtin "isinstance") (rIsi X.K) := by
  intro pins s σ H xs us Q I r h
  obtain ⟨x,n,t,b,rfl,ty,e,q⟩ := h
  obtain ⟨u,w',rfl,ru,rw'⟩ := vals2 r
  cases rw'
  obtain ⟨HH,Z,hh,hne⟩ := ty.kit I ru
  exact PySem.W.kia_one Z I.kIn hh e hne fun tk => ⟨.bl b,H,I.tok tk,rfl,q⟩
def rIsiT (K : PySem.W.Frag) : List V -> Hp -> VK -> Prop := fun xs H Q => ∃ x p, ∃ ns : List String, ∃ t b,xs = [x, .ref p] /\ H p = some (.tup (ns.map V.ty)) /\ TyZ K H x t /\ PySem.W.kitAny K t (ns.map Value.type) = some b /\ Q (.bl b) H
theorem q92 : q08 X (.builtin "isinstance") (rIsiT X.K) := by
  intro pins s σ H xs us Q I r h
  obtain ⟨x,p,ns,t,b,rfl,hp,ty,e,q⟩ := h
  obtain ⟨u,w',rfl,ru,rw'⟩ := vals2 r
  cases rw'
  obtain ⟨HH,Z,hh,hne⟩ := ty.kit I ru
  obtain ⟨_,its,rv,o,h1,h2,n,h3⟩ := (show q05 X.prog X.w H s.heap p (.tup (ns.map V.ty)) from I.hok p _ hp)
  have ei : its = ns.map Value.type := q8l rv
  obtain ⟨oc,od,odt,osl⟩ := o
  cases h2
  cases h3
  subst ei
  exact PySem.W.kia_tup Z I.kIn hh h1 e hne fun tk => ⟨.bl b,H,I.tok tk,rfl,q⟩
def rLen (K : PySem.W.Frag) : List V -> Hp -> VK -> Prop := fun xs H Q => (∃ p ys,xs = [.ref p] /\ (SqL K H p ys \/ SqT K H p ys) /\ Q (.int ys.length) H) \/ ∃ z,xs = [.str z] /\ z.length <= sizeLine /\ Q (.int z.length) H
theorem q1y : q08 X (.builtin "len") (rLen X.K) := q08.or q83 q6y
def q8v (K : PySem.W.Frag) : List V -> Hp -> VK -> Prop := fun xs H Q => ∃ p ys,xs = [.ref p] /\ (SqL K H p ys \/ SqT K H p ys) /\ ∀ l,H l = none -> Q (.ref l) (upd H l (.lst ys))
theorem q9e : q08 X (.type "list") (q8v X.K) := q71
def q76 (K : PySem.W.Frag) : List V -> Hp -> VK -> Prop := fun xs H Q => ∃ p ys,xs = [.ref p] /\ ((SqL K H p ys /\ ∀ l,H l = none -> Q (.ref l) (upd H l (.tup ys))) \/ (SqT K H p ys /\ Q (.ref p) H))
theorem q89 : q08 X (.type "tuple") (q76 X.K) := q6j
def rAll (K : PySem.W.Frag) : List V -> Hp -> VK -> Prop := fun xs H Q => ∃ p, ∃ bs : List Bool,xs = [.ref p] /\ SqL K H p (bs.map V.bl) /\ Q (.bl (bs.all id)) H
theorem qaq (hc : X.calm = true) : q08 X (.builtin "all") (rAll X.K) := qbo hc
def rMin2 : List V -> Hp -> VK -> Prop := fun xs H Q => ∃ i j,xs = [.int i, .int j] /\ Q (.int (if j < i then j else i)) H
theorem q97 (hc : X.calm = true) : q08 X (.builtin "min") rMin2 := qav hc
def rStrI : List V -> Hp -> VK -> Prop := fun xs H Q => ∃ i,xs = [.int i] /\ i.natAbs.log2 < 1920 /\ Q (.str (toString i)) H
theorem q39 : q08 X (.type "str") rStrI := q82
end
end L2
namespace L2
open PySem PySem.Spec PyProof.Rows
section
variable {X : Cx} {K : PySem.W.Frag} {tg : Expr}
theorem qbc : SlR X (rSlL X.K) := qd2
end
end L2
namespace Z
open PySem L2
inductive AV where
  | non | bl (b : Bool) | int (i : Int) | str (x : Str)
  | tup (xs : List AV) | lst (xs : List AV) | dk (ks : List Key) (xs : List AV) | ref (k : Nat)
  | kst (xs : List AV)
  | xc (c : Nat)
inductive Cell where
  | dead | lst (xs : List AV) | dk (ks : List Key) (xs : List AV) | ins (c : Nat) (fs : List (Nat × AV))
abbrev AEnv := List (Option AV)
abbrev AH := List Cell
inductive Re (α : Type) where
  | ok (x : α) (h : AH) | ex (c : Nat) (h : AH) | no
def Re.bind {α β : Type} (r : Re α) (f : α -> AH -> Re β) : Re β := match r with | .ok x h => f x h | .ex c h => .ex c h | .no => .no
@[simp] theorem Re.q5x {α β : Type} (x : α) (h : AH) (f : α -> AH -> Re β) : (Re.ok x h).bind f = f x h := rfl
@[simp] theorem Re.bind_ex {α β : Type} (c : Nat) (h : AH) (f : α -> AH -> Re β) : (Re.ex c h : Re α).bind f = .ex c h := rfl
@[simp] theorem Re.bind_no {α β : Type} (f : α -> AH -> Re β) : (Re.no : Re α).bind f = .no := rfl
structure Ct where
  K : PySem.W.Frag
  cl : Nat -> Addr
  fn : Nat -> Str
  fl : Nat -> List Nat
  inj : ∀ c i j,i ∈ fl c -> j ∈ fl c -> fn i = fn j -> i = j
  fld : ∀ c i,i ∈ fl c -> Cls K (cl c) /\ qay K (cl c) (fn i)
  fg : Nat -> List Nat
  pin : Option (Addr × Addr) := none
structure Wd where
  ρ : List Addr
  Fz : Addr -> Prop
  h : AH
  H : Hp
mutual
def Tr (C : Ct) (w : Wd) : AV -> V -> Prop
  | .non,v => v = .non
  | .bl b,v => v = .bl b
  | .int i,v => v = .int i
  | .str x,v => v = .str x
  | .tup xs,v => ∃ a vs,v = .ref a /\ SqT C.K w.H a vs /\ Trs C w xs vs
  | .lst xs,v => ∃ a vs,v = .ref a /\ w.Fz a /\ Rd w.H a (.lst vs) /\ Trs C w xs vs
  | .dk ks xs,v => ∃ a kvs,v = .ref a /\ w.Fz a /\ Rd w.H a (.dK kvs) /\ kvs.map (·.1) = ks /\ Trs C w xs (kvs.map (·.2))
  | .ref k,v => ∃ a,v = .ref a /\ w.ρ[k]? = some a
  | .kst xs,v => ∃ a vs,v = .ref a /\ ((w.Fz a /\ Rd w.H a (.lst vs)) \/ SqL C.K (fun _ => none) a vs) /\ Trs C w xs vs
  | .xc c,v => ∃ a,v = .ref a /\ C.pin = some (a,C.cl c)
def Trs (C : Ct) (w : Wd) : List AV -> List V -> Prop
  | [],vs => vs = []
  | x :: xs,vs => ∃ v us,vs = v :: us /\ Tr C w x v /\ Trs C w xs us
end
def Flds (C : Ct) (w : Wd) : List (Nat × AV) -> List (Str × V) -> Prop
  | [],fs => fs = []
  | p :: r,fs => ∃ v us,fs = (C.fn p.1,v) :: us /\ Tr C w p.2 v /\ Flds C w r us
def q3f (C : Ct) (w : Wd) : Cell -> Addr -> Prop
  | .dead,_ => True
  | .lst xs,a => ∃ vs,w.H a = some (.lst vs) /\ Trs C w xs vs
  | .dk ks xs,a => ∃ kvs,w.H a = some (.dK kvs) /\ kvs.map (·.1) = ks /\ Trs C w xs (kvs.map (·.2))
  | .ins c fs,a => ((∀ p ∈ fs,p.1 ∈ C.fl c) /\ C.fl c = C.fg c) /\ ∃ dx fvs,w.H a = some (.ins (C.cl c) dx fvs) /\ Flds C w fs fvs
def Live (w : Wd) (a : Addr) : Prop := ∃ (k : Nat) (c : Cell),w.h[k]? = some c /\ c ≠ .dead /\ w.ρ[k]? = some a
structure Ok (C : Ct) (w : Wd) : Prop where
  len : w.ρ.length = w.h.length
  nd : w.ρ.Nodup
  th : ∀ a ∈ w.ρ,w.H a ≠ none
  cell : ∀ (k : Nat) c a,w.h[k]? = some c -> w.ρ[k]? = some a -> q3f C w c a
  fz : ∀ a,Live w a -> ¬ w.Fz a
  fzt : ∀ a,w.Fz a -> w.H a ≠ none
  pn : ∀ a c,C.pin = some (a,c) -> w.H a = some (excO a c)
def Kept (f : Prop) (o : HO) (r : Option HO) : Prop := r = some o \/ (f /\ ∃ ob kvs,o = .dK kvs /\ r = some (.frz ob o))
structure Le (w w' : Wd) : Prop where
  pre : ∃ t,w'.ρ = w.ρ ++ t
  fz : ∀ a,w.Fz a -> w'.Fz a
  ks : ∀ b, ¬ Live w b -> ∀ o,w.H b = some o -> Kept (w'.Fz b) o (w'.H b)
  fn : ∀ a,w'.Fz a -> w.Fz a \/ w.H a = none \/ Live w a
  nw : ∀ a,Live w' a -> w.H a = none \/ Live w a
  nn : ∀ a,w.H a ≠ none -> w'.H a ≠ none
  rn : ∀ a,a ∈ w'.ρ -> a ∈ w.ρ \/ w.H a = none
theorem Rd.ne {H : Hp} {a : Addr} {u : HO} (r : Rd H a u) : H a ≠ none := by
  rcases r with r | ⟨o,r⟩ <;> rw [r] <;> intro z <;> cases z
theorem Le.kp {w w' : Wd} (le : Le w w') (b : Addr) (hb : ¬ Live w b) (u : HO) (r : Rd w.H b u) : Rd w'.H b u := by
  rcases r with r | ⟨o,r⟩
  . rcases le.ks b hb _ r with q | ⟨_,ob,kvs,rfl,q⟩
    . exact .inl q
    . exact .inr ⟨ob,q⟩
  . rcases le.ks b hb _ r with q | ⟨_,ob,kvs,e,q⟩
    . exact .inr ⟨o,q⟩
    . cases e
theorem Le.refl (w : Wd) : Le w w := ⟨⟨[],by simp⟩,fun _ h => h,fun _ _ _ h => .inl h,fun _ h => .inl h,fun _ h => .inr h,fun _ h => h,fun _ h => .inl h⟩
theorem Le.trans {w w' w'' : Wd} (a : Le w w') (b : Le w' w'') : Le w w'' := by
  have hl : ∀ x,Live w' x -> w.H x = none \/ Live w x := a.nw
  have hn : ∀ x,w'.H x = none -> w.H x = none := fun x z => by
    cases e : w.H x with
    | none => rfl
    | some o => exact absurd z (a.nn x (by rw [e]; intro q; cases q))
  refine ⟨?_,fun x h => b.fz x (a.fz x h),fun x hx o r => ?_,fun x h => ?_,fun x hx => ?_,fun x h => b.nn x (a.nn x h),fun x h => ?_⟩
  . obtain ⟨t,e⟩ := a.pre
    obtain ⟨t',e'⟩ := b.pre
    exact ⟨t ++ t',by rw [e',e,List.append_assoc]⟩
  . have hx' : ¬ Live w' x := fun z => by
      rcases hl x z with z | z
      . rw [r] at z; cases z
      . exact hx z
    rcases a.ks x hx o r with q | ⟨f,ob,kvs,e,q⟩
    . exact b.ks x hx' o q
    . rcases b.ks x hx' _ q with q' | ⟨_,ob',kvs',e',q'⟩
      . exact .inr ⟨b.fz x f,ob,kvs,e,q'⟩
      . cases e'
  . rcases b.fn x h with z | z | z
    . exact a.fn x z
    . exact .inr (.inl (hn x z))
    . rcases hl x z with z | z
      . exact .inr (.inl z)
      . exact .inr (.inr z)
  . rcases b.nw x hx with z | z
    . exact .inl (hn x z)
    . exact hl x z
  . rcases b.rn x h with z | z
    . exact a.rn x z
    . exact .inr (hn x z)
section
variable {C : Ct} {w w' : Wd}
theorem Ok.notup (ok : Ok C w) {a : Addr} (hl : Live w a) {vs : List V} : ¬ Rd w.H a (.tup vs) := by
  obtain ⟨k,c,e1,e2,e3⟩ := hl
  have := ok.cell k c a e1 e3
  intro r
  cases c with
  | dead => exact e2 rfl
  | lst xs => obtain ⟨vs',e,_⟩ := this; rcases r with r | ⟨o,r⟩ <;> rw [e] at r <;> cases r
  | dk ks xs => obtain ⟨kvs,e,_⟩ := this; rcases r with r | ⟨o,r⟩ <;> rw [e] at r <;> cases r
  | ins cc fs => obtain ⟨_,dx,fvs,e,_⟩ := this; rcases r with r | ⟨o,r⟩ <;> rw [e] at r <;> cases r
theorem Ok.sqT (ok : Ok C w) (le : Le w w') {a : Addr} {vs : List V} (h : SqT C.K w.H a vs) : SqT C.K w'.H a vs := by
  rcases h with h | h
  . exact .inl (le.kp a (fun hl => ok.notup hl h) _ h)
  . exact .inr h
mutual
theorem Tr.mono (ok : Ok C w) (le : Le w w') : ∀ {x : AV} {v : V},Tr C w x v -> Tr C w' x v
  | .non,v,h => by rw [Tr] at h ⊢; exact h
  | .bl _,v,h => by rw [Tr] at h ⊢; exact h
  | .int _,v,h => by rw [Tr] at h ⊢; exact h
  | .str _,v,h => by rw [Tr] at h ⊢; exact h
  | .tup xs,v,h => by
    rw [Tr] at h ⊢
    obtain ⟨a,vs,e,hs,ht⟩ := h
    exact ⟨a,vs,e,ok.sqT le hs,Trs.mono ok le ht⟩
  | .lst xs,v,h => by
    rw [Tr] at h ⊢
    obtain ⟨a,vs,e,f,r,ht⟩ := h
    exact ⟨a,vs,e,le.fz a f,le.kp a (fun hl => ok.fz a hl f) _ r,Trs.mono ok le ht⟩
  | .dk ks xs,v,h => by
    rw [Tr] at h ⊢
    obtain ⟨a,kvs,e,f,r,hk,ht⟩ := h
    exact ⟨a,kvs,e,le.fz a f,le.kp a (fun hl => ok.fz a hl f) _ r,hk,Trs.mono ok le ht⟩
  | .ref k,v,h => by
    rw [Tr] at h ⊢
    obtain ⟨a,e,hk⟩ := h
    obtain ⟨t,et⟩ := le.pre
    refine ⟨a,e,?_⟩
    rw [et,List.getElem?_append_left (List.getElem?_eq_some_iff.mp hk).1]; exact hk
  | .kst xs,v,h => by
    rw [Tr] at h ⊢
    obtain ⟨a,vs,e,hs,ht⟩ := h
    refine ⟨a,vs,e,?_,Trs.mono ok le ht⟩
    rcases hs with ⟨f,r⟩ | r
    . exact .inl ⟨le.fz a f,le.kp a (fun hl => ok.fz a hl f) _ r⟩
    . exact .inr r
  | .xc c,v,h => by rw [Tr] at h ⊢; exact h
theorem Trs.mono (ok : Ok C w) (le : Le w w') : ∀ {xs : List AV} {vs : List V},Trs C w xs vs -> Trs C w' xs vs
  | [],vs,h => by rw [Trs] at h ⊢; exact h
  | x :: xs,vs,h => by
    rw [Trs] at h ⊢
    obtain ⟨v,us,e,h1,h2⟩ := h
    exact ⟨v,us,e,Tr.mono ok le h1,Trs.mono ok le h2⟩
end
theorem Flds.mono (ok : Ok C w) (le : Le w w') : ∀ {xs : List (Nat × AV)} {vs : List (Str × V)},Flds C w xs vs -> Flds C w' xs vs
  | [],vs,h => h
  | x :: xs,vs,h => by
    obtain ⟨v,us,e,h1,h2⟩ := h
    exact ⟨v,us,e,Tr.mono ok le h1,Flds.mono ok le h2⟩
theorem Trs.nil : Trs C w [] [] := by rw [Trs]
theorem Trs.cons {x : AV} {v : V} {xs : List AV} {vs : List V} (a : Tr C w x v) (b : Trs C w xs vs) : Trs C w (x :: xs) (v :: vs) := by rw [Trs]; exact ⟨v,vs,rfl,a,b⟩
theorem Trs.len : ∀ {xs : List AV} {vs : List V},Trs C w xs vs -> xs.length = vs.length
  | [],vs,h => by rw [Trs] at h; rw [h]; rfl
  | x :: xs,vs,h => by
    rw [Trs] at h
    obtain ⟨v,us,e,h1,h2⟩ := h
    rw [e,List.length_cons,List.length_cons,Trs.len h2]
theorem Trs.get : ∀ {xs : List AV} {vs : List V} {i : Nat} {x : AV},Trs C w xs vs -> xs[i]? = some x -> ∃ v,vs[i]? = some v /\ Tr C w x v
  | [],vs,i,x,h,e => by simp at e
  | y :: xs,vs,0,x,h,e => by
    rw [Trs] at h
    obtain ⟨v,us,e',h1,h2⟩ := h
    simp at e; subst e; subst e'
    exact ⟨v,rfl,h1⟩
  | y :: xs,vs,i + 1,x,h,e => by
    rw [Trs] at h
    obtain ⟨v,us,e',h1,h2⟩ := h
    subst e'
    obtain ⟨v',q,t⟩ := Trs.get (i := i) h2 (by simpa using e)
    exact ⟨v',by simpa using q,t⟩
theorem Trs.app : ∀ {xs ys : List AV} {vs us : List V},Trs C w xs vs -> Trs C w ys us -> Trs C w (xs ++ ys) (vs ++ us)
  | [],ys,vs,us,h,g => by rw [Trs] at h; subst h; exact g
  | x :: xs,ys,vs,us,h,g => by
    rw [Trs] at h
    obtain ⟨v,us',e,h1,h2⟩ := h
    subst e
    exact .cons h1 (Trs.app h2 g)
theorem Trs.one {x : AV} {v : V} (h : Tr C w x v) : Trs C w [x] [v] := .cons h .nil
theorem Trs.take (n : Nat) : ∀ {xs : List AV} {vs : List V},Trs C w xs vs -> Trs C w (xs.take n) (vs.take n) := fun {xs vs} h => by
  induction n generalizing xs vs with
  | zero => simp only [List.take_zero]; exact .nil
  | succ n ih =>
    cases xs with
    | nil => rw [Trs] at h; subst h; simp only [List.take_nil]; exact .nil
    | cons x xs =>
      rw [Trs] at h
      obtain ⟨v,us,e,h1,h2⟩ := h
      subst e
      exact .cons h1 (ih h2)
theorem Trs.drop (n : Nat) : ∀ {xs : List AV} {vs : List V},Trs C w xs vs -> Trs C w (xs.drop n) (vs.drop n) := fun {xs vs} h => by
  induction n generalizing xs vs with
  | zero => exact h
  | succ n ih =>
    cases xs with
    | nil => rw [Trs] at h; subst h; simp only [List.drop_nil]; exact .nil
    | cons x xs =>
      rw [Trs] at h
      obtain ⟨v,us,e,h1,h2⟩ := h
      subst e
      exact ih h2
theorem Trs.set {x : AV} {v : V} (t : Tr C w x v) : ∀ {xs : List AV} {vs : List V} (i : Nat),Trs C w xs vs -> Trs C w (xs.set i x) (vs.set i v)
  | [],vs,i,h => by rw [Trs] at h; subst h; exact .nil
  | y :: xs,vs,0,h => by
    rw [Trs] at h
    obtain ⟨u,us,e,h1,h2⟩ := h
    subst e
    exact .cons t h2
  | y :: xs,vs,i + 1,h => by
    rw [Trs] at h
    obtain ⟨u,us,e,h1,h2⟩ := h
    subst e
    exact .cons h1 (Trs.set t i h2)
theorem Trs.qcx {vs : List V} : Trs C w [] vs ↔ vs = [] := by rw [Trs]
structure q04 (C : Ct) (w : Wd) (env : AEnv) (σ : St) : Prop where
  len : env.length = σ.length
  at_ : ∀ (i : Nat) x,env[i]? = some (some x) -> ∃ v, σ[i]? = some (some v) /\ Tr C w x v
theorem q04.mono {env : AEnv} {σ : St} (e : q04 C w env σ) (ok : Ok C w) (le : Le w w') : q04 C w' env σ :=
  ⟨e.len,fun i x h => let ⟨v,q,t⟩ := e.at_ i x h; ⟨v,q,t.mono ok le⟩⟩
theorem q04.set {env : AEnv} {σ : St} {x : AV} {v : V} (e : q04 C w env σ) (i : Nat) (t : Tr C w x v) : q04 C w (env.set i (some x)) (σ.set i (some v)) := by
  refine ⟨by rw [List.length_set,List.length_set]; exact e.len,fun j y h => ?_⟩
  by_cases hj : i = j
  . subst hj
    by_cases hi : i < env.length
    . rw [List.getElem?_set_self hi] at h
      cases h
      exact ⟨v,by rw [List.getElem?_set_self (by rw [<- e.len]; exact hi)],t⟩
    . rw [List.getElem?_eq_none (by rw [List.length_set]; omega)] at h; cases h
  . rw [List.getElem?_set_ne hj] at h
    obtain ⟨u,q,t'⟩ := e.at_ j y h
    exact ⟨u,by rw [List.getElem?_set_ne hj]; exact q,t'⟩
end
end Z
namespace Z
open PySem L2
section
variable {C : Ct} {w : Wd}
theorem q50 {α : Type} : ∀ {l : List α} {i j : Nat} {x : α},l.Nodup -> l[i]? = some x -> l[j]? = some x -> i = j
  | [],i,j,x,_,h,_ => by simp at h
  | y :: l,0,0,x,_,_,_ => rfl
  | y :: l,0,j + 1,x,n,h,g => by
    have e : y = x := by simpa using h
    subst e
    exact absurd (List.mem_of_getElem? (show l[j]? = some y by simpa using g)) (List.nodup_cons.mp n).1
  | y :: l,i + 1,0,x,n,h,g => by
    have e : y = x := by simpa using g
    subst e
    exact absurd (List.mem_of_getElem? (show l[i]? = some y by simpa using h)) (List.nodup_cons.mp n).1
  | y :: l,i + 1,j + 1,x,n,h,g => by
    rw [q50 (List.nodup_cons.mp n).2 (show l[i]? = some x by simpa using h) (show l[j]? = some x by simpa using g)]
theorem Ok.liveH (ok : Ok C w) {a : Addr} (hl : Live w a) : a ∈ w.ρ := by
  obtain ⟨k,c,e1,e2,e3⟩ := hl
  exact List.mem_of_getElem? e3
theorem q29 {H : Hp} {a p : Addr} {o u : HO} (hp : H p = none) (h : H a = some o) : upd H p u a = some o := by
  rw [qv (q1p h hp)]; exact h
theorem q0s {H : Hp} {a p : Addr} {u : HO} (h : H a ≠ none) : upd H p u a ≠ none := by
  unfold upd; split
  . intro z; cases z
  . exact h
theorem q3f.mono {w' : Wd} (ok : Ok C w) (le : Le w w') {c : Cell} {a : Addr} (hH : w'.H a = w.H a) (h : q3f C w c a) : q3f C w' c a := by
  cases c with
  | dead => trivial
  | lst xs => obtain ⟨vs,e,t⟩ := h; exact ⟨vs,hH.trans e,t.mono ok le⟩
  | dk ks xs => obtain ⟨kvs,e,hk,t⟩ := h; exact ⟨kvs,hH.trans e,hk,t.mono ok le⟩
  | ins cc fs => obtain ⟨hf,dx,fvs,e,t⟩ := h; exact ⟨hf,dx,fvs,hH.trans e,t.mono ok le⟩
theorem Ok.pinne (ok : Ok C w) {a b c : Addr} (hl : Live w a) (h : C.pin = some (b,c)) : b ≠ a := by
  obtain ⟨k,cc,e1,e2,e3⟩ := hl
  have hc := ok.cell k cc a e1 e3
  have hp := ok.pn b c h
  intro z; subst z
  cases cc with
  | dead => exact e2 rfl
  | lst xs => obtain ⟨vs,e,_⟩ := hc; rw [hp] at e; cases e
  | dk ks xs => obtain ⟨vs,e,_⟩ := hc; rw [hp] at e; cases e
  | ins c fs => obtain ⟨_,dx,fvs,e,_⟩ := hc; rw [hp] at e; cases e
def Wd.fresh (w : Wd) (p : Addr) (o : HO) : Wd := { w with H := upd w.H p o }
def Wd.frozen (w : Wd) (p : Addr) (o : HO) : Wd := { w with H := upd w.H p o,Fz := fun a => a = p \/ w.Fz a }
theorem Ok.q1u (ok : Ok C w) {p : Addr} (hp : w.H p = none) (o : HO) : Le w (w.fresh p o) :=
  ⟨⟨[],by simp [Wd.fresh]⟩,fun _ h => h,fun b _ o r => .inl (q29 hp r),fun a h => .inl h,fun a h => .inr h,fun a h => q0s h,fun a h => .inl h⟩
theorem Ok.fresh (ok : Ok C w) {p : Addr} (hp : w.H p = none) (o : HO) : Ok C (w.fresh p o) := by
  have le := ok.q1u hp o
  refine ⟨ok.len,ok.nd,fun a ha => q0s (ok.th a ha),fun k c a e ea => ?_,ok.fz,fun a h => q0s (ok.fzt a h),fun a c h => q29 hp (ok.pn a c h)⟩
  have hne : a ≠ p := fun z => ok.th a (List.mem_of_getElem? ea) (z ▸ hp)
  exact (ok.cell k c a e ea).mono ok le (qv hne)
theorem Ok.q1x (ok : Ok C w) {p : Addr} (hp : w.H p = none) (o : HO) : Le w (w.frozen p o) :=
  ⟨⟨[],by simp [Wd.frozen]⟩,fun _ h => .inr h,fun b _ o r => .inl (q29 hp r),fun a h => h.elim (fun z => .inr (.inl (z ▸ hp))) .inl,fun a h => .inr h,fun a h => q0s h,fun a h => .inl h⟩
theorem Ok.frozen (ok : Ok C w) {p : Addr} (hp : w.H p = none) (o : HO) : Ok C (w.frozen p o) := by
  have le := ok.q1x hp o
  refine ⟨ok.len,ok.nd,fun a ha => q0s (ok.th a ha),fun k c a e ea => ?_,fun a hl hz => ?_,fun a h => ?_,fun a c h => q29 hp (ok.pn a c h)⟩
  . have hne : a ≠ p := fun z => ok.th a (List.mem_of_getElem? ea) (z ▸ hp)
    exact (ok.cell k c a e ea).mono ok le (qv hne)
  . rcases hz with rfl | hz
    . exact ok.th a (ok.liveH hl) hp
    . exact ok.fz a hl hz
  . rcases h with rfl | h
    . show upd w.H a o a ≠ none
      rw [q0a]; intro z; cases z
    . exact q0s (ok.fzt a h)
theorem Ok.qa8 (ok : Ok C w) {p : Addr} {xs : List AV} {vs : List V} (hp : w.H p = none) (t : Trs C w xs vs) : Tr C (w.fresh p (.tup vs)) (.tup xs) (.ref p) := by
  rw [Tr]; exact ⟨p,vs,rfl,SqT.of q0a,t.mono ok (ok.q1u hp _)⟩
theorem Ok.q5q (ok : Ok C w) {p : Addr} {xs : List AV} {vs : List V} (hp : w.H p = none) (t : Trs C w xs vs) : Tr C (w.frozen p (.lst vs)) (.lst xs) (.ref p) := by
  rw [Tr]; exact ⟨p,vs,rfl, .inl rfl, .inl q0a,t.mono ok (ok.q1x hp _)⟩
def Wd.cell (w : Wd) (p : Addr) (o : HO) (c : Cell) : Wd := { w with H := upd w.H p o, ρ := w.ρ ++ [p],h := w.h ++ [c] }
theorem q6h (ok : Ok C w) {p : Addr} {o : HO} {c : Cell} {a : Addr} (h : Live (w.cell p o c) a) : a = p \/ Live w a := by
  obtain ⟨k,c',e1,e2,e3⟩ := h
  have hl := ok.len
  by_cases hk : k < w.h.length
  . exact .inr ⟨k,c',by rw [<- List.getElem?_append_left (l₂ := [c]) hk]; exact e1,e2,by rw [<- List.getElem?_append_left (l₂ := [p]) (by omega)]; exact e3⟩
  . have hlt := (List.getElem?_eq_some_iff.mp e3).1
    have : (w.cell p o c).ρ.length = w.ρ.length + 1 := by simp [Wd.cell]
    have hk' : k = w.ρ.length := by omega
    have e3' : (w.ρ ++ [p])[k]? = some a := e3
    rw [hk',List.getElem?_append_right (Nat.le_refl _),Nat.sub_self] at e3'
    exact .inl (by simpa using e3'.symm)
theorem Ok.q4o (ok : Ok C w) {p : Addr} (hp : w.H p = none) (o : HO) (c : Cell) : Le w (w.cell p o c) := by
  refine ⟨⟨[p],rfl⟩,fun _ h => h,fun b _ o r => .inl (q29 hp r),fun a h => .inl h,fun a h => ?_,fun a h => q0s h,fun a h => ?_⟩
  rotate_left
  . rcases List.mem_append.mp (show a ∈ w.ρ ++ [p] from h) with z | z
    . exact .inl z
    . exact .inr (by rw [List.mem_singleton.mp z]; exact hp)
  rcases q6h ok h with rfl | h
  . exact .inl hp
  . exact .inr h
theorem Ok.q8w (ok : Ok C w) {p : Addr} (hp : w.H p = none) {o : HO} {c : Cell} (hc : q3f C (w.cell p o c) c p) : Ok C (w.cell p o c) := by
  have le := ok.q4o hp o c
  have hl := ok.len
  have hnp : p ∉ w.ρ := fun z => ok.th p z hp
  refine ⟨by simp [Wd.cell,hl],?_,fun a ha => ?_,fun k c' a e ea => ?_,fun a hlv hz => ?_,fun a h => q0s (ok.fzt a h),fun a c h => q29 hp (ok.pn a c h)⟩
  . show (w.ρ ++ [p]).Nodup
    rw [List.nodup_append]
    exact ⟨ok.nd,by simp,fun a ha b hb => by simp at hb; subst hb; intro z; subst z; exact hnp ha⟩
  . show upd w.H p o a ≠ none
    by_cases ha' : a = p
    . subst ha'; rw [q0a]; intro z; cases z
    . have : a ∈ w.ρ := by
        rcases List.mem_append.mp (show a ∈ w.ρ ++ [p] from ha) with z | z
        . exact z
        . exact absurd (by simpa using z) ha'
      exact q0s (ok.th a this)
  . by_cases hk : k < w.h.length
    . have e' : w.h[k]? = some c' := by rw [<- List.getElem?_append_left (l₂ := [c]) hk]; exact e
      have ea' : w.ρ[k]? = some a := by rw [<- List.getElem?_append_left (l₂ := [p]) (by omega)]; exact ea
      have hne : a ≠ p := fun z => hnp (z ▸ List.mem_of_getElem? ea')
      exact (ok.cell k c' a e' ea').mono ok le (qv hne)
    . have hlt := (List.getElem?_eq_some_iff.mp ea).1
      have : (w.cell p o c).ρ.length = w.ρ.length + 1 := by simp [Wd.cell]
      have hk' : k = w.ρ.length := by omega
      have e3' : (w.ρ ++ [p])[k]? = some a := ea
      rw [hk',List.getElem?_append_right (Nat.le_refl _),Nat.sub_self] at e3'
      have e4 : (w.h ++ [c])[k]? = some c' := e
      rw [hk',hl,List.getElem?_append_right (Nat.le_refl _),Nat.sub_self] at e4
      have a1 : p = a := by simpa using e3'
      have a2 : c = c' := by simpa using e4
      subst a1 a2
      exact hc
  . rcases q6h ok hlv with rfl | h
    . exact ok.fzt a hz hp
    . exact ok.fz a h hz
theorem Ok.q7j (ok : Ok C w) {p : Addr} {o : HO} {c : Cell} : Tr C (w.cell p o c) (.ref w.h.length) (.ref p) := by
  rw [Tr]
  refine ⟨p,rfl,?_⟩
  show (w.ρ ++ [p])[w.h.length]? = some p
  rw [<- ok.len,List.getElem?_append_right (Nat.le_refl _),Nat.sub_self]; rfl
def Wd.put (w : Wd) (k : Nat) (c : Cell) (a : Addr) (o : HO) : Wd := { w with h := w.h.set k c,H := upd w.H a o }
theorem q81 {k : Nat} {c : Cell} {a b : Addr} {o : HO} (ea : w.ρ[k]? = some a) (hl : Live w a) (h : Live (w.put k c a o) b) : Live w b := by
  obtain ⟨j,c',e1,e2,e3⟩ := h
  by_cases hj : k = j
  . subst hj
    have e3' : w.ρ[k]? = some b := e3
    have : b = a := by rw [ea] at e3'; cases e3'; rfl
    subst this; exact hl
  . exact ⟨j,c',by rw [<- List.getElem?_set_ne hj (a := c)]; exact e1,e2,e3⟩
theorem Ok.q7d (ok : Ok C w) {k : Nat} {a : Addr} (ea : w.ρ[k]? = some a) (hl : Live w a) (c : Cell) (o : HO) : Le w (w.put k c a o) := by
  refine ⟨⟨[],by simp [Wd.put]⟩,fun _ h => h,fun b hb u r => ?_,fun b h => .inl h,fun b h => .inr (q81 ea hl h),fun b h => q0s h,fun b h => .inl h⟩
  have hne : b ≠ a := fun z => hb (z ▸ hl)
  exact .inl ((qv hne).trans r)
theorem Ok.put (ok : Ok C w) {k : Nat} {a : Addr} (ea : w.ρ[k]? = some a) (hl : Live w a) {c : Cell} {o : HO} (hc : q3f C (w.put k c a o) c a) : Ok C (w.put k c a o) := by
  have le := ok.q7d ea hl c o
  refine ⟨by show w.ρ.length = (w.h.set k c).length; rw [List.length_set]; exact ok.len,ok.nd,fun b hb => q0s (ok.th b hb),fun j c' b e eb => ?_,fun b hlv hz => ok.fz b (q81 ea hl hlv) hz,fun b h => q0s (ok.fzt b h),fun b c h => (qv (ok.pinne hl h)).trans (ok.pn b c h)⟩
  by_cases hj : k = j
  . subst hj
    have eb' : w.ρ[k]? = some b := eb
    have : b = a := by rw [ea] at eb'; cases eb'; rfl
    subst this
    have hk : k < w.h.length := by
      have := (List.getElem?_eq_some_iff.mp e).1
      have z : (w.put k c b o).h.length = w.h.length := List.length_set
      omega
    have e' : (w.h.set k c)[k]? = some c' := e
    rw [List.getElem?_set_self hk] at e'
    cases e'
    exact hc
  . have e' : w.h[j]? = some c' := by rw [<- List.getElem?_set_ne hj (a := c)]; exact e
    have hne : b ≠ a := fun z => by
      subst z
      exact hj (q50 ok.nd ea eb)
    exact (ok.cell j c' b e' eb).mono ok le (qv hne)
def Wd.kill (w : Wd) (k : Nat) (a : Addr) : Wd := { w with h := w.h.set k .dead,Fz := fun b => b = a \/ w.Fz b }
theorem q63 (ok : Ok C w) {k : Nat} {a b : Addr} (ea : w.ρ[k]? = some a) (h : Live (w.kill k a) b) : Live w b /\ b ≠ a := by
  obtain ⟨j,c',e1,e2,e3⟩ := h
  have e3' : w.ρ[j]? = some b := e3
  by_cases hj : k = j
  . subst hj
    exfalso
    have hk : k < w.h.length := by
      have := (List.getElem?_eq_some_iff.mp e1).1
      have z : (w.kill k a).h.length = w.h.length := List.length_set
      omega
    have e' : (w.h.set k .dead)[k]? = some c' := e1
    rw [List.getElem?_set_self hk] at e'
    cases e'
    exact e2 rfl
  . refine ⟨⟨j,c',by rw [<- List.getElem?_set_ne hj (a := Cell.dead)]; exact e1,e2,e3⟩,fun z => ?_⟩
    subst z
    exact hj (q50 ok.nd ea e3')
theorem Ok.q3n (ok : Ok C w) {k : Nat} {a : Addr} (ea : w.ρ[k]? = some a) (hl : Live w a) : Le w (w.kill k a) :=
  ⟨⟨[],by simp [Wd.kill]⟩,fun _ h => .inr h,fun b _ u r => .inl r,fun b h => h.elim (fun z => .inr (.inr (z ▸ hl))) .inl,fun b h => .inr (q63 ok ea h).1,fun b h => h,fun b h => .inl h⟩
theorem Ok.kill (ok : Ok C w) {k : Nat} {a : Addr} (ea : w.ρ[k]? = some a) (hl : Live w a) : Ok C (w.kill k a) := by
  have le := ok.q3n ea hl
  refine ⟨by show w.ρ.length = (w.h.set k .dead).length; rw [List.length_set]; exact ok.len,ok.nd,ok.th,fun j c' b e eb => ?_,fun b hlv hz => ?_,fun b h => ?_,ok.pn⟩
  . by_cases hj : k = j
    . subst hj
      have hk : k < w.h.length := by
        have := (List.getElem?_eq_some_iff.mp e).1
        have z : (w.kill k a).h.length = w.h.length := List.length_set
        omega
      have e' : (w.h.set k .dead)[k]? = some c' := e
      rw [List.getElem?_set_self hk] at e'
      cases e'
      trivial
    . have e' : w.h[j]? = some c' := by rw [<- List.getElem?_set_ne hj (a := Cell.dead)]; exact e
      exact (ok.cell j c' b e' eb).mono ok le rfl
  . obtain ⟨l,n⟩ := q63 ok ea hlv
    rcases hz with z | z
    . exact n z
    . exact ok.fz b l z
  . rcases h with rfl | h
    . exact ok.th b (List.mem_of_getElem? ea)
    . exact ok.fzt b h
theorem Ok.qbm (ok : Ok C w) {k : Nat} {xs : List AV} (e : w.h[k]? = some (.lst xs)) {v : V} (t : Tr C w (.ref k) v) : ∃ a,v = .ref a /\ w.ρ[k]? = some a /\ Live w a /\ Tr C (w.kill k a) (.lst xs) v := by
  rw [Tr] at t
  obtain ⟨a,rfl,ea⟩ := t
  obtain ⟨vs,hH,ht⟩ := ok.cell k _ a e ea
  have hl : Live w a := ⟨k,_,e,(by intro z; cases z),ea⟩
  refine ⟨a,rfl,ea,hl,?_⟩
  rw [Tr]
  exact ⟨a,vs,rfl, .inl rfl, .inl hH,ht.mono ok (ok.q3n ea hl)⟩
theorem Ok.qck (ok : Ok C w) {k : Nat} {ks : List Key} {xs : List AV} (e : w.h[k]? = some (.dk ks xs)) {v : V} (t : Tr C w (.ref k) v) : ∃ a,v = .ref a /\ w.ρ[k]? = some a /\ Live w a /\ Tr C (w.kill k a) (.dk ks xs) v := by
  rw [Tr] at t
  obtain ⟨a,rfl,ea⟩ := t
  obtain ⟨kvs,hH,hk,ht⟩ := ok.cell k _ a e ea
  have hl : Live w a := ⟨k,_,e,(by intro z; cases z),ea⟩
  refine ⟨a,rfl,ea,hl,?_⟩
  rw [Tr]
  exact ⟨a,kvs,rfl, .inl rfl, .inl hH,hk,ht.mono ok (ok.q3n ea hl)⟩
mutual
def closed (n : Nat) : AV -> Bool
  | .tup xs => q06 n xs
  | .lst xs => q06 n xs
  | .dk _ xs => q06 n xs
  | .ref k => decide (k < n)
  | .kst xs => q06 n xs
  | _ => true
def q06 (n : Nat) : List AV -> Bool
  | [] => true
  | x :: xs => closed n x && q06 n xs
end
def Wd.back (w : Wd) (w0 : Wd) : Wd := { w with ρ := w0.ρ,h := w0.h }
mutual
theorem Tr.back {w0 w : Wd} (le : Le w0 w) {n : Nat} (hn : w0.ρ.length = n) : ∀ {x : AV} {v : V},closed n x = true -> Tr C w x v -> Tr C (w.back w0) x v
  | .non,v,_,h => by rw [Tr] at h ⊢; exact h
  | .bl _,v,_,h => by rw [Tr] at h ⊢; exact h
  | .int _,v,_,h => by rw [Tr] at h ⊢; exact h
  | .str _,v,_,h => by rw [Tr] at h ⊢; exact h
  | .tup xs,v,c,h => by
    rw [Tr] at h ⊢
    obtain ⟨a,vs,e,hs,ht⟩ := h
    exact ⟨a,vs,e,hs,Trs.back le hn (by rw [closed] at c; exact c) ht⟩
  | .lst xs,v,c,h => by
    rw [Tr] at h ⊢
    obtain ⟨a,vs,e,f,r,ht⟩ := h
    exact ⟨a,vs,e,f,r,Trs.back le hn (by rw [closed] at c; exact c) ht⟩
  | .dk ks xs,v,c,h => by
    rw [Tr] at h ⊢
    obtain ⟨a,kvs,e,f,r,hk,ht⟩ := h
    exact ⟨a,kvs,e,f,r,hk,Trs.back le hn (by rw [closed] at c; exact c) ht⟩
  | .ref k,v,c,h => by
    rw [Tr] at h ⊢
    obtain ⟨a,e,hk⟩ := h
    obtain ⟨t,et⟩ := le.pre
    rw [closed] at c
    have hlt : k < w0.ρ.length := by rw [hn]; exact of_decide_eq_true c
    refine ⟨a,e,?_⟩
    show w0.ρ[k]? = some a
    rw [et,List.getElem?_append_left hlt] at hk; exact hk
  | .kst xs,v,c,h => by
    rw [Tr] at h ⊢
    obtain ⟨a,vs,e,hs,ht⟩ := h
    exact ⟨a,vs,e,hs,Trs.back le hn (by rw [closed] at c; exact c) ht⟩
  | .xc c,v,c',h => by rw [Tr] at h ⊢; exact h
theorem Trs.back {w0 w : Wd} (le : Le w0 w) {n : Nat} (hn : w0.ρ.length = n) : ∀ {xs : List AV} {vs : List V},q06 n xs = true -> Trs C w xs vs -> Trs C (w.back w0) xs vs
  | [],vs,_,h => by rw [Trs] at h ⊢; exact h
  | x :: xs,vs,c,h => by
    rw [Trs] at h ⊢
    rw [q06,Bool.and_eq_true] at c
    obtain ⟨v,us,e,h1,h2⟩ := h
    exact ⟨v,us,e,Tr.back le hn c.1 h1,Trs.back le hn c.2 h2⟩
end
mutual
theorem Tr.closed : ∀ {x : AV} {v : V},Tr C w x v -> closed w.ρ.length x = true
  | .non,v,h => by rw [Z.closed]; all_goals (intros; exact AV.noConfusion ‹_›)
  | .bl _,v,h => by rw [Z.closed]; all_goals (intros; exact AV.noConfusion ‹_›)
  | .int _,v,h => by rw [Z.closed]; all_goals (intros; exact AV.noConfusion ‹_›)
  | .str _,v,h => by rw [Z.closed]; all_goals (intros; exact AV.noConfusion ‹_›)
  | .tup xs,v,h => by
    rw [Tr] at h
    obtain ⟨a,vs,e,hs,ht⟩ := h
    rw [Z.closed]; exact Trs.q06 ht
  | .lst xs,v,h => by
    rw [Tr] at h
    obtain ⟨a,vs,e,f,r,ht⟩ := h
    rw [Z.closed]; exact Trs.q06 ht
  | .dk ks xs,v,h => by
    rw [Tr] at h
    obtain ⟨a,kvs,e,f,r,hk,ht⟩ := h
    rw [Z.closed]; exact Trs.q06 ht
  | .ref k,v,h => by
    rw [Tr] at h
    obtain ⟨a,e,hk⟩ := h
    rw [Z.closed]; exact decide_eq_true (List.getElem?_eq_some_iff.mp hk).1
  | .kst xs,v,h => by
    rw [Tr] at h
    obtain ⟨a,vs,e,hs,ht⟩ := h
    rw [Z.closed]; exact Trs.q06 ht
  | .xc _,v,h => by rw [Z.closed]; all_goals (intros; exact AV.noConfusion ‹_›)
theorem Trs.q06 : ∀ {xs : List AV} {vs : List V},Trs C w xs vs -> q06 w.ρ.length xs = true
  | [],vs,h => by rw [Z.q06]
  | x :: xs,vs,h => by
    rw [Trs] at h
    obtain ⟨v,us,e,h1,h2⟩ := h
    rw [Z.q06,Tr.closed h1,Trs.q06 h2]; rfl
end
theorem Flds.back {w0 w : Wd} (le : Le w0 w) : ∀ {fs : List (Nat × AV)} {us us' : List (Str × V)},Flds C w0 fs us' -> Flds C w fs us -> Flds C (w.back w0) fs us
  | [],us,us',_,h => h
  | p :: r,us,us',h0,h => by
    obtain ⟨v,us,e,h1,h2⟩ := h
    obtain ⟨v',us',e',h1',h2'⟩ := h0
    exact ⟨v,us,e,Tr.back le rfl h1'.closed h1,Flds.back le h2' h2⟩
theorem Le.back {w0 w : Wd} (le : Le w0 w) : Le w0 (w.back w0) :=
  ⟨⟨[],by simp [Wd.back]⟩,le.fz,le.ks,le.fn,fun a h => .inr h,le.nn,fun a h => .inl h⟩
theorem Ok.back {w0 w : Wd} (ok0 : Ok C w0) (le : Le w0 w) (ok : Ok C w) {g : AH} (hh : w.h = w0.h ++ g) : Ok C (w.back w0) := by
  obtain ⟨t,et⟩ := le.pre
  have lw : ∀ a,Live w0 a -> Live w a := fun a ⟨k,c,e1,e2,e3⟩ => ⟨k,c,by rw [hh,List.getElem?_append_left (List.getElem?_eq_some_iff.mp e1).1]; exact e1,e2,by rw [et,List.getElem?_append_left (List.getElem?_eq_some_iff.mp e3).1]; exact e3⟩
  refine ⟨ok0.len,ok0.nd,fun a ha => le.nn a (ok0.th a ha),fun k c a e ea => ?_,fun a hl hz => ok.fz a (lw a hl) hz,ok.fzt,ok.pn⟩
  have e : w0.h[k]? = some c := e
  have ea : w0.ρ[k]? = some a := ea
  have e' : w.h[k]? = some c := by rw [hh,List.getElem?_append_left (List.getElem?_eq_some_iff.mp e).1]; exact e
  have ea' : w.ρ[k]? = some a := by rw [et,List.getElem?_append_left (List.getElem?_eq_some_iff.mp ea).1]; exact ea
  have h := ok.cell k c a e' ea'
  have h0 := ok0.cell k c a e ea
  cases c with
  | dead => trivial
  | lst xs =>
    obtain ⟨vs,hH,ht⟩ := h
    obtain ⟨vs0,_,ht0⟩ := h0
    exact ⟨vs,hH,Trs.back le rfl ht0.q06 ht⟩
  | dk ks xs =>
    obtain ⟨kvs,hH,hk,ht⟩ := h
    obtain ⟨kvs0,_,_,ht0⟩ := h0
    exact ⟨kvs,hH,hk,Trs.back le rfl ht0.q06 ht⟩
  | ins cc fs =>
    obtain ⟨hf,dx,fvs,hH,ht⟩ := h
    obtain ⟨_,dx0,fvs0,_,ht0⟩ := h0
    exact ⟨hf,dx,fvs,hH,Flds.back le ht0 ht⟩
def Wd.poke (w : Wd) (D : Addr) (o : HO) : Wd := { w with H := upd w.H D o }
structure Lone (w : Wd) (D : Addr) (ys : List V) : Prop where
  at_ : w.H D = some (.lst ys)
  nf : ¬ w.Fz D
  nl : ¬ Live w D
  nr : D ∉ w.ρ
theorem Lone.rd {D : Addr} {ys : List V} (L : Lone w D ys) {o : HO} {a : Addr} {u : HO} (hu : ∀ zs,u ≠ .lst zs) (r : Rd w.H a u) : Rd (upd w.H D o) a u := by
  have hne : a ≠ D := fun z => by
    subst z
    rcases r with r | ⟨z,r⟩ <;> rw [L.at_] at r <;> cases r
    exact hu _ rfl
  rcases r with r | ⟨z,r⟩
  . exact .inl ((qv hne).trans r)
  . exact .inr ⟨z,(qv hne).trans r⟩
mutual
theorem Tr.poke {D : Addr} {ys : List V} (L : Lone w D ys) (o : HO) : ∀ {x : AV} {v : V},Tr C w x v -> Tr C (w.poke D o) x v
  | .non,v,h => by rw [Tr] at h ⊢; exact h
  | .bl _,v,h => by rw [Tr] at h ⊢; exact h
  | .int _,v,h => by rw [Tr] at h ⊢; exact h
  | .str _,v,h => by rw [Tr] at h ⊢; exact h
  | .tup xs,v,h => by
    rw [Tr] at h ⊢
    obtain ⟨a,vs,e,hs,ht⟩ := h
    refine ⟨a,vs,e,?_,Trs.poke L o ht⟩
    rcases hs with hs | hs
    . exact .inl (L.rd (by intro zs z; cases z) hs)
    . exact .inr hs
  | .lst xs,v,h => by
    rw [Tr] at h ⊢
    obtain ⟨a,vs,e,f,r,ht⟩ := h
    have hne : a ≠ D := fun z => L.nf (z ▸ f)
    refine ⟨a,vs,e,f,?_,Trs.poke L o ht⟩
    rcases r with r | ⟨z,r⟩
    . exact .inl ((qv hne).trans r)
    . exact .inr ⟨z,(qv hne).trans r⟩
  | .dk ks xs,v,h => by
    rw [Tr] at h ⊢
    obtain ⟨a,kvs,e,f,r,hk,ht⟩ := h
    exact ⟨a,kvs,e,f,L.rd (by intro zs z; cases z) r,hk,Trs.poke L o ht⟩
  | .ref k,v,h => by rw [Tr] at h ⊢; exact h
  | .kst xs,v,h => by
    rw [Tr] at h ⊢
    obtain ⟨a,vs,e,hs,ht⟩ := h
    refine ⟨a,vs,e,?_,Trs.poke L o ht⟩
    rcases hs with ⟨f,r⟩ | r
    . have hne : a ≠ D := fun z => L.nf (z ▸ f)
      refine .inl ⟨f,?_⟩
      rcases r with r | ⟨z,r⟩
      . exact .inl ((qv hne).trans r)
      . exact .inr ⟨z,(qv hne).trans r⟩
    . exact .inr r
  | .xc c,v,h => by rw [Tr] at h ⊢; exact h
theorem Trs.poke {D : Addr} {ys : List V} (L : Lone w D ys) (o : HO) : ∀ {xs : List AV} {vs : List V},Trs C w xs vs -> Trs C (w.poke D o) xs vs
  | [],vs,h => by rw [Trs] at h ⊢; exact h
  | x :: xs,vs,h => by
    rw [Trs] at h ⊢
    obtain ⟨v,us,e,h1,h2⟩ := h
    exact ⟨v,us,e,Tr.poke L o h1,Trs.poke L o h2⟩
end
theorem Flds.poke {D : Addr} {ys : List V} (L : Lone w D ys) (o : HO) : ∀ {fs : List (Nat × AV)} {us : List (Str × V)},Flds C w fs us -> Flds C (w.poke D o) fs us
  | [],us,h => h
  | p :: r,us,h => by
    obtain ⟨v,us,e,h1,h2⟩ := h
    exact ⟨v,us,e,Tr.poke L o h1,Flds.poke L o h2⟩
theorem Ok.poke (ok : Ok C w) {D : Addr} {ys : List V} (L : Lone w D ys) (o : HO) : Ok C (w.poke D o) := by
  refine ⟨ok.len,ok.nd,fun a ha => q0s (ok.th a ha),fun k c a e ea => ?_,ok.fz,fun a h => q0s (ok.fzt a h),fun a c h => (qv (ne_of (ok.pn a c h) L.at_ (by intro z; cases z))).trans (ok.pn a c h)⟩
  have h := ok.cell k c a e ea
  cases c with
  | dead => trivial
  | lst xs =>
    have hne : a ≠ D := fun z => L.nl (z ▸ ⟨k,_,e,(by intro z; cases z),ea⟩)
    obtain ⟨vs,hH,ht⟩ := h
    exact ⟨vs,(qv hne).trans hH,ht.poke L o⟩
  | dk ks xs =>
    have hne : a ≠ D := fun z => L.nl (z ▸ ⟨k,_,e,(by intro z; cases z),ea⟩)
    obtain ⟨kvs,hH,hk,ht⟩ := h
    exact ⟨kvs,(qv hne).trans hH,hk,ht.poke L o⟩
  | ins cc fs =>
    have hne : a ≠ D := fun z => L.nl (z ▸ ⟨k,_,e,(by intro z; cases z),ea⟩)
    obtain ⟨hf,dx,fvs,hH,ht⟩ := h
    exact ⟨hf,dx,fvs,(qv hne).trans hH,ht.poke L o⟩
theorem Lone.le {w' : Wd} {D : Addr} {ys : List V} (L : Lone w D ys) (le : Le w w') : Lone w' D ys := by
  have hn : w.H D ≠ none := by rw [L.at_]; intro z; cases z
  refine ⟨?_,fun z => ?_,fun z => ?_,fun z => (le.rn D z).elim L.nr hn⟩
  . rcases le.ks D L.nl _ L.at_ with q | ⟨_,ob,kvs,e,q⟩
    . exact q
    . cases e
  . rcases le.fn D z with q | q | q
    . exact L.nf q
    . exact hn q
    . exact L.nl q
  . rcases le.nw D z with q | q
    . exact hn q
    . exact L.nl q
theorem Le.poke {w0 : Wd} {D : Addr} {o : HO} (le : Le w0 w) (h0 : w0.H D = none) : Le w0 (w.poke D o) := by
  refine ⟨le.pre,le.fz,fun b hb u r => ?_,le.fn,le.nw,fun b h => q0s (le.nn b h),le.rn⟩
  have hne : b ≠ D := fun z => by rw [z,h0] at r; cases r
  have := le.ks b hb u r
  show Kept (w.Fz b) u (upd w.H D o b)
  rw [qv hne]; exact this
def Wd.keep (w : Wd) (D : Addr) : Wd := { w with Fz := fun a => a = D \/ w.Fz a }
mutual
theorem Tr.keep {D : Addr} : ∀ {x : AV} {v : V},Tr C w x v -> Tr C (w.keep D) x v
  | .non,v,h => by rw [Tr] at h ⊢; exact h
  | .bl _,v,h => by rw [Tr] at h ⊢; exact h
  | .int _,v,h => by rw [Tr] at h ⊢; exact h
  | .str _,v,h => by rw [Tr] at h ⊢; exact h
  | .tup xs,v,h => by
    rw [Tr] at h ⊢
    obtain ⟨a,vs,e,hs,ht⟩ := h
    exact ⟨a,vs,e,hs,Trs.keep ht⟩
  | .lst xs,v,h => by
    rw [Tr] at h ⊢
    obtain ⟨a,vs,e,f,r,ht⟩ := h
    exact ⟨a,vs,e, .inr f,r,Trs.keep ht⟩
  | .dk ks xs,v,h => by
    rw [Tr] at h ⊢
    obtain ⟨a,kvs,e,f,r,hk,ht⟩ := h
    exact ⟨a,kvs,e, .inr f,r,hk,Trs.keep ht⟩
  | .ref k,v,h => by rw [Tr] at h ⊢; exact h
  | .kst xs,v,h => by
    rw [Tr] at h ⊢
    obtain ⟨a,vs,e,hs,ht⟩ := h
    exact ⟨a,vs,e,hs.elim (fun z => .inl ⟨.inr z.1,z.2⟩) .inr,Trs.keep ht⟩
  | .xc c,v,h => by rw [Tr] at h ⊢; exact h
theorem Trs.keep {D : Addr} : ∀ {xs : List AV} {vs : List V},Trs C w xs vs -> Trs C (w.keep D) xs vs
  | [],vs,h => by rw [Trs] at h ⊢; exact h
  | x :: xs,vs,h => by
    rw [Trs] at h ⊢
    obtain ⟨v,us,e,h1,h2⟩ := h
    exact ⟨v,us,e,Tr.keep h1,Trs.keep h2⟩
end
theorem Flds.keep {D : Addr} : ∀ {fs : List (Nat × AV)} {us : List (Str × V)},Flds C w fs us -> Flds C (w.keep D) fs us
  | [],us,h => h
  | p :: r,us,h => by
    obtain ⟨v,us,e,h1,h2⟩ := h
    exact ⟨v,us,e,Tr.keep h1,Flds.keep h2⟩
theorem Ok.keep (ok : Ok C w) {D : Addr} {ys : List V} (L : Lone w D ys) : Ok C (w.keep D) := by
  refine ⟨ok.len,ok.nd,ok.th,fun k c a e ea => ?_,fun a hl hz => ?_,fun a h => ?_,ok.pn⟩
  . have h := ok.cell k c a e ea
    cases c with
    | dead => trivial
    | lst xs => obtain ⟨vs,hH,ht⟩ := h; exact ⟨vs,hH,ht.keep⟩
    | dk ks xs => obtain ⟨kvs,hH,hk,ht⟩ := h; exact ⟨kvs,hH,hk,ht.keep⟩
    | ins cc fs => obtain ⟨hf,dx,fvs,hH,ht⟩ := h; exact ⟨hf,dx,fvs,hH,ht.keep⟩
  . rcases hz with rfl | hz
    . exact L.nl hl
    . exact ok.fz a hl hz
  . rcases h with rfl | h
    . show w.H a ≠ none
      rw [L.at_]; intro z; cases z
    . exact ok.fzt a h
end
end Z
namespace Z
open PySem L2
abbrev AE := AEnv -> AH -> Re AV
abbrev AT := AEnv -> AH -> Re Bool
abbrev AA := AEnv -> AH -> Re (List AV)
def Sat (C : Ct) (E : XK) (w : Wd) {α : Type} (r : Re α) (P : α -> Wd -> Prop) : Prop :=
  match r with
  | .ok x h' => ∀ w' : Wd,w'.h = h' -> Ok C w' -> Le w w' -> P x w'
  | .ex c h' => ∀ w' : Wd,w'.h = h' -> Ok C w' -> Le w w' -> E (.ref (C.cl c)) none w'.H
  | .no => False
section
variable {C : Ct} {E : XK} {w : Wd} {α β : Type}
theorem Sat.mono {r : Re α} {P P' : α -> Wd -> Prop} (s : Sat C E w r P) (k : ∀ x w',Ok C w' -> Le w w' -> P x w' -> P' x w') : Sat C E w r P' := by
  cases r with
  | ok x h => exact fun w' e ok le => k x w' ok le (s w' e ok le)
  | ex c h => exact s
  | no => exact s
theorem Sat.le {w0 : Wd} {r : Re α} {P : α -> Wd -> Prop} (le : Le w0 w) (s : Sat C E w0 r P) : Sat C E w r P := by
  cases r with
  | ok x h => exact fun w' e ok l => s w' e ok (le.trans l)
  | ex c h => exact fun w' e ok l => s w' e ok (le.trans l)
  | no => exact s
theorem Sat.bind {r : Re α} {f : α -> AH -> Re β} {P : β -> Wd -> Prop} (s : Sat C E w (r.bind f) P) : Sat C E w r (fun x w1 => Sat C E w1 (f x w1.h) P) := by
  cases r with
  | ok x h =>
    intro w' e ok le
    subst e
    exact Sat.le le s
  | ex c h => exact s
  | no => exact s
theorem Sat.here {x : α} {P : α -> Wd -> Prop} (s : Sat C E w (.ok x w.h) P) (ok : Ok C w) : P x w := s w rfl ok (Le.refl w)
end
abbrev want (C : Ct) (Q : VK) : AV -> Wd -> Prop := fun x w' => ∀ v,Tr C w' x v -> Q v w'.H
def SE (C : Ct) (E : XK) (t : TE) (m : AE) : Prop := ∀ (w : Wd) (env : AEnv) (σ : St) (Q : VK),Ok C w -> q04 C w env σ -> Sat C E w (m env w.h) (want C Q) -> t σ w.H Q
def STs (C : Ct) (E : XK) (t : TT) (m : AT) : Prop := ∀ (w : Wd) (env : AEnv) (σ : St) (Q : Bool -> Hp -> Prop),Ok C w -> q04 C w env σ -> Sat C E w (m env w.h) (fun b w' => Q b w'.H) -> t σ w.H Q
def SA (C : Ct) (E : XK) (n : Nat) (t : TA) (m : AA) : Prop :=
  (∀ env h xs h',m env h = .ok xs h' -> xs.length = n) /\
  ∀ (w : Wd) (env : AEnv) (σ : St) (Q : List V -> Hp -> Prop),Ok C w -> q04 C w env σ -> Sat C E w (m env w.h) (fun xs w' => ∀ vs,Trs C w' xs vs -> Q vs w'.H) -> t σ w.H Q
def S1 (C : Ct) (E : XK) (r : V -> Hp -> VK -> Prop) (f : AV -> AH -> Re AV) : Prop := ∀ (w : Wd) (x : AV) (u : V) (Q : VK),Ok C w -> Tr C w x u -> Sat C E w (f x w.h) (want C Q) -> r u w.H Q
def S2 (C : Ct) (E : XK) (r : R2) (f : AV -> AV -> AH -> Re AV) : Prop := ∀ (w : Wd) (x y : AV) (u v : V) (Q : VK),Ok C w -> Tr C w x u -> Tr C w y v -> Sat C E w (f x y w.h) (want C Q) -> r u v w.H Q
def SC (C : Ct) (E : XK) (n : Nat) (r : List V -> Hp -> VK -> Prop) (f : List AV -> AH -> Re AV) : Prop := ∀ (w : Wd) (xs : List AV) (vs : List V) (Q : VK),xs.length = n -> Ok C w -> Trs C w xs vs -> Sat C E w (f xs w.h) (want C Q) -> r vs w.H Q
def SMt (C : Ct) (E : XK) (n : Nat) (r : V -> List V -> Hp -> VK -> Prop) (f : AV -> List AV -> AH -> Re AV) : Prop := ∀ (w : Wd) (x : AV) (u : V) (xs : List AV) (vs : List V) (Q : VK),xs.length = n -> Ok C w -> Tr C w x u -> Trs C w xs vs -> Sat C E w (f x xs w.h) (want C Q) -> r u vs w.H Q
@[simp] def aVar (i : Nat) : AE := fun env h => match env[i]? with | some (some x) => .ok x h | _ => .no
@[simp] def aK (x : AV) : AE := fun _ h => .ok x h
@[simp] def a1 (f : AV -> AH -> Re AV) (a : AE) : AE := fun env h => (a env h).bind f
@[simp] def a2 (f : AV -> AV -> AH -> Re AV) (a b : AE) : AE := fun env h => (a env h).bind fun x h => (b env h).bind fun y h => f x y h
@[simp] def aNil : AA := fun _ h => .ok [] h
@[simp] def qh (a : AE) (r : AA) : AA := fun env h => (a env h).bind fun x h => (r env h).bind fun xs h => .ok (x :: xs) h
@[simp] def aC (f : List AV -> AH -> Re AV) (a : AA) : AE := fun env h => (a env h).bind f
@[simp] def aTup (a : AA) : AE := fun env h => (a env h).bind fun xs h => .ok (.tup xs) h
@[simp] def aLst (a : AA) : AE := fun env h => (a env h).bind fun xs h => .ok (.lst xs) h
@[simp] def q2b (a : AA) : AE := fun env h => (a env h).bind fun xs h => .ok (.ref h.length) (h ++ [.lst xs])
@[simp] def toB : AV -> AH -> Re Bool
  | .bl b,h => .ok b h
  | _,_ => .no
@[simp] def aB (a : AE) : AT := fun env h => (a env h).bind toB
@[simp] def aAnd (a b : AT) : AT := fun env h => (a env h).bind fun c h => if c = true then b env h else .ok false h
@[simp] def aOr (a b : AT) : AT := fun env h => (a env h).bind fun c h => if c = true then .ok true h else b env h
@[simp] def aNot (a : AT) : AT := fun env h => (a env h).bind fun c h => .ok (!c) h
@[simp] def q3q (a b : AE) : AE := fun env h => (a env h).bind fun x h => (toB x h).bind fun c h => if c = true then b env h else .ok (.bl false) h
section
variable {C : Ct} {E : XK} {ta tb tc : TE} {ma mb mc : AE}
theorem qj {i : Nat} : SE C E (tVar i) (aVar i) := by
  intro w env σ Q ok en s
  unfold aVar at s
  split at s
  . rename_i x e
    obtain ⟨v,q,t⟩ := en.at_ i x e
    exact ⟨v,q,s.here ok v t⟩
  . exact s.elim
theorem se_k {v : V} {x : AV} (h : ∀ w,Tr C w x v) : SE C E (tC v) (aK x) := fun w env σ Q ok en s => s.here ok v (h w)
theorem qo {i : Int} : SE C E (tC (.int i)) (aK (.int i)) := se_k fun w => by rw [Tr]
theorem se_bl {b : Bool} : SE C E (tC (.bl b)) (aK (.bl b)) := se_k fun w => by rw [Tr]
theorem q0f {x : Str} : SE C E (tC (.str x)) (aK (.str x)) := se_k fun w => by rw [Tr]
theorem q6o {r : V -> Hp -> VK -> Prop} {f : AV -> AH -> Re AV} (hr : S1 C E r f) (ha : SE C E ta ma) : SE C E (tUn r ta) (a1 f ma) := fun w env σ Q ok en s =>
  ha w env σ _ ok en (s.bind.mono fun x w1 ok1 le1 s1 v tv => hr w1 x v Q ok1 tv s1)
theorem qq {r : R2} {f : AV -> AV -> AH -> Re AV} (hr : S2 C E r f) (ha : SE C E ta ma) (hb : SE C E tb mb) : SE C E (tOp r ta tb) (a2 f ma mb) := fun w env σ Q ok en s =>
  ha w env σ _ ok en (s.bind.mono fun x w1 ok1 le1 s1 v tv => hb w1 env σ _ ok1 (en.mono ok le1) (s1.bind.mono fun y w2 ok2 le2 s2 u tu => hr w2 x y v u Q ok2 (tv.mono ok1 le2) tu s2))
theorem qm : SA C E 0 tNil aNil := ⟨fun env h xs h' e => by cases e; rfl,fun w env σ Q ok en s => s.here ok [] .nil⟩
theorem qk {n : Nat} {t : TA} {m : AA} (ha : SE C E ta ma) (hr : SA C E n t m) : SA C E (n + 1) (q24 ta t) (qh ma m) := by
  refine ⟨fun env h xs h' e => ?_,fun w env σ Q ok en s => ?_⟩
  . unfold qh at e
    cases e1 : ma env h with
    | ok x h1 =>
      rw [e1,Re.q5x] at e
      cases e2 : m env h1 with
      | ok ys h2 =>
        rw [e2,Re.q5x] at e
        cases e
        rw [List.length_cons,hr.1 env h1 ys _ e2]
      | ex c h2 => rw [e2] at e; cases e
      | no => rw [e2] at e; cases e
    | ex c h1 => rw [e1] at e; cases e
    | no => rw [e1] at e; cases e
  . exact ha w env σ _ ok en (s.bind.mono fun x w1 ok1 le1 s1 v tv => hr.2 w1 env σ _ ok1 (en.mono ok le1) (s1.bind.mono fun ys w2 ok2 le2 s2 vs tvs => s2.here ok2 (v :: vs) (.cons (tv.mono ok1 le2) tvs)))
theorem SA.run {n : Nat} {t : TA} {m : AA} (h : SA C E n t m) {w : Wd} {env : AEnv} {σ : St} {Q : List V -> Hp -> Prop} {f : List AV -> AH -> Re AV} {P : AV -> Wd -> Prop} (ok : Ok C w) (en : q04 C w env σ) (s : Sat C E w ((m env w.h).bind f) P)
    (k : ∀ xs w',xs.length = n -> Ok C w' -> Le w w' -> Sat C E w' (f xs w'.h) P -> ∀ vs,Trs C w' xs vs -> Q vs w'.H) : t σ w.H Q := by
  refine h.2 w env σ Q ok en ?_
  have hl := h.1 env w.h
  have s' := s.bind
  revert s'
  cases e : m env w.h with
  | ok xs h' => exact fun s' w' e' ok' le vs tv => k xs w' (hl xs h' e) ok' le (s' w' e' ok' le) vs tv
  | ex c h' => exact fun s' => s'
  | no => exact fun s' => s'
theorem q1d {n : Nat} {t : TA} {m : AA} (h : SA C E n t m) (hn : n <= sizeLine := by decide) : SE C E (tTup t) (aTup m) := fun w env σ Q ok en s =>
  h.run ok en s fun xs w1 hl ok1 le1 s1 vs tv => ⟨by rw [<- tv.len,hl]; exact hn,fun p hp => s1 (w1.fresh p (.tup vs)) rfl (ok1.fresh hp _) (ok1.q1u hp _) _ (ok1.qa8 hp tv)⟩
theorem qa1 {n : Nat} {t : TA} {m : AA} (h : SA C E n t m) (hn : n <= sizeLine := by decide) : SE C E (tLst t) (aLst m) := fun w env σ Q ok en s =>
  h.run ok en s fun xs w1 hl ok1 le1 s1 vs tv => ⟨by rw [<- tv.len,hl]; exact hn,fun p hp => s1 (w1.frozen p (.lst vs)) rfl (ok1.frozen hp _) (ok1.q1x hp _) _ (ok1.q5q hp tv)⟩
theorem Ok.q9i {w : Wd} (ok : Ok C w) {p : Addr} {xs : List AV} {vs : List V} (hp : w.H p = none) (t : Trs C w xs vs) : Ok C (w.cell p (.lst vs) (.lst xs)) :=
  ok.q8w hp ⟨vs,q0a,t.mono ok (ok.q4o hp _ _)⟩
theorem q2s {n : Nat} {t : TA} {m : AA} (h : SA C E n t m) (hn : n <= sizeLine := by decide) : SE C E (tLst t) (q2b m) := fun w env σ Q ok en s =>
  h.run ok en s fun xs w1 hl ok1 le1 s1 vs tv => ⟨by rw [<- tv.len,hl]; exact hn,fun p hp => s1 (w1.cell p (.lst vs) (.lst xs)) rfl (ok1.q9i hp tv) (ok1.q4o hp _ _) _ ok1.q7j⟩
theorem q1h {n : Nat} {t : TA} {m : AA} {r : List V -> Hp -> VK -> Prop} {f : List AV -> AH -> Re AV} (hr : SC C E n r f) (h : SA C E n t m) : SE C E (tCB r t) (aC f m) := fun w env σ Q ok en s =>
  h.run ok en s fun xs w1 hl ok1 le1 s1 vs tv => hr w1 xs vs Q hl ok1 tv s1
theorem q7s {w : Wd} {x : AV} {v : V} {P : Bool -> Wd -> Prop} (ok : Ok C w) (tv : Tr C w x v) (s : Sat C E w (toB x w.h) P) : ∃ c,v = .bl c /\ P c w := by
  cases x with
  | bl b => rw [Tr] at tv; exact ⟨b,tv,s.here ok⟩
  | non => exact s.elim
  | int i => exact s.elim
  | str x => exact s.elim
  | tup xs => exact s.elim
  | lst xs => exact s.elim
  | dk ks xs => exact s.elim
  | ref k => exact s.elim
  | kst xs => exact s.elim
  | xc c => exact s.elim
theorem st_b (ha : SE C E ta ma) : STs C E (tB ta) (aB ma) := fun w env σ Q ok en s =>
  ha w env σ _ ok en (s.bind.mono fun x w1 ok1 le1 s1 v tv => q7s ok1 tv s1)
theorem q12 (ha : SE C E ta ma) : STs C E (tTest ta) (aB ma) := fun w env σ Q ok en s =>
  ha w env σ _ ok en (s.bind.mono fun x w1 ok1 le1 s1 v tv => q7s ok1 tv s1)
variable {tA tB' : TT} {mA mB : AT}
theorem qb3 (ha : STs C E tA mA) (hb : STs C E tB' mB) : STs C E (tAnd tA tB') (aAnd mA mB) := fun w env σ Q ok en s =>
  ha w env σ _ ok en (s.bind.mono fun c w1 ok1 le1 s1 => by
    cases c with
    | true => exact iteT (hb w1 env σ _ ok1 (en.mono ok le1) (by simpa using s1))
    | false => exact iteF (Sat.here (by simpa using s1) ok1))
theorem st_or (ha : STs C E tA mA) (hb : STs C E tB' mB) : STs C E (tOr tA tB') (aOr mA mB) := fun w env σ Q ok en s =>
  ha w env σ _ ok en (s.bind.mono fun c w1 ok1 le1 s1 => by
    cases c with
    | true => exact iteT (Sat.here (by simpa using s1) ok1)
    | false => exact iteF (hb w1 env σ _ ok1 (en.mono ok le1) (by simpa using s1)))
theorem st_not (ha : STs C E tA mA) : STs C E (tNot tA) (aNot mA) := fun w env σ Q ok en s =>
  ha w env σ _ ok en (s.bind.mono fun c w1 ok1 le1 s1 => s1.here ok1)
theorem q4f (ha : SE C E ta ma) (hb : SE C E tb mb) : SE C E (tAndV ta tb) (q3q ma mb) := fun w env σ Q ok en s =>
  ha w env σ _ ok en (s.bind.mono fun x w1 ok1 le1 s1 v tv => by
    obtain ⟨c,e,s2⟩ := q7s ok1 tv s1.bind
    refine ⟨c,e,?_⟩
    cases c with
    | true => exact iteT (hb w1 env σ _ ok1 (en.mono ok le1) (by simpa using s2))
    | false => exact iteF (Sat.here (P := want C Q) (x := AV.bl false) (by simpa using s2) ok1 _ (by rw [Tr])))
end
end Z
namespace Z
open PySem L2
@[simp] def q2m (h : AH) : AV -> Option (List AV)
  | .lst xs => some xs
  | .ref k => match h[k]? with | some (.lst xs) => some xs | _ => none
  | _ => none
@[simp] def q21 (h : AH) : AV -> Option (List AV)
  | .lst xs => some xs
  | .kst xs => some xs
  | .ref k => match h[k]? with | some (.lst xs) => some xs | _ => none
  | _ => none
@[simp] def tupOf : AV -> Option (List AV)
  | .tup xs => some xs
  | _ => none
@[simp] def q2o (h : AH) : AV -> Option (List AV)
  | .tup xs => some xs
  | .lst xs => some xs
  | .kst xs => some xs
  | .ref k => match h[k]? with | some (.lst xs) => some xs | _ => none
  | _ => none
@[simp] def intsOf : List AV -> Option (List Int)
  | [] => some []
  | .int i :: r => (intsOf r).map (i :: ·)
  | _ => none
@[simp] def q2k : List AV -> Option (List Bool)
  | [] => some []
  | .bl i :: r => (q2k r).map (i :: ·)
  | _ => none
@[simp] def strsOf : List AV -> Option (List Str)
  | [] => some []
  | .str i :: r => (strsOf r).map (i :: ·)
  | _ => none
@[simp] def fI (g : Int -> Int -> AV) : AV -> AV -> AH -> Re AV
  | .int i, .int j,h => .ok (g i j) h
  | _,_,_ => .no
@[simp] def fIC (c : Int -> Int -> Bool) (g : Int -> Int -> AV) : AV -> AV -> AH -> Re AV
  | .int i, .int j,h => if c i j = true then .ok (g i j) h else .no
  | _,_,_ => .no
abbrev fAdd := fI fun i j => .int (i + j)
abbrev fDiv := fIC (fun _ j => decide (0 < j /\ j < 1073741824)) fun i j => .int (i / j)
abbrev fMod := fIC (fun _ j => decide (0 < j)) fun i j => .int (i % j)
abbrev fLt := fI fun i j => .bl (decide (i < j))
abbrev fGe := fI fun i j => .bl (decide (j <= i))
@[simp] def fNeg : AV -> AH -> Re AV
  | .int i,h => .ok (.int (-i)) h
  | _,_ => .no
@[simp] def eqS : AV -> AV -> Option Bool
  | .int i, .int j => some (decide (i = j))
  | .str i, .str j => some (decide (i = j))
  | .bl i, .bl j => some (decide (i = j))
  | .non, .non => some true
  | .non, .int _ => some false | .int _, .non => some false | .non, .bl _ => some false | .bl _, .non => some false | .non, .str _ => some false | .str _, .non => some false
  | .int _, .str _ => some false | .str _, .int _ => some false | .bl _, .str _ => some false | .str _, .bl _ => some false
  | _,_ => none
@[simp] def fEq : AV -> AV -> AH -> Re AV := fun x y h => match eqS x y with | some b => .ok (.bl b) h | none => .no
@[simp] def fNe : AV -> AV -> AH -> Re AV := fun x y h => match eqS x y with | some b => .ok (.bl (!b)) h | none => .no
@[simp] def q1a : AV -> AV -> AH -> Re AV
  | .str x, .str y,h => if x.length + y.length <= sizeLine then .ok (.str (x ++ y)) h else .no
  | _,_,_ => .no
@[simp] def fIx : AV -> AV -> AH -> Re AV := fun x y h => match q2o h x,y with
  | some xs, .int i => match atI xs i with | some z => .ok z h | none => .no
  | _,_ => .no
@[simp] def fIxS : AV -> AV -> AH -> Re AV
  | .str z, .int i,h => if z.length <= sizeLine then (match atI z.cps.toList i with | some c => .ok (.str ⟨#[c]⟩) h | none => .no) else .no
  | _,_,_ => .no
section
variable {C : Ct} {E : XK} {w : Wd}
theorem q1o {x : AV} {xs : List AV} {v : V} (ok : Ok C w) (e : q2m w.h x = some xs) (t : Tr C w x v) : ∃ a vs,v = .ref a /\ Rd w.H a (.lst vs) /\ Trs C w xs vs := by
  cases x with
  | lst ys =>
    cases e
    rw [Tr] at t
    obtain ⟨a,vs,e,f,r,ht⟩ := t
    exact ⟨a,vs,e,r,ht⟩
  | ref k =>
    rw [Tr] at t
    obtain ⟨a,rfl,ea⟩ := t
    have e : (match w.h[k]? with | some (.lst xs) => some xs | _ => none) = some xs := e
    split at e
    . rename_i ys eh
      cases e
      obtain ⟨vs,hH,ht⟩ := ok.cell k _ a eh ea
      exact ⟨a,vs,rfl, .inl hH,ht⟩
    . cases e
  | non => cases e
  | bl b => cases e
  | int i => cases e
  | str x => cases e
  | tup xs => cases e
  | dk ks xs => cases e
  | kst xs => cases e
  | xc c => cases e
theorem sq_of {H : Hp} {a : Addr} {vs : List V} (h : (w.Fz a /\ Rd w.H a (.lst vs)) \/ SqL C.K (fun _ => none) a vs) : SqL C.K w.H a vs := by
  rcases h with h | (h | ⟨o,h⟩) | h
  . exact .inl h.2
  . cases h
  . cases h
  . exact .inr h
theorem q26 {x : AV} {xs : List AV} {v : V} (ok : Ok C w) (e : q21 w.h x = some xs) (t : Tr C w x v) : ∃ a vs,v = .ref a /\ SqL C.K w.H a vs /\ Trs C w xs vs := by
  cases x with
  | kst ys =>
    cases e
    rw [Tr] at t
    obtain ⟨a,vs,e,r,ht⟩ := t
    exact ⟨a,vs,e,sq_of (H := w.H) r,ht⟩
  | lst ys =>
    obtain ⟨a,vs,e,r,ht⟩ := q1o ok (x := .lst ys) e t
    exact ⟨a,vs,e, .inl r,ht⟩
  | ref k =>
    obtain ⟨a,vs,e,r,ht⟩ := q1o ok (x := .ref k) e t
    exact ⟨a,vs,e, .inl r,ht⟩
  | _ => cases e
theorem q3y {x : AV} {xs : List AV} {v : V} (ok : Ok C w) (e : q2o w.h x = some xs) (t : Tr C w x v) : ∃ a vs,v = .ref a /\ (SqL C.K w.H a vs \/ SqT C.K w.H a vs) /\ Trs C w xs vs := by
  cases x with
  | lst ys =>
    cases e
    rw [Tr] at t
    obtain ⟨a,vs,e,f,r,ht⟩ := t
    exact ⟨a,vs,e, .inl (.inl r),ht⟩
  | tup ys =>
    cases e
    rw [Tr] at t
    obtain ⟨a,vs,e,r,ht⟩ := t
    exact ⟨a,vs,e, .inr r,ht⟩
  | ref k =>
    obtain ⟨a,vs,e,r,ht⟩ := q1o ok (x := .ref k) e t
    exact ⟨a,vs,e, .inl (.inl r),ht⟩
  | kst ys =>
    obtain ⟨a,vs,e,r,ht⟩ := q26 ok (x := .kst ys) e t
    exact ⟨a,vs,e, .inl r,ht⟩
  | non => cases e
  | bl b => cases e
  | int i => cases e
  | str x => cases e
  | dk ks xs => cases e
  | xc c => cases e
theorem q68 : ∀ {xs : List AV} {ns : List Int} {vs : List V},intsOf xs = some ns -> Trs C w xs vs -> vs = ns.map V.int
  | [],ns,vs,e,t => by cases e; rw [Trs] at t; exact t
  | x :: xs,ns,vs,e,t => by
    rw [Trs] at t
    obtain ⟨v,us,rfl,h1,h2⟩ := t
    cases x with
    | int i =>
      rw [intsOf] at e
      cases e1 : intsOf xs with
      | none => rw [e1] at e; cases e
      | some ms =>
        rw [e1] at e
        cases e
        rw [Tr] at h1
        rw [h1,q68 e1 h2]; rfl
    | _ => cases e
theorem q84 : ∀ {xs : List AV} {ns : List Bool} {vs : List V},q2k xs = some ns -> Trs C w xs vs -> vs = ns.map V.bl
  | [],ns,vs,e,t => by cases e; rw [Trs] at t; exact t
  | x :: xs,ns,vs,e,t => by
    rw [Trs] at t
    obtain ⟨v,us,rfl,h1,h2⟩ := t
    cases x with
    | bl i =>
      rw [q2k] at e
      cases e1 : q2k xs with
      | none => rw [e1] at e; cases e
      | some ms =>
        rw [e1] at e
        cases e
        rw [Tr] at h1
        rw [h1,q84 e1 h2]; rfl
    | _ => cases e
theorem s2_I {g : Int -> Int -> V} {g' : Int -> Int -> AV} (hg : ∀ i j w,Tr C w (g' i j) (g i j)) : S2 C E (rI0 g) (fI g') := by
  intro w x y u v Q ok tx ty s
  unfold fI at s
  split at s
  . rename_i h i j
    rw [Tr] at tx; rw [Tr] at ty
    exact ⟨i,j,tx,ty,s.here ok _ (hg i j w)⟩
  . exact s.elim
theorem s2_IC {c : Int -> Int -> Bool} {P : Int -> Int -> Prop} {g : Int -> Int -> V} {g' : Int -> Int -> AV} (hc : ∀ i j,c i j = true -> P i j) (hg : ∀ i j w,Tr C w (g' i j) (g i j)) : S2 C E (rI P g) (fIC c g') := by
  intro w x y u v Q ok tx ty s
  unfold fIC at s
  split at s
  . rename_i h i j
    rw [Tr] at tx; rw [Tr] at ty
    by_cases hh : c i j = true
    . rw [if_pos hh] at s
      exact ⟨i,j,tx,ty,hc i j hh,s.here ok _ (hg i j w)⟩
    . rw [if_neg hh] at s
      exact s.elim
  . exact s.elim
theorem q78 : S2 C E (rI0 fun i j => .int (i + j)) fAdd := s2_I fun i j w => by rw [Tr]
theorem q5c : S2 C E (rI CDiv fun i j => .int (i / j)) fDiv := s2_IC (fun i j h => (of_decide_eq_true h : 0 < j /\ j < 1073741824)) fun i j w => by rw [Tr]
theorem q2z : S2 C E (rI (fun _ j => 0 < j) fun i j => .int (i % j)) fMod := s2_IC (fun i j h => of_decide_eq_true h) fun i j w => by rw [Tr]
theorem s2_lt : S2 C E (rI0 fun i j => .bl (decide (i < j))) fLt := s2_I fun i j w => by rw [Tr]
theorem s2_ge : S2 C E (rI0 fun i j => .bl (decide (j <= i))) fGe := s2_I fun i j w => by rw [Tr]
theorem q5f : S1 C E (rU fun i => .int (-i)) fNeg := by
  intro w x u Q ok tx s
  unfold fNeg at s
  split at s
  . rename_i h i
    rw [Tr] at tx
    exact ⟨i,tx,s.here ok _ (by rw [Tr])⟩
  . exact s.elim
theorem q9x {x y : AV} {u v : V} {b : Bool} (e : eqS x y = some b) (tx : Tr C w x u) (ty : Tr C w y v) : scal u v = true /\ decide (u = v) = b := by
  cases x <;> cases y <;> simp only [eqS,Option.some.injEq,reduceCtorEq] at e
  all_goals (rw [Tr] at tx; rw [Tr] at ty; subst tx; subst ty; subst e)
  all_goals first | exact ⟨rfl,rfl⟩ | exact ⟨rfl,decide_eq_decide.mpr ⟨fun h => by injection h,fun h => by rw [h]⟩⟩
theorem q2d : S2 C E rEq fEq := by
  intro w x y u v Q ok tx ty s
  unfold fEq at s
  split at s
  . rename_i b e
    obtain ⟨h1,h2⟩ := q9x e tx ty
    exact ⟨h1,by rw [h2]; exact s.here ok _ (by rw [Tr])⟩
  . exact s.elim
theorem s2_ne : S2 C E rNe fNe := by
  intro w x y u v Q ok tx ty s
  unfold fNe at s
  split at s
  . rename_i b e
    obtain ⟨h1,h2⟩ := q9x e tx ty
    exact ⟨h1,by rw [h2]; exact s.here ok _ (by rw [Tr])⟩
  . exact s.elim
theorem q4t : S2 C E (fun x y H Q => ∃ i j,x = .str i /\ y = .str j /\ i.length + j.length <= sizeLine /\ Q (.str (i ++ j)) H) q1a := by
  intro w x y u v Q ok tx ty s
  unfold q1a at s
  split at s
  . rename_i h i j
    rw [Tr] at tx; rw [Tr] at ty
    by_cases hh : i.length + j.length <= sizeLine
    . rw [if_pos hh] at s
      exact ⟨i,j,tx,ty,hh,s.here ok _ (by rw [Tr])⟩
    . rw [if_neg hh] at s; exact s.elim
  . exact s.elim
theorem Trs.atI {xs : List AV} {vs : List V} {i : Int} {x : AV} (t : Trs C w xs vs) (e : L2.atI xs i = some x) : ∃ v,L2.atI vs i = some v /\ Tr C w x v := by
  unfold L2.atI at e ⊢
  rw [<- t.len]
  cases q : ixN xs.length i with
  | none => rw [q] at e; cases e
  | some j =>
    rw [q] at e
    obtain ⟨v,e',tv⟩ := t.get (show xs[j]? = some x from e)
    exact ⟨v,e',tv⟩
theorem q0k : S2 C E (rIx C.K) fIx := by
  intro w x y u v Q ok tx ty s
  unfold fIx at s
  split at s
  . rename_i xs i e1
    rw [Tr] at ty
    obtain ⟨a,vs,rfl,r1,t1⟩ := q3y ok e1 tx
    split at s
    . rename_i z ez
      obtain ⟨q,eq,tq⟩ := t1.atI ez
      rcases r1 with r1 | r1
      . exact .inl ⟨a,vs,i,q,rfl,ty,r1,eq,s.here ok _ tq⟩
      . exact .inr (.inl ⟨a,vs,i,q,rfl,ty,r1,eq,s.here ok _ tq⟩)
    . exact s.elim
  . exact s.elim
theorem s2_ixS : S2 C E rIxS fIxS := by
  intro w x y u v Q ok tx ty s
  unfold fIxS at s
  split at s
  . rename_i h z i
    rw [Tr] at tx; rw [Tr] at ty
    by_cases hh : z.length <= sizeLine
    . rw [if_pos hh] at s
      split at s
      . rename_i c ec
        exact ⟨z,i,c,tx,ty,hh,ec,s.here ok _ (by rw [Tr])⟩
      . exact s.elim
    . rw [if_neg hh] at s; exact s.elim
  . exact s.elim
end
end Z
namespace Z
open PySem L2
inductive SRe where
  | nx (env : AEnv) (h : AH) | rt (x : AV) (h : AH) | bk (env : AEnv) (h : AH) | ct (env : AEnv) (h : AH) | ex (c : Nat) (h : AH) | no
abbrev AS := AEnv -> AH -> SRe
def Re.to {α : Type} (r : Re α) (f : α -> AH -> SRe) : SRe := match r with | .ok x h => f x h | .ex c h => .ex c h | .no => .no
@[simp] theorem Re.to_ok {α : Type} (x : α) (h : AH) (f : α -> AH -> SRe) : (Re.ok x h).to f = f x h := rfl
@[simp] theorem Re.to_ex {α : Type} (c : Nat) (h : AH) (f : α -> AH -> SRe) : (Re.ex c h : Re α).to f = .ex c h := rfl
@[simp] theorem Re.to_no {α : Type} (f : α -> AH -> SRe) : (Re.no : Re α).to f = .no := rfl
def SRe.then (r : SRe) (f : AEnv -> AH -> SRe) : SRe := match r with | .nx env h => f env h | r => r
@[simp] theorem SRe.then_nx (env : AEnv) (h : AH) (f : AEnv -> AH -> SRe) : (SRe.nx env h).then f = f env h := rfl
@[simp] theorem SRe.then_rt (x : AV) (h : AH) (f : AEnv -> AH -> SRe) : (SRe.rt x h).then f = .rt x h := rfl
@[simp] theorem SRe.then_bk (env : AEnv) (h : AH) (f : AEnv -> AH -> SRe) : (SRe.bk env h).then f = .bk env h := rfl
@[simp] theorem SRe.then_ct (env : AEnv) (h : AH) (f : AEnv -> AH -> SRe) : (SRe.ct env h).then f = .ct env h := rfl
@[simp] theorem SRe.then_ex (c : Nat) (h : AH) (f : AEnv -> AH -> SRe) : (SRe.ex c h).then f = .ex c h := rfl
@[simp] theorem SRe.then_no (f : AEnv -> AH -> SRe) : SRe.no.then f = .no := rfl
def SSat (C : Ct) (E : XK) (w : Wd) (r : SRe) (D : Ends) : Prop :=
  match r with
  | .nx env h => ∀ (w' : Wd) (σ : St),w'.h = h -> Ok C w' -> Le w w' -> q04 C w' env σ -> D.nx σ w'.H
  | .bk env h => ∀ (w' : Wd) (σ : St),w'.h = h -> Ok C w' -> Le w w' -> q04 C w' env σ -> D.bk σ w'.H
  | .ct env h => ∀ (w' : Wd) (σ : St),w'.h = h -> Ok C w' -> Le w w' -> q04 C w' env σ -> D.ct σ w'.H
  | .rt x h => ∀ (w' : Wd) (v : V),w'.h = h -> Ok C w' -> Le w w' -> Tr C w' x v -> D.rt v w'.H
  | .ex c h => ∀ w' : Wd,w'.h = h -> Ok C w' -> Le w w' -> E (.ref (C.cl c)) none w'.H
  | .no => False
def SS (C : Ct) (E : XK) (t : TS) (m : AS) : Prop := ∀ (w : Wd) (env : AEnv) (σ : St) (D : Ends),Ok C w -> q04 C w env σ -> SSat C E w (m env w.h) D -> t D σ w.H
def SG (C : Ct) (E : XK) (g : TG) (m : AV -> AEnv -> AH -> Re AEnv) : Prop := ∀ (w : Wd) (x : AV) (v : V) (env : AEnv) (σ : St) (Q : St -> Hp -> Prop),Ok C w -> q04 C w env σ -> Tr C w x v ->
  Sat C E w (m x env w.h) (fun env' w' => ∀ σ',q04 C w' env' σ' -> Q σ' w'.H) -> g v σ w.H Q
section
variable {C : Ct} {E : XK} {w : Wd}
theorem SSat.le {w0 : Wd} {r : SRe} {D : Ends} (le : Le w0 w) (s : SSat C E w0 r D) : SSat C E w r D := by
  cases r with
  | nx env h => exact fun w' σ e ok l en => s w' σ e ok (le.trans l) en
  | bk env h => exact fun w' σ e ok l en => s w' σ e ok (le.trans l) en
  | ct env h => exact fun w' σ e ok l en => s w' σ e ok (le.trans l) en
  | rt x h => exact fun w' v e ok l t => s w' v e ok (le.trans l) t
  | ex c h => exact fun w' e ok l => s w' e ok (le.trans l)
  | no => exact s
theorem Sat.to {α : Type} {r : Re α} {f : α -> AH -> SRe} {D : Ends} (s : SSat C E w (r.to f) D) : Sat C E w r (fun x w1 => SSat C E w1 (f x w1.h) D) := by
  cases r with
  | ok x h => exact fun w' e ok le => by subst e; exact SSat.le le s
  | ex c h => exact s
  | no => exact s
end
@[simp] def q2l : AS := fun env h => .nx env h
@[simp] def sSeq (a b : AS) : AS := fun env h => (a env h).then b
@[simp] def q0v (a : AE) : AS := fun env h => (a env h).to fun _ h => .nx env h
@[simp] def sRet (a : AE) : AS := fun env h => (a env h).to fun x h => .rt x h
@[simp] def sIf (t : AT) (a b : AS) : AS := fun env h => (t env h).to fun c h => if c = true then a env h else b env h
@[simp] def sAsg (a : AE) (g : AV -> AEnv -> AH -> Re AEnv) : AS := fun env h => (a env h).to fun x h => (g x env h).to fun env h => .nx env h
@[simp] def gN (i : Nat) : AV -> AEnv -> AH -> Re AEnv := fun x env h => .ok (env.set i (some x)) h
@[simp] def q6t : List AV -> AEnv -> AH -> Re AEnv
  | [],env,h => .ok env h
  | _,_,_ => .no
@[simp] def q14 (g : AV -> AEnv -> AH -> Re AEnv) (r : List AV -> AEnv -> AH -> Re AEnv) : List AV -> AEnv -> AH -> Re AEnv
  | x :: xs,env,h => (g x env h).bind fun env h => r xs env h
  | [],_,_ => .no
@[simp] def gT (n : Nat) (r : List AV -> AEnv -> AH -> Re AEnv) : AV -> AEnv -> AH -> Re AEnv
  | .tup xs,env,h => if xs.length = n then r xs env h else .no
  | _,_,_ => .no
@[simp] def putL : AV -> AV -> AV -> AH -> Option AH
  | .ref k, .int i,x,h => match h[k]? with
    | some (.lst xs) => match ixN xs.length i with | some j => some (h.set k (.lst (xs.set j x))) | none => none
    | _ => none
  | _,_,_,_ => none
@[simp] def q2q (o i : AE) : AV -> AEnv -> AH -> Re AEnv := fun x env h => (o env h).bind fun a h => (i env h).bind fun b h => match putL a b x h with | some h => .ok env h | none => .no
section
variable {C : Ct} {E : XK}
theorem q3l : SS C E tNext q2l := fun w env σ D ok en s => s w σ rfl ok (Le.refl w) en
theorem q03 {t u : TS} {a b : AS} (ha : SS C E t a) (hb : SS C E u b) : SS C E (tSeq t u) (sSeq a b) := by
  intro w env σ D ok en s
  refine ha w env σ _ ok en ?_
  unfold sSeq at s
  cases e : a env w.h with
  | nx env' h' =>
    rw [e] at s
    intro w' σ' e' ok' le' en'
    subst e'
    exact hb w' env' σ' D ok' en' (SSat.le le' s)
  | bk env' h' => rw [e] at s; exact s
  | ct env' h' => rw [e] at s; exact s
  | rt x h' => rw [e] at s; exact s
  | ex c h' => rw [e] at s; exact s
  | no => rw [e] at s; exact s
theorem q1z {t : TE} {m : AE} (h : SE C E t m) : SS C E (tDrop t) (q0v m) := fun w env σ D ok en s =>
  h w env σ _ ok en (Sat.mono (Sat.to s) fun x w1 ok1 le1 s1 v tv => s1 w1 σ rfl ok1 (Le.refl w1) (en.mono ok le1))
theorem q1j {t : TE} {m : AE} (h : SE C E t m) : SS C E (tRet t) (sRet m) := fun w env σ D ok en s =>
  h w env σ _ ok en (Sat.mono (Sat.to s) fun x w1 ok1 le1 s1 v tv => s1 w1 v rfl ok1 (Le.refl w1) tv)
theorem q3d {c : TT} {t u : TS} {mc : AT} {a b : AS} (hc : STs C E c mc) (ha : SS C E t a) (hb : SS C E u b) : SS C E (tIfS c t u) (sIf mc a b) := fun w env σ D ok en s =>
  hc w env σ _ ok en (Sat.mono (Sat.to s) fun c w1 ok1 le1 s1 => by
    cases c with
    | true => exact iteT (ha w1 env σ D ok1 (en.mono ok le1) (by simpa using s1))
    | false => exact iteF (hb w1 env σ D ok1 (en.mono ok le1) (by simpa using s1)))
theorem q0o {t : TE} {m : AE} {g : TG} {mg : AV -> AEnv -> AH -> Re AEnv} (h : SE C E t m) (hg : SG C E g mg) : SS C E (tAsg t g) (sAsg m mg) := fun w env σ D ok en s =>
  h w env σ _ ok en (Sat.mono (Sat.to s) fun x w1 ok1 le1 s1 v tv => hg w1 x v env σ _ ok1 (en.mono ok le1) tv (Sat.mono (Sat.to s1) fun env2 w2 ok2 le2 s2 σ2 en2 => s2 w2 σ2 rfl ok2 (Le.refl w2) en2))
theorem q07 {i : Nat} : SG C E (q4s i) (gN i) := fun w x v env σ Q ok en t s => s.here ok _ (en.set i t)
theorem Ok.q7b {w : Wd} (ok : Ok C w) {k : Nat} {a : Addr} {xs xs' : List AV} {vs' : List V} (e : w.h[k]? = some (.lst xs)) (ea : w.ρ[k]? = some a) (t : Trs C w xs' vs') :
    Ok C (w.put k (.lst xs') a (.lst vs')) /\ Le w (w.put k (.lst xs') a (.lst vs')) := by
  have hl : Live w a := ⟨k,_,e,(by intro z; cases z),ea⟩
  have le := ok.q7d ea hl (.lst xs') (.lst vs')
  exact ⟨ok.put ea hl ⟨vs',q0a,t.mono ok le⟩,le⟩
theorem qcd {w : Wd} {x y z : AV} {u v q : V} {h' : AH} (ok : Ok C w) (e : putL x y z w.h = some h') (tx : Tr C w x u) (ty : Tr C w y v) (tz : Tr C w z q) :
    ∃ p vs k j,u = .ref p /\ v = .int k /\ w.H p = some (.lst vs) /\ ixN vs.length k = some j /\ ∃ w',w'.h = h' /\ w'.H = upd w.H p (.lst (vs.set j q)) /\ Ok C w' /\ Le w w' := by
  unfold putL at e
  split at e
  . rename_i h k i
    rw [Tr] at tx; rw [Tr] at ty
    obtain ⟨a,rfl,ea⟩ := tx
    split at e
    . rename_i xs eh
      obtain ⟨vs,hH,t⟩ := ok.cell k _ a eh ea
      split at e
      . rename_i j ej
        cases e
        obtain ⟨o1,l1⟩ := ok.q7b eh ea (t.set tz j)
        exact ⟨a,vs,i,j,rfl,ty,hH,by rw [<- t.len]; exact ej,_,rfl,rfl,o1,l1⟩
      . cases e
    . cases e
  . cases e
theorem q4u {to ti : TE} {o i : AE} (ho : SE C E to o) (hi : SE C E ti i) : SG C E (gSub to ti rSetL) (q2q o i) := by
  intro w x v env σ Q ok en t s
  refine ho w env σ _ ok en (s.bind.mono fun a w1 ok1 le1 s1 u tu => hi w1 env σ _ ok1 (en.mono ok le1) (s1.bind.mono fun b w2 ok2 le2 s2 u2 tu2 => ?_))
  split at s2
  . rename_i h' e
    obtain ⟨p,vs,k,j,e1,e2,hH,hj,w',e3,e4,o',l'⟩ := qcd ok2 e (tu.mono ok1 le2) tu2 (t.mono ok (le1.trans le2))
    refine ⟨p,vs,k,j,e1,e2,hH,hj,?_⟩
    have := s2 w' e3 o' l' σ (en.mono ok (le1.trans (le2.trans l')))
    rw [e4] at this
    exact this
  . exact s2.elim
mutual
def beqA : AV -> AV -> Bool
  | .non, .non => true
  | .bl a, .bl b => a == b
  | .int a, .int b => a == b
  | .str a, .str b => a == b
  | .tup a, .tup b => q1b a b
  | .lst a, .lst b => q1b a b
  | .dk k a, .dk l b => decide (k = l) && q1b a b
  | .ref a, .ref b => a == b
  | .kst a, .kst b => q1b a b
  | .xc a, .xc b => a == b
  | _,_ => false
def q1b : List AV -> List AV -> Bool
  | [],[] => true
  | x :: xs,y :: ys => beqA x y && q1b xs ys
  | _,_ => false
end
mutual
theorem q8i : ∀ {x y : AV},beqA x y = true -> x = y
  | .non,y,h => by cases y <;> simp_all [beqA]
  | .bl a,y,h => by cases y <;> simp_all [beqA]
  | .int a,y,h => by cases y <;> simp_all [beqA]
  | .str a,y,h => by cases y <;> simp_all [beqA]
  | .tup a,y,h => by
    cases y with
    | tup b => rw [beqA] at h; rw [q1n h]
    | _ => simp [beqA] at h
  | .lst a,y,h => by
    cases y with
    | lst b => rw [beqA] at h; rw [q1n h]
    | _ => simp [beqA] at h
  | .dk k a,y,h => by
    cases y with
    | dk l b =>
      rw [beqA,Bool.and_eq_true] at h
      rw [q1n h.2,of_decide_eq_true h.1]
    | _ => simp [beqA] at h
  | .ref a,y,h => by cases y <;> simp_all [beqA]
  | .kst a,y,h => by
    cases y with
    | kst b => rw [beqA] at h; rw [q1n h]
    | _ => simp [beqA] at h
  | .xc a,y,h => by cases y <;> simp_all [beqA]
theorem q1n : ∀ {xs ys : List AV},q1b xs ys = true -> xs = ys
  | [],ys,h => by cases ys <;> simp_all [q1b]
  | x :: xs,ys,h => by
    cases ys with
    | nil => simp [q1b] at h
    | cons y ys =>
      rw [q1b,Bool.and_eq_true] at h
      rw [q8i h.1,q1n h.2]
end
mutual
theorem q7c : ∀ (x : AV),beqA x x = true
  | .non => by rw [beqA]
  | .bl a => by rw [beqA]; exact beq_self_eq_true a
  | .int a => by rw [beqA]; exact beq_self_eq_true a
  | .str a => by rw [beqA]; exact beq_self_eq_true a
  | .tup a => by rw [beqA]; exact q19 a
  | .lst a => by rw [beqA]; exact q19 a
  | .dk k a => by rw [beqA,q19 a,decide_eq_true rfl]; rfl
  | .ref a => by rw [beqA]; exact beq_self_eq_true a
  | .kst a => by rw [beqA]; exact q19 a
  | .xc a => by rw [beqA]; exact beq_self_eq_true a
theorem q19 : ∀ (xs : List AV),q1b xs xs = true
  | [] => by rw [q1b]
  | x :: xs => by rw [q1b,q7c x,q19 xs]; rfl
end
def okW (h : AH) (all : List AV) : Option Nat -> Bool
  | none => true
  | some k => match h[k]? with | some (.lst ys) => q1b ys all | _ => false
theorem q0u {h : AH} {all : List AV} : okW h all none = true := rfl
theorem q75 {h : AH} {all : List AV} {k : Nat} (e : h[k]? = some (.lst all)) : okW h all (some k) = true := by
  simp only [okW,e]; exact q19 all
theorem of_okW {h : AH} {all : List AV} {k : Nat} (e : okW h all (some k) = true) : h[k]? = some (.lst all) := by
  simp only [okW] at e
  split at e
  . rename_i ys q; rw [q,q1n e]
  . cases e
abbrev AI := AEnv -> AH -> Re (List AV × Option Nat)
structure ItOk (C : Ct) (w1 : Wd) (J : It) (all : List AV) (wt : Option Nat) : Prop where
  go : ∀ (w : Wd) (i : Nat),Ok C w -> Le w1 w -> okW w.h all wt = true -> i < all.length -> J.go i w.H
  yld : ∀ (w : Wd) (i : Nat) (x : AV) (v : V) (H' : Hp),Ok C w -> Le w1 w -> okW w.h all wt = true -> all[i]? = some x -> J.yld i w.H v H' -> ∃ w',w'.H = H' /\ w'.h = w.h /\ Ok C w' /\ Le w w' /\ Tr C w' x v
  stop : ∀ (w : Wd) (i : Nat),Ok C w -> Le w1 w -> okW w.h all wt = true -> i = all.length -> J.stop i w.H
def SI (C : Ct) (E : XK) (wi : TI) (m : AI) : Prop := ∀ (w : Wd) (env : AEnv) (σ : St) (R : It -> Hp -> Prop),Ok C w -> q04 C w env σ -> Sat C E w (m env w.h) (fun p w' => ∀ J,ItOk C w' J p.1 p.2 -> R J w'.H) -> wi σ w.H R
def q2f (wt : Option Nat) (all : List AV) (g : AV -> AEnv -> AH -> Re AEnv) (body : AS) : List AV -> AEnv -> AH -> SRe
  | [],env,h => if okW h all wt = true then .nx env h else .no
  | x :: xs,env,h => if okW h all wt = true then (g x env h).to fun env h => match body env h with
      | .nx env h => q2f wt all g body xs env h
      | .ct env h => q2f wt all g body xs env h
      | .bk env h => .nx env h
      | .rt x h => .rt x h
      | .ex c h => .ex c h
      | .no => .no
    else .no
@[simp] def sFor (it : AI) (g : AV -> AEnv -> AH -> Re AEnv) (body : AS) : AS := fun env h => (it env h).to fun p h => q2f p.2 p.1 g body p.1 env h
theorem q32 {wi : TI} {it : AI} {g : TG} {mg : AV -> AEnv -> AH -> Re AEnv} {tb : TS} {body : AS} (hi : SI C E wi it) (hg : SG C E g mg) (hb : SS C E tb body) : SS C E (tFor wi g tb) (sFor it mg body) := by
  intro w env σ D ok en s
  refine hi w env σ _ ok en (Sat.mono (Sat.to s) fun p w1 ok1 le1 s1 J hJ => ?_)
  obtain ⟨all,wt⟩ := p
  refine ⟨fun i m σ H => m = all.length - i /\ i <= all.length /\ ∃ w env,w.H = H /\ Ok C w /\ Le w1 w /\ q04 C w env σ /\ SSat C E w (q2f wt all mg body (all.drop i) env w.h) D,
    ⟨all.length,by simp,Nat.zero_le _,w1,env,rfl,ok1,Le.refl w1,en.mono ok le1,s1⟩,?_⟩
  rintro i m σ H ⟨rfl,hi,w2,env2,rfl,ok2,le2,en2,s2⟩
  by_cases hlt : i < all.length
  . right
    have hx : all[i]? = some all[i] := List.getElem?_eq_getElem hlt
    rw [List.drop_eq_getElem_cons hlt,q2f] at s2
    by_cases hw : okW w2.h all wt = true
    . rw [if_pos hw] at s2
      refine ⟨hJ.go w2 i ok2 le2 hw hlt,fun σ' H' => ∃ w env,w.H = H' /\ Ok C w /\ Le w1 w /\ q04 C w env σ' /\ SSat C E w (q2f wt all mg body (all.drop (i + 1)) env w.h) D,fun σ' H' q => ⟨all.length - (i + 1),by omega,rfl,hlt,q⟩,fun v H' y => ?_⟩
      obtain ⟨w3,rfl,e3,ok3,le3,t3⟩ := hJ.yld w2 i _ v H' ok2 le2 hw hx y
      rw [<- e3] at s2
      refine hg w3 _ v env2 σ _ ok3 (en2.mono ok2 le3) t3 (Sat.mono (Sat.to (SSat.le le3 s2)) fun env4 w4 ok4 le4 s4 σ4 en4 => ?_)
      refine hb w4 env4 σ4 _ ok4 en4 ?_
      have le14 : Le w1 w4 := le2.trans (le3.trans le4)
      cases e : body env4 w4.h with
      | nx env5 h5 =>
        rw [e] at s4
        intro w5 σ5 e5 ok5 le5 en5
        subst e5
        exact ⟨w5,env5,rfl,ok5,le14.trans le5,en5,SSat.le le5 s4⟩
      | ct env5 h5 =>
        rw [e] at s4
        intro w5 σ5 e5 ok5 le5 en5
        subst e5
        exact ⟨w5,env5,rfl,ok5,le14.trans le5,en5,SSat.le le5 s4⟩
      | bk env5 h5 => rw [e] at s4; exact s4
      | rt x h5 => rw [e] at s4; exact s4
      | ex c h5 => rw [e] at s4; exact s4
      | no => rw [e] at s4; exact s4
    . rw [if_neg hw] at s2; exact s2.elim
  . left
    have hd : all.drop i = [] := List.drop_eq_nil_of_le (by omega)
    rw [hd,q2f] at s2
    by_cases hw : okW w2.h all wt = true
    . rw [if_pos hw] at s2
      exact ⟨hJ.stop w2 i ok2 le2 hw (Nat.le_antisymm hi (Nat.le_of_not_lt hlt)),s2 w2 σ rfl ok2 (Le.refl w2) en2⟩
    . rw [if_neg hw] at s2; exact s2.elim
end
end Z
namespace Z
open PySem L2
@[simp] def watch : AV -> Option Nat
  | .ref k => some k
  | _ => none
@[simp] def iLst (a : AE) : AI := fun env h => (a env h).bind fun x h => match q21 h x with | some xs => .ok (xs,watch x) h | none => .no
@[simp] def q9d (a : AE) : AI := fun env h => (a env h).bind fun x h => match tupOf x with | some xs => .ok (xs,none) h | none => .no
def intsFrom (lo : Int) (n : Nat) : List AV := (List.range n).map fun i : Nat => AV.int (lo + (i : Int))
def rng1 : AV -> AH -> Re (List AV × Option Nat) := fun x h => match x with
  | .int (.ofNat n) => if n <= 16777216 then .ok (intsFrom 0 n,none) h else .no
  | .int (.negSucc n) => if n <= 16777216 then .ok (intsFrom 0 0,none) h else .no
  | _ => .no
@[simp] def q4k (a : AE) : AI := fun env h => (a env h).bind rng1
theorem q74 {n : Nat} {h : AH} (h1 : n <= 1000000) : rng1 (.int (n : Int)) h = .ok (intsFrom 0 n,none) h := by
  show (if _ then _ else _) = _
  rw [if_pos (by omega)]
theorem len_from (i : Int) (n : Nat) : (intsFrom i n).length = n := by simp [intsFrom]
section
variable {C : Ct} {E : XK} {ta tb : TE} {ma mb : AE}
theorem qc9 {w1 w : Wd} {x : AV} {xs : List AV} {v : V} (ok1 : Ok C w1) (e : q21 w1.h x = some xs) (t : Tr C w1 x v) (ok : Ok C w) (le : Le w1 w) (hw : okW w.h xs (watch x) = true) : ∃ a vs,v = .ref a /\ SqL C.K w.H a vs /\ Trs C w xs vs := by
  have t' := t.mono ok1 le
  have e' : q21 w.h x = some xs := by
    cases x with
    | lst ys => exact e
    | kst ys => exact e
    | ref k => simp only [q21,of_okW hw]
    | _ => cases e
  obtain ⟨a,vs,h1,h2,h3⟩ := q26 ok e' t'
  exact ⟨a,vs,h1,h2,h3⟩
theorem q1f (ha : SE C E ta ma) : SI C E (iList C.K ta) (iLst ma) := by
  intro w env σ R ok en s
  refine ha w env σ _ ok en (s.bind.mono fun x w1 ok1 le1 s1 v tv => ?_)
  split at s1
  . rename_i xs e
    obtain ⟨a,vs,rfl,r,t⟩ := q26 ok1 e tv
    refine ⟨a,rfl,⟨vs,r⟩,s1.here ok1 _ ?_⟩
    have key : ∀ w,Ok C w -> Le w1 w -> okW w.h xs (watch x) = true -> ∃ us,SqL C.K w.H a us /\ Trs C w xs us := fun w ok le hw => by
      obtain ⟨a',us,e',h2,h3⟩ := qc9 ok1 e tv ok le hw
      cases e'
      exact ⟨us,h2,h3⟩
    refine ⟨fun w i ok le hw hi => ?_,fun w i y v H' ok le hw hy yl => ?_,fun w i ok le hw hi => ?_⟩
    . obtain ⟨us,h2,h3⟩ := key w ok le hw
      exact ⟨us,us[i]'(by rw [<- h3.len]; exact hi),h2,List.getElem?_eq_getElem _⟩
    . obtain ⟨us,h2,h3⟩ := key w ok le hw
      obtain ⟨rfl,hq⟩ := yl
      obtain ⟨q,e1,tq⟩ := h3.get hy
      have := hq us h2
      rw [e1] at this; cases this
      exact ⟨w,rfl,rfl,ok,Le.refl w,tq⟩
    . obtain ⟨us,h2,h3⟩ := key w ok le hw
      exact ⟨us,h2,by rw [<- h3.len]; exact Nat.le_of_eq hi.symm⟩
  . exact s1.elim
theorem si_tup (ha : SE C E ta ma) : SI C E (iTup C.K ta) (q9d ma) := by
  intro w env σ R ok en s
  refine ha w env σ _ ok en (s.bind.mono fun x w1 ok1 le1 s1 v tv => ?_)
  split at s1
  . rename_i xs e
    cases x with
    | tup ys =>
      cases e
      rw [Tr] at tv
      obtain ⟨a,vs,rfl,r,t⟩ := tv
      refine ⟨a,rfl,⟨vs,r⟩,s1.here ok1 _ ?_⟩
      refine ⟨fun w i ok le hw hi => ?_,fun w i y v H' ok le hw hy yl => ?_,fun w i ok le hw hi => ?_⟩
      . exact ⟨vs,vs[i]'(by rw [<- t.len]; exact hi),ok1.sqT le r,List.getElem?_eq_getElem _⟩
      . obtain ⟨rfl,hq⟩ := yl
        obtain ⟨q,e1,tq⟩ := t.get hy
        have := hq vs (ok1.sqT le r)
        rw [e1] at this; cases this
        exact ⟨w,rfl,rfl,ok,Le.refl w,tq.mono ok1 le⟩
      . exact ⟨vs,ok1.sqT le r,by rw [<- t.len]; exact Nat.le_of_eq hi.symm⟩
    | _ => cases e
  . exact s1.elim
theorem qap {w1 : Wd} {lo : Int} {n : Nat} : ItOk C w1 (Itr lo n) (intsFrom lo n) none := by
  refine ⟨fun w i ok le hw hi => ?_,fun w i y v H' ok le hw hy yl => ?_,fun w i ok le hw hi => ?_⟩
  . unfold intsFrom at hi; rw [List.length_map,List.length_range] at hi; exact hi
  . obtain ⟨rfl,rfl⟩ := yl
    unfold intsFrom at hy
    rw [List.getElem?_map] at hy
    cases e : (List.range n)[i]? with
    | none => rw [e] at hy; cases hy
    | some k =>
      rw [e] at hy
      obtain ⟨h1,h2⟩ := List.getElem?_eq_some_iff.mp e
      rw [List.getElem_range] at h2
      subst h2
      cases hy
      exact ⟨w,rfl,rfl,ok,Le.refl w,by rw [Tr]⟩
  . unfold intsFrom at hi; rw [List.length_map,List.length_range] at hi; exact Nat.le_of_eq hi.symm
theorem q69 (ha : SE C E ta ma) : SI C E (iRng1 (q24 ta tNil)) (q4k ma) := by
  intro w env σ R ok en s
  refine ha w env σ _ ok en (s.bind.mono fun x w1 ok1 le1 s1 v tv => ?_)
  unfold rng1 at s1
  split at s1
  . rename_i n
    rw [Tr] at tv; subst tv
    by_cases hj : n <= 16777216
    . rw [if_pos hj] at s1
      exact ⟨_,rfl,by show (_ : Int) <= (n : Int); omega,by show (n : Int) < _; omega,s1.here ok1 _ qap⟩
    . rw [if_neg hj] at s1; exact s1.elim
  . rename_i n
    rw [Tr] at tv; subst tv
    by_cases hj : n <= 16777216
    . rw [if_pos hj] at s1
      exact ⟨_,rfl,by rw [Int.negSucc_eq]; omega,by rw [Int.negSucc_eq]; omega,s1.here ok1 _ qap⟩
    . rw [if_neg hj] at s1; exact s1.elim
  . exact s1.elim
def SGo (C : Ct) (E : XK) (n : Nat) (g : TG) (m : AV -> AEnv -> AH -> Re AEnv) : Prop := ∀ (w : Wd) (x : AV) (v : V) (env : AEnv) (σ : St) (Q : St -> Hp -> Prop),Ok C w -> q04 C w env σ -> Tr C w x v ->
  Sat C E w (m x env w.h) (fun env' w' => ∀ σ',q04 C w' env' σ' -> σ'.length = σ.length -> σ'.drop n = σ.drop n -> Q σ' w'.H) -> g v σ w.H Q
def SGos (C : Ct) (E : XK) (n : Nat) (g : TGs) (m : List AV -> AEnv -> AH -> Re AEnv) : Prop := ∀ (w : Wd) (xs : List AV) (vs : List V) (env : AEnv) (σ : St) (Q : St -> Hp -> Prop),Ok C w -> q04 C w env σ -> Trs C w xs vs ->
  Sat C E w (m xs env w.h) (fun env' w' => ∀ σ',q04 C w' env' σ' -> σ'.length = σ.length -> σ'.drop n = σ.drop n -> Q σ' w'.H) -> g vs σ w.H Q
theorem q1c {i n : Nat} (h : i < n := by decide) : SGo C E n (q4s i) (gN i) := fun w x v env σ Q ok en t s => s.here ok _ (en.set i t) List.length_set (List.drop_set_of_lt h)
theorem qbr {n : Nat} : SGos C E n gNil q6t := by
  intro w xs vs env σ Q ok en t s
  cases xs with
  | nil => rw [Trs] at t; exact ⟨t,Sat.here (P := fun env' w' => ∀ σ',q04 C w' env' σ' -> σ'.length = σ.length -> σ'.drop n = σ.drop n -> Q σ' w'.H) s ok _ en rfl rfl⟩
  | cons x xs => exact s.elim
theorem q35 {n : Nat} {g : TG} {u : TGs} {m : AV -> AEnv -> AH -> Re AEnv} {r : List AV -> AEnv -> AH -> Re AEnv} (hg : SGo C E n g m) (hr : SGos C E n u r) : SGos C E n (gCons g u) (q14 m r) := by
  intro w xs vs env σ Q ok en t s
  cases xs with
  | nil => exact s.elim
  | cons x xs =>
    rw [Trs] at t
    obtain ⟨v,us,rfl,t1,t2⟩ := t
    have s' : Sat C E w ((m x env w.h).bind fun env h => r xs env h) (fun env' w' => ∀ σ',q04 C w' env' σ' -> σ'.length = σ.length -> σ'.drop n = σ.drop n -> Q σ' w'.H) := s
    exact ⟨v,us,rfl,hg w x v env σ _ ok en t1 (s'.bind.mono fun env1 w1 ok1 le1 s1 σ1 en1 l1 d1 => hr w1 xs us env1 σ1 Q ok1 en1 (t2.mono ok le1) (s1.mono fun env2 w2 ok2 le2 s2 σ2 en2 l2 d2 => s2 σ2 en2 (l2.trans l1) (d2.trans d1)))⟩
theorem qcl {n k : Nat} {g : TGs} {m : List AV -> AEnv -> AH -> Re AEnv} (hg : SGos C E n g m) : SGo C E n (gTup C.K k g) (gT k m) := by
  intro w x v env σ Q ok en t s
  cases x with
  | tup xs =>
    rw [Tr] at t
    obtain ⟨a,vs,rfl,hs,ht⟩ := t
    have s' : Sat C E w (if xs.length = k then m xs env w.h else .no) (fun env' w' => ∀ σ',q04 C w' env' σ' -> σ'.length = σ.length -> σ'.drop n = σ.drop n -> Q σ' w'.H) := s
    by_cases hl : xs.length = k
    . rw [if_pos hl] at s'
      exact ⟨a,vs,rfl,hs,by rw [<- ht.len]; exact hl,hg w xs vs env σ Q ok en ht s'⟩
    . rw [if_neg hl] at s'; exact s'.elim
  | _ => exact s.elim
@[simp] def Re.noex {α : Type} : Re α -> Re α
  | .ok x h => .ok x h
  | _ => .no
@[simp] theorem Re.noex_ok {α : Type} (x : α) (h : AH) : (Re.ok x h).noex = .ok x h := rfl
def bEnv (n : Nat) (fv : List Nat) (env : AEnv) : AEnv := List.replicate n none ++ fv.map fun i => (env[i]?).join
def lcL (wt : Option Nat) (all : List AV) (g : AV -> AEnv -> AH -> Re AEnv) (tc : AT) (te : AE) (be : AEnv) : List AV -> List AV -> AH -> Re (List AV)
  | [],acc,h => if okW h all wt = true then .ok acc h else .no
  | x :: xs,acc,h => if okW h all wt = true then (g x be h).bind fun env h => (tc env h).bind fun b h => if b = true then (te env h).bind fun y h => lcL wt all g tc te be xs (acc ++ [y]) h else lcL wt all g tc te be xs acc h else .no
@[simp] def aLcL (n : Nat) (fv : List Nat) (it : AI) (g : AV -> AEnv -> AH -> Re AEnv) (tc : AT) (te : AE) : AA := fun env h => (it env h).bind fun p h => if p.1.length <= sizeLine then (lcL p.2 p.1 g tc te (bEnv n fv env) p.1 [] h).noex else .no
@[simp] def aLc (n : Nat) (fv : List Nat) (it : AI) (g : AV -> AEnv -> AH -> Re AEnv) (tc : AT) (te : AE) : AE := fun env h => (aLcL n fv it g tc te env h).bind fun xs h => .ok (.lst xs) h
@[simp] def aYes : AT := fun _ h => .ok true h
theorem q70 : STs C E tYes aYes := fun w env σ Q ok en s => s.here ok
theorem qd4 {w : Wd} {env : AEnv} {σ : St} (en : q04 C w env σ) (own : List Str) (fv : List (Str × Nat)) : q04 C w (bEnv own.length (fv.map (·.2)) env) (bσ own fv σ) := by
  unfold bEnv bσ q3w
  refine ⟨by simp,fun i x h => ?_⟩
  by_cases hi : i < own.length
  . rw [List.getElem?_append_left (by simpa using hi),List.getElem?_replicate,if_pos hi] at h
    cases h
  . rw [List.getElem?_append_right (by simpa using hi),List.length_replicate,List.getElem?_map,List.getElem?_map] at h
    rw [List.getElem?_append_right (by simpa using hi),List.length_map,List.getElem?_map]
    cases e : fv[i - own.length]? with
    | none => rw [e] at h; cases h
    | some p =>
      rw [e] at h
      have h : (env[p.2]?).join = some x := by simpa using h
      have h' : env[p.2]? = some (some x) := by
        cases q : env[p.2]? with
        | none => rw [q] at h; cases h
        | some o => rw [q] at h; rw [show o = some x from h]
      obtain ⟨v,hv,tv⟩ := en.at_ p.2 x h'
      exact ⟨v,by simp [hv],tv⟩
theorem Sat.nb {α β γ : Type} {w1 : Wd} {X : Re α} {g : α -> AH -> Re β} {f : β -> AH -> Re γ} {P : γ -> Wd -> Prop} (s : Sat C E w1 ((X.bind g).noex.bind f) P) : Sat C E0 w1 X (fun x w' => Sat C E w1 ((g x w'.h).noex.bind f) P) := by
  cases X with
  | ok x h => exact fun w' e ok le => by subst e; exact s
  | ex c h => exact s.elim
  | no => exact s
theorem lc_sim {own : List Str} {fv : List (Str × Nat)} {wi : TI} {it : AI} {g : TG} {mg : AV -> AEnv -> AH -> Re AEnv} {tc : TT} {mc : AT} {te : TE} {me : AE} (hi : SI C E wi it) (hg : SGo C E0 own.length g mg) (hc : STs C E0 tc mc) (he : SE C E0 te me)
    {w : Wd} {env : AEnv} {σ : St} {Q : VK} (ok : Ok C w) (en : q04 C w env σ) {f : List AV -> AH -> Re AV} {P : AV -> Wd -> Prop} (s : Sat C E w ((aLcL own.length (fv.map (·.2)) it mg mc me env w.h).bind f) P)
    (k : ∀ (w0 w' : Wd) xs D vs,Ok C w0 -> Le w w0 -> w0.H D = none -> Ok C w' -> Le w0 w' -> Lone w' D vs -> Trs C w' xs vs -> Sat C E w0 (f xs w'.h) P -> Q (.ref D) w'.H) : tLc own fv wi g tc te σ w.H Q := by
  have s0 : Sat C E w ((it env w.h).bind fun p h => (if p.1.length <= sizeLine then (lcL p.2 p.1 mg mc me (bEnv own.length (fv.map (·.2)) env) p.1 [] h).noex else .no : Re (List AV)).bind f) P := by
    unfold aLcL at s
    revert s
    cases it env w.h <;> exact fun s => s
  refine hi w env σ _ ok en (s0.bind.mono fun p w1 ok1 le1 s1 J hJ D hD => ?_)
  obtain ⟨all,wt⟩ := p
  by_cases hsz : all.length <= sizeLine
  . have s1 : Sat C E w1 ((if all.length <= sizeLine then (lcL wt all mg mc me (bEnv own.length (fv.map (·.2)) env) all [] w1.h).noex else .no : Re (List AV)).bind f) P := s1
    rw [if_pos hsz] at s1
    have en1 := en.mono ok le1
    refine ⟨fun i m H => m = all.length - i /\ i <= all.length /\ ∃ w2 acc ys,w2.H = H /\ Ok C w2 /\ Le w1 w2 /\ Lone w2 D ys /\ Trs C w2 acc ys /\ acc.length <= i /\ Sat C E w1 ((lcL wt all mg mc me (bEnv own.length (fv.map (·.2)) env) (all.drop i) acc w2.h).noex.bind f) P,⟨all.length,by simp,Nat.zero_le _,w1.fresh D (.lst []),[],[],rfl,ok1.fresh hD _,ok1.q1u hD _,?_, .nil,Nat.zero_le _,s1⟩,?_⟩
    . exact ⟨q0a,fun z => ok1.fzt D z hD,fun z => ok1.th D (ok1.liveH z) hD,fun z => ok1.th D z hD⟩
    . rintro i m H ⟨rfl,hi,w2,acc,ys,rfl,ok2,le2,L2,t2,hal,s3⟩
      by_cases hlt : i < all.length
      . right
        have hx : all[i]? = some all[i] := List.getElem?_eq_getElem hlt
        rw [List.drop_eq_getElem_cons hlt,lcL] at s3
        by_cases hw : okW w2.h all wt = true
        . rw [if_pos hw] at s3
          refine ⟨hJ.go w2 i ok2 le2 hw hlt,fun v H5 => ∃ w5 acc' ys,w5.H = H5 /\ Ok C w5 /\ Le w1 w5 /\ Lone w5 D ys /\ (∃ y,Tr C w5 y v /\ Trs C w5 acc' ys /\ acc'.length <= i /\ Sat C E w1 ((lcL wt all mg mc me (bEnv own.length (fv.map (·.2)) env) (all.drop (i + 1)) (acc' ++ [y]) w5.h).noex.bind f) P),
            fun H4 => ∃ w4 acc' ys,w4.H = H4 /\ Ok C w4 /\ Le w1 w4 /\ Lone w4 D ys /\ Trs C w4 acc' ys /\ acc'.length <= i /\ Sat C E w1 ((lcL wt all mg mc me (bEnv own.length (fv.map (·.2)) env) (all.drop (i + 1)) acc' w4.h).noex.bind f) P,?_,?_,?_⟩
          . rintro v H5 ⟨w5,acc',ys',rfl,ok5,le5,L5,y,ty,t5,hal5,s5⟩
            refine ⟨ys',L5.at_,?_,all.length - (i + 1),by omega,rfl,hlt,w5.poke D (.lst (ys' ++ [v])),acc' ++ [y],ys' ++ [v],rfl,ok5.poke L5 _,le5.poke hD,?_,(t5.app (.one ty)).poke L5 _,?_,s5⟩
            . have := t5.len; omega
            . exact ⟨q0a,L5.nf,L5.nl,L5.nr⟩
            . rw [List.length_append,List.length_singleton]; omega
          . rintro H4 ⟨w4,acc',ys',rfl,ok4,le4,L4,t4,hal4,s4⟩
            exact ⟨all.length - (i + 1),by omega,rfl,hlt,w4,acc',ys',rfl,ok4,le4,L4,t4,by omega,s4⟩
          . intro v H' yl
            obtain ⟨w3,rfl,e3,ok3,le3,t3⟩ := hJ.yld w2 i _ v H' ok2 le2 hw hx yl
            have en3 := qd4 ((en1.mono ok1 le2).mono ok2 le3) own fv
            rw [<- e3] at s3
            refine hg w3 _ v _ _ _ ok3 en3 t3 ((Sat.nb s3).le (le2.trans le3) |>.mono fun env4 w4 ok4 le4 s4 σ4 en4 l4 d4 => ⟨?_,?_⟩)
            . refine ⟨σ4.take own.length,?_,?_⟩
              . have hl : (bσ own fv σ).length = own.length + fv.length := by unfold bσ q3w; simp
                rw [List.length_take]; omega
              . have hd : (bσ own fv σ).drop own.length = q3w fv σ := by
                  unfold bσ
                  rw [List.drop_append_of_le_length (by simp)]
                  simp
                rw [<- hd, <- d4,List.take_append_drop]
            . have le14 : Le w1 w4 := le2.trans (le3.trans le4)
              refine hc w4 env4 σ4 _ ok4 en4 ((Sat.nb s4).le le14 |>.mono fun b w5 ok5 le5 s5 => ?_)
              have L5 : Lone w5 D ys := L2.le (le3.trans (le4.trans le5))
              have t5 : Trs C w5 acc ys := t2.mono ok2 (le3.trans (le4.trans le5))
              cases b with
              | true =>
                refine iteT (he w5 env4 σ4 _ ok5 (en4.mono ok4 le5) ?_)
                have s5' : Sat C E w1 (((me env4 w5.h).bind fun y h => lcL wt all mg mc me (bEnv own.length (fv.map (·.2)) env) (all.drop (i + 1)) (acc ++ [y]) h).noex.bind f) P := by simpa using s5
                refine (Sat.nb s5').le (le14.trans le5) |>.mono fun y w6 ok6 le6 s6 q tq => ?_
                exact ⟨w6,acc,ys,rfl,ok6,le14.trans (le5.trans le6),L5.le le6,y,tq,t5.mono ok5 le6,hal,s6⟩
              | false =>
                refine iteF ⟨w5,acc,ys,rfl,ok5,le14.trans le5,L5,t5,hal,by simpa using s5⟩
        . rw [if_neg hw] at s3; exact s3.elim
      . left
        have hd : all.drop i = [] := List.drop_eq_nil_of_le (by omega)
        rw [hd,lcL] at s3
        by_cases hw : okW w2.h all wt = true
        . rw [if_pos hw] at s3
          exact ⟨hJ.stop w2 i ok2 le2 hw (Nat.le_antisymm hi (Nat.le_of_not_lt hlt)),k w1 w2 acc D ys ok1 le1 hD ok2 le2 L2 t2 s3⟩
        . rw [if_neg hw] at s3; exact s3.elim
  . have s1 : Sat C E w1 ((if all.length <= sizeLine then (lcL wt all mg mc me (bEnv own.length (fv.map (·.2)) env) all [] w1.h).noex else .no : Re (List AV)).bind f) P := s1
    rw [if_neg hsz] at s1
    exact s1.elim
theorem Le.keep {w0 w : Wd} {D : Addr} (le : Le w0 w) (h0 : w0.H D = none) : Le w0 (w.keep D) :=
  ⟨le.pre,fun a h => .inr (le.fz a h),fun b hb o r => (le.ks b hb o r).elim .inl fun z => .inr ⟨.inr z.1,z.2⟩,fun a h => h.elim (fun z => .inr (.inl (z ▸ h0))) (le.fn a),le.nw,le.nn,le.rn⟩
section
variable {own : List Str} {fv : List (Str × Nat)} {wi : TI} {it : AI} {g : TG} {mg : AV -> AEnv -> AH -> Re AEnv} {tc : TT} {mc : AT} {te : TE} {me : AE}
theorem q4r (hi : SI C E wi it) (hg : SGo C E0 own.length g mg) (hc : STs C E0 tc mc) (he : SE C E0 te me) : SE C E (tLc own fv wi g tc te) (aLc own.length (fv.map (·.2)) it mg mc me) := fun w env σ Q ok en s =>
  lc_sim hi hg hc he ok en s fun w0 w' xs D vs ok0 le0 h0 ok' le' L t s' => s' (w'.keep D) rfl (ok'.keep L) (le'.keep h0) _ (by rw [Tr]; exact ⟨D,vs,rfl, .inl rfl, .inl L.at_,t.keep⟩)
end
end
end Z
namespace Z
open PySem L2
abbrev AF := List AV -> AH -> Re AV
def spZ (C : Ct) (n : Nat) (m : AF) : Sp := fun vs H Q E => ∃ (w : Wd) (xs : List AV),w.H = H /\ Ok C w /\ Trs C w xs vs /\ xs.length = n /\ Sat C E w (m xs w.h) (want C Q)
theorem q25 {C : Ct} {n : Nat} {m : AF} {vs : List V} {H : Hp} {Q : VK} {E : XK} (h : spZ C n m vs H Q E) : vs.length = n := by
  obtain ⟨w,xs,_,_,t,hl,_⟩ := h
  rw [<- t.len]; exact hl
@[simp] def SRe.out : SRe -> Re AV
  | .rt x h => .ok x h
  | .nx _ h => .ok .non h
  | .ex c h => .ex c h
  | _ => .no
@[simp] theorem SRe.out_rt (x : AV) (h : AH) : (SRe.rt x h).out = .ok x h := rfl
@[simp] theorem SRe.out_nx (e : AEnv) (h : AH) : (SRe.nx e h).out = .ok .non h := rfl
@[simp] theorem SRe.out_ex (c : Nat) (h : AH) : (SRe.ex c h).out = .ex c h := rfl
@[simp] def fnZ (N : Nat) (body : AS) : AF := fun xs h => (body (xs.map some ++ List.replicate (N - xs.length) none) h).out
section
variable {C : Ct} {E : XK}
theorem qbp {w : Wd} {N : List Str} {xs : List AV} {vs : List V} (t : Trs C w xs vs) : q04 C w (xs.map some ++ List.replicate (N.length - xs.length) none) (L2.start N vs) := by
  unfold L2.start
  have hl := t.len
  refine ⟨by simp [hl],fun i x h => ?_⟩
  by_cases hi : i < xs.length
  . rw [List.getElem?_append_left (by simpa using hi),List.getElem?_map] at h
    cases e : xs[i]? with
    | none => rw [e] at h; cases h
    | some y =>
      rw [e] at h
      cases h
      obtain ⟨v,hv,tv⟩ := t.get e
      exact ⟨v,by rw [List.getElem?_append_left (by simp; omega),List.getElem?_map,hv]; rfl,tv⟩
  . rw [List.getElem?_append_right (by simpa using hi),List.getElem?_replicate] at h
    split at h <;> cases h
theorem q28 {N : List Str} {n k : Nat} {t : TS} {body : AS} {vs : List V} {H : Hp} {Q : VK} (hs : SS C E t body) (hN : N.length = k) (h : spZ C n (fnZ k body) vs H Q E) : t { nx := fun _ H' => Q .non H',rt := Q } (L2.start N vs) H := by
  obtain ⟨w,xs,rfl,ok,tr,hl,s⟩ := h
  subst hN
  refine hs w _ _ _ ok (qbp (N := N) tr) ?_
  unfold fnZ at s
  revert s
  cases body (xs.map some ++ List.replicate (N.length - xs.length) none) w.h with
  | rt x h => exact fun s w' v e ok' le tv => s w' e ok' le v tv
  | nx env h => exact fun s w' σ e ok' le en => s w' e ok' le .non (by rw [Tr])
  | ex c h => exact fun s => s
  | bk env h => exact fun s => s.elim
  | ct env h => exact fun s => s.elim
  | no => exact fun s => s.elim
def q33 : List (Nat × AV) -> List (Nat × AV) -> Bool
  | [],[] => true
  | p :: r,q :: s => (p.1 == q.1) && beqA p.2 q.2 && q33 r s
  | _,_ => false
theorem q7v : ∀ {xs ys : List (Nat × AV)},q33 xs ys = true -> xs = ys
  | [],ys,h => by cases ys <;> simp_all [q33]
  | (a,x) :: xs,ys,h => by
    cases ys with
    | nil => simp [q33] at h
    | cons q ys =>
      obtain ⟨b,y⟩ := q
      rw [q33,Bool.and_eq_true,Bool.and_eq_true] at h
      have h1 : a = b := by simpa using h.1.1
      have h2 : x = y := q8i h.1.2
      rw [h1,h2,q7v h.2]
theorem q6c : ∀ (xs : List (Nat × AV)),q33 xs xs = true
  | [] => rfl
  | (a,x) :: xs => by rw [q33,q7c,q6c xs]; simp
def beqC : Cell -> Cell -> Bool
  | .dead, .dead => true
  | .lst a, .lst b => q1b a b
  | .dk k a, .dk l b => decide (k = l) && q1b a b
  | .ins c f, .ins d g => (c == d) && q33 f g
  | _,_ => false
theorem qcb {x y : Cell} (h : beqC x y = true) : x = y := by
  cases x <;> cases y <;> simp only [beqC,Bool.false_eq_true] at h
  . rfl
  . rw [q1n h]
  . rw [Bool.and_eq_true] at h; rw [q1n h.2,of_decide_eq_true h.1]
  . rw [Bool.and_eq_true] at h; rw [q7v h.2,eq_of_beq h.1]
theorem qbg (x : Cell) : beqC x x = true := by
  cases x with
  | dead => rfl
  | lst a => exact q19 a
  | dk k a => rw [beqC,q19,decide_eq_true rfl]; rfl
  | ins c f => rw [beqC,q6c]; simp
def q13 : AH -> AH -> Bool
  | [],_ => true
  | c :: r,d :: s => beqC c d && q13 r s
  | _ :: _,[] => false
theorem q45 : ∀ {h h' : AH},q13 h h' = true -> ∃ g,h' = h ++ g
  | [],h',_ => ⟨h',rfl⟩
  | c :: r,[],e => by simp [q13] at e
  | c :: r,d :: s,e => by
    rw [q13,Bool.and_eq_true] at e
    obtain ⟨g,hg⟩ := q45 e.2
    exact ⟨g,by rw [hg,qcb e.1]; rfl⟩
theorem q5d : ∀ (h g : AH),q13 h (h ++ g) = true
  | [],g => rfl
  | c :: r,g => by rw [List.cons_append,q13,qbg,q5d r g]; rfl
def q3t (m : AF) : AF := fun xs h => match m xs h with
  | .ok x h' => if (q13 h h' && closed h.length x) = true then .ok x h else .no
  | .ex c h' => if q13 h h' = true then .ex c h else .no
  | .no => .no
theorem q54 {m : AF} {xs : List AV} {h g : AH} {x : AV} (e : m xs h = .ok x (h ++ g)) (c : closed h.length x = true) : q3t m xs h = .ok x h := by
  unfold q3t; rw [e]; simp only [q5d,c,Bool.and_self,if_true]
theorem q51 {n : Nat} {m : AF} {vs : List V} {H : Hp} {Q : VK} (h : spZ C n (q3t m) vs H Q E) : spZ C n m vs H Q E := by
  obtain ⟨w,xs,rfl,ok,tr,hl,s⟩ := h
  refine ⟨w,xs,rfl,ok,tr,hl,?_⟩
  unfold q3t at s
  revert s
  cases m xs w.h with
  | ok x h' =>
    intro s w' e ok' le v tv
    by_cases hb : (q13 w.h h' && closed w.h.length x) = true
    . simp only [hb,if_true] at s
      rw [Bool.and_eq_true] at hb
      obtain ⟨g,hg⟩ := q45 hb.1
      have hh : w'.h = w.h ++ g := e.trans hg
      exact s (w'.back w) rfl (Ok.back ok le ok' hh) le.back v (tv.back le ok.len hb.2)
    . have s' : Sat C E w (if (q13 w.h h' && closed w.h.length x) = true then .ok x w.h else .no) (want C Q) := s
      rw [if_neg hb] at s'; exact s'.elim
  | ex c h' =>
    intro s w' e ok' le
    by_cases hb : q13 w.h h' = true
    . have s' : Sat C E w (if q13 w.h h' = true then .ex c w.h else .no) (want C Q) := s
      rw [if_pos hb] at s'
      obtain ⟨g,hg⟩ := q45 hb
      have hh : w'.h = w.h ++ g := e.trans hg
      exact s' (w'.back w) rfl (Ok.back ok le ok' hh) le.back
    . have s' : Sat C E w (if q13 w.h h' = true then .ex c w.h else .no) (want C Q) := s
      rw [if_neg hb] at s'; exact s'.elim
  | no => exact fun s => s
theorem q0r {n : Nat} {m : AF} {t : TA} {ma : AA} (ha : SA C E n t ma) : SE C E (tCall (spZ C n m) [] E t) (aC m ma) := fun w env σ Q ok en s =>
  ha.run ok en s fun xs w1 hl ok1 le1 s1 vs tv => by
    rw [List.append_nil]
    exact ⟨w1,xs,rfl,ok1,tv,hl,s1⟩
@[simp] def insOf (h : AH) : AV -> Option (Nat × List (Nat × AV))
  | .ref k => match h[k]? with | some (.ins c fs) => some (c,fs) | _ => none
  | _ => none
@[simp] def fFld (i : Nat) : AV -> AH -> Re AV := fun x h => match insOf h x with
  | some (_,fs) => match fs.lookup i with | some y => .ok y h | none => .no
  | none => .no
@[simp] def aFld (i : Nat) (a : AE) : AE := a1 (fFld i) a
end
end Z
namespace Z
open PySem L2
@[simp] def fLen : List AV -> AH -> Re AV
  | [.str z],h => if z.length <= sizeLine then .ok (.int z.length) h else .no
  | [x],h => match q2o h x with | some xs => .ok (.int xs.length) h | none => .no
  | _,_ => .no
@[simp] def q96 : List AV -> AH -> Re AV
  | [.int i, .int j],h => .ok (.int (if j < i then j else i)) h
  | _,_ => .no
@[simp] def q1i : List AV -> AH -> Re AV
  | [.int i],h => if i.natAbs.log2 < 1920 then .ok (.str (toString i)) h else .no
  | _,_ => .no
@[simp] def q91 : List AV -> AH -> Re AV
  | [x],h => match q2o h x with | some xs => .ok (.lst xs) h | none => .no
  | _,_ => .no
@[simp] def q7o : List AV -> AH -> Re AV
  | [x],h => match q2o h x with | some xs => .ok (.tup xs) h | none => .no
  | _,_ => .no
@[simp] def fAll : List AV -> AH -> Re AV
  | [x],h => match (q2m h x).bind q2k with | some bs => .ok (.bl (bs.all id)) h | none => .no
  | _,_ => .no
inductive Ty where | int | bool | str | list | tuple | dict | none
  deriving DecidableEq
def Ty.nm : Ty -> String
  | .int => "int" | .bool => "bool" | .str => "str" | .list => "list" | .tuple => "tuple" | .dict => "dict" | .none => "NoneType"
@[simp] def tyA (h : AH) : AV -> Option Ty
  | .non => some .none
  | .bl _ => some .bool
  | .int _ => some .int
  | .str _ => some .str
  | .tup _ => some .tuple
  | .lst _ => some .list
  | .dk _ _ => some .dict
  | .kst _ => Option.none
  | .xc _ => Option.none
  | .ref k => match h[k]? with | some (.lst _) => some .list | some (.dk _ _) => some .dict | _ => Option.none
@[simp] def isiB (a b : Ty) : Bool := decide (a = b) || (decide (a = .bool) && decide (b = .int))
@[simp] def fIsi (b : Ty) : AV -> AH -> Re AV := fun x h => match tyA h x with | some a => .ok (.bl (isiB a b)) h | Option.none => .no
@[simp] def q9j (bs : List Ty) : AV -> AH -> Re AV := fun x h => match tyA h x with | some a => .ok (.bl (bs.any (isiB a))) h | Option.none => .no
@[simp] def truA (h : AH) : AV -> Option Bool
  | .non => some false
  | .bl b => some b
  | .int i => some (i != 0)
  | .str y => if y.length <= sizeLine then some ((y.length : Int) != 0) else none
  | .tup xs => some (!xs.isEmpty)
  | .lst xs => some (!xs.isEmpty)
  | .ref k => match h[k]? with | some (.lst xs) => some (!xs.isEmpty) | some (.dk ks _) => some (!ks.isEmpty) | _ => none
  | _ => none
@[simp] def aTru (a : AE) : AT := fun env h => (a env h).bind fun x h => match truA h x with | some b => .ok b h | none => .no
section
variable {C : Ct} {E : XK}
theorem q20 {w : Wd} {x : AV} {vs : List V} (t : Trs C w [x] vs) : ∃ v,vs = [v] /\ Tr C w x v := by
  rw [Trs] at t
  obtain ⟨v,us,rfl,t1,t2⟩ := t
  rw [Trs] at t2; subst t2
  exact ⟨v,rfl,t1⟩
theorem two_of {w : Wd} {x y : AV} {vs : List V} (t : Trs C w [x,y] vs) : ∃ v u,vs = [v,u] /\ Tr C w x v /\ Tr C w y u := by
  rw [Trs] at t
  obtain ⟨v,us,rfl,t1,t2⟩ := t
  obtain ⟨u,rfl,t3⟩ := q20 t2
  exact ⟨v,u,rfl,t1,t3⟩
theorem len1 {xs : List AV} (h : xs.length = 1) : ∃ x,xs = [x] := by
  match xs,h with
  | [x],_ => exact ⟨x,rfl⟩
theorem len2 {xs : List AV} (h : xs.length = 2) : ∃ x y,xs = [x,y] := by
  match xs,h with
  | [x,y],_ => exact ⟨x,y,rfl⟩
theorem q3k : SC C E 1 (rLen C.K) fLen := by
  intro w xs vs Q hl ok t s
  obtain ⟨x,rfl⟩ := len1 hl
  obtain ⟨v,rfl,tv⟩ := q20 t
  by_cases hx : ∃ z,x = .str z
  . obtain ⟨z,rfl⟩ := hx
    rw [Tr] at tv; subst tv
    have s : Sat C E w (if z.length <= sizeLine then .ok (.int z.length) w.h else .no) (want C Q) := s
    by_cases hz : z.length <= sizeLine
    . rw [if_pos hz] at s
      exact .inr ⟨z,rfl,hz,s.here ok _ (by rw [Tr])⟩
    . rw [if_neg hz] at s; exact s.elim
  . have e : fLen [x] w.h = match q2o w.h x with | some xs => .ok (.int xs.length) w.h | none => .no := by
      cases x <;> first | rfl | exact absurd ⟨_,rfl⟩ hx
    rw [e] at s
    split at s
    . rename_i ys ey
      obtain ⟨a,us,rfl,r,t'⟩ := q3y ok ey tv
      exact .inl ⟨a,us,rfl,r,by rw [<- t'.len]; exact s.here ok _ (by rw [Tr])⟩
    . exact s.elim
theorem qd9 : SC C E 2 rMin2 q96 := by
  intro w xs vs Q hl ok t s
  obtain ⟨x,y,rfl⟩ := len2 hl
  obtain ⟨v,u,rfl,tv,tu⟩ := two_of t
  cases x with
  | int i =>
    cases y with
    | int j => rw [Tr] at tv; rw [Tr] at tu; subst tv; subst tu; exact ⟨i,j,rfl,Sat.here (P := want C Q) s ok _ (by rw [Tr])⟩
    | _ => exact s.elim
  | _ => exact s.elim
theorem q4q : SC C E 1 rStrI q1i := by
  intro w xs vs Q hl ok t s
  obtain ⟨x,rfl⟩ := len1 hl
  obtain ⟨v,rfl,tv⟩ := q20 t
  cases x with
  | int i =>
    rw [Tr] at tv; subst tv
    have s : Sat C E w (if i.natAbs.log2 < 1920 then .ok (.str (toString i)) w.h else .no) (want C Q) := s
    by_cases hz : i.natAbs.log2 < 1920
    . rw [if_pos hz] at s; exact ⟨i,rfl,hz,s.here ok _ (by rw [Tr])⟩
    . rw [if_neg hz] at s; exact s.elim
  | _ => exact s.elim
theorem qd0 : SC C E 1 (q8v C.K) q91 := by
  intro w xs vs Q hl ok t s
  obtain ⟨x,rfl⟩ := len1 hl
  obtain ⟨v,rfl,tv⟩ := q20 t
  have s : Sat C E w (match q2o w.h x with | some xs => .ok (.lst xs) w.h | none => .no) (want C Q) := s
  split at s
  . rename_i ys ey
    obtain ⟨a,us,rfl,r,t'⟩ := q3y ok ey tv
    exact ⟨a,us,rfl,r,fun p hp => s (w.frozen p _) rfl (ok.frozen hp _) (ok.q1x hp _) _ (ok.q5q hp t')⟩
  . exact s.elim
theorem qb5 : SC C E 1 (q76 C.K) q7o := by
  intro w xs vs Q hl ok t s
  obtain ⟨x,rfl⟩ := len1 hl
  obtain ⟨v,rfl,tv⟩ := q20 t
  have s : Sat C E w (match q2o w.h x with | some xs => .ok (.tup xs) w.h | none => .no) (want C Q) := s
  split at s
  . rename_i ys ey
    obtain ⟨a,us,rfl,r,t'⟩ := q3y ok ey tv
    rcases r with r | r
    . exact ⟨a,us,rfl, .inl ⟨r,fun p hp => s (w.fresh p _) rfl (ok.fresh hp _) (ok.q1u hp _) _ (ok.qa8 hp t')⟩⟩
    . exact ⟨a,us,rfl, .inr ⟨r,s.here ok _ (by rw [Tr]; exact ⟨a,us,rfl,r,t'⟩)⟩⟩
  . exact s.elim
theorem sc_all : SC C E 1 (rAll C.K) fAll := by
  intro w xs vs Q hl ok t s
  obtain ⟨x,rfl⟩ := len1 hl
  obtain ⟨v,rfl,tv⟩ := q20 t
  have s : Sat C E w (match (q2m w.h x).bind q2k with | some bs => .ok (.bl (bs.all id)) w.h | none => .no) (want C Q) := s
  split at s
  . rename_i bs eb
    obtain ⟨ys,ey,eb⟩ := Option.bind_eq_some_iff.mp eb
    obtain ⟨a,us,rfl,r,t'⟩ := q1o ok ey tv
    have := q84 eb t'
    subst this
    exact ⟨a,bs,rfl, .inl r,s.here ok _ (by rw [Tr])⟩
  . exact s.elim
theorem qb1 {K : PySem.W.Frag} (a b : Ty) (hb : b ≠ .none) : PySem.W.kitOne K (.type a.nm) (.type b.nm) = some (isiB a b) := by
  cases a <;> cases b <;> first | rfl | exact absurd rfl hb
theorem qa0 {w : Wd} {x : AV} {v : V} {a : Ty} (ok : Ok C w) (e : tyA w.h x = some a) (t : Tr C w x v) : TyZ C.K w.H v (.type a.nm) := by
  cases x with
  | non => cases e; rw [Tr] at t; subst t; exact .of .non
  | bl b => cases e; rw [Tr] at t; subst t; exact .of (.bl b)
  | int i => cases e; rw [Tr] at t; subst t; exact .of (.int i)
  | str x => cases e; rw [Tr] at t; subst t; exact .of (.str x)
  | tup xs => cases e; rw [Tr] at t; obtain ⟨a,vs,rfl,h,_⟩ := t; exact .tup h
  | lst xs => cases e; rw [Tr] at t; obtain ⟨a,vs,rfl,_,h,_⟩ := t; exact .lst h
  | dk ks xs => cases e; rw [Tr] at t; obtain ⟨a,vs,rfl,_,h,_⟩ := t; exact .dK h
  | ref k =>
    rw [Tr] at t
    obtain ⟨ad,rfl,ea⟩ := t
    simp only [tyA] at e
    split at e
    . rename_i xs eh
      cases e
      obtain ⟨vs,hH,_⟩ := ok.cell k _ ad eh ea
      exact .lst (.inl hH)
    . rename_i ks xs eh
      cases e
      obtain ⟨vs,hH,_⟩ := ok.cell k _ ad eh ea
      exact .dK (.inl hH)
    . cases e
  | kst xs => cases e
  | xc c => cases e
theorem q1q {ta : TE} {ma : AE} (b : Ty) {n : String} (hn : n = b.nm) (hb : b ≠ .none) (ha : SE C E ta ma) : SE C E (tCB (rIsi C.K) (q24 ta (q24 (tC (.ty n)) tNil))) (a1 (fIsi b) ma) := by
  subst hn
  intro w env σ Q ok en s
  refine ha w env σ _ ok en (s.bind.mono fun x w1 ok1 le1 s1 v tv => ?_)
  unfold fIsi at s1
  split at s1
  . rename_i a e
    exact ⟨v,b.nm,_,_,rfl,qa0 ok1 e tv,qb1 a b hb,s1.here ok1 _ (by rw [Tr])⟩
  . exact s1.elim
theorem q8o {K : PySem.W.Frag} (a : Ty) : ∀ (bs : List Ty),(∀ b ∈ bs,b ≠ .none) -> PySem.W.kitAny K (.type a.nm) ((bs.map Ty.nm).map Value.type) = some (bs.any (isiB a))
  | [],_ => rfl
  | b :: bs,h => by
    rw [List.map_cons,List.map_cons,PySem.W.kitAny,qb1 a b (h b (by simp)),List.any_cons]
    cases isiB a b with
    | true => rfl
    | false => exact q8o a bs fun c hc => h c (List.mem_cons_of_mem _ hc)
theorem qbi {ta : TE} {ma : AE} (ha : SE C E ta ma) : SE C E (tCB (rIsiT C.K) (q24 ta (q24 (tTup (q24 (tC (.ty "list")) (q24 (tC (.ty "tuple")) tNil))) tNil))) (a1 (q9j [.list, .tuple]) ma) := by
  intro w env σ Q ok en s
  refine ha w env σ _ ok en (s.bind.mono fun x w1 ok1 le1 s1 v tv => ?_)
  unfold q9j at s1
  split at s1
  . rename_i a e
    refine ⟨by show 2 <= sizeLine; decide,fun p hp => ?_⟩
    have ok2 := ok1.fresh hp (.tup [.ty "list", .ty "tuple"])
    have le2 := ok1.q1u hp (.tup [.ty "list", .ty "tuple"])
    exact ⟨v,p,["list", "tuple"],_,_,rfl,q0a,qa0 ok2 (show tyA (w1.fresh p _).h x = some a from e) (tv.mono ok1 le2),q8o a [.list, .tuple] (by intro b hb; simp at hb; rcases hb with rfl | rfl <;> intro z <;> cases z),s1 (w1.fresh p _) rfl ok2 le2 _ (by rw [Tr])⟩
  . exact s1.elim
theorem qdi {w : Wd} {x : AV} {v : V} {b : Bool} (ok : Ok C w) (e : truA w.h x = some b) (t : Tr C w x v) : TruV C.K v w.H b := by
  cases x with
  | non => cases e; rw [Tr] at t; subst t; rfl
  | bl c => cases e; rw [Tr] at t; subst t; rfl
  | int i => cases e; rw [Tr] at t; subst t; rfl
  | str x =>
    rw [Tr] at t; subst t
    simp only [truA] at e
    split at e
    . rename_i hz; cases e; exact ⟨hz,rfl⟩
    . cases e
  | tup xs => cases e; rw [Tr] at t; obtain ⟨a,vs,rfl,h,t'⟩ := t; exact .inr (.inl ⟨vs,h,by cases xs <;> cases vs <;> first | rfl | (have := t'.len; simp at this)⟩)
  | lst xs => cases e; rw [Tr] at t; obtain ⟨a,vs,rfl,_,h,t'⟩ := t; exact .inl ⟨vs, .inl h,by cases xs <;> cases vs <;> first | rfl | (have := t'.len; simp at this)⟩
  | dk ks xs => cases e
  | ref k =>
    rw [Tr] at t
    obtain ⟨ad,rfl,ea⟩ := t
    simp only [truA] at e
    split at e
    . rename_i xs eh
      cases e
      obtain ⟨vs,hH,t'⟩ := ok.cell k _ ad eh ea
      exact .inl ⟨vs, .inl (.inl hH),by cases xs <;> cases vs <;> first | rfl | (have := t'.len; simp at this)⟩
    . rename_i ks xs eh
      cases e
      obtain ⟨kvs,hH,rfl,t'⟩ := ok.cell k _ ad eh ea
      exact .inr (.inr ⟨kvs,hH,by cases kvs <;> rfl⟩)
    . cases e
  | kst xs => cases e
  | xc c => cases e
theorem st_tru {ta : TE} {ma : AE} (ha : SE C E ta ma) : STs C E (fun σ H Q => ta σ H fun x H' => ∃ k,TruV C.K x H' k /\ Q k H') (aTru ma) := by
  intro w env σ Q ok en s
  refine ha w env σ _ ok en (s.bind.mono fun x w1 ok1 le1 s1 v tv => ?_)
  split at s1
  . rename_i b e
    exact ⟨b,qdi ok1 e tv,s1.here ok1⟩
  . exact s1.elim
@[simp] def aMtL (f : AV -> List AV -> AH -> Re AV) (o : AE) (ma : AA) : AE := fun env h => (o env h).bind fun x h => match q2m h x with | some _ => (ma env h).bind fun xs h => f x xs h | none => .no
@[simp] def q0c : AV -> List AV -> AH -> Re AV
  | .ref k,[y],h => match h[k]? with
    | some (.lst xs) => if xs.length < sizeLine then .ok .non (h.set k (.lst (xs ++ [y]))) else .no
    | _ => .no
  | _,_,_ => .no
@[simp] def q5u : AV -> List AV -> AH -> Re AV
  | .ref k,[y],h => match h[k]?,q2m h y with
    | some (.lst xs),some ys => if xs.length + ys.length <= sizeLine then .ok .non (h.set k (.lst (xs ++ ys))) else .no
    | _,_ => .no
  | _,_,_ => .no
theorem q23 {n : Nat} {r : V -> List V -> Hp -> VK -> Prop} {f : AV -> List AV -> AH -> Re AV} {to : TE} {o : AE} {t : TA} {ma : AA} (hr : SMt C E n r f) (ho : SE C E to o) (ha : SA C E n t ma) : SE C E (tBM C.K "list" r to t) (aMtL f o ma) := by
  intro w env σ Q ok en s
  refine ho w env σ _ ok en (s.bind.mono fun x w1 ok1 le1 s1 v tv => ?_)
  split at s1
  . rename_i xs e
    obtain ⟨a,vs,rfl,r1,t1⟩ := q1o ok1 e tv
    refine ⟨.inl ⟨rfl,vs, .inl r1⟩,ha.run ok1 (en.mono ok le1) s1 fun ys w2 hl ok2 le2 s2 us tus => hr w2 x _ ys us Q hl ok2 (tv.mono ok1 le2) tus s2⟩
  . exact s1.elim
theorem cellL {w : Wd} {k : Nat} {xs : List AV} {v : V} (ok : Ok C w) (e : w.h[k]? = some (.lst xs)) (t : Tr C w (.ref k) v) : ∃ a vs,v = .ref a /\ w.ρ[k]? = some a /\ w.H a = some (.lst vs) /\ Trs C w xs vs := by
  rw [Tr] at t
  obtain ⟨a,rfl,ea⟩ := t
  obtain ⟨vs,hH,ht⟩ := ok.cell k _ a e ea
  exact ⟨a,vs,rfl,ea,hH,ht⟩
theorem q1l : SMt C E 1 q8h q0c := by
  intro w x u xs vs Q hl ok tx t s
  obtain ⟨y,rfl⟩ := len1 hl
  obtain ⟨v,rfl,tv⟩ := q20 t
  cases x with
  | ref k =>
    have s : Sat C E w (match w.h[k]? with | some (.lst xs) => if xs.length < sizeLine then .ok .non (w.h.set k (.lst (xs ++ [y]))) else .no | _ => .no) (want C Q) := s
    split at s
    . rename_i zs e
      obtain ⟨a,us,rfl,ea,hH,ht⟩ := cellL ok e tx
      split at s
      . rename_i hz
        obtain ⟨o1,l1⟩ := ok.q7b e ea (ht.app (.one tv))
        exact ⟨a,us,v,rfl,rfl,hH,by rw [<- ht.len]; exact hz,s _ rfl o1 l1 _ (by rw [Tr])⟩
      . exact s.elim
    . exact s.elim
  | _ => exact s.elim
theorem qag : SMt C E 1 q77 q5u := by
  intro w x u xs vs Q hl ok tx t s
  obtain ⟨y,rfl⟩ := len1 hl
  obtain ⟨v,rfl,tv⟩ := q20 t
  cases x with
  | ref k =>
    have s : Sat C E w (match w.h[k]?,q2m w.h y with | some (.lst xs),some ys => if xs.length + ys.length <= sizeLine then .ok .non (w.h.set k (.lst (xs ++ ys))) else .no | _,_ => .no) (want C Q) := s
    split at s
    . rename_i zs ys e ey
      obtain ⟨a,us,rfl,ea,hH,ht⟩ := cellL ok e tx
      obtain ⟨b,us',rfl,rb,tb⟩ := q1o ok ey tv
      split at s
      . rename_i hz
        obtain ⟨o1,l1⟩ := ok.q7b e ea (ht.app tb)
        exact ⟨a,b,us,us',rfl,rfl,hH,rb,by rw [<- ht.len, <- tb.len]; exact hz,s _ rfl o1 l1 _ (by rw [Tr])⟩
      . exact s.elim
    . exact s.elim
  | _ => exact s.elim
@[simp] def eqF : AV -> AV -> Bool
  | .non, .non => true
  | .bl a, .bl b => a == b
  | .bl a, .int b => (if a then 1 else 0) == b
  | .int a, .bl b => a == (if b then 1 else 0)
  | .int a, .int b => a == b
  | .str a, .str b => a == b
  | _,_ => false
@[simp] def q1s : AV -> Bool
  | .non => true
  | .bl _ => true
  | .int _ => true
  | .str _ => true
  | _ => false
theorem q72 {w : Wd} {x : AV} {v : V} (t : Tr C w x v) (h : q1s x = true) : q2e v = true := by
  cases x with
  | non => rw [Tr] at t; subst t; rfl
  | bl b => rw [Tr] at t; subst t; rfl
  | int i => rw [Tr] at t; subst t; rfl
  | str x => rw [Tr] at t; subst t; rfl
  | _ => cases h
theorem eqF_ok {w : Wd} {x y : AV} {u v : V} (tx : Tr C w x u) (ty : Tr C w y v) (hx : q1s x = true) (hy : q1s y = true) : eqV u v = eqF x y := by
  cases x <;> simp only [q1s,Bool.false_eq_true] at hx <;> cases y <;> simp only [q1s,Bool.false_eq_true] at hy
  all_goals (rw [Tr] at tx; rw [Tr] at ty; subst tx; subst ty; rfl)
def cutA (xs : List AV) (lo hi : Option Int) : List AV := (xs.drop (HT.sIx xs.length 0 lo)).take (HT.sIx xs.length xs.length hi - HT.sIx xs.length 0 lo)
abbrev AO := AEnv -> AH -> Re (Option Int)
@[simp] def q6v : AO := fun _ h => .ok none h
@[simp] def q6s (a : AE) : AO := fun env h => (a env h).bind fun x h => match x with | .int i => .ok (some i) h | _ => .no
@[simp] def aSl (f : AV -> Option Int -> Option Int -> AH -> Re AV) (a : AE) (lo hi : AO) : AE := fun env h => (a env h).bind fun x h => (lo env h).bind fun l h => (hi env h).bind fun u h => f x l u h
@[simp] def fSlL : AV -> Option Int -> Option Int -> AH -> Re AV := fun x lo hi h => match q21 h x with | some xs => .ok (.lst (cutA xs lo hi)) h | none => .no
def SO (C : Ct) (E : XK) (t : TO) (m : AO) : Prop := ∀ (w : Wd) (env : AEnv) (σ : St) (Q : Option Int -> Hp -> Prop),Ok C w -> q04 C w env σ -> Sat C E w (m env w.h) (fun o w' => Q o w'.H) -> t σ w.H Q
def S3 (C : Ct) (E : XK) (r : V -> Option Int -> Option Int -> Hp -> VK -> Prop) (f : AV -> Option Int -> Option Int -> AH -> Re AV) : Prop := ∀ (w : Wd) (x : AV) (u : V) (lo hi : Option Int) (Q : VK),Ok C w -> Tr C w x u -> Sat C E w (f x lo hi w.h) (want C Q) -> r u lo hi w.H Q
theorem qcs : SO C E q8n q6v := fun w env σ Q ok en s => s.here ok
theorem qdf {t : TE} {a : AE} (h : SE C E t a) : SO C E (tPart t) (q6s a) := fun w env σ Q ok en s =>
  h w env σ _ ok en (s.bind.mono fun x w1 ok1 le1 s1 v tv => by
    cases x with
    | int i => rw [Tr] at tv; exact ⟨i,tv,s1.here ok1⟩
    | _ => exact s1.elim)
theorem se_sl {r : V -> Option Int -> Option Int -> Hp -> VK -> Prop} {f : AV -> Option Int -> Option Int -> AH -> Re AV} {te : TE} {a : AE} {tl th : TO} {lo hi : AO} (hr : S3 C E r f) (ha : SE C E te a) (hl : SO C E tl lo) (hh : SO C E th hi) : SE C E (tSl r te tl th) (aSl f a lo hi) := fun w env σ Q ok en s =>
  ha w env σ _ ok en (s.bind.mono fun x w1 ok1 le1 s1 v tv => hl w1 env σ _ ok1 (en.mono ok le1) (s1.bind.mono fun l w2 ok2 le2 s2 => hh w2 env σ _ ok2 (en.mono ok (le1.trans le2)) (s2.bind.mono fun u w3 ok3 le3 s3 => hr w3 x v l u Q ok3 (tv.mono ok1 (le2.trans le3)) s3)))
theorem Trs.cut {w : Wd} {xs : List AV} {vs : List V} (t : Trs C w xs vs) (lo hi : Option Int) : Trs C w (cutA xs lo hi) (cutV vs lo hi) := by
  unfold cutA cutV
  rw [t.len]
  exact (t.drop _).take _
theorem qce : S3 C E (rSlL C.K) fSlL := by
  intro w x u lo hi Q ok tx s
  unfold fSlL at s
  split at s
  . rename_i xs e
    obtain ⟨a,vs,rfl,r,t⟩ := q26 ok e tx
    exact ⟨a,vs,rfl,r,fun p hp => s (w.frozen p _) rfl (ok.frozen hp _) (ok.q1x hp _) _ (ok.q5q hp (t.cut lo hi))⟩
  . exact s.elim
@[simp] def frz1 (x : AV) (h : AH) : AV × AH := match x with
  | .ref k => match h[k]? with
    | some (.lst xs) => (.lst xs,h.set k .dead)
    | some (.dk ks xs) => (.dk ks xs,h.set k .dead)
    | _ => (x,h)
  | _ => (x,h)
@[simp] def aFrz (a : AE) : AE := fun env h => (a env h).bind fun x h => .ok (frz1 x h).1 (frz1 x h).2
theorem qcp {w : Wd} {x : AV} {v : V} (ok : Ok C w) (t : Tr C w x v) : ∃ w',w'.h = (frz1 x w.h).2 /\ w'.H = w.H /\ Ok C w' /\ Le w w' /\ Tr C w' (frz1 x w.h).1 v := by
  unfold frz1
  split
  . rename_i k
    split
    . rename_i xs e
      obtain ⟨a,rfl,ea,hl,t'⟩ := ok.qbm e t
      exact ⟨w.kill k a,rfl,rfl,ok.kill ea hl,ok.q3n ea hl,t'⟩
    . rename_i ks xs e
      obtain ⟨a,rfl,ea,hl,t'⟩ := ok.qck e t
      exact ⟨w.kill k a,rfl,rfl,ok.kill ea hl,ok.q3n ea hl,t'⟩
    . exact ⟨w,rfl,rfl,ok,Le.refl w,t⟩
  . exact ⟨w,rfl,rfl,ok,Le.refl w,t⟩
theorem q7e {t : TE} {a : AE} (h : SE C E t a) : SE C E t (aFrz a) := fun w env σ Q ok en s =>
  h w env σ _ ok en (s.bind.mono fun x w1 ok1 le1 s1 v tv => by
    obtain ⟨w',e,eH,ok',le',t'⟩ := qcp ok1 tv
    have := s1 w' e ok' le' v t'
    rw [eH] at this
    exact this)
end
end Z
namespace Z
open PySem L2
@[simp] def keyOf : AV -> Option Key
  | .int i => some (.inl i)
  | .str x => some (.inr x)
  | _ => none
@[simp] def dkOf (h : AH) : AV -> Option (List Key × List AV)
  | .dk ks xs => some (ks,xs)
  | .ref k => match h[k]? with | some (.dk ks xs) => some (ks,xs) | _ => none
  | _ => none
def dval : List Key -> List AV -> Key -> Option AV
  | k :: ks,x :: xs,j => if k = j then some x else dval ks xs j
  | _,_,_ => none
def dputV (j : Key) (y : AV) : List Key -> List AV -> List AV
  | k :: ks,x :: xs => (if k = j then y else x) :: dputV j y ks xs
  | _,_ => []
def dput (ks : List Key) (xs : List AV) (j : Key) (y : AV) : List Key × List AV :=
  if (ks.any fun k => decide (k = j)) = true then (ks,dputV j y ks xs) else (ks ++ [j],xs ++ [y])
@[simp] def qz : AV -> AV -> AH -> Re AV := fun d y h => match dkOf h d,keyOf y with
  | some (ks,xs),some j => match dval ks xs j with | some x => .ok x h | none => .no
  | _,_ => .no
@[simp] def fDIn : AV -> AV -> AH -> Re AV := fun y d h => match dkOf h d,keyOf y with
  | some (ks,xs),some j => .ok (.bl (dval ks xs j).isSome) h
  | _,_ => .no
@[simp] def putD (d y x : AV) (h : AH) : Option AH := match d,keyOf y with
  | .ref k,some j => match h[k]? with
    | some (.dk ks xs) => if ks.length < sizeLine then some (h.set k (.dk (dput ks xs j x).1 (dput ks xs j x).2)) else none
    | _ => none
  | _,_ => none
@[simp] def q7w (d y v : AE) : AS := fun env h => (v env h).to fun x h => (d env h).to fun a h => (y env h).to fun b h => match putD a b x h with | some h => .nx env h | none => .no
@[simp] def q7p : AE := fun _ h => .ok (.ref h.length) (h ++ [.dk [] []])
section
variable {C : Ct} {E : XK}
theorem q52 {w : Wd} {y : AV} {v : V} {j : Key} (e : keyOf y = some j) (t : Tr C w y v) : v = kV j := by
  cases y with
  | int i => cases e; rw [Tr] at t; exact t
  | str x => cases e; rw [Tr] at t; exact t
  | _ => cases e
theorem q8t {w : Wd} {x : AV} {v : V} {ks : List Key} {xs : List AV} (ok : Ok C w) (e : dkOf w.h x = some (ks,xs)) (t : Tr C w x v) : ∃ a kvs,v = .ref a /\ Rd w.H a (.dK kvs) /\ kvs.map (·.1) = ks /\ Trs C w xs (kvs.map (·.2)) := by
  cases x with
  | dk ls ys =>
    cases e
    rw [Tr] at t
    obtain ⟨a,kvs,e,f,r,hk,ht⟩ := t
    exact ⟨a,kvs,e,r,hk,ht⟩
  | ref k =>
    rw [Tr] at t
    obtain ⟨a,rfl,ea⟩ := t
    have e : (match w.h[k]? with | some (.dk ks xs) => some (ks,xs) | _ => none) = some (ks,xs) := e
    split at e
    . rename_i ls ys eh
      cases e
      obtain ⟨kvs,hH,hk,ht⟩ := ok.cell k _ a eh ea
      exact ⟨a,kvs,rfl, .inl hH,hk,ht⟩
    . cases e
  | _ => cases e
theorem q5w {w : Wd} {j : Key} : ∀ {kvs : List (Key × V)} {xs : List AV},Trs C w xs (kvs.map (·.2)) -> match dval (kvs.map (·.1)) xs j with | some x => ∃ v,valV kvs j = some v /\ Tr C w x v | none => valV kvs j = none
  | [],xs,t => by
    cases xs with
    | nil => rfl
    | cons x xs => have := t.len; simp at this
  | p :: r,xs,t => by
    cases xs with
    | nil => have := t.len; simp at this
    | cons x xs =>
      rw [List.map_cons,Trs] at t
      obtain ⟨v,us,e,t1,t2⟩ := t
      cases e
      rw [List.map_cons,dval]
      by_cases h : p.1 = j
      . rw [if_pos h]
        exact ⟨p.2,q41 h,t1⟩
      . rw [if_neg h,q3z h]
        exact q5w t2
theorem qbu {kvs : List (Key × V)} {xs : List AV} {j : Key} {y : AV} {v : V} : (putK kvs j v).map (·.1) = (dput (kvs.map (·.1)) xs j y).1 := by
  unfold putK dput
  have e : (kvs.any fun kv => decide (kv.1 = j)) = ((kvs.map (·.1)).any fun k => decide (k = j)) := by rw [List.any_map]; rfl
  rw [e]
  split
  . rw [List.map_map]
    apply List.map_congr_left
    intro p _
    show (if p.1 = j then (p.1,v) else p).1 = p.1
    split <;> rfl
  . rw [List.map_append]; rfl
theorem qb7 {w : Wd} {j : Key} {y : AV} {v : V} (ty : Tr C w y v) {kvs : List (Key × V)} {xs : List AV} (t : Trs C w xs (kvs.map (·.2))) : Trs C w (dput (kvs.map (·.1)) xs j y).2 ((putK kvs j v).map (·.2)) := by
  unfold putK dput
  have e : (kvs.any fun kv => decide (kv.1 = j)) = ((kvs.map (·.1)).any fun k => decide (k = j)) := by rw [List.any_map]; rfl
  rw [e]
  split
  . rename_i hh
    clear e hh
    induction kvs generalizing xs with
    | nil => exact .nil
    | cons p r ih =>
      cases xs with
      | nil => have := t.len; simp at this
      | cons x xs =>
        rw [List.map_cons,Trs] at t
        obtain ⟨u,us,e,t1,t2⟩ := t
        cases e
        rw [List.map_cons,List.map_cons,List.map_cons]
        refine .cons ?_ (ih t2)
        show Tr C w (if p.1 = j then y else x) (if p.1 = j then (p.1,v) else p).2
        by_cases h : p.1 = j
        . rw [if_pos h,if_pos h]; exact ty
        . rw [if_neg h,if_neg h]; exact t1
  . rw [List.map_append]
    exact t.app (.one ty)
theorem q10 {td ty : TE} {d y : AE} (hd : SE C E td d) (hy : SE C E ty y) : SE C E (tDGet td ty) (a2 qz d y) := fun w env σ Q ok en s =>
  hd w env σ _ ok en (s.bind.mono fun x w1 ok1 le1 s1 v tv => hy w1 env σ _ ok1 (en.mono ok le1) (s1.bind.mono fun z w2 ok2 le2 s2 u tu => by
    unfold qz at s2
    split at s2
    . rename_i ks xs j e1 e2
      obtain ⟨a,kvs,rfl,r,rfl,t⟩ := q8t ok2 e1 (tv.mono ok1 le2)
      have hj := q52 e2 tu
      subst hj
      have hv := q5w (j := j) t
      split at s2
      . rename_i q eq
        rw [eq] at hv
        obtain ⟨p,hp,tp⟩ := hv
        exact ⟨a,p,rfl, .inl ⟨kvs,j,r,rfl,hp.symm⟩,s2.here ok2 _ tp⟩
      . exact s2.elim
    . exact s2.elim))
theorem dget_o {w : Wd} {j : Key} {kvs : List (Key × V)} {xs : List AV} (t : Trs C w xs (kvs.map (·.2))) : (valV kvs j).isSome = (dval (kvs.map (·.1)) xs j).isSome := by
  have hv := q5w (j := j) t
  split at hv
  . rename_i q eq
    obtain ⟨p,hp,tp⟩ := hv
    rw [hp,eq]; rfl
  . rename_i eq
    rw [hv,eq]; rfl
theorem se_din {td ty : TE} {d y : AE} (hy : SE C E ty y) (hd : SE C E td d) : SE C E (tDIn ty td) (a2 fDIn y d) := fun w env σ Q ok en s =>
  hy w env σ _ ok en (s.bind.mono fun x w1 ok1 le1 s1 v tv => hd w1 env σ _ ok1 (en.mono ok le1) (s1.bind.mono fun z w2 ok2 le2 s2 u tu => by
    unfold fDIn at s2
    split at s2
    . rename_i ks xs j e1 e2
      obtain ⟨a,kvs,rfl,r,rfl,t⟩ := q8t ok2 e1 tu
      have hj := q52 e2 (tv.mono ok1 le2)
      subst hj
      exact ⟨a,_,rfl, .inl ⟨kvs,j,r,rfl,rfl⟩,by rw [dget_o t]; exact s2.here ok2 _ (by rw [Tr])⟩
    . exact s2.elim))
theorem Ok.putDk {w : Wd} (ok : Ok C w) {k : Nat} {a : Addr} {ks ks' : List Key} {xs xs' : List AV} {kvs' : List (Key × V)} (e : w.h[k]? = some (.dk ks xs)) (ea : w.ρ[k]? = some a) (hk : kvs'.map (·.1) = ks') (t : Trs C w xs' (kvs'.map (·.2))) :
    Ok C (w.put k (.dk ks' xs') a (.dK kvs')) /\ Le w (w.put k (.dk ks' xs') a (.dK kvs')) := by
  have hl : Live w a := ⟨k,_,e,(by intro z; cases z),ea⟩
  have le := ok.q7d ea hl (.dk ks' xs') (.dK kvs')
  exact ⟨ok.put ea hl ⟨kvs',q0a,hk,t.mono ok le⟩,le⟩
theorem qco {w : Wd} {d y x : AV} {u v q : V} {h' : AH} (ok : Ok C w) (e : putD d y x w.h = some h') (td : Tr C w d u) (ty : Tr C w y v) (tx : Tr C w x q) :
    ∃ a H',u = .ref a /\ DPut w.H a v q H' /\ ∃ w',w'.h = h' /\ w'.H = H' /\ Ok C w' /\ Le w w' := by
  unfold putD at e
  split at e
  . rename_i k j ek
    have hj := q52 ek ty
    subst hj
    rw [Tr] at td
    obtain ⟨a,rfl,ea⟩ := td
    split at e
    . rename_i ks xs eh
      split at e
      . rename_i hl
        cases e
        obtain ⟨kvs,hH,rfl,ht⟩ := ok.cell k _ a eh ea
        rw [List.length_map] at hl
        obtain ⟨o1,l1⟩ := ok.putDk eh ea (qbu (kvs := kvs) (xs := xs) (j := j) (y := x) (v := q)) (qb7 tx ht)
        exact ⟨a,_,rfl, .inl ⟨kvs,j,hH,rfl,hl,rfl⟩,_,rfl,rfl,o1,l1⟩
      . cases e
    . cases e
  . cases e
theorem qd6 {td ty tv : TE} {d y v : AE} (hd : SE C E td d) (hy : SE C E ty y) (hv : SE C E tv v) : SS C E (sDPut td ty tv) (q7w d y v) := fun w env σ D ok en s =>
  hv w env σ _ ok en (Sat.mono (Sat.to s) fun x w1 ok1 le1 s1 q tq => hd w1 env σ _ ok1 (en.mono ok le1) (Sat.mono (Sat.to s1) fun a w2 ok2 le2 s2 u tu => hy w2 env σ _ ok2 (en.mono ok (le1.trans le2)) (Sat.mono (Sat.to s2) fun b w3 ok3 le3 s3 p tp => by
    split at s3
    . rename_i h' e
      obtain ⟨a',H',e1,hp,w',e3,e4,o',l'⟩ := qco ok3 e (tu.mono ok2 le3) tp (tq.mono ok1 (le2.trans le3))
      refine ⟨a',H',e1,hp,?_⟩
      have := s3 w' σ e3 o' l' (en.mono ok (le1.trans (le2.trans (le3.trans l'))))
      rw [e4] at this
      exact this
    . exact s3.elim)))
theorem qc2 : SE C E qa2 q7p := fun w env σ Q ok en s p hp => s (w.cell p (.dK []) (.dk [] [])) rfl (ok.q8w hp ⟨[],q0a,rfl, .nil⟩) (ok.q4o hp _ _) _ ok.q7j
theorem fn_no {P : Program} {w : World} {K : PySem.W.Frag} {mg : Str -> Option Value} {base : Heap} {CX : CXT} {k n : Nat} {f : Addr} {fd : FuncData} {ps : List Str} (hn : n = ps.length) : FnOk P w K mg base CX k f fd ps (spZ C n fun _ _ => .no) :=
  ⟨fun vs H Q E h => by rw [<- hn]; exact q25 h,fun A outer s H args us vs Q E _ _ _ _ h => by obtain ⟨w,xs,_,_,_,_,s⟩ := h; exact s.elim⟩
def q5g (K : PySem.W.Frag) : Sp := fun vs H Q _ => ∃ (a : Addr) (ns : List Int),vs = [.ref a] /\ SqL K H a (ns.map V.int) /\ ns.length <= 63 /\ ∀ H',Q (.bl true) H'
theorem q3o {w : Wd} : ∀ (ns : List Int),Trs C w (ns.map AV.int) (ns.map V.int)
  | [] => .nil
  | n :: ns => .cons (by rw [Tr]) (q3o ns)
theorem q9y (hp : C.pin = none) {m : AF} {vs : List V} {H : Hp} {Q : VK} {E : XK} (ht : ∀ ns : List Int,ns.length <= 63 -> ∃ h,m [.kst (ns.map AV.int)] [] = .ok (.bl true) h) (h : q5g C.K vs H Q E) : spZ C 1 m vs H Q E0 := by
  obtain ⟨a,ns,rfl,hS,hl,q⟩ := h
  obtain ⟨h',e⟩ := ht ns hl
  rcases hS with r | r
  . refine ⟨⟨[],fun b => b = a,[],H⟩,[.kst (ns.map AV.int)],rfl,⟨rfl, .nil,fun b hb => absurd hb (by simp),fun k c b e => absurd e (by simp),fun b hb => ?_,fun b hb => ?_,fun b c z => (by rw [hp] at z; cases z)⟩, .one ?_,rfl,?_⟩
    . obtain ⟨k,c,e1,_⟩ := hb
      simp at e1
    . subst hb; exact Rd.ne r
    . rw [Tr]; exact ⟨a,_,rfl, .inl ⟨rfl,r⟩,q3o ns⟩
    . rw [e]; exact fun w' _ _ _ v tv => by rw [Tr] at tv; subst tv; exact q _
  . refine ⟨⟨[],fun _ => False,[],H⟩,[.kst (ns.map AV.int)],rfl,⟨rfl, .nil,fun b hb => absurd hb (by simp),fun k c b e => absurd e (by simp),fun b hb => ?_,fun b hb => hb.elim,fun b c z => (by rw [hp] at z; cases z)⟩, .one ?_,rfl,?_⟩
    . obtain ⟨k,c,e1,_⟩ := hb
      simp at e1
    . rw [Tr]; exact ⟨a,_,rfl, .inr (.inr r),q3o ns⟩
    . rw [e]; exact fun w' _ _ _ v tv => by rw [Tr] at tv; subst tv; exact q _
end
end Z
namespace L2
open PySem PySem.Spec PyProof.Rows
section
variable {X : Cx}
def qaf (K : PySem.W.Frag) : R2 := fun x y H Q => ∃ a b xs,x = .ref a /\ y = .ref b /\ SqL K H a xs /\ Rd H b (.lst []) /\ Q (.bl xs.isEmpty) H
theorem qak (hu : X.A.units < cLine) : OpR X (compareOp .Eq) (qaf X.K) := by
  intro pins s σ H x y v u Q I rx ry h
  obtain ⟨a,b,xs,rfl,rfl,ha,hb,q⟩ := h
  cases rx
  cases ry
  obtain ⟨its,r,pl,_⟩ := I.list ha
  obtain ⟨its2,r2,pl2,_⟩ := I.list (.inl hb)
  cases r2
  by_cases hab : xs = []
  . subst hab
    cases r
    exact PySem.SeqAt.RcAt.lists (e := fun _ => true) pl.isList pl2.isList rfl hu (fun j h1 h2 => absurd h1 (by simp)) X.prog X.w X.xe _ ⟨.bl true,H,I,rfl,q⟩
  . have hne : its ≠ [] := fun z => hab (by subst z; cases r; rfl)
    have e : xs.isEmpty = false := by cases xs with | nil => exact absurd rfl hab | cons _ _ => rfl
    rw [e] at q
    exact PySem.SeqAt.RcAt.lists_lengths pl.isList pl2.isList (by cases its with | nil => exact absurd rfl hne | cons _ _ => simp) hu X.prog X.w X.xe _ ⟨.bl false,H,I,rfl,q⟩
def q49 (y : V) (xs : List V) : Nat := xs.countP fun z => eqV z y
theorem q6e {x : V} : ∀ {xs : List V} {us : List Value},Vals xs us -> xs.all q2e = true -> us.countP (eqU x) = q49 x xs
  | _,_, .nil,_ => rfl
  | y :: xs,u :: us, .cons r t,f => by
    rw [List.all_cons,Bool.and_eq_true] at f
    unfold q49
    rw [List.countP_cons,List.countP_cons,qah r f.1,q6e t f.2]
    rfl
def q8x : V -> List V -> Hp -> VK -> Prop := fun x vs H Q => ∃ l xs y,x = .ref l /\ vs = [y] /\ Rd H l (.lst xs) /\ q2e y = true /\ xs.all q2e = true /\ Q (.int (q49 y xs : Nat)) H
theorem qax : MtM X "list.count" q8x := by
  intro pins s σ H x vs v us Q I rx rv h
  obtain ⟨l,xs,y,rfl,rfl,hH,fy,fx,q⟩ := h
  cases rx
  obtain ⟨u,rfl,ru⟩ := rv.one
  obtain ⟨z,its,n,r,hl,e⟩ := I.lstR hH
  refine call_meets PySem.F.slot_list_count ⟨_,e,rfl⟩ PySem.F.entry_list_count (PySem.F.args_list_count_2 _ _) (PySem.SeqAt.list_countAt l its.toArray n none #[] u (eqU y)) ⟨e,fun w hw => q79 ru fy r fx w (by simpa using hw),?_⟩
  rw [show its.toArray.toList = its by simp,q6e r fx]
  exact ⟨.int _,H,I.tok _,⟨_,rfl⟩,q⟩
end
end L2
namespace Z
open PySem L2 PySem.Spec PyProof.Rows
section
variable {C : Ct} {E : XK} {ta tb tc : TE} {ma mb mc : AE}
@[simp] def fNotInS : AV -> AV -> AH -> Re AV
  | .str a, .str z,h => match a.cps.toList with | [c] => .ok (.bl (!decide (c ∈ z.cps.toList))) h | _ => .no
  | _,_,_ => .no
@[simp] def q2y : AV -> AV -> AH -> Re AV := fun x y h => match q21 h x,q2m h y with
  | some xs,some [] => .ok (.bl xs.isEmpty) h
  | _,_ => .no
theorem Trs.empty {w : Wd} {xs : List AV} {vs : List V} (t : Trs C w xs vs) : vs.isEmpty = xs.isEmpty := by
  have := t.len
  cases xs <;> cases vs <;> simp_all
theorem qc6 : S2 C E (qaf C.K) q2y := by
  intro w x y u v Q ok tx ty s
  unfold q2y at s
  split at s
  . rename_i xs e1 e2
    obtain ⟨a,vs,rfl,r1,t1⟩ := q26 ok e1 tx
    obtain ⟨b,us,rfl,r2,t2⟩ := q1o ok e2 ty
    rw [Trs.qcx] at t2; subst t2
    exact ⟨a,b,vs,rfl,rfl,r1,r2,s.here ok _ (by rw [Tr,t1.empty])⟩
  . exact s.elim
def q4j (y : AV) (xs : List AV) : Nat := xs.countP fun z => eqF z y
theorem q80 {w : Wd} {x : AV} {u : V} (tx : Tr C w x u) (hx : q1s x = true) : ∀ {ys : List AV} {vs : List V},Trs C w ys vs -> ys.all q1s = true -> q49 u vs = q4j x ys /\ vs.all q2e = true
  | [],vs,t,_ => by rw [Trs] at t; subst t; exact ⟨rfl,rfl⟩
  | y :: ys,vs,t,f => by
    rw [Trs] at t
    obtain ⟨v,us,rfl,h1,h2⟩ := t
    rw [List.all_cons,Bool.and_eq_true] at f
    obtain ⟨q1,q2⟩ := q80 tx hx h2 f.2
    refine ⟨?_,by rw [List.all_cons,q72 h1 f.1,q2]; rfl⟩
    unfold q49 q4j at *
    rw [List.countP_cons,List.countP_cons,q1,eqF_ok h1 tx f.1 hx]
@[simp] def q31 : AV -> List AV -> AH -> Re AV := fun x ys h => match q2m h x,ys with
  | some xs,[y] => if (q1s y && xs.all q1s) = true then .ok (.int (q4j y xs : Nat)) h else .no
  | _,_ => .no
theorem qbj : SMt C E 1 q8x q31 := by
  intro w x u xs vs Q hl ok tx ts s
  unfold q31 at s
  split at s
  . rename_i ys y e1
    obtain ⟨a,us,rfl,r1,t1⟩ := q1o ok e1 tx
    obtain ⟨v,rfl,tv⟩ := q20 ts
    by_cases hh : (q1s y && ys.all q1s) = true
    . rw [if_pos hh] at s
      rw [Bool.and_eq_true] at hh
      obtain ⟨q1,q2⟩ := q80 tv hh.1 t1 hh.2
      exact ⟨a,us,v,rfl,rfl,r1,q72 tv hh.1,q2,s.here ok _ (by rw [Tr,q1])⟩
    . rw [if_neg hh] at s; exact s.elim
  . exact s.elim
end
end Z
namespace L2
open PySem PySem.Spec PyProof.Rows
def Up (xs : Array Nat) : Prop := xs.toList.Pairwise (· < ·)
theorem Up.at {xs : Array Nat} (h : Up xs) {a b : Nat} (hab : a < b) (hb : b < xs.size) : xs[a]'(Nat.lt_trans hab hb) < xs[b] := by
  have := List.pairwise_iff_getElem.mp h a b (by simpa using Nat.lt_trans hab hb) (by simpa using hb) hab
  simpa using this
theorem qc4 {xs : Array Nat} (hu : Up xs) (j : Nat) : ∀ fuel lo hi,hi - lo <= fuel -> lo <= hi -> hi <= xs.size -> (∀ i (h : i < xs.size),i < lo -> xs[i] < j) -> (∀ i (h : i < xs.size),hi <= i -> j <= xs[i]) ->
    SetTable.below.go xs j fuel lo hi <= xs.size /\ (∀ i (h : i < xs.size),i < SetTable.below.go xs j fuel lo hi -> xs[i] < j) /\ (∀ i (h : i < xs.size),SetTable.below.go xs j fuel lo hi <= i -> j <= xs[i]) := by
  intro fuel
  induction fuel with
  | zero =>
    intro lo hi h1 h2 h3 h4 h5
    have e : lo = hi := by omega
    subst e
    exact ⟨h3,h4,h5⟩
  | succ f ih =>
    intro lo hi h1 h2 h3 h4 h5
    unfold SetTable.below.go
    by_cases hl : lo < hi
    . rw [if_pos hl]
      have hm : (lo + hi) / 2 < xs.size := by omega
      have e : xs.getD ((lo + hi) / 2) j = xs[(lo + hi) / 2] := by simp [Array.getD,hm]
      dsimp only
      rw [e]
      by_cases hc : xs[(lo + hi) / 2] < j
      . rw [if_pos hc]
        refine ih _ _ (by omega) (by omega) h3 (fun i h hi' => ?_) h5
        by_cases hq : i = (lo + hi) / 2
        . subst hq; exact hc
        . exact Nat.lt_trans (hu.at (by omega) hm) hc
      . rw [if_neg hc]
        refine ih _ _ (by omega) (by omega) (by omega) h4 fun i h hi' => ?_
        by_cases hq : i = (lo + hi) / 2
        . subst hq; omega
        . exact Nat.le_trans (Nat.le_of_not_lt hc) (Nat.le_of_lt (hu.at (by omega) h))
    . rw [if_neg hl]
      have e : lo = hi := by omega
      subst e
      exact ⟨h3,h4,h5⟩
theorem q3x {xs : Array Nat} (hu : Up xs) (j : Nat) : SetTable.below xs j <= xs.size /\ (∀ i (h : i < xs.size),i < SetTable.below xs j -> xs[i] < j) /\ (∀ i (h : i < xs.size),SetTable.below xs j <= i -> j <= xs[i]) :=
  qc4 hu j xs.size 0 xs.size (by omega) (by omega) (Nat.le_refl _) (fun i h hi => by omega) (fun i h hi => by omega)
theorem q9b {xs : Array Nat} (hu : Up xs) {i : Nat} (h : i < xs.size) : SetTable.below xs (xs[i] + 1) = i + 1 := by
  obtain ⟨b1,b2,b3⟩ := q3x hu (xs[i] + 1)
  generalize SetTable.below xs (xs[i] + 1) = b at b1 b2 b3
  rcases Nat.lt_trichotomy b (i + 1) with q | q | q
  . have := b3 i h (by omega); omega
  . exact q
  . have hi : i + 1 < xs.size := by omega
    have a1 := b2 (i + 1) hi q
    have a2 := hu.at (show i < i + 1 by omega) hi
    omega
theorem q9l {xs : Array Nat} (hu : Up xs) : SetTable.below xs 0 = 0 := by
  obtain ⟨b1,b2,b3⟩ := q3x hu 0
  generalize SetTable.below xs 0 = b at b1 b2 b3
  by_cases q : b = 0
  . exact q
  . have := b2 0 (by omega) (by omega); omega
theorem Up.ins {xs : Array Nat} (hu : Up xs) {j : Nat} (hj : xs[SetTable.below xs j]? ≠ some j) : Up (SetTable.insertAt xs (SetTable.below xs j) j) := by
  obtain ⟨b1,b2,b3⟩ := q3x hu j
  generalize SetTable.below xs j = b at b1 b2 b3 hj
  unfold Up SetTable.insertAt
  have e : ((xs.extract 0 b).push j ++ xs.extract b xs.size).toList = xs.toList.take b ++ j :: xs.toList.drop b := by
    simp [Array.toList_extract,List.extract_eq_drop_take]
    rw [List.take_of_length_le (by simp)]
  rw [e,List.pairwise_append]
  refine ⟨List.Pairwise.sublist (List.take_sublist _ _) hu,List.pairwise_cons.mpr ⟨fun y hy => ?_,List.Pairwise.sublist (List.drop_sublist _ _) hu⟩,fun x hx y hy => ?_⟩
  . obtain ⟨k,hk,rfl⟩ := List.getElem_of_mem hy
    have hk' : b + k < xs.size := by simp at hk; omega
    have q : (xs.toList.drop b)[k] = xs[b + k] := by simp
    rw [q]
    have a1 := b3 (b + k) hk' (by omega)
    by_cases hz : k = 0
    . subst hz
      have : xs[b + 0]'hk' ≠ j := fun z => hj (by rw [Array.getElem?_eq_getElem (by omega)]; simpa using z)
      omega
    . have a2 := b3 b (by omega) (Nat.le_refl _)
      have a3 := hu.at (a := b) (b := b + k) (by omega) hk'
      omega
  . obtain ⟨k,hk,rfl⟩ := List.getElem_of_mem hx
    have hk' : k < xs.size := by simp at hk; omega
    have hkb : k < b := by simp at hk; omega
    have q : (xs.toList.take b)[k] = xs[k] := by simp
    rw [q]
    have a0 := b2 k hk' hkb
    rcases List.mem_cons.mp hy with rfl | hy
    . exact a0
    . obtain ⟨l,hl,rfl⟩ := List.getElem_of_mem hy
      have hl' : b + l < xs.size := by simp at hl; omega
      have q : (xs.toList.drop b)[l] = xs[b + l] := by simp
      rw [q]
      exact hu.at (by omega) hl'
structure q00 (t : SetTable) : Prop where
  dum : t.dummies = #[]
  up : Up t.place
theorem q00.qbh {t : SetTable} (g : q00 t) (j : Nat) : t.slot j ≠ .dummy := by
  unfold SetTable.slot
  dsimp only
  split
  . exact fun z => nomatch z
  . have : SetTable.has t.dummies j = false := by rw [g.dum]; unfold SetTable.has; simp
    rw [this]; exact fun z => nomatch z
theorem q00.q93 {t : SetTable} {j : Nat} (h : t.slot j = .empty) : t.place[SetTable.below t.place j]? ≠ some j := by
  unfold SetTable.slot at h
  dsimp only at h
  split at h
  . exact nomatch h
  . rename_i q
    exact fun z => q (by rw [z]; simp)
theorem qch (t : SetTable) (p : SetTable.Probe) : (t.advance p).dummy = p.dummy := by
  unfold SetTable.advance
  split
  . rfl
  . rfl
theorem q00.probe {t : SetTable} (g : q00 t) (f : Nat -> Int) (h : Int) : ∀ fuel (p : SetTable.Probe) j d,p.dummy = none -> SetTable.probe.go t f h fuel p = some (.empty j d) -> d = none /\ t.slot j = .empty := by
  intro fuel
  induction fuel with
  | zero => intro p j d _ e; unfold SetTable.probe.go at e; exact nomatch e
  | succ n ih =>
    intro p j d hp e
    unfold SetTable.probe.go at e
    split at e
    . rename_i hs
      cases e
      exact ⟨hp,hs⟩
    . rename_i hs
      exact absurd hs (g.qbh _)
    . rename_i i hs
      split at e
      . cases e
      . exact ih _ j d ((qch t p).trans hp) e
theorem q00.free {t : SetTable} (g : q00 t) {h : Int} {j : Nat} {b : Bool} (e : t.freeSlot h = some (j,b)) : t.slot j = .empty := by
  unfold SetTable.freeSlot at e
  split at e
  . rename_i j' d hp
    obtain ⟨rfl,hs⟩ := g.probe _ _ _ _ j' d rfl hp
    cases e
    exact hs
  . cases e
theorem q00.put {t : SetTable} (g : q00 t) {j : Nat} (h : t.slot j = .empty) : q00 (t.put j).1 := by
  unfold SetTable.put
  have : SetTable.has t.dummies j = false := by rw [g.dum]; unfold SetTable.has; simp
  dsimp only
  rw [this]
  exact ⟨g.dum,g.up.ins (q00.q93 h)⟩
theorem qbd (n : Nat) : Up (Array.range n) := by
  unfold Up
  rw [show (Array.range n).toList = List.range n by simp]
  exact List.pairwise_lt_range
theorem q00.standIn (t : SetTable) (n : Nat) : q00 (t.standIn n) := ⟨rfl,qbd n⟩
theorem q00.orStandIn {t : SetTable} (g : q00 t) (n : Nat) : q00 (t.orStandIn n) := by
  unfold SetTable.orStandIn
  split
  . exact g
  . exact q00.standIn t n
theorem q00.layNew {t : SetTable} (g : q00 t) (es : Array (Int × Value)) (h : Int) (x : Value) : q00 (layNew t es h x).2.1 /\ (PySem.layNew t es h x).2.1.led = t.led := by
  unfold PySem.layNew
  split
  . rename_i j b e
    refine ⟨(g.put (g.free e)).orStandIn _,?_⟩
    dsimp only
    unfold SetTable.orStandIn
    split <;> rfl
  . exact ⟨q00.standIn _ _,rfl⟩
theorem q00.laid {m f v : Nat} {l p : Bool} {hs : Array Int} {t : SetTable} {o : Array Nat} (e : SetTable.laid m f v l p hs = some (t,o)) : q00 t /\ t.led = l := by
  unfold SetTable.laid at e
  cases hq : SetTable.layClean m hs with
  | none => rw [hq] at e; cases e
  | some ow =>
    rw [hq] at e
    cases e
    refine ⟨⟨rfl,?_⟩,rfl⟩
    unfold Up
    dsimp only
    have : ∀ L : List Nat,L.Pairwise (· < ·) -> ((L.filterMap fun j => (ow.getD j none).map (j, ·)).map (·.1)).Pairwise (· < ·) := by
      intro L hL
      rw [List.pairwise_map,List.pairwise_filterMap]
      refine hL.imp fun {a b} hab x hx y hy => ?_
      cases h1 : ow.getD a none with
      | none => rw [h1] at hx; cases hx
      | some u =>
        cases h2 : ow.getD b none with
        | none => rw [h2] at hy; cases hy
        | some v => rw [h1] at hx; rw [h2] at hy; cases hx; cases hy; exact hab
    exact this _ List.pairwise_lt_range
theorem q00.relay (t : SetTable) (es : Array (Int × Value)) (w : Nat) : q00 (relayAll t es w).2.1 /\ (relayAll t es w).2.1.led = t.led := by
  unfold relayAll
  split
  . rename_i t' order e
    dsimp only
    split
    . exact q00.laid e
    . exact ⟨q00.standIn _ _,rfl⟩
  . exact ⟨q00.standIn _ _,rfl⟩
end L2
namespace L2
open PySem PySem.Spec PyProof.Rows
section
variable {prog : Program} {w : World} {K : Type} [DecidableEq K] {knd : KeyKind prog w K} {A : Around} {E : Value -> Shared -> Prop} {s : Shared}
inductive q09 (knd : KeyKind prog w K) : List Value -> List K -> Prop
  | nil : q09 knd [] []
  | cons {v k vs ks} : knd.is k v = true -> q09 knd vs ks -> q09 knd (v :: vs) (k :: ks)
theorem q09.push {v : Value} {k : K} (hk : knd.is k v = true) : ∀ {vs : List Value} {ks : List K},q09 knd vs ks -> q09 knd (vs ++ [v]) (ks ++ [k])
  | _,_, .nil => .cons hk .nil
  | _,_, .cons h r => .cons h (r.push hk)
theorem q09.length : ∀ {vs : List Value} {ks : List K},q09 knd vs ks -> vs.length = ks.length
  | _,_, .nil => rfl
  | _,_, .cons _ r => by rw [List.length_cons,List.length_cons,r.length]
theorem q09.key : ∀ {vs : List Value} {ks : List K},q09 knd vs ks -> ∀ v ∈ vs, ∃ k ∈ ks,knd.is k v = true
  | _,_, .nil,v,h => nomatch h
  | _,_, .cons h r,v,hv => by
    rcases List.mem_cons.mp hv with rfl | hv
    . exact ⟨_,List.mem_cons_self,h⟩
    . obtain ⟨k,hk,q⟩ := r.key v hv; exact ⟨k,List.mem_cons_of_mem _ hk,q⟩
theorem q09.val : ∀ {vs : List Value} {ks : List K},q09 knd vs ks -> ∀ k ∈ ks, ∃ v ∈ vs,knd.is k v = true
  | _,_, .nil,v,h => nomatch h
  | _,_, .cons h r,v,hv => by
    rcases List.mem_cons.mp hv with rfl | hv
    . exact ⟨_,List.mem_cons_self,h⟩
    . obtain ⟨k,hk,q⟩ := r.val v hv; exact ⟨k,List.mem_cons_of_mem _ hk,q⟩
def SetQ (knd : KeyKind prog w K) (led : Bool) (h : Heap) (a : Addr) (ks : List K) : Prop :=
  ∃ o es ep t vs,h.get? a = some o /\ o.ExactSet /\ o.data = .set es ep t /\ ElemsOf knd es.toList /\ (es.toList.map (·.2)).Perm vs /\ q09 knd vs ks
    /\ es.size < scanBound /\ t.fits es.size = true /\ t.led = led /\ q00 t
theorem SetQ.size {led : Bool} {h : Heap} {a : Addr} {ks : List K} {es : Array (Int × Value)} {vs : List Value} (hp : (es.toList.map (·.2)).Perm vs) (hv : q09 knd vs ks) : es.size = ks.length := by
  have := hp.length_eq
  rw [List.length_map,Array.length_toList] at this
  rw [this]; exact hv.length
theorem SetQ.stay {led : Bool} {h h' : Heap} {a : Addr} {ks : List K} (x : SetQ knd led h a ks) (k : ∀ o,h.get? a = some o -> h'.get? a = some o) : SetQ knd led h' a ks :=
  let ⟨o,es,ep,t,vs,ho,r⟩ := x; ⟨o,es,ep,t,vs,k o ho,r⟩
theorem qbs (led : Bool) {h : Heap} {a : Addr} (g : h.get? a = some { cls := .type "set",dict := none,data := .set #[] 0 (.fresh 0 0 led) }) : SetQ knd led h a ([] : List K) :=
  ⟨_, #[],0,_,[],g,⟨rfl,rfl,rfl⟩,rfl,(fun e he => nomatch he),List.Perm.nil,q09.nil,by decide,by rfl,rfl,⟨rfl,List.Pairwise.nil⟩⟩
theorem q5a {led : Bool} {h : Heap} {a : Addr} {o : Obj} {es : Array (Int × Value)} {ep : Nat} {t : SetTable} {vs : List Value} {ks : List K} (ho : h.get? a = some o) (hex : o.ExactSet) (hd : o.data = .set es ep t)
    {es' : Array (Int × Value)} {t' : SetTable} (hel : ElemsOf knd es'.toList) (hp : (es'.toList.map (·.2)).Perm vs) (hv : q09 knd vs ks) (hb : es'.size < scanBound) (hf : t'.fits es'.size = true) (hl : t'.led = led) (hg : q00 t') :
    (h.update a (Obj.putSet es' t')).get? a = some { o with data := .set es' (ep + 1) t' } /\ SetQ knd led (h.update a (Obj.putSet es' t')) a ks := by
  have hg' : (h.update a (Obj.putSet es' t')).get? a = some { o with data := .set es' (ep + 1) t' } := by
    have := Heap.get?_update_self (Obj.putSet es' t') ho (by rw [putSet_of es' t' hd]; rfl)
    rw [putSet_of es' t' hd] at this; exact this
  exact ⟨hg',_,es',ep + 1,t',vs,hg',hex,rfl,hel,hp,hv,hb,hf,hl,hg⟩
theorem q6g {g : Bool -> Sem Unit} (hg : ∀ (b : Bool) (s₁ : Shared) (Q' : Unit -> Shared -> Prop),Q' () s₁ -> wpAny (model prog w) A (g b) Q' E s₁)
    {led : Bool} {a : Addr} {o : Obj} {es : Array (Int × Value)} {ep : Nat} {t : SetTable} {vs : List Value} {ks : List K} (ho : s.heap.get? a = some o) (hex : o.ExactSet) (hd : o.data = .set es ep t)
    {es1 : Array (Int × Value)} {t2 : SetTable} (hel1 : ElemsOf knd es1.toList) (hp1 : (es1.toList.map (·.2)).Perm vs) (hv : q09 knd vs ks)
    (hb1 : es1.size < scanBound) (hf2 : t2.fits es1.size = true) (hl2 : t2.led = led) (hg2 : q00 t2) {wasDummy : Bool} {R : Option Bool -> Shared -> Prop}
    (h : ∀ h',Heap.SameBut a s.heap h' -> SetQ knd led h' a ks -> R (some true) { s with heap := h' }) :
    wpAny (model prog w) A (do
        storeSet a es1 t2
        if (!wasDummy && t2.tooFull) = true then do
            g (relayAll t2 es1 (SetTable.grown es1.size)).2.2
            storeSet a (relayAll t2 es1 (SetTable.grown es1.size)).1 (relayAll t2 es1 (SetTable.grown es1.size)).2.1
            pure (some true)
          else pure (some true)) R E s := by
  refine wpAny_bind (wpAny_storeSet_of ho hd ?_ (fits_of_scanBound hb1))
  obtain ⟨ho1,hS1⟩ := q5a (knd := knd) ho hex hd hel1 hp1 hv hb1 hf2 hl2 hg2
  have hsb1 := Heap.SameBut.update s.heap a (Obj.putSet es1 t2)
  split
  . have hp := relayAll_perm t2 es1 (SetTable.grown es1.size)
    have hfr := relayAll_fits t2 es1 (SetTable.grown es1.size)
    have hgr := q00.relay t2 es1 (SetTable.grown es1.size)
    generalize hRl : relayAll t2 es1 (SetTable.grown es1.size) = Rl at hp hfr hgr ⊢
    obtain ⟨es2,t3,gave2⟩ := Rl
    dsimp only at hp hfr hgr ⊢
    have hel2 : ElemsOf knd es2.toList := hel1.perm hp
    have hsz : es2.size = es1.size := by rw [<- Array.length_toList,hp.length_eq,Array.length_toList]
    have hb2 : es2.size < scanBound := by rw [hsz]; exact hb1
    refine wpAny_bind (hg _ _ _ ?_)
    refine wpAny_bind (wpAny_storeSet_of ho1 rfl ?_ (fits_of_scanBound hb2))
    obtain ⟨_,hS2⟩ := q5a (knd := knd) ho1 hex rfl hel2 ((hp.map _).trans hp1) hv hb2 hfr (hgr.2.trans hl2) hgr.1
    exact wpAny_pure (h _ (hsb1.trans (Heap.SameBut.update _ a _)) hS2)
  . exact wpAny_pure (h _ hsb1 hS1)
theorem qbe {led : Bool} {a : Addr} {ks : List K} {k : K} {x : Value} {Q : Bool -> Shared -> Prop} (hkey : knd.is k x = true) (hsc : x.scannable = true) (hS : SetQ knd led s.heap a ks)
    (hroom : ks.length + 1 < scanBound)
    (h : ∀ b h',Heap.SameBut a s.heap h' -> SetQ knd led h' a (meet ks k) -> Q b { s with heap := h' }) :
    wpAny (model prog w) A (setAddHashed a x (knd.hash k)) Q E s := by
  obtain ⟨o,es,ep,t,vs,ho,hex,hd,hel,hp,hv,hb,hf,hl,hg⟩ := hS
  have hz := SetQ.size (led := led) (h := s.heap) (a := a) hp hv
  have hb1 : es.size + 1 < scanBound := by rw [hz]; exact hroom
  unfold setAddHashed setAddHashedIn
  refine wpAny_holding (wpAny_bind (wpAny_setState_of ho hd hf ?_))
  dsimp only
  rw [byScan_of hsc hb hel]
  simp only [↓reduceIte]
  unfold setAddByScan
  refine wpAny_bind ?_
  refine wpAny_bind (wpAny_rule ?_)
  refine wpAny_bind (wpAny_setScan_of hkey ho hd hf hel ?_)
  cases hr : List.findIdx? (fun e => knd.is k e.2) es.toList with
  | some j =>
    dsimp only
    obtain ⟨hj,hpj,_⟩ := List.findIdx?_eq_some_iff_getElem.mp hr
    have hm : k ∈ ks := by
      obtain ⟨k',h1,h2⟩ := hv.key _ (hp.mem_iff.mp (List.mem_map_of_mem (List.getElem_mem hj)))
      rw [knd.inj _ k k' hpj h2]; exact h1
    refine wpAny_pure (wpAny_pure ?_)
    have e : s = { s with heap := s.heap } := by cases s; rfl
    have e2 : meet ks k = ks := by unfold meet; rw [if_pos hm]
    rw [e]
    exact h _ s.heap (Heap.SameBut.refl a s.heap) (by rw [e2]; exact ⟨o,es,ep,t,vs,ho,hex,hd,hel,hp,hv,hb,hf,hl,hg⟩)
  | none =>
    dsimp only
    have hm : k ∉ ks := fun z => by
      obtain ⟨v,h1,h2⟩ := hv.val _ z
      obtain ⟨e,he,rfl⟩ := List.mem_map.mp (hp.mem_iff.mpr h1)
      have := List.findIdx?_eq_none_iff.mp hr e he
      rw [h2] at this; exact Bool.noConfusion this
    have e2 : meet ks k = ks ++ [k] := by unfold meet; rw [if_neg hm]
    have hgw : ∀ (b : Bool) {s₁ : Shared} {Q' : Unit -> Shared -> Prop},Q' () s₁ -> wpAny (model prog w) A (match b with | true => rule "set.scan.the-table-gave-way" | false => pure ()) Q' E s₁ :=
      fun b s₁ Q' hq => by cases b <;> first | exact wpAny_pure hq | exact wpAny_rule hq
    have hperm := layNew_perm t es (knd.hash k) x
    have hfits := layNew_fits t es (knd.hash k) x
    have hgrow := hg.layNew es (knd.hash k) x
    generalize hL : layNew t es (knd.hash k) x = L at hperm hfits hgrow ⊢
    obtain ⟨es1,t1,wasDummy,gave⟩ := L
    dsimp only at hperm hfits hgrow ⊢
    rw [Array.toList_push] at hperm
    have hel1 : ElemsOf knd es1.toList := (hel.push hkey hsc).perm hperm
    have hp1 : (es1.toList.map (·.2)).Perm (vs ++ [x]) := by
      refine (hperm.map _).trans ?_
      rw [List.map_append]; exact hp.append_right _
    have hv1 : q09 knd (vs ++ [x]) (meet ks k) := by rw [e2]; exact hv.push hkey
    have hb1' : es1.size < scanBound := by rw [<- Array.length_toList,hperm.length_eq,List.length_append,Array.length_toList]; simpa using hb1
    refine wpAny_bind (hgw _ ?_)
    split
    . refine wpAny_bind ?_
      rw [hashByValue_scannable 8 hsc]
      refine wpAny_pure ?_
      refine q6g (led := led) ?_ ho hex hd hel1 hp1 hv1 hb1' ?_ ?_ ?_ ?_
      . intro b s₁ Q' hq; cases b <;> first | exact wpAny_pure hq | exact wpAny_rule hq
      . split
        . exact hfits
        . exact SetTable.fits_plain_off hfits
      . split
        . exact hgrow.2.trans hl
        . exact hgrow.2.trans hl
      . split
        . exact hgrow.1
        . exact ⟨hgrow.1.dum,hgrow.1.up⟩
      . intro h' hsb hS'; dsimp only; exact wpAny_pure (h _ h' hsb hS')
    . refine wpAny_bind (wpAny_pure ?_)
      simp only [↓reduceIte]
      refine q6g (led := led) ?_ ho hex hd hel1 hp1 hv1 hb1' hfits (hgrow.2.trans hl) hgrow.1 ?_
      . intro b s₁ Q' hq; cases b <;> first | exact wpAny_pure hq | exact wpAny_rule hq
      . intro h' hsb hS'; dsimp only; exact wpAny_pure (h _ h' hsb hS')
end
end L2
namespace L2
open PySem PySem.Spec PyProof.Rows PySem.Calls
theorem q0h : Slot "set_iterator" "__next__" "set_iterator.__next__" :=
  .of (owner := "set_iterator") (n := "__next__") (by rw [typeLookup_type,builtinLookup_eq_fast]; kernel_rfl) (by decide +kernel) (by decide +kernel) (by decide +kernel)
    (by first | exact .inl (by decide +kernel) | exact .inr (by decide +kernel)) (by rw [isSubtype_type]; kernel_rfl)
theorem q3c : entryFor table "set_iterator.__next__" = some Builtin.«set_iterator.__next__» := entryFor_of_tree (by kernel_rfl)
theorem q5l : Manifest.owners.lookup (String.ofList ['r', 'o', 't', 'a', 'r', 'e', 't', 'i', '_', 't', 'e', 's'].reverse) = some Manifest.sig_set_iterator := by kernel_rfl
theorem q3m (a : Value) : argsOk "set_iterator.__next__" ⟨[a],[]⟩ := by
  unfold argsOk; rw [signature?_of (id := "set_iterator.__next__") (n := ['_', '_', 't', 'x', 'e', 'n', '_', '_']) (o := ['r', 'o', 't', 'a', 'r', 'e', 't', 'i', '_', 't', 'e', 's']) (by kernel_rfl) q5l]; kernel_rfl
theorem q3g : Slot "set_iterator" "__iter__" "set_iterator.__iter__" :=
  .of (owner := "set_iterator") (n := "__iter__") (by rw [typeLookup_type,builtinLookup_eq_fast]; kernel_rfl) (by decide +kernel) (by decide +kernel) (by decide +kernel)
    (by first | exact .inl (by decide +kernel) | exact .inr (by decide +kernel)) (by rw [isSubtype_type]; kernel_rfl)
theorem q5j : entryFor table "set_iterator.__iter__" = some Builtin.«dict_keyiterator.__iter__» :=
  entryFor_alias (id' := "dict_keyiterator.__iter__") (by kernel_rfl) rfl (by decide +kernel) (by kernel_rfl)
theorem q5r (a : Value) : argsOk "set_iterator.__iter__" ⟨[a],[]⟩ := by
  unfold argsOk; rw [signature?_of (id := "set_iterator.__iter__") (n := ['_', '_', 'r', 'e', 't', 'i', '_', '_']) (o := ['r', 'o', 't', 'a', 'r', 'e', 't', 'i', '_', 't', 'e', 's']) (by kernel_rfl) q5l]; kernel_rfl
theorem q5y : entryFor table "set.__iter__" = some Builtin.«frozenset.__iter__» :=
  entryFor_alias (id' := "frozenset.__iter__") (by kernel_rfl) rfl (by decide +kernel) (by kernel_rfl)
theorem q2i {α : Type} : ∀ (l : List α) (i : Nat) (h : i < l.length),(l[i] :: l.eraseIdx i).Perm l
  | x :: xs,0,h => .refl _
  | x :: xs,i + 1,h => (List.Perm.swap _ _ _).trans ((q2i xs i (by simpa using h)).cons _)
theorem qaa {α : Type} (next : Nat -> Nat) (xs : Array α) : ∀ (fuel k : Nat) (left : List α) (out : Array α),left.length <= fuel -> (pickOrder.go next fuel k left out).toList.Perm (out.toList ++ left) := by
  intro fuel
  induction fuel with
  | zero =>
    intro k left out h
    have : left = [] := List.length_eq_zero_iff.mp (by omega)
    subst this
    unfold pickOrder.go
    rw [List.append_nil]
  | succ f ih =>
    intro k left out h
    unfold pickOrder.go
    cases left with
    | nil => simp
    | cons a r =>
      have hi : next k % (a :: r).length < (a :: r).length := Nat.mod_lt _ (by simp)
      rw [List.getElem?_eq_getElem hi]
      dsimp only
      refine (ih _ _ _ (by rw [List.length_eraseIdx_of_lt hi]; simp at h ⊢; omega)).trans ?_
      rw [Array.toList_push,List.append_assoc]
      exact (q2i _ _ hi).append_left _
section
variable {M : Model} {A : Around} {E : Value -> Shared -> Prop} {s : Shared}
theorem q6l {n : Nat} {Q : Nat -> Shared -> Prop} (hn : n ≠ 0) (h : ∀ i d,i < n -> Q i { s with drawn := d }) : wpAny M A (choose .order n) Q E s := fun Γ p hΓ => by
  show Sem.wp M Γ (.choose .order n .pure) _ _ p s
  rw [Sem.wp_choose]
  exact ⟨hn,h _ _ (Nat.mod_lt _ (Nat.pos_of_ne_zero hn))⟩
theorem q38 {α : Type} : ∀ (n : Nat) (xs : List α) (s : Shared) (Q : List α -> Shared -> Prop),n = xs.length -> (∀ ys d,ys.Perm xs -> Q ys { s with drawn := d }) -> wpAny M A (drawOrder n xs) Q E s
  | 0,xs,s,Q,hn,h => by
    have : xs = [] := List.length_eq_zero_iff.mp hn.symm
    subst this
    unfold drawOrder
    exact wpAny_pure (h [] s.drawn .nil)
  | n + 1,[],s,Q,hn,h => by simp at hn
  | n + 1,x :: xs,s,Q,hn,h => by
    unfold drawOrder
    refine wpAny_bind (q6l (by simp) fun i d hi => ?_)
    rw [List.getElem?_eq_getElem hi]
    dsimp only
    refine wpAny_bind (q38 n _ _ _ (by rw [List.length_eraseIdx_of_lt hi]; simp at hn ⊢; omega) fun ys d' hp => wpAny_pure ?_)
    exact h _ d' ((List.Perm.cons _ hp).trans (q2i _ _ hi))
end
end L2
namespace L2
open PySem PySem.Spec PyProof.Rows PySem.Calls
def q0d (h : Heap) (it : Addr) (f : Value) (S : Addr) (i n ep : Nat) : Prop := ∃ o,h.get? it = some o /\ o.cls = .type "set_iterator" /\ o.data = .fields #[f, .int i 0, .ref S, .int n 0, .int ep 0]
theorem q0d.typeIs {s : Shared} {it : Addr} {f : Value} {S : Addr} {i n ep : Nat} (x : q0d s.heap it f S i n ep) : s.TypeIs (.ref it) "set_iterator" := let ⟨o,ho,hc,_⟩ := x; ⟨o,ho,hc⟩
theorem q0d.at {h h' : Heap} {it : Addr} {f : Value} {S : Addr} {i n ep : Nat} (x : q0d h it f S i n ep) (e : ∀ o,h.get? it = some o -> h'.get? it = some o) : q0d h' it f S i n ep := let ⟨o,ho,r⟩ := x; ⟨o,e _ ho,r⟩
def Mode (w : World) (h : Heap) (S T : Addr) (es : Array (Int × Value)) (ep : Nat) (t : SetTable) (f : Value) (i : Nat) (ord : List Value) : Prop :=
  (w.params.followText "set-order" = true /\ (∃ sl : Nat,f = .int sl 0) /\ ord = (pickOrder (w.params.setOrder S ep) es).toList.map (·.2)) \/
  (w.params.followText "set-order" = false /\ (!t.plain && decide (es.size > 1)) = false /\ t.led = true /\ Up t.place /\ (∃ sl : Nat,f = .int sl 0 /\ SetTable.below t.place sl = i) /\ ord = es.toList.map (·.2)) \/
  (w.params.followText "set-order" = false /\ ∃ o, ∃ pl : List Nat,f = .ref T /\ h.get? T = some o /\ o.data = .seq (pl.map fun p : Nat => Value.int (p : Int) 0).toArray 0 /\ pl.Perm (List.range es.size) /\ ord = pl.filterMap fun p => (es[p]?).map (·.2))
section
variable {prog : Program} {w : World} {A : Around} {E : Value -> Shared -> Prop} {s : Shared}
theorem q1t {Q : Bool -> Shared -> Prop} (h : Q (w.params.followText "set-order") s) : wpAny (model prog w) A setsByText Q E s := by
  unfold setsByText
  exact wpAny_bind (wpAny_askSetting (wpAny_pure h))
theorem q65 {S : Addr} {o : Obj} {es : Array (Int × Value)} {ep sl i : Nat} {t : SetTable} {Q : Option (Value × Nat) -> Shared -> Prop} (ho : s.heap.get? S = some o) (hd : o.data = .set es ep t) (hf : t.fits es.size = true)
    (hb : w.params.followText "set-order" = true) (h : Q (((pickOrder (w.params.setOrder S ep) es)[i]?).map fun e => (e.2,sl)) s) : wpAny (model prog w) A (setNext S sl i ep) Q E s := by
  unfold setNext
  refine wpAny_bind (wpAny_setState_of ho hd hf ?_)
  dsimp only
  refine wpAny_bind (q1t ?_)
  rw [hb]
  simp only [↓reduceIte,bne_self_eq_false,Bool.false_eq_true]
  refine wpAny_bind ?_
  unfold setWalk
  refine wpAny_bind (wpAny_setState_of ho hd hf ?_)
  dsimp only
  refine wpAny_bind (q1t ?_)
  rw [hb]
  simp only [↓reduceIte]
  exact wpAny_bind (wpAny_askSetting (wpAny_pure (wpAny_pure h)))
theorem q6d {S : Addr} {o : Obj} {es : Array (Int × Value)} {ep sl i : Nat} {t : SetTable} {Q : Option (Value × Nat) -> Shared -> Prop} (ho : s.heap.get? S = some o) (hd : o.data = .set es ep t) (hf : t.fits es.size = true)
    (hb : w.params.followText "set-order" = false) (h1 : (!t.plain && decide (es.size > 1)) = false) (h2 : t.led = true)
    (h : Q (match es[SetTable.below t.place sl]?,t.place[SetTable.below t.place sl]? with | some (_,x),some j => some (x,j + 1) | _,_ => none) s) : wpAny (model prog w) A (setNext S sl i ep) Q E s := by
  unfold setNext
  refine wpAny_bind (wpAny_setState_of ho hd hf ?_)
  dsimp only
  refine wpAny_bind (q1t ?_)
  rw [hb]
  simp only [Bool.false_eq_true, ↓reduceIte]
  show wpAny _ _ (if (!t.plain && decide (es.size > 1)) = true then _ else _) _ _ _
  rw [h1]
  simp only [Bool.false_eq_true, ↓reduceIte]
  refine wpAny_bind ?_
  show wpAny _ _ (if (!t.led && !es.isEmpty) = true then _ else _) _ _ _
  rw [h2]
  simp only [Bool.not_true,Bool.false_and,Bool.false_eq_true, ↓reduceIte]
  exact wpAny_pure (wpAny_pure h)
theorem q7y {S it : Addr} {oi : Obj} {f : Value} {i n ep x : Nat} (hoi : s.heap.get? it = some oi) (hci : oi.cls = .type "set_iterator")
    (hdi : oi.data = .fields #[f, .int i 0, .ref S, .int n 0, .int ep 0]) : ∃ h' : Heap,(∀ b u,b ≠ it -> s.heap.get? b = some u -> h'.get? b = some u) /\ q0d h' it (.int (x : Int) 0) S (i + 1) n ep /\
      ∀ {A : Around} {E : Value -> Shared -> Prop} {P : Fin -> Shared -> Prop} {v : Value},wpAny (model prog w) A (ret v) P E { s with heap := h' } -> wpAny (model prog w) A (do
        setField (.ref it) 0 (rawInt x)
        setField (.ref it) 1 (rawInt ((i : Int) + 1))
        ret v) P E s := by
  have h1 : (s.heap.update it (Obj.mapFields (·.setIfInBounds 0 (rawInt x)))).get? it = some (Obj.mapFields (·.setIfInBounds 0 (rawInt x)) oi) := Heap.get?_update_self _ hoi (Obj.isFreed_of_fields (Obj.data_mapFields hdi _))
  have d1 : (Obj.mapFields (·.setIfInBounds 0 (rawInt x)) oi).data = .fields #[.int x 0, .int i 0, .ref S, .int n 0, .int ep 0] := by rw [Obj.data_mapFields hdi]; simp [rawInt]
  refine ⟨(s.heap.update it (Obj.mapFields (·.setIfInBounds 0 (rawInt x)))).update it (Obj.mapFields (·.setIfInBounds 1 (rawInt ((i : Int) + 1)))),fun b u hb e => ?_,⟨_,Heap.get?_update_self _ h1 (Obj.isFreed_of_fields (Obj.data_mapFields d1 _)),(Obj.cls_mapFields ..).trans ((Obj.cls_mapFields ..).trans hci),by rw [Obj.data_mapFields d1]; simp [rawInt]⟩,fun {A E P v} hh => ?_⟩
  . rw [Heap.get?_update_ne _ _ _ _ hb,Heap.get?_update_ne _ _ _ _ hb]; exact e
  . refine wpAny_bind (wpAny_setField hoi hdi (by simp) ?_)
    exact wpAny_bind (wpAny_setField h1 d1 (by simp) hh)
theorem qao {S T it : Addr} {o : Obj} {es : Array (Int × Value)} {ep : Nat} {t : SetTable} {f v : Value} {i : Nat} {ord : List Value} {Q : Option Value -> Shared -> Prop}
    (ho : s.heap.get? S = some o) (hd : o.data = .set es ep t) (hf : t.fits es.size = true) (hit : q0d s.heap it f S i es.size ep) (hne : S ≠ it) (hnT : T ≠ it)
    (hm : Mode w s.heap S T es ep t f i ord) (hv : ord[i]? = some v)
    (hQ : ∀ h' f',q0d h' it f' S (i + 1) es.size ep -> Mode w h' S T es ep t f' (i + 1) ord -> (∀ b u,b ≠ it -> s.heap.get? b = some u -> h'.get? b = some u) -> Q (some v) { s with heap := h' }) :
    wpAny (model prog w) A (pyNext (.ref it)) Q E s := by
  obtain ⟨oi,hoi,hci,hdi⟩ := id hit
  unfold pyNext
  refine wpAny_bind (wpAny_attempt (wpAny_callSpecial?_slot (name := Str.ofString "__next__") hit.typeIs q0h
    (wpAny_call_entry q0h hit.typeIs q3c ?_ (q3m _))))
  unfold Builtin.«set_iterator.__next__»
  refine wpAny_bind (m := slotArgs _ _ _) (wpAny_pure ?_)
  refine wpAny_bind (wpAny_fieldsOf hoi hdi ?_)
  dsimp only
  refine wpAny_bind (wpAny_setEntries_of ho hd hf ?_)
  rw [if_neg (by simp)]
  rcases hm with ⟨m1,⟨sl,rfl⟩,m3⟩ | ⟨m1,m2,m3,m4,⟨sl,rfl,m5⟩,m6⟩ | ⟨m1,oT,pl,rfl,m3,m4,m5,m6⟩
  . refine wpAny_bind (q65 ho hd hf m1 ?_)
    have e : ((pickOrder (w.params.setOrder S ep) es)[i]?).map (fun e => (e.2,sl)) = some (v,sl) := by
      rw [m3,List.getElem?_map,Array.getElem?_toList] at hv
      cases hq : (pickOrder (w.params.setOrder S ep) es)[i]? with
      | none => rw [hq] at hv; cases hv
      | some u => rw [hq] at hv; cases hv; rfl
    simp only [Int.toNat_natCast]
    rw [e]
    dsimp only
    obtain ⟨h',hk,hi',hh⟩ := q7y hoi hci hdi (x := sl)
    refine hh (wpAny_pure ⟨_,rfl,wpAny_pure (hQ _ _ hi' (.inl ⟨m1,⟨sl,rfl⟩,m3⟩) fun b u hb e => hk b u hb e)⟩)
  . have hlt : i < es.size := by
      have := (List.getElem?_eq_some_iff.mp hv).1
      rw [m6,List.length_map,Array.length_toList] at this; exact this
    have hz : t.place.size = es.size := by
      simp only [SetTable.fits,Bool.and_eq_true,beq_iff_eq] at hf; exact hf.1
    have hlp : i < t.place.size := by rw [hz]; exact hlt
    refine wpAny_bind (q6d ho hd hf m1 m2 m3 ?_)
    simp only [Int.toNat_natCast]
    rw [m5,Array.getElem?_eq_getElem hlt,Array.getElem?_eq_getElem hlp]
    have ev : es[i].2 = v := by
      rw [m6,List.getElem?_map,Array.getElem?_toList,Array.getElem?_eq_getElem hlt] at hv; cases hv; rfl
    dsimp only
    obtain ⟨h',hk,hi',hh⟩ := q7y hoi hci hdi (x := t.place[i] + 1)
    refine hh (wpAny_pure ⟨_,rfl,?_⟩)
    rw [ev]
    exact wpAny_pure (hQ _ _ hi' (.inr (.inl ⟨m1,m2,m3,m4,⟨_,rfl,q9b m4 hlp⟩,m6⟩)) fun b u hb e => hk b u hb e)
  . dsimp only
    refine wpAny_bind (wpAny_seqItems m3 m4 ?_)
    have hpl : pl.length = es.size := by have := m5.length_eq; rw [List.length_range] at this; exact this
    have hin : ∀ p ∈ pl,p < es.size := fun p hp => List.mem_range.mp (m5.mem_iff.mp hp)
    have hord : ∀ l : List Nat,(∀ p ∈ l,p < es.size) -> l.filterMap (fun p => (es[p]?).map (·.2)) = l.map fun p => ((es[p]?).map (·.2)).getD default := by
      intro l hl
      induction l with
      | nil => rfl
      | cons a r ih =>
        have ha := hl a List.mem_cons_self
        rw [List.map_cons, <- ih fun p hp => hl p (List.mem_cons_of_mem _ hp),List.filterMap_cons_some (b := es[a].2) (by rw [Array.getElem?_eq_getElem ha]; rfl),Array.getElem?_eq_getElem ha]; rfl
    have hlt : i < pl.length := by
      have := (List.getElem?_eq_some_iff.mp hv).1
      rw [m6,hord pl hin,List.length_map] at this; exact this
    have hp : pl[i] < es.size := hin _ (List.getElem_mem hlt)
    have ev : es[pl[i]].2 = v := by
      rw [m6,hord pl hin,List.getElem?_map,List.getElem?_eq_getElem hlt] at hv
      rw [Option.map_some,Array.getElem?_eq_getElem hp] at hv
      cases hv; rfl
    have eq : (pl.map fun p : Nat => Value.int (p : Int) 0).toArray[i]? = some (Value.int (pl[i] : Int) 0) := by
      rw [List.getElem?_toArray]
      show (pl.map fun p : Nat => Value.int (p : Int) 0)[i]? = _
      rw [List.getElem?_map,List.getElem?_eq_getElem hlt]; rfl
    dsimp only
    simp only [Int.toNat_natCast]
    rw [eq]
    dsimp only
    simp only [Int.toNat_natCast]
    refine wpAny_bind ?_
    unfold setNextDrawn
    refine wpAny_bind (wpAny_setState_of ho hd hf ?_)
    dsimp only
    rw [if_neg (by simp)]
    have e2 : es[pl[i]]? = some es[pl[i]] := Array.getElem?_eq_getElem hp
    rw [e2]
    refine wpAny_pure ?_
    refine wpAny_bind (wpAny_setField hoi hdi (by simp) ?_)
    refine wpAny_pure ⟨_,rfl,?_⟩
    show wpAny _ _ (pure (some es[pl[i]].2)) _ _ _
    rw [ev]
    refine wpAny_pure (hQ _ (.ref T) ⟨_,Heap.get?_update_self _ hoi (Obj.isFreed_of_fields (Obj.data_mapFields hdi _)),(Obj.cls_mapFields ..).trans hci,by rw [Obj.data_mapFields hdi]; simp [rawInt]⟩ (.inr (.inr ⟨m1,oT,pl,rfl,?_,m4,m5,m6⟩)) fun b u hb e => ?_)
    . rw [Heap.get?_update_ne _ _ _ _ hnT]; exact m3
    . rw [Heap.get?_update_ne _ _ _ _ hb]; exact e
theorem q46 {it : Addr} {oi : Obj} {vs : Array Value} {Q : Option Value -> Shared -> Prop} (hh : A.handled = none) (hci : oi.cls = .type "set_iterator") (hoi : s.heap.get? it = some oi) (hdi : oi.data = .fields vs) (hz : 2 < vs.size)
    (hQ : ∀ h',Heap.ExtBut it s.heap h' -> Q none { s with heap := h' }) : wpAny (model prog w) A.in1 (do
        setField (.ref it) 2 .none
        let e <- newExc (.type "StopIteration") []
        raiseNew e) (fun fin s' => ∃ v,fin = Fin.done (.ret v) /\ wpAny (model prog w) A (pure (some v)) Q E s')
    (fun e s' => wpAny (model prog w) A (do if <- isInstance e (.type "StopIteration") then pure none else throw e) Q E s') s := by
  refine wpAny_bind (wpAny_setField hoi hdi hz ?_)
  show wpAny _ _ (newExc (.type "StopIteration") [] >>= _) _ _ _
  refine wpAny_bind ?_
  simp only [newExc,newTuple]
  refine wpAny_bind (wpAny_newObj_type ?_ (by size_fits))
  refine wpAny_bind (m := firstArgMember _ _) (wpAny_of_eq (a := Value.none) (by first | rfl | (simp only [firstArgMember]; rfl)) ?_)
  refine wpAny_newObj_type ?_ (by size_fits)
  simp only [raiseNew]
  refine wpAny_bind (wpAny_handled ?_)
  rw [show A.in1.handled = none from hh]
  refine wpAny_bind (wpAny_pure (wpAny_throw ?_))
  refine wpAny_bind (wpAny_isInstance (T := "StopIteration") (b := true) ⟨_,Heap.get?_push_size _ rfl,rfl⟩ isSubtype_stop ?_)
  exact wpAny_pure (hQ _ (((Heap.SameBut.update ..).extBut.push _).push _))
theorem qbq {S T it : Addr} {o : Obj} {es : Array (Int × Value)} {ep : Nat} {t : SetTable} {f : Value} {ord : List Value} {Q : Option Value -> Shared -> Prop} (hh : A.handled = none)
    (ho : s.heap.get? S = some o) (hd : o.data = .set es ep t) (hf : t.fits es.size = true) (hit : q0d s.heap it f S es.size es.size ep) (hne : S ≠ it) (hnT : T ≠ it)
    (hm : Mode w s.heap S T es ep t f es.size ord) (hl : ord.length = es.size)
    (hQ : ∀ h',Heap.ExtBut it s.heap h' -> Q none { s with heap := h' }) : wpAny (model prog w) A (pyNext (.ref it)) Q E s := by
  obtain ⟨oi,hoi,hci,hdi⟩ := id hit
  unfold pyNext
  refine wpAny_bind (wpAny_attempt (wpAny_callSpecial?_slot (name := Str.ofString "__next__") hit.typeIs q0h
    (wpAny_call_entry q0h hit.typeIs q3c ?_ (q3m _))))
  unfold Builtin.«set_iterator.__next__»
  refine wpAny_bind (m := slotArgs _ _ _) (wpAny_pure ?_)
  refine wpAny_bind (wpAny_fieldsOf hoi hdi ?_)
  dsimp only
  refine wpAny_bind (wpAny_setEntries_of ho hd hf ?_)
  rw [if_neg (by simp)]
  rcases hm with ⟨m1,⟨sl,rfl⟩,m3⟩ | ⟨m1,m2,m3,m4,⟨sl,rfl,m5⟩,m6⟩ | ⟨m1,oT,pl,rfl,m3,m4,m5,m6⟩
  . refine wpAny_bind (q65 ho hd hf m1 ?_)
    have e : ((pickOrder (w.params.setOrder S ep) es)[es.size]?).map (fun e => (e.2,sl)) = none := by
      have : (pickOrder (w.params.setOrder S ep) es).size = es.size := by rw [<- hl,m3,List.length_map,Array.length_toList]
      rw [Array.getElem?_eq_none (by omega)]; rfl
    simp only [Int.toNat_natCast]
    rw [e]
    exact q46 hh hci hoi hdi (by simp) hQ
  . refine wpAny_bind (q6d ho hd hf m1 m2 m3 ?_)
    simp only [Int.toNat_natCast]
    rw [m5,Array.getElem?_eq_none (Nat.le_refl _)]
    exact q46 hh hci hoi hdi (by simp) hQ
  . dsimp only
    refine wpAny_bind (wpAny_seqItems m3 m4 ?_)
    have hpl : pl.length = es.size := by have := m5.length_eq; rw [List.length_range] at this; exact this
    have eq : (pl.map fun p : Nat => Value.int (p : Int) 0).toArray[es.size]? = none := Array.getElem?_eq_none (by simp [hpl])
    dsimp only
    simp only [Int.toNat_natCast]
    rw [eq]
    dsimp only
    refine wpAny_bind (wpAny_setField hoi hdi (by simp) ?_)
    have h1 : (s.heap.update it (Obj.mapFields (·.setIfInBounds 0 (rawInt 0)))).get? it = some (Obj.mapFields (·.setIfInBounds 0 (rawInt 0)) oi) := Heap.get?_update_self _ hoi (Obj.isFreed_of_fields (Obj.data_mapFields hdi _))
    refine q46 (s := { s with heap := s.heap.update it (Obj.mapFields (·.setIfInBounds 0 (rawInt 0))) }) hh ((Obj.cls_mapFields ..).trans hci) h1 (Obj.data_mapFields hdi _) (by simp) fun h' he => ?_
    exact hQ h' fun b u hb e => he b u hb (by show (s.heap.update _ _).get? b = _; rw [Heap.get?_update_ne _ _ _ _ hb]; exact e)
theorem Mode.at {h h' : Heap} {S T : Addr} {es : Array (Int × Value)} {ep : Nat} {t : SetTable} {f : Value} {i : Nat} {ord : List Value} (m : Mode w h S T es ep t f i ord) (k : ∀ o,h.get? T = some o -> h'.get? T = some o) : Mode w h' S T es ep t f i ord := by
  rcases m with m | m | ⟨m1,o,pl,m2,m3,m4⟩
  . exact .inl m
  . exact .inr (.inl m)
  . exact .inr (.inr ⟨m1,o,pl,m2,k _ m3,m4⟩)
theorem q8d {it S : Addr} {f : Value} {i n ep : Nat} {Q : Value -> Shared -> Prop} (hit : q0d s.heap it f S i n ep) (h : Q (.ref it) s) : wpAny (model prog w) A (pyIter (.ref it)) Q E s := by
  refine wpAny_pyIter_slot hit.typeIs q3g (wpAny_call_entry q3g hit.typeIs q5j ?_ (q5r _))
  show wpAny _ _ (ret (.ref it)) _ _ s
  exact wpAny_pure ⟨_,rfl, "set_iterator",_,hit.typeIs,q0h.lookup,h⟩
theorem qam (hh : A.handled = none) (it S T : Addr) (hne : S ≠ it) (hnT : T ≠ it) {o : Obj} {es : Array (Int × Value)} {ep : Nat} {t : SetTable} {ord : List Value} (hd : o.data = .set es ep t) (hf : t.fits es.size = true) (hl : ord.length = es.size) :
    Walks prog w A it [it,S,T] [it] es.size (fun i v => ord[i]? = some v) (fun i h => ∃ f,q0d h it f S i es.size ep /\ h.get? S = some o /\ Mode w h S T es ep t f i ord) where
  sub := fun b hb => by simp at hb; simp [hb]
  frame := fun i h h' st hk => let ⟨f,a,b,c⟩ := st; ⟨f,a.at fun o e => hk it (by simp) o e,hk S (by simp) _ b,c.at fun o e => hk T (by simp) o e⟩
  item := fun i s Q E hi st hQ => by
    obtain ⟨f,a,b,c⟩ := st
    have hv : ord[i]? = some (ord[i]'(by rw [hl]; exact hi)) := List.getElem?_eq_getElem _
    refine qao b hd hf a hne hnT c hv fun h' f' x1 x2 x3 => hQ _ h' s.toks hv ⟨f',x1,x3 S _ hne b,x2⟩ fun b u hb e => x3 b u (fun z => hb (by simp [z])) e
  done := fun s Q E st hQ => by
    obtain ⟨f,a,b,c⟩ := st
    exact qbq hh b hd hf a hne hnT c hl fun h' he => hQ h' s.toks fun b u hb e => he b u (fun z => hb (by simp [z])) e
  self := fun _ _ _ _ st hQ => let ⟨_,a,_⟩ := st; q8d a hQ
end
end L2
namespace L2
open PySem PySem.Spec PyProof.Rows PySem.Calls
section
variable {prog : Program} {w : World} {K : Type} [DecidableEq K] {knd : KeyKind prog w K} {A : Around} {E : Value -> Shared -> Prop} {s : Shared}
theorem q9g {S : Addr} {o : Obj} {es : Array (Int × Value)} {ep : Nat} {t : SetTable} {Q : Value -> Shared -> Prop}
    (ho : s.heap.get? S = some o) (hex : o.ExactSet) (hd : o.data = .set es ep t) (hf : t.fits es.size = true) (hg : q00 t) (sizeB : es.size <= sizeLine) (hled : t.led = !w.params.followText "set-order")
    (hQ : ∀ (it T : Addr) (f : Value) (ord : List Value) (h' : Heap) (d : _),s.heap.objs.size <= it -> (T = S \/ s.heap.objs.size <= T) -> T ≠ it -> it < h'.objs.size -> T < h'.objs.size -> q0d h' it f S 0 es.size ep -> Mode w h' S T es ep t f 0 ord -> ord.Perm (es.toList.map (·.2)) ->
      (∀ b u,s.heap.get? b = some u -> h'.get? b = some u) -> Q (.ref it) { s with heap := h',drawn := d }) :
    wpAny (model prog w) A (pyIter (.ref S)) Q E s := by
  have hT : s.TypeIs (.ref S) "set" := ⟨o,ho,hex.1⟩
  refine wpAny_pyIter_slot hT F.slot_set_iter (wpAny_call_entry F.slot_set_iter hT q5y ?_ (F.args_set_iter_1 _))
  unfold Builtin.«frozenset.__iter__» Builtin.Frozenset.slot0 slotArgs
  simp only [List.isEmpty_nil,Bool.not_true,Bool.false_eq_true, ↓reduceIte,bind_assoc,List.length_nil,bne_self_eq_false]
  unfold Builtin.Frozenset.addrOf Builtin.Frozenset.sizeOf
  refine wpAny_bind (wpAny_pure ?_)
  try dsimp only
  refine wpAny_bind (wpAny_pure ?_)
  refine wpAny_bind (wpAny_bind (wpAny_setEntries_of ho hd hf (wpAny_pure ?_)))
  refine wpAny_bind ?_
  unfold setDrawn
  refine wpAny_bind (wpAny_setState_of ho hd hf ?_)
  dsimp only
  refine wpAny_bind (q1t ?_)
  show wpAny _ _ (pure (!w.params.followText "set-order" && (!t.plain && decide (es.size > 1)))) _ _ _
  refine wpAny_pure ?_
  by_cases hc : (!w.params.followText "set-order" && (!t.plain && decide (es.size > 1))) = true
  . rw [if_pos hc]
    have hb : w.params.followText "set-order" = false := by
      rw [Bool.and_eq_true] at hc; simpa using hc.1
    refine wpAny_bind (q38 es.size (List.range es.size) _ _ (by simp) fun pl d hp => ?_)
    have hpl : pl.length = es.size := by have := hp.length_eq; rw [List.length_range] at this; exact this
    have hin : ∀ p ∈ pl,p < es.size := fun p hp' => List.mem_range.mp (hp.mem_iff.mp hp')
    have hsz := sizeB
    refine wpAny_bind (wpAny_newTuple ?_ (by rw [List.length_map,hpl]; exact hsz))
    have g1 : (s.heap.push { cls := .type "tuple",data := .seq (pl.map fun i : Nat => rawInt i).toArray }).get? S = some o := Heap.get?_push_of_some _ ho
    refine wpAny_bind ?_
    refine wpAny_setEpoch_of (s := { s with heap := s.heap.push { cls := .type "tuple",data := .seq (pl.map fun i : Nat => rawInt i).toArray },drawn := d }) g1 hd hf ?_
    refine wpAny_bind (wpAny_newObj_type ?_)
    have lt1 : ∀ {h : Heap} {o' : Obj},h.objs.size < (h.push o').objs.size := by intro h o'; rw [Heap.size_push]; exact Nat.lt_succ_self _
    have hS := Heap.lt_size ho
    refine wpAny_pure ⟨_,rfl, "set_iterator",_,⟨_,Heap.get?_push_size _ rfl,rfl⟩,q0h.lookup,?_⟩
    refine hQ _ s.heap.objs.size (.ref s.heap.objs.size) (pl.filterMap fun p => (es[p]?).map (·.2)) _ d (Nat.le_of_lt lt1) (.inr (Nat.le_refl _)) (Nat.ne_of_lt lt1) lt1 (Nat.lt_trans lt1 lt1) ⟨_,Heap.get?_push_size _ rfl,rfl,rfl⟩
      (.inr (.inr ⟨hb,_,pl,rfl,Heap.get?_push_of_some _ (Heap.get?_push_size _ rfl),rfl,hp,rfl⟩)) ?_ fun b u e => Heap.get?_push_of_some _ (Heap.get?_push_of_some _ e)
    refine (hp.filterMap _).trans ?_
    have : (List.range es.size).filterMap (fun p => (es[p]?).map (·.2)) = es.toList.map (·.2) := by
      have e := List.filterMap_getElem?_range_length es.toList
      conv => rhs; rw [<- e]
      rw [List.map_filterMap,Array.length_toList]
      simp only [Array.getElem?_toList]
    rw [this]
  . rw [if_neg hc]
    refine wpAny_bind (wpAny_pure ?_)
    refine wpAny_bind (wpAny_setEpoch_of ho hd hf ?_)
    refine wpAny_bind (wpAny_newObj_type ?_)
    refine wpAny_pure ⟨_,rfl, "set_iterator",_,⟨_,Heap.get?_push_size _ rfl,rfl⟩,q0h.lookup,?_⟩
    have k : ∀ (o' : Obj) b u,s.heap.get? b = some u -> (s.heap.push o').get? b = some u := fun o' b u e => Heap.get?_push_of_some _ e
    have hS := Heap.lt_size ho
    have lt1 : ∀ {o' : Obj},s.heap.objs.size < (s.heap.push o').objs.size := by intro o'; rw [Heap.size_push]; exact Nat.lt_succ_self _
    have lt2 : ∀ {o' : Obj},S < (s.heap.push o').objs.size := by intro o'; rw [Heap.size_push]; exact Nat.lt_succ_of_lt hS
    cases hb : w.params.followText "set-order" with
    | true =>
      exact hQ s.heap.objs.size S (.int 0 0) _ _ s.drawn (Nat.le_refl _) (.inl rfl) (Nat.ne_of_lt hS) lt1 lt2 ⟨_,Heap.get?_push_size _ rfl,rfl,rfl⟩ (.inl ⟨hb,⟨0,rfl⟩,rfl⟩) ((qaa _ es es.size 0 es.toList #[] (by simp)).map _) (k _)
    | false =>
      have h2 : (!t.plain && decide (es.size > 1)) = false := by rw [hb] at hc; simpa using hc
      have h3 : t.led = true := by rw [hled,hb]; rfl
      exact hQ s.heap.objs.size S (.int 0 0) _ _ s.drawn (Nat.le_refl _) (.inl rfl) (Nat.ne_of_lt hS) lt1 lt2 ⟨_,Heap.get?_push_size _ rfl,rfl,rfl⟩ (.inr (.inl ⟨hb,h2,h3,hg.up,⟨0,rfl,q9l hg.up⟩,rfl⟩)) (.refl _) (k _)
theorem qa5 {r : Addr} {Q : Bool -> Shared -> Prop} (hT : s.TypeIs (.ref r) "set") (h : Q false s) : wpAny (model prog w) A (Builtin.List.listLengthHint (.ref r)) Q E s := by
  unfold Builtin.List.listLengthHint
  refine wpAny_bind (wpAny_specialOf hT PySem.F.slot_set_len.lookup ?_)
  generalize hid : ("set.__len__" : String) = id0
  wp_delta
  rw [show splitId id0 = some ("set", "__len__") from by subst hid; decide +kernel]
  subst hid
  refine wpAny_bind (wpAny_isInstance (T := "set") (b := true) hT (by rw [isSubtype_type]; kernel_rfl) ?_)
  refine wpAny_ite_split (fun hab => absurd hab (by decide)) (fun _ => ?_)
  refine wpAny_ite_split (fun _ => ?_) (fun hab => absurd (by decide +kernel) hab)
  refine wpAny_bind (wpAny_typeOf hT ?_)
  exact wpAny_pure h
theorem ItemsOf.eq {ord : List Value} {acc : Array Value} {n : Nat} (h : ItemsOf (fun i v => ord[i]? = some v) acc n) (hn : ord.length = n) : acc.toList = ord := by
  refine List.ext_getElem? fun i => ?_
  rw [Array.getElem?_toList]
  cases hq : acc[i]? with
  | some v => exact (h.2 i v hq).symm
  | none =>
    have : n <= i := by
      rw [<- h.1]
      rcases Nat.lt_or_ge i acc.size with q | q
      . rw [Array.getElem?_eq_getElem q] at hq; cases hq
      . exact q
    rw [List.getElem?_eq_none (by omega)]
theorem q88 {S : Addr} {o : Obj} {es : Array (Int × Value)} {ep : Nat} {t : SetTable} {Q : List Value -> Shared -> Prop} (hh : A.handled = none)
    (ho : s.heap.get? S = some o) (hex : o.ExactSet) (hd : o.data = .set es ep t) (hf : t.fits es.size = true) (hg : q00 t) (sizeB : es.size <= sizeLine) (hled : t.led = !w.params.followText "set-order")
    (hQ : ∀ (ord : List Value) (h' : Heap) (d : _) (tk : Nat),ord.Perm (es.toList.map (·.2)) -> (∀ b u,s.heap.get? b = some u -> h'.get? b = some u) -> s.heap.objs.size <= h'.objs.size -> Q ord { s with heap := h',drawn := d,toks := tk }) :
    wpAny (model prog w) A (collect (.ref S)) Q E s := by
  unfold collect
  refine wpAny_bind (wpAny_runValue (codeAny_builtin F.entry_proto_collect ?_))
  rw [Around.under_plainId F.plain_proto_collect _]
  show wpAny _ A.in1 (newList [] >>= fun l => again (.builtin "list.__iadd__" ⟨[l, .ref S],[]⟩)) _ _ s
  refine wpAny_bind (wpAny_newObj_type ?_)
  refine wpAny_pure ⟨plainId_quiet F.plain_list_iadd _,codeAny_builtin F.entry_list_iadd ?_⟩
  rw [Around.under_plainId F.plain_list_iadd _]
  have hSl := Heap.lt_size ho
  generalize hN : s.heap.objs.size = N at hSl
  have lt1 : ∀ {h : Heap} {o' : Obj},h.objs.size < (h.push o').objs.size := by intro h o'; rw [Heap.size_push]; exact Nat.lt_succ_self _
  have gN : (s.heap.push { cls := .type "list",data := .seq ([] : List Value).toArray }).get? N = some { cls := .type "list",data := .seq ([] : List Value).toArray } := by rw [<- hN]; exact Heap.get?_push_size _ rfl
  have gS : (s.heap.push { cls := .type "list",data := .seq ([] : List Value).toArray }).get? S = some o := Heap.get?_push_of_some _ ho
  have kp : ∀ b u,s.heap.get? b = some u -> (s.heap.push { cls := .type "list",data := .seq ([] : List Value).toArray }).get? b = some u := fun b u e => Heap.get?_push_of_some _ e
  have hNs : N < (s.heap.push { cls := .type "list",data := .seq ([] : List Value).toArray }).objs.size := by rw [<- hN]; exact lt1
  generalize hH : s.heap.push { cls := .type "list",data := .seq ([] : List Value).toArray } = H at gN gS kp hNs
  show wpAny _ A.in1 (Builtin.List.listExtendWith (.ref N) (.ref S) (.ref N)) _ _ { s with heap := H }
  unfold Builtin.List.listExtendWith
  have hT : Shared.TypeIs { s with heap := H } (.ref S) "set" := ⟨o,gS,hex.1⟩
  refine wpAny_bind (wpAny_typeOf (T := "set") hT ?_)
  have h1 : Builtin.List.listSameRef (.ref N) (.ref S) = false := by simp [Builtin.List.listSameRef,Nat.ne_of_gt hSl]
  simp only [h1,show (Value.type "set" == Value.type "list") = false by decide,show (Value.type "set" == Value.type "tuple") = false by decide,Bool.or_false,Bool.false_eq_true,if_false]
  refine wpAny_bind (q9g (s := { s with heap := H }) gS hex hd hf hg sizeB hled fun it T f ord h2 d a1 a2 a3 a4 a5 a6 a7 a8 a9 => ?_)
  have hSit : S ≠ it := fun z => absurd (Nat.lt_trans hSl hNs) (Nat.not_lt.mpr (z ▸ a1))
  have hNit : N ≠ it := fun z => absurd hNs (Nat.not_lt.mpr (z ▸ a1))
  have hNT : N ≠ T := fun z => by
    rcases a2 with a2 | a2
    . exact absurd hSl (by rw [<- a2, <- z]; exact Nat.lt_irrefl _)
    . exact absurd hNs (Nat.not_lt.mpr (z ▸ a2))
  have hl : ord.length = es.size := by have := a8.length_eq; rw [List.length_map,Array.length_toList] at this; exact this
  have g2 : h2.get? N = some { cls := .type "list",data := .seq ([] : List Value).toArray } := a9 _ _ gN
  have gS2 : h2.get? S = some o := a9 _ _ gS
  refine wpAny_bind (wpAny_holding (qa5 (s := { s with heap := h2,drawn := d }) ⟨o,gS2,hex.1⟩ ?_))
  have W := qam (prog := prog) (w := w) (A := A.in1) (ord := ord) hh it S T hSit a3 hd hf hl
  have hSf : N ∉ [it,S,T] := by
    simp only [List.mem_cons,List.not_mem_nil,or_false,not_or]; exact ⟨hNit,Nat.ne_of_gt hSl,hNT⟩
  have key : ∀ {R : Result -> Shared -> Prop} (h : Heap) (c₁ tk : Nat),(∀ b u,b ≠ N -> h2.get? b = some u -> h.get? b = some u) -> h.get? N = some { cls := .type "list",dict := none,data := .seq #[] c₁,slots := #[] } ->
      (∀ h' tk c',(∀ b u,s.heap.get? b = some u -> h'.get? b = some u) -> h'.get? N = some { cls := .type "list",dict := none,data := .seq ord.toArray c',slots := #[] } -> R (.ok (.ret (.ref N))) { s with heap := h',drawn := d,toks := tk }) ->
      codeAny (model prog w) A (.builtin "list.extend.loop" ⟨[.ref N, .ref it, .ref N],[]⟩) R { s with heap := h,drawn := d,toks := tk } := by
    intro R h c₁ tk hk hc hR
    refine codeAny_extend_loopS W.toS (Nat.le_trans (Nat.le_of_eq rfl) sizeB) N hSf _ es.size 0 _ #[] c₁ rfl (Nat.zero_le _) ⟨f,a6.at fun o e => hk it o (Ne.symm hNit) e,hk S _ (Nat.ne_of_lt hSl) gS2,a7.at fun o e => hk T o (Ne.symm hNT) e⟩ hc (ItemsOf.nil _) fun s' acc' c' hm hS' hacc => ?_
    rw [Moved.eq_with hm]
    have e := ItemsOf.eq hacc hl
    refine hR s'.heap s'.toks c' (fun b u e => ?_) (by rw [<- e,Array.toArray_toList]; exact hS')
    have hbN : b ≠ N := by rw [<- hN]; exact Nat.ne_of_lt (Heap.lt_size e)
    have hbi : b ≠ it := Nat.ne_of_lt (Nat.lt_of_lt_of_le (Nat.lt_trans (by rw [<- hN]; exact Heap.lt_size e) hNs) a1)
    refine hm.heap b u (fun z => ?_) (hk b u hbN (a9 b u (kp b u e)))
    rcases List.mem_cons.mp z with z | z
    . exact hbN z
    . rw [List.mem_singleton] at z; exact hbi z
  have fin : ∀ h' tk c',(∀ b u,s.heap.get? b = some u -> h'.get? b = some u) -> h'.get? N = some { cls := .type "list",dict := none,data := .seq ord.toArray c',slots := #[] } ->
      wpAny (model prog w) A (do
        let o <- load N
        match o.data with
        | .seq xs _ => pure xs.toList
        | _ => unsupported "internal:collect") Q E { s with heap := h',drawn := d,toks := tk } := by
    intro h' tk c' hk hc
    refine wpAny_bind (wpAny_load hc ?_)
    exact wpAny_pure (by simpa using hQ ord h' d tk a8 hk (by rw [hN]; exact Nat.le_of_lt (Heap.lt_size hc)))
  refine wpAny_ite_split (fun _ => ?_) (fun _ => wpAny_pure ⟨plainId_quiet PySem.F.plain_extend_loop _,key h2 0 s.toks (fun b u _ e => e) g2 fun h' tk c' hk hc => fin h' tk c' hk hc⟩)
  refine wpAny_bind (wpAny_rule ?_)
  refine wpAny_bind ?_
  show wpAny _ _ (updateSeq N (·.push .none) >>= fun _ => updateSeq N (·.pop)) _ _ _
  refine wpAny_bind (wpAny_updateSeq (s := { s with heap := h2,drawn := d }) g2 rfl ?_)
  have hS₂ := Heap.get?_update_self (Obj.mapSeq (·.push Value.none)) g2 rfl
  refine wpAny_updateSeq (hz := by seq_fits) hS₂ rfl ?_
  have hS₃ := Heap.get?_update_self (Obj.mapSeq (·.pop)) hS₂ rfl
  refine wpAny_pure ⟨plainId_quiet PySem.F.plain_extend_loop _,key _ _ s.toks (fun b u hb e => ?_) hS₃ fun h' tk c' hk hc => fin h' tk c' hk hc⟩
  exact (Heap.get?_update_other _ _ (Ne.symm hb)).trans ((Heap.get?_update_other _ _ (Ne.symm hb)).trans e)
end
end L2
namespace L2
open PySem PySem.Spec PyProof.Rows PySem.Calls
section
variable {prog : Program} {w : World} {K : Type} [DecidableEq K] {knd : PySem.KeyKind prog w K} {A : Around} {E : Value -> Shared -> Prop} {s : Shared}
theorem q09.perm : ∀ {ord vs : List Value},ord.Perm vs -> ∀ {ks : List K},q09 knd vs ks -> ∃ ks',q09 knd ord ks' /\ ks'.Perm ks := by
  intro ord vs p
  induction p with
  | nil => intro ks h; exact ⟨ks,h, .refl _⟩
  | cons x p ih =>
    intro ks h
    cases h with
    | cons hk hr => obtain ⟨k',h1,h2⟩ := ih hr; exact ⟨_, .cons hk h1,h2.cons _⟩
  | swap x y l =>
    intro ks h
    cases h with
    | cons hk hr => cases hr with
      | cons hk2 hr2 => exact ⟨_, .cons hk2 (.cons hk hr2), .swap _ _ _⟩
  | trans p q ih1 ih2 =>
    intro ks h
    obtain ⟨k1,h1,h2⟩ := ih2 h
    obtain ⟨k2,h3,h4⟩ := ih1 h1
    exact ⟨k2,h3,h4.trans h2⟩
theorem q09.ints : ∀ {vs : List Value} {ks : List Int},q09 (intKind prog w) vs ks -> IntsAre vs ks
  | _,_, .nil => .nil
  | _,_, .cons h r => by
    obtain ⟨t,rfl⟩ := Value.isInt_shape h
    exact .cons _ _ r.ints
theorem q57 (a : Value) {Q₁ : Value -> Shared -> Prop}
    (h : Q₁ (.ref s.heap.objs.size) { s with heap := s.heap.push { cls := .type "set",dict := none,data := .set #[] 0 (.fresh 0 0 (!w.params.followText "set-order")) } }) :
    codeAny (model prog w) A (.call (.builtin "set.__new__") ⟨[.type "set",a],[]⟩) (wants Q₁ E) s := by
  refine codeAny_of_tree ?_
  show wpAny _ A.in1 (do checkBuiltinCall "set.__new__" ⟨[.type "set",a],[]⟩; again (.builtin "set.__new__" ⟨[.type "set",a],[]⟩)) _ _ s
  refine wpAny_bind (wpAny_of_eq (F.newCall_set_1 a) (wpAny_pure ⟨plainId_quiet F.plain_set_new _,codeAny_builtin F.entry_set_new ?_⟩))
  rw [Around.under_plainId F.plain_set_new _]
  unfold Builtin.«set.__new__» Builtin.Frozenset.newClass
  have hsub := sub_set_self
  obtain ⟨hp,g,d,tk,os⟩ := s
  dsimp only
  wp_walk
  refine wpAny_askSetting (wpAny_pure ?_)
  dsimp only
  simp only [newObj]
  refine wpAny_bind (wpAny_alloc (wpAny_pure ?_))
  exact wpAny_pure h
theorem q8c {S : Addr} {ks : List Int} {Q : Value -> Shared -> Prop} (hh : A.handled = none) (hS : SetQ (intKind prog w) (!w.params.followText "set-order") s.heap S ks) (h64 : ks.length < 64)
    (h : ∀ (l : Addr) (h' : Heap) (d : _) (tk : Nat) (vs : List Value) (ns : List Int),(∀ b u,s.heap.get? b = some u -> h'.get? b = some u) -> s.heap.objs.size <= l -> (∃ e,h'.get? l = some (seqObj "list" vs.toArray e)) -> IntsAre vs ns -> ns.Perm ks -> ns.Pairwise (· <= ·) -> Q (.ref l) { s with heap := h',drawn := d,toks := tk }) :
    wpAny (model prog w) A (call (.builtin "sorted") [.ref S]) Q E s := by
  obtain ⟨o,es,ep,t,vs,ho,hex,hd,hel,hp,hv,hb,hf,hl,hg⟩ := hS
  refine Calls.call_function_entry kind_sorted plain_sorted entry_sorted (args_sorted1 _) ?_
  unfold Builtin.«sorted»
  refine wpAny_bind (m := checkCount "sorted" 1 1 _) (wpAny_pure ?_)
  refine wpAny_bind (q88 (by simpa using hh) ho hex hd hf hg (fits_of_scanBound hb) hl fun ord h1 d tk op hk hsz => ?_)
  obtain ⟨ns,hn,np⟩ := q09.perm (op.trans hp) hv
  have hI := hn.ints
  have hlen : ord.length < 64 := by rw [hn.length,np.length_eq]; exact h64
  refine wpAny_bind (wpAny_newList ?_ (Nat.le_trans (Nat.le_of_lt hlen) (by rw [sizeLine_eq]; decide)))
  have hoL : (h1.push (seqObj "list" ord.toArray 0)).get? h1.objs.size = some (seqObj "list" ord.toArray 0) := Heap.get?_push_size _ rfl
  show wpAny _ _ _ _ _ { s with heap := h1.push (seqObj "list" ord.toArray 0),drawn := d,toks := tk }
  refine wpAny_bind (wpAny_holding (wpAny_call_entry slot_list_sort ⟨_,hoL,rfl⟩ entry_list_sort (list_sort_tree hoL hI hlen fun out ns' a1 a2 a3 => ⟨_,rfl,?_⟩) (args_list_sort _)))
  refine wpAny_pure ⟨_,rfl,?_⟩
  obtain ⟨e,he⟩ := sortedHeap_at (out := out) hoL
  refine h h1.objs.size _ d tk out.toList ns' (fun b u eb => ?_) hsz ?_ a1 (a2.trans np) a3
  . have hlt := Heap.lt_size (hk b u eb)
    rw [sortedHeap_old (Nat.ne_of_lt hlt) (by rw [size_push']; exact Nat.lt_succ_of_lt hlt),Heap.get?_push_ne _ _ _ (Nat.ne_of_lt hlt)]
    exact hk b u eb
  . exact ⟨e,by rw [Array.toArray_toList]; exact he⟩
end
end L2
namespace L2
open PySem PySem.Spec PyProof.Rows PySem.Calls
section
variable {prog : Program} {w : World} {K : Type} [DecidableEq K] {knd : PySem.KeyKind prog w K} {A : Around} {R : Result -> Shared -> Prop} {I : Addr} {fp wr : List Addr} {G : Array GenState -> Array GenState -> Prop} {P : Nat -> Value -> Prop} {St : Nat -> Shared -> Prop} {xs : List K} {led : Bool}
theorem qa6 (W : WalksS prog w A.in1 I fp wr G xs.length P St) (S : Addr) (nf : S ∉ fp) (hv : ∀ i v,P i v -> ∃ x,xs[i]? = some x /\ knd.is x v = true /\ v.scannable = true) (hb : xs.length + 1 < scanBound) : ∀ (k i : Nat) (s : Shared),xs.length - i = k -> i <= xs.length -> St i s ->
      SetQ knd led s.heap S (metK (xs.take i)) ->
      (∀ s',Moved (S :: wr) G s s' -> SetQ knd led s'.heap S (metK xs) -> R (.ok (.ret .none)) s') ->
      codeAny (model prog w) A (.builtin "set.update.loop" ⟨[.ref S, .ref I],[]⟩) R s := by
  have nw : S ∉ wr := fun z => nf (W.sub _ z)
  have up : ∀ b ∈ wr,b ∈ S :: wr := fun b z => List.mem_cons_of_mem _ z
  intro k
  induction k with
  | zero =>
    intro i s hk hi st hS hR
    obtain rfl : i = xs.length := by omega
    refine codeAny_builtin F.entry_set_update_loop ?_
    rw [Around.under_plainId F.plain_set_update_loop _]
    show wpAny _ A.in1 (pyNext (.ref I) >>= _) _ _ s
    rw [List.take_length] at hS
    refine wpAny_bind (W.done s _ _ st fun s' m => ?_)
    exact wpAny_pure (hR s' (m.mono up) (hS.stay fun o e => m.heap S o nw e))
  | succ k ih =>
    intro i s hk hi st hS hR
    have lt : i < xs.length := by omega
    refine codeAny_builtin F.entry_set_update_loop ?_
    rw [Around.under_plainId F.plain_set_update_loop _]
    show wpAny _ A.in1 (pyNext (.ref I) >>= _) _ _ s
    refine wpAny_bind (W.item i s _ _ lt st fun v s1 hP st1 m1 => ?_)
    obtain ⟨x,hx,hk1,hsc⟩ := hv i v hP
    have hS1 := hS.stay (h' := s1.heap) fun o e => m1.heap S o nw e
    have tk : metK (xs.take (i + 1)) = meet (metK (xs.take i)) x := by rw [List.take_add_one,hx]; exact qan _ _
    have le : (metK (xs.take i)).length <= i := by
      have := qd7 (xs.take i) ([] : List K)
      rw [List.length_take] at this
      unfold metK
      simp at this; omega
    show wpAny _ A.in1 (holding [v] (setAdd S v) >>= _) _ _ s1
    refine wpAny_bind (wpAny_holding ?_)
    unfold setAdd
    refine wpAny_holding (wpAny_bind (knd.pyHash (k := x) hk1 ?_))
    refine qbe (knd := knd) (s := { s1 with toks := s1.toks + 1 }) hk1 hsc hS1 (by omega) fun b h' sb hS2 => ?_
    rw [<- tk] at hS2
    refine wpAny_pure ⟨plainId_quiet F.plain_set_update_loop _,ih (i + 1) _ (by omega) lt (W.frame _ s1 _ _ st1 (Nat.le_succ _) fun b hb' o e => ?_) hS2 fun s2 m2 hS4 => ?_⟩
    . rw [sb.2 b fun z => nf (z ▸ hb')]; exact e
    . refine hR s2 (Moved.trans W.gtrans ((m1.mono up).then_heap (Nat.le_succ _) fun b o hb' e => ?_) m2) hS4
      rw [sb.2 b fun z => hb' (z ▸ List.mem_cons_self)]; exact e
end
section
variable {prog : Program} {w : World} {K : Type} [DecidableEq K] {knd : PySem.KeyKind prog w K} {A : Around} {E : Value -> Shared -> Prop} {s : Shared}
theorem qdc {l : Addr} {its : Array Value} {xs : List K} {Q : Value -> Shared -> Prop} (hh : A.handled = none) (hl : s.heap.IsList l its) (hi : ∀ (i : Nat) v,its[i]? = some v -> ∃ x,xs[i]? = some x /\ knd.is x v = true /\ v.scannable = true) (hz : its.size = xs.length) (hb : xs.length + 1 < scanBound)
    (h : ∀ (h' : Heap) (tk : Nat),SetQ knd (!w.params.followText "set-order") h' s.heap.objs.size (metK xs) ->
      (∀ b o,b < s.heap.objs.size -> s.heap.get? b = some o -> h'.get? b = some o) -> Q (.ref s.heap.objs.size) { s with heap := h',toks := tk }) : wpAny (model prog w) A (call (.type "set") [.ref l]) Q E s := by
  obtain ⟨c,tl,hmro⟩ := F.called_set.mro
  have hmade := F.called_set.made
  have hsub := F.called_set.sub
  refine wpAny_call (codeAny_of_tree (by
    show wpAny _ _ (callAny (.type "set") _) _ _ _
    refine wpAny_pure ⟨Code.quiet_builtin _ (by decide +kernel),codeAny_builtin F.entry_type_call ?_⟩
    rw [Around.under_plain (weight_type_call_type "set" [.ref l] []) rfl]
    have n1 := F.called_set.notType
    have n2 := F.called_set.canCreate
    have n3 := F.typeCall_set_1 (.ref l)
    repeat (any_goals (first | wp_step | assumption))
    refine codeAny_mono (q57 (.ref l) (E := E) (Q₁ := fun ob s1 => ob = .ref s.heap.objs.size /\ s1 = { s with heap := s.heap.push ({ cls := .type "set",dict := none,data := .set #[] 0 (.fresh 0 0 (!w.params.followText "set-order")) }) }) ⟨rfl,rfl⟩) fun r s1 hr => ?_
    cases r with
    | error e => exact hr
    | ok fl =>
      cases fl with
      | ret ob =>
        obtain ⟨rfl,rfl⟩ := hr
        generalize hled : (!w.params.followText "set-order") = led at h ⊢
        have gS : (s.heap.push ({ cls := .type "set",dict := none,data := .set #[] 0 (.fresh 0 0 led) })).get? s.heap.objs.size = some ({ cls := .type "set",dict := none,data := .set #[] 0 (.fresh 0 0 led) }) := Heap.get?_push_size _ rfl
        have tS : Shared.TypeIs { s with heap := s.heap.push ({ cls := .type "set",dict := none,data := .set #[] 0 (.fresh 0 0 led) }) } (.ref s.heap.objs.size) "set" := ⟨_,gS,rfl⟩
        have i1 := F.called_set.init.lookup
        have i2 := F.called_set.init.bind (.ref s.heap.objs.size)
        repeat (any_goals (first | wp_step | assumption))
        refine codeAny_mono (codeAny_call_builtin (R := wants (fun r s2 => r = .none /\ ∃ h' tk,s2 = { s with heap := h',toks := tk } /\ SetQ knd led h' s.heap.objs.size (metK xs) /\
            (∀ b o,b < s.heap.objs.size -> s.heap.get? b = some o -> h'.get? b = some o)) E) F.called_set.init.plain F.entry_set_init (check_set_init_1 tS ?_)) fun r2 s2 hr2 => ?_
        . obtain ⟨ol,q1,q2,nl,q3⟩ := hl
          obtain ⟨oc,od,oda,os⟩ := ol
          simp only at q2 q3
          subst q2; subst q3
          have q4 : (s.heap.push ({ cls := .type "set",dict := none,data := .set #[] 0 (.fresh 0 0 led) })).get? l = some { cls := .type "list",dict := od,data := .seq its nl,slots := os } := Heap.get?_push_of_some _ q1
          have u1 := F.sub_list_set
          have u2 := F.sub_list_frozenset
          have u3 : (Value.type "list" == Value.type "dict") = false := by decide
          have L1 : (s.heap.push ({ cls := .type "set",dict := none,data := .set #[] 0 (.fresh 0 0 led) })).IsList l its := ⟨_,q4,rfl,nl,rfl⟩
          unfold Builtin.«set.__init__» noKeywords Builtin.Frozenset.updateFrom
          generalize hPI : pyIter = PI
          wp_walk
          subst hPI
          refine wpAny_pyIter_list L1 ?_
          refine (wpAny_bind (wpAny_runValue ?_))
          have ls : l < s.heap.objs.size := Heap.lt_size q1
          have hd3 : A.in1.in1.in1.handled = none := by simp [hh]
          have ne : l ≠ (s.heap.push ({ cls := .type "set",dict := none,data := .set #[] 0 (.fresh 0 0 led) })).objs.size := by rw [Heap.size_push]; exact Nat.ne_of_lt (Nat.lt_succ_of_lt ls)
          have nS : s.heap.objs.size ∉ [(s.heap.push ({ cls := .type "set",dict := none,data := .set #[] 0 (.fresh 0 0 led) })).objs.size,l] := by
            rw [Heap.size_push]
            intro z
            rcases List.mem_cons.mp z with z | z
            . exact absurd z (Nat.ne_of_lt (Nat.lt_succ_self _))
            . rw [List.mem_singleton] at z; exact absurd z (Nat.ne_of_gt ls)
          have WK := (Walks.list (prog := prog) (w := w) hd3 (s.heap.push ({ cls := .type "set",dict := none,data := .set #[] 0 (.fresh 0 0 led) })).objs.size l ne its).toS
          rw [hz] at WK
          refine qa6 (xs := xs) (led := led) WK s.heap.objs.size nS (fun i v z => hi i v z) hb (xs.length - 0) 0 _ (by omega) (Nat.zero_le _) ⟨⟨_,Heap.get?_push_size _ rfl,rfl,rfl⟩,(L1.push _)⟩ ?_ ?_
          . have gg : ((s.heap.push ({ cls := .type "set",dict := none,data := .set #[] 0 (.fresh 0 0 led) })).push { cls := .type "list_iterator",data := .fields #[.ref l, .int 0 0] }).get? s.heap.objs.size = some { cls := .type "set",dict := none,data := .set #[] 0 (.fresh 0 0 led) } := Heap.get?_push_of_some _ gS
            exact qbs led gg
          . intro s' m hS'
            obtain ⟨h',g',d',tk',os'⟩ := s'
            obtain rfl : g' = s.gens := m.gens
            obtain rfl : d' = s.drawn := m.drawn
            obtain rfl : os' = s.os := m.os
            refine wpAny_pure (wpAny_pure ⟨rfl,h',tk',rfl,hS',fun b o hb' e => ?_⟩)
            refine m.heap b o (fun z => ?_) (Heap.get?_push_of_some _ (Heap.get?_push_of_some _ e))
            rcases List.mem_cons.mp z with z | z
            . exact absurd z (Nat.ne_of_lt hb')
            . rw [List.mem_singleton,Heap.size_push] at z; exact absurd z (Nat.ne_of_lt (Nat.lt_succ_of_lt hb'))
        . cases r2 with
          | error e => exact hr2
          | ok f2 =>
            cases f2 with
            | ret r =>
              obtain ⟨rfl,h',tk,rfl,hS',hk'⟩ := hr2
              repeat (any_goals (first | wp_step | assumption))
              exact h _ _ hS' hk'
            | _ => exact hr2.elim
      | _ => exact hr.elim))
end
end L2
namespace L2
open PySem PySem.Spec PyProof.Rows
def insI (x : Int) : List Int -> List Int
  | [] => [x]
  | y :: r => if x <= y then x :: y :: r else y :: insI x r
def srtI : List Int -> List Int
  | [] => []
  | x :: r => insI x (srtI r)
theorem insI_perm (x : Int) : ∀ l,(insI x l).Perm (x :: l)
  | [] => .refl _
  | y :: r => by
    unfold insI
    split
    . exact .refl _
    . exact ((insI_perm x r).cons y).trans (.swap _ _ _)
theorem q36 : ∀ l,(srtI l).Perm l
  | [] => .refl _
  | x :: r => (insI_perm x _).trans ((q36 r).cons x)
theorem q4z (x : Int) : ∀ l,l.Pairwise (· <= ·) -> (insI x l).Pairwise (· <= ·)
  | [],_ => by unfold insI; simp
  | y :: r,h => by
    obtain ⟨h1,h2⟩ := List.pairwise_cons.mp h
    unfold insI
    split
    . rename_i hc
      refine List.pairwise_cons.mpr ⟨fun z hz => ?_,h⟩
      rcases List.mem_cons.mp hz with rfl | hz
      . exact hc
      . exact Int.le_trans hc (h1 z hz)
    . rename_i hc
      refine List.pairwise_cons.mpr ⟨fun z hz => ?_,q4z x r h2⟩
      rcases List.mem_cons.mp ((insI_perm x r).mem_iff.mp hz) with rfl | hz
      . omega
      . exact h1 z hz
theorem q4v : ∀ l,(srtI l).Pairwise (· <= ·)
  | [] => .nil
  | x :: r => q4z x _ (q4v r)
theorem q7m : ∀ {vs : List Value} {ns : List Int},IntsAre vs ns -> Vals (ns.map V.int) vs
  | _,_, .nil => .nil
  | _,_, .cons n t r => .cons ⟨t,rfl⟩ (q7m r)
section
variable {X : Cx}
def q4n (P : Program) (w : World) (a : Addr) (ts : List Int) : HO := .ext fun h => SetQ (intKind P w) (!w.params.followText "set-order") h a (metK ts)
theorem q95 (hc : X.calm = true) : q08 X (.type "set") (fun xs H Q => ∃ p, ∃ ts : List Int,xs = [.ref p] /\ SqL X.K H p (ts.map V.int) /\ ts.length <= 1000 /\ ∀ a,H a = none -> Q (.ref a) (upd H a (q4n X.prog X.w a ts))) := by
  intro pins s σ H xs us Q I r h
  obtain ⟨p,ts,rfl,hS,hl,q⟩ := h
  obtain ⟨u,rfl,ru⟩ := vals1 r
  cases ru
  obtain ⟨its,rv,pl,_⟩ := I.list hS
  have hlen : its.length = ts.length := by have := rv.length; simpa using this.symm
  refine qdc (knd := intKind X.prog X.w) (xs := ts) (I.ok.hd hc) pl.isList (fun i v hv => ?_) (by simp [hlen]) (by unfold scanBound; omega) fun h' tk hset hk => ?_
  . have hi : i < ts.length := by
      have := (Array.getElem?_eq_some_iff.mp hv).1
      simp [hlen] at this; exact this
    obtain ⟨u,hu,ru⟩ := rv.get (show (ts.map V.int)[i]? = some (.int ts[i]) by rw [List.getElem?_map,List.getElem?_eq_getElem hi]; rfl)
    have : its[i]? = some v := by simpa using hv
    rw [this] at hu; cases hu
    obtain ⟨t,rfl⟩ := ru
    exact ⟨ts[i],List.getElem?_eq_getElem hi,intKind_is _ _ _ _,rfl⟩
  . have k : ∀ b o,s.heap.get? b = some o -> h'.get? b = some o := fun b o e => hk b o (Heap.lt_size e) e
    refine ⟨.ref s.heap.objs.size,_,I.laid (t' := tk) (o := q4n X.prog X.w s.heap.objs.size ts) k (Nat.le_refl _) ?_,rfl,q _ (I.hok.fresh (Nat.le_refl _))⟩
    refine ⟨hset,?_,fun h1 h2 hs1 kk => hs1.stay kk⟩
    obtain ⟨o,_,_,_,_,ho,_⟩ := hset
    exact ⟨o,ho⟩
theorem q5m (hc : X.calm = true) : q08 X (.builtin "sorted") (fun xs H Q => ∃ a, ∃ ts : List Int,xs = [.ref a] /\ H a = some (q4n X.prog X.w a ts) /\ (metK ts).length < 64 /\ ∀ l,H l = none -> Q (.ref l) (upd H l (.lst ((srtI (metK ts)).map V.int)))) := by
  intro pins s σ H xs us Q I r h
  obtain ⟨a,ts,rfl,ha,h64,q⟩ := h
  obtain ⟨u,rfl,ru⟩ := vals1 r
  cases ru
  obtain ⟨hset,_⟩ := (show q05 X.prog X.w H s.heap a (q4n X.prog X.w a ts) from I.hok a _ ha)
  refine q8c (I.ok.hd hc) hset h64 fun l h' d tk vs ns hk hs hl hI hp ho => ?_
  have I' : Inv X pins σ H { s with drawn := d } := ⟨I.ok,I.os,I.bare,I.base,I.loc,I.cell,I.free,I.freeC,I.pin,I.hok,I.len⟩
  have e : ns = srtI (metK ts) := PySem.W.lks_uniq (hp.trans (q36 _).symm) ho (q4v _)
  subst e
  obtain ⟨e,he⟩ := hl
  have hlen : (srtI (metK ts)).length < 64 := by rw [(q36 _).length_eq]; exact h64
  refine ⟨.ref l,_,I'.laid (t' := tk) hk hs (show q05 X.prog X.w _ h' _ (.lst ((srtI (metK ts)).map V.int)) from ⟨?_,vs,e,q7m hI,he⟩),rfl,q _ (I.hok.fresh hs)⟩
  rw [List.length_map]
  exact Nat.le_trans (Nat.le_of_lt hlen) (by rw [sizeLine_eq]; decide)
end
end L2
namespace Z
open PySem L2
section
variable {C : Ct} {E : XK}
@[simp] def q4i : AV -> AH -> Re AV := fun x h => match (q21 h x).bind intsOf with
  | some ts => if ts.length <= 1000 /\ (metK ts).length < 64 then .ok (.lst ((srtI (metK ts)).map .int)) h else .no
  | none => .no
theorem q86 {P : Program} {w0 : World} {t : TE} {a : AE} (ha : SE C E t a) :
    SE C E (tCB (fun xs H Q => ∃ a, ∃ ts : List Int,xs = [V.ref a] /\ H a = some (q4n P w0 a ts) /\ (metK ts).length < 64 /\ ∀ l,H l = none -> Q (.ref l) (upd H l (.lst ((srtI (metK ts)).map V.int)))) (q24 (tCB (fun xs H Q => ∃ p, ∃ ts : List Int,xs = [V.ref p] /\ SqL C.K H p (ts.map V.int) /\ ts.length <= 1000 /\ ∀ a,H a = none -> Q (.ref a) (upd H a (q4n P w0 a ts))) (q24 t tNil)) tNil)) (a1 q4i a) := fun w env σ Q ok en s =>
  ha w env σ _ ok en (s.bind.mono fun x w1 ok1 le1 s1 v tv => by
    unfold q4i at s1
    split at s1
    . rename_i ts e
      obtain ⟨ys,ey,es⟩ := Option.bind_eq_some_iff.mp e
      obtain ⟨p,us,rfl,r,t'⟩ := q26 ok1 ey tv
      have := q68 es t'
      subst this
      split at s1
      . rename_i hl
        refine ⟨p,ts,rfl,r,hl.1,fun q hq => ⟨q,ts,rfl,q0a,hl.2,fun l hl' => ?_⟩⟩
        exact s1 ((w1.fresh q _).frozen l _) rfl ((ok1.fresh hq _).frozen hl' _) ((ok1.q1u hq _).trans ((ok1.fresh hq _).q1x hl' _)) _ ((ok1.fresh hq _).q5q hl' (q3o _))
      . exact s1.elim
    . exact s1.elim)
end
end Z
namespace PM
open PySem L2 Z
def flG : Nat -> List Nat
  | 0 => [0,1]
  | 1 => [0,1,2,3]
  | 2 => [0,1,4]
  | 3 => [0,1,5,6,7,8,9]
  | 4 => [0,1,5]
  | 5 => [0,1,10]
  | 6 => [0,1,11,12,10,13,14,15,16,17]
  | 7 => [0,1,17]
  | 8 => [18,19,20,21]
  | 9 => [5,6,22,7,23,9,24]
  | 10 => [25,26,27,5]
  | 11 => [28,29,30,31,32,33,34,35]
  | 12 => [1,36,37,38,39,40,41,42]
  | 13 => [43]
  | _ => []
def b_qd : AS :=
 (sSeq (sIf (aB (a2 fLt (aVar 1) (aC fLen (qh (aVar 0) aNil))))
 (sRet (a2 fIx (aVar 0) (aVar 1)))
 q2l)
 (sRet (aK (.int 0))))
def m_qd : AF := fnZ 2 b_qd
def b_q0 (rec : AF) : AS :=
 (sSeq (sIf (aB (a1 (q9j [.list, .tuple]) (aVar 1)))
 (sSeq (sIf (aOr (aB (a2 fNe (a1 (fIsi .list) (aVar 0)) (a1 (fIsi .list) (aVar 1)))) (aB (a2 fNe (a1 (fIsi .tuple) (aVar 0)) (a1 (fIsi .tuple) (aVar 1)))))
 (sRet (aK (.bl false)))
 q2l)
 (sRet (q3q (a2 fEq (aC fLen (qh (aVar 0) aNil)) (aC fLen (qh (aVar 1) aNil))) (aC fAll (qh (aLc 1 [0,1] (q4k (aC fLen (qh (aVar 1) aNil))) (gN 0) aYes (aC rec (qh (a2 fIx (aVar 1) (aVar 0)) (qh (a2 fIx (aVar 2) (aVar 0)) aNil)))) aNil)))))
 q2l)
 (sSeq (sAsg (q3q (a2 fEq (a1 (fIsi .int) (aVar 0)) (a1 (fIsi .int) (aVar 1))) (a2 fEq (a1 (fIsi .bool) (aVar 0)) (a1 (fIsi .bool) (aVar 1)))) (gN 2))
 (sRet (q3q (aVar 2) (q3q (a2 fEq (a1 (fIsi .str) (aVar 0)) (a1 (fIsi .str) (aVar 1))) (a2 fEq (aVar 0) (aVar 1)))))))
def m_q0 : Nat -> AF
  | 0 => fun _ _ => .no
  | n + 1 => fnZ 3 (b_q0 (m_q0 n))
def b_qf : AS :=
 (sRet (aTup (qh (aFld 5 (aVar 0)) (qh (aFld 6 (aVar 0)) (qh (aFld 22 (aVar 0)) (qh (aFld 7 (aVar 0)) (qh (aFld 23 (aVar 0)) (qh (aFld 9 (aVar 0)) (qh (aFld 24 (aVar 0)) aNil)))))))))
def m_qf : AF := fnZ 1 b_qf
def b_qb : AS :=
 (sSeq (sAsg (q2b aNil) (gN 2))
 (sSeq (sFor (iLst (aVar 0)) (gN 3)
 (sIf (aB (a2 fEq (a2 fIx (aVar 3) (aK (.int 1))) (aK (.str "night"))))
 (q0v (aMtL q5u (aVar 2) (qh (aLc 4 [1] (q9d (a2 fIx (aVar 3) (aK (.int 2)))) (gT 4 (q14 (gN 0) (q14 (gN 1) (q14 (gN 2) (q14 (gN 3) q6t))))) (aB (a2 fEq (aVar 0) (aVar 4))) (aVar 1)) aNil)))
 q2l))
 (sRet (aFrz (aVar 2)))))
def m_qb : AF := q3t (fnZ 4 b_qb)
def b_qe : AS :=
 (sSeq (sAsg (q2b aNil) (gN 2))
 (sSeq (sFor (iLst (aC m_qb (qh (aVar 0) (qh (aVar 1) aNil)))) (gN 3)
 (sIf (aAnd (aTru (aVar 2)) (aB (a2 fEq (a2 fIx (a2 fIx (aVar 2) (a1 fNeg (aK (.int 1)))) (aK (.int 0))) (aVar 3))))
 (sAsg (aTup (qh (aVar 3) (qh (a2 fAdd (a2 fIx (a2 fIx (aVar 2) (a1 fNeg (aK (.int 1)))) (aK (.int 1))) (aK (.int 1))) aNil))) (q2q (aVar 2) (a1 fNeg (aK (.int 1)))))
 (q0v (aMtL q0c (aVar 2) (qh (aTup (qh (aVar 3) (qh (aK (.int 1)) aNil))) aNil)))))
 (sRet (aFrz (aVar 2)))))
def m_qe : AF := q3t (fnZ 4 b_qe)
end PM
namespace PM
open PySem L2 Z
def cz (ns : List Int) (k : Nat) : Int := ns.getD k 0
theorem cz_at {ns : List Int} {k : Nat} (h : k < ns.length) : atI (ns.map AV.int) (k : Int) = some (.int (cz ns k)) := q2r (by
  rw [List.getElem?_map,List.getElem?_eq_getElem h]
  simp [cz,List.getD_eq_getElem?_getD,List.getElem?_eq_getElem h])
theorem at_ok (ns : List Int) (k : Nat) (h : AH) : m_qd [.kst (ns.map AV.int), .int k] h = .ok (.int (cz ns k)) h := by
  by_cases hk : (k : Int) < (ns.length : Int)
  . simp [m_qd,b_qd,hk,cz_at (show k < ns.length by omega)]
  . have : cz ns k = 0 := by
      unfold cz
      rw [List.getD_eq_getElem?_getD,List.getElem?_eq_none (by omega)]; rfl
    simp [m_qd,b_qd,hk,this]
@[simp] theorem qb6 (h : AH) (x y : Cell) : (h ++ [x]).set h.length y = h ++ [y] := by
  rw [List.set_append_right _ _ (Nat.le_refl _),Nat.sub_self]; rfl
theorem qas {h : AH} {i : Nat} {c : Cell} (e : h[i]? = some c) : i < h.length := (List.getElem?_eq_some_iff.mp e).1
theorem q8y {h g : AH} {i : Nat} {c : Cell} (e : h[i]? = some c) : (h ++ g)[i]? = some c := by
  rw [List.getElem?_append_left (qas e)]; exact e
theorem q5h {α : Type} {wt : Option Nat} {all : List AV} {g : AV -> AEnv -> AH -> Re AEnv} {tc : AT} {te : AE} {be : AEnv} {h : AH} {k f : α -> AV} {p : α -> Bool} (hw : okW h all wt = true) :
    ∀ (ys : List α) (acc : List AV),(∀ y ∈ ys, ∃ env,g (k y) be h = .ok env h /\ tc env h = .ok (p y) h /\ (p y = true -> te env h = .ok (f y) h)) -> lcL wt all g tc te be (ys.map k) acc h = .ok (acc ++ (ys.filter p).map f) h
  | [],acc,_ => by simp [lcL,hw]
  | y :: ys,acc,hs => by
    obtain ⟨env,e1,e2,e3⟩ := hs y (by simp)
    have ih := fun acc => q5h hw ys acc fun z hz => hs z (List.mem_cons_of_mem _ hz)
    cases hp : p y with
    | true => simp [lcL,hw,e1,e2,e3 hp,hp,ih]
    | false => simp [lcL,hw,e1,e2,hp,ih]
theorem q7x {α : Type} {wt : Option Nat} {all : List AV} {g : AV -> AEnv -> AH -> Re AEnv} {te : AE} {be : AEnv} {h : AH} {k f : α -> AV} (hw : okW h all wt = true)
    (ys : List α) (acc : List AV) (hs : ∀ y ∈ ys, ∃ env,g (k y) be h = .ok env h /\ te env h = .ok (f y) h) : lcL wt all g aYes te be (ys.map k) acc h = .ok (acc ++ ys.map f) h := by
  have := q5h (tc := aYes) (te := te) (f := f) (p := fun _ => true) hw ys acc fun y hy => by
    obtain ⟨env,e1,e2⟩ := hs y hy
    exact ⟨env,e1,rfl,fun _ => e2⟩
  rw [List.filter_eq_self.mpr (by simp)] at this
  exact this
theorem q5s {α : Type} (f : α -> Bool) : ∀ (xs : List α),q2k (xs.map fun x => AV.bl (f x)) = some (xs.map f)
  | [] => rfl
  | x :: xs => by simp [q5s f xs]
theorem ints_map {α : Type} (f : α -> Int) : ∀ (xs : List α),intsOf (xs.map fun x => AV.int (f x)) = some (xs.map f)
  | [] => rfl
  | x :: xs => by simp [ints_map f xs]
theorem all_map {α : Type} (f : α -> Bool) (xs : List α) : (xs.map f).all id = xs.all f := by rw [List.all_map]; rfl
section
variable {h : AH} {nm : Str}
@[simp] theorem get_last (h : AH) (x : Cell) : (h ++ [x])[h.length]? = some x := by simp
end
end PM
namespace PM
open PySem L2 Z
theorem q02 {s t : AS} {env env' : AEnv} {h h' : AH} (e : s env h = .nx env' h') : sSeq s t env h = t env' h' := by simp [e]
theorem q27 {α : Type} {wt : Option Nat} {all : List AV} {g : AV -> AEnv -> AH -> Re AEnv} {body : AS} {k : α -> AV} {P : Nat -> AEnv -> AH -> Prop}
    (hw : ∀ i env h,P i env h -> okW h all wt = true) :
    ∀ (ys : List α) (i : Nat) (env : AEnv) (h : AH),P i env h ->
      (∀ (j : Nat) y,ys[j]? = some y -> ∀ env h,P (i + j) env h -> ∃ e1 h1 e2 h2,g (k y) env h = .ok e1 h1 /\ (body e1 h1 = .nx e2 h2 \/ body e1 h1 = .ct e2 h2) /\ P (i + j + 1) e2 h2) ->
      ∃ env' h',q2f wt all g body (ys.map k) env h = .nx env' h' /\ P (i + ys.length) env' h'
  | [],i,env,h,hp,hs => ⟨env,h,by simp [q2f,hw i env h hp],by simpa using hp⟩
  | y :: ys,i,env,h,hp,hs => by
    obtain ⟨e1,h1,e2,h2,q1,q2,q3⟩ := hs 0 y rfl env h hp
    obtain ⟨e3,h3,q4,q5⟩ := q27 hw ys (i + 1) e2 h2 q3 fun j z hj env h hp => by
      have := hs (j + 1) z (by simpa using hj) env h (by rw [show i + (j + 1) = i + 1 + j by omega]; exact hp)
      rw [show i + (j + 1) + 1 = i + 1 + j + 1 by omega] at this
      exact this
    refine ⟨e3,h3,?_,by rw [List.length_cons,show i + (ys.length + 1) = i + 1 + ys.length by omega]; exact q5⟩
    rw [List.map_cons,q2f,if_pos (hw i env h hp),q1]
    rcases q2 with q2 | q2 <;> simp [q2,q4]
mutual
def okD : Nat -> AV -> Bool
  | _, .non => true | _, .bl _ => true | _, .int _ => true | _, .str _ => true
  | n, .tup xs => match n with | 0 => false | m + 1 => decide (xs.length <= 100000) && okDs m xs
  | n, .lst xs => match n with | 0 => false | m + 1 => decide (xs.length <= 100000) && okDs m xs
  | _,_ => false
def okDs : Nat -> List AV -> Bool
  | _,[] => true
  | n,x :: xs => okD n x && okDs n xs
end
theorem q3r {n : Nat} {x : AV} : ∀ {xs : List AV} {i : Nat},okDs n xs = true -> xs[i]? = some x -> okD n x = true
  | [],_,_,e => by simp at e
  | y :: ys,0,d,e => by
    simp only [okDs,Bool.and_eq_true] at d
    simp at e; exact e ▸ d.1
  | y :: ys,i + 1,d,e => by
    simp only [okDs,Bool.and_eq_true] at d
    exact q3r d.2 (by simpa using e)
theorem q4p {n : Nat} : ∀ {xs : List AV},(∀ x ∈ xs,okD n x = true) -> okDs n xs = true
  | [],_ => by simp [okDs]
  | y :: ys,d => by simp [okDs,d y (by simp),q4p fun x hx => d x (List.mem_cons_of_mem _ hx)]
def IsL (h : AH) (x : AV) (xs : List AV) : Prop := x = .lst xs \/ ∃ k,x = .ref k /\ h[k]? = some (.lst xs)
theorem q73 {h : AH} {n : Nat} {x y : AV} {xs : List AV} (hl : xs.length <= 100000) (hx : IsL h x xs) (hy : IsL h y xs) (hs : ∀ i (_ : i < xs.length),m_q0 n [xs[i],xs[i]] h = .ok (.bl true) h) : m_q0 (n + 1) [x,y] h = .ok (.bl true) h := by
  have hl2 : xs.length <= sizeLine := Nat.le_trans hl (by decide)
  have hb : rng1 (.int (xs.length : Int)) h = .ok (Z.intsFrom 0 xs.length,none) h := q74 (by omega)
  have ea : ∀ i (hi : i < xs.length),atI xs (i : Int) = some xs[i] := fun i hi => q2r (List.getElem?_eq_getElem hi)
  have hi : (Z.intsFrom 0 xs.length).length <= sizeLine := by rw [len_from]; exact hl2
  have key : lcL none (Z.intsFrom 0 xs.length) (gN 0) aYes (aC (m_q0 n) (qh (a2 fIx (aVar 1) (aVar 0)) (qh (a2 fIx (aVar 2) (aVar 0)) aNil))) [none,some x,some y] (Z.intsFrom 0 xs.length) [] h = .ok ([] ++ (List.range xs.length).map fun _ => AV.bl true) h := by
    refine q7x (k := fun i : Nat => AV.int (0 + (i : Int))) q0u (List.range xs.length) [] fun i hi => ?_
    have hi := List.mem_range.mp hi
    refine ⟨_,rfl,?_⟩
    have := hs i hi
    rcases hx with rfl | ⟨k,rfl,ek⟩ <;> rcases hy with rfl | ⟨k',rfl,ek'⟩
    . simp [ea i hi,this]
    . simp [ea i hi,this,ek']
    . simp [ea i hi,this,ek]
    . simp [ea i hi,this,ek,ek']
  have kb : q2k ((List.range xs.length).map fun _ => AV.bl true) = some ((List.range xs.length).map fun _ => true) := q5s (fun _ : Nat => true) _
  rcases hx with rfl | ⟨k,rfl,ek⟩ <;> rcases hy with rfl | ⟨k',rfl,ek'⟩
  . simp [m_q0,b_q0,bEnv,hl2,hb,hi,key,kb]
  . simp [m_q0,b_q0,bEnv,hl2,hb,hi,key,kb,ek']
  . simp [m_q0,b_q0,bEnv,hl2,hb,hi,key,kb,ek]
  . simp [m_q0,b_q0,bEnv,hl2,hb,hi,key,kb,ek,ek']
theorem qbl {h : AH} {n : Nat} {xs : List AV} (hl : xs.length <= 100000) (hs : ∀ i (_ : i < xs.length),m_q0 n [xs[i],xs[i]] h = .ok (.bl true) h) : m_q0 (n + 1) [.tup xs, .tup xs] h = .ok (.bl true) h := by
  have hl2 : xs.length <= sizeLine := Nat.le_trans hl (by decide)
  have hb : rng1 (.int (xs.length : Int)) h = .ok (Z.intsFrom 0 xs.length,none) h := q74 (by omega)
  have ea : ∀ i (hi : i < xs.length),atI xs (i : Int) = some xs[i] := fun i hi => q2r (List.getElem?_eq_getElem hi)
  have hi : (Z.intsFrom 0 xs.length).length <= sizeLine := by rw [len_from]; exact hl2
  have key : lcL none (Z.intsFrom 0 xs.length) (gN 0) aYes (aC (m_q0 n) (qh (a2 fIx (aVar 1) (aVar 0)) (qh (a2 fIx (aVar 2) (aVar 0)) aNil))) [none,some (.tup xs),some (.tup xs)] (Z.intsFrom 0 xs.length) [] h = .ok ([] ++ (List.range xs.length).map fun _ => AV.bl true) h := by
    refine q7x (k := fun i : Nat => AV.int (0 + (i : Int))) q0u (List.range xs.length) [] fun i hi => ?_
    have hi := List.mem_range.mp hi
    refine ⟨_,rfl,?_⟩
    have := hs i hi
    simp [ea i hi,this]
  have kb : q2k ((List.range xs.length).map fun _ => AV.bl true) = some ((List.range xs.length).map fun _ => true) := q5s (fun _ : Nat => true) _
  simp [m_q0,b_q0,bEnv,hl2,hb,hi,key,kb]
theorem same_self (h : AH) : ∀ (n : Nat) (x : AV),okD n x = true -> m_q0 (n + 1) [x,x] h = .ok (.bl true) h
  | n, .non,_ => by simp [m_q0,b_q0]
  | n, .bl b,_ => by simp [m_q0,b_q0]
  | n, .int b,_ => by simp [m_q0,b_q0]
  | n, .str b,_ => by simp [m_q0,b_q0]
  | 0, .tup xs,d => by simp [okD] at d
  | 0, .lst xs,d => by simp [okD] at d
  | n + 1, .tup xs,d => by
    simp only [okD,Bool.and_eq_true,decide_eq_true_eq] at d
    exact qbl d.1 fun i hi => same_self h n xs[i] (q3r d.2 (List.getElem?_eq_getElem hi))
  | n + 1, .lst xs,d => by
    simp only [okD,Bool.and_eq_true,decide_eq_true_eq] at d
    exact q73 d.1 (.inl rfl) (.inl rfl) fun i hi => same_self h n xs[i] (q3r d.2 (List.getElem?_eq_getElem hi))
  | n, .dk _ _,d => by simp [okD] at d
  | n, .ref _,d => by simp [okD] at d
  | n, .kst _,d => by simp [okD] at d
  | n, .xc _,d => by simp [okD] at d
theorem q5v {h : AH} {n : Nat} {x y : AV} {xs : List AV} (hl : xs.length <= 100000) (hx : IsL h x xs) (hy : IsL h y xs) (hd : okDs n xs = true) : m_q0 (n + 2) [x,y] h = .ok (.bl true) h :=
  q73 hl hx hy fun i hi => same_self h n xs[i] (q3r hd (List.getElem?_eq_getElem hi))
section
variable {h : AH} {a d l e : Nat} {day : Int} {ks : List Key} {xs ws es : List AV}
@[simp] theorem last_set' (h : AH) (i : Nat) (z x y : Cell) : (h.set i z ++ [x]).set h.length y = h.set i z ++ [y] := by
  have := qb6 (h.set i z) x y
  rwa [List.length_set] at this
end
end PM
namespace PM
open PySem L2 Z
section
variable {h : AH} {a d l e : Nat} {day : Int} {ks : List Key} {xs ws es : List AV}
variable {b s f r : Nat} {nm bn sn fnm rn : Str} {left g x y : Int} {m : Bool} {tg wg st : AV} {rs : List Str}
theorem qdh {h : AH} {x : AV} {xs : List AV} (hx : IsL h x xs) : okW h xs (watch x) = true := by
  rcases hx with rfl | ⟨k,rfl,ek⟩
  . exact q0u
  . exact q75 ek
theorem qcv {h : AH} {x : AV} {xs : List AV} (hx : IsL h x xs) : q21 h x = some xs := by
  rcases hx with rfl | ⟨k,rfl,ek⟩
  . rfl
  . simp [ek]
theorem IsL.app {h g : AH} {x : AV} {xs : List AV} (hx : IsL h x xs) : IsL (h ++ g) x xs := by
  rcases hx with rfl | ⟨k,rfl,ek⟩
  . exact .inl rfl
  . exact .inr ⟨k,rfl,q8y ek⟩
end
end PM
namespace PM
open PySem L2 Z
section
variable {h : AH} {a d l e : Nat} {day : Int} {ks : List Key} {xs ws es : List AV} {nm : Str} {m : Bool} {t1 t2 w1 w2 : Int} {p : AV} {ro : List (Str × Int × Int)}
theorem lsq_l (h : AH) (xs : List AV) : q21 h (.lst xs) = some xs := rfl
theorem seq_l (h : AH) (xs : List AV) : q2o h (.lst xs) = some xs := rfl
theorem watch_l (xs : List AV) : watch (.lst xs) = none := rfl
end
end PM
namespace PM
open PySem L2 Z
theorem seq_assoc {s t r : AS} {env env' : AEnv} {h h' : AH} (e : sSeq s t env h = .nx env' h') : sSeq s (sSeq t r) env h = r env' h' := by
  cases hs : s env h with
  | nx e1 h1 =>
    rw [q02 hs] at e
    rw [q02 hs,q02 e]
  | _ => simp [hs] at e
theorem q8z {s t u r : AS} {env env' : AEnv} {h h' : AH} (e : sSeq s (sSeq t u) env h = .nx env' h') : sSeq s (sSeq t (sSeq u r)) env h = r env' h' := by
  cases hs : s env h with
  | nx e1 h1 =>
    rw [q02 hs] at e
    rw [q02 hs,seq_assoc e]
  | _ => simp [hs] at e
theorem q99 {s t u w r : AS} {env env' : AEnv} {h h' : AH} (e : sSeq s (sSeq t (sSeq u w)) env h = .nx env' h') : sSeq s (sSeq t (sSeq u (sSeq w r))) env h = r env' h' := by
  cases hs : s env h with
  | nx e1 h1 =>
    rw [q02 hs] at e
    rw [q02 hs,q8z e]
  | _ => simp [hs] at e
end PM
namespace K30
open PySem L2 Z PM
def flT : Nat -> List Nat
  | _ => []
def b_qa : AS :=
 (sSeq (sAsg (q2b aNil) (gN 1))
 (sSeq (sFor (iLst (a1 q4i (aVar 0))) (gN 2)
 (q0v (aMtL q0c (aVar 1) (qh (aTup (qh (a2 q1a (aK (.str "r")) (aC q1i (qh (aVar 2) aNil))) (qh (aMtL q31 (aVar 0) (qh (aVar 2) aNil)) aNil))) aNil))))
 (sRet (aFrz (aVar 1)))))
def m_qa : AF := q3t (fnZ 3 b_qa)
def b_qc : AS :=
 (sRet (aC fLen (qh (aLc 1 [] (iLst (aVar 0)) (gN 0) (aB (a2 fEq (a2 fIx (aVar 0) (aK (.int 1))) (aK (.str "night")))) (aVar 0)) aNil)))
def m_qc : AF := fnZ 1 b_qc
def b_law : AS :=
 (sSeq (sAsg (a2 fMod (aC m_qd (qh (aVar 0) (qh (aK (.int 0)) aNil))) (aK (.int 3))) (gN 1))
 (sSeq (sAsg (q2b (qh (aTup (qh (aK (.int 0)) (qh (aK (.str "batch")) (qh (aK (.str "m")) (qh (aTup (qh (aTup (qh (aK (.str "f")) (qh (aK (.int 900)) aNil))) aNil)) aNil))))) aNil)) (gN 2))
 (sSeq (sAsg (aLc 1 [] (q4k (a2 fAdd (aK (.int 1)) (a2 fMod (aC m_qd (qh (aVar 0) (qh (aK (.int 1)) aNil))) (aK (.int 3))))) (gN 0) aYes (a2 q1a (aK (.str "w")) (aC q1i (qh (aVar 0) aNil)))) (gN 3))
 (sSeq (sAsg q7p (gN 4))
 (sSeq (sFor (iLst (aVar 3)) (gN 5)
 (sSeq (q0v (aMtL q0c (aVar 2) (qh (aTup (qh (aK (.int 0)) (qh (aK (.str "wheel")) (qh (aVar 5) (qh (aK (.str "m")) (qh (aK (.str "kind")) (qh (aK (.str "a0")) (qh (aK (.int 100)) aNil)))))))) aNil)))
 (q7w (aVar 4) (aVar 5) (q2b (qh (aK (.int 0)) (qh (aK (.str "a0")) (qh (q2b aNil) aNil)))))))
 (sSeq (sFor (iLst (aSl fSlL (aVar 0) (q6s (aK (.int 2))) q6v)) (gN 6)
 (sSeq (sAsg (aLc 1 [4] (iLst (aVar 3)) (gN 0) (aAnd (aB (a2 fDIn (aVar 0) (aVar 1))) (aB (a2 fGe (a2 fIx (a2 qz (aVar 1) (aVar 0)) (aK (.int 0))) (aK (.int 0))))) (aVar 0)) (gN 7))
 (sIf (aOr (aB (a2 fLt (a2 fMod (aVar 6) (aK (.int 3))) (aK (.int 2)))) (aB (a2 q2y (aVar 7) (aLst aNil))))
 (sSeq (sAsg (aLc 1 [4] (iLst (aVar 7)) (gN 0) aYes (aTup (qh (aVar 0) (qh (a2 q1a (aK (.str "r")) (aC q1i (qh (a2 fIx (a2 qz (aVar 1) (aVar 0)) (aK (.int 0))) aNil))) (qh (a2 fIx (a2 qz (aVar 1) (aVar 0)) (aK (.int 1))) (qh (aK (.int 0)) aNil)))))) (gN 8))
 (sSeq (q0v (aMtL q0c (aVar 2) (qh (aTup (qh (aC m_qc (qh (aVar 2) aNil)) (qh (aK (.str "night")) (qh (aC q7o (qh (aVar 8) aNil)) aNil)))) aNil)))
 (sFor (iLst (aVar 7)) (gN 5)
 (q0v (aMtL q0c (a2 fIx (a2 qz (aVar 4) (aVar 5)) (aK (.int 2))) (qh (a2 fIx (a2 qz (aVar 4) (aVar 5)) (aK (.int 0))) aNil))))))
 (sSeq (sAsg (a2 fIx (aVar 7) (a2 fMod (a2 fDiv (aVar 6) (aK (.int 3))) (aC fLen (qh (aVar 7) aNil)))) (gN 5))
 (sIf (aB (a2 fEq (a2 fMod (a2 fDiv (aVar 6) (aK (.int 9))) (aK (.int 8))) (aK (.int 7))))
 (sSeq (q0v (aMtL q0c (aVar 2) (qh (aTup (qh (aC m_qc (qh (aVar 2) aNil)) (qh (aK (.str "cut")) (qh (aVar 5) (qh (aTup (qh (aK (.int 60)) (qh (aK (.int 30)) aNil))) (qh (aK (.int 10)) aNil)))))) aNil)))
 (sAsg (a1 fNeg (aK (.int 1))) (q2q (a2 qz (aVar 4) (aVar 5)) (aK (.int 0)))))
 (sSeq (sAsg (aC q96 (qh (aVar 1) (qh (a2 fAdd (a2 fIx (a2 qz (aVar 4) (aVar 5)) (aK (.int 0))) (a2 fMod (a2 fDiv (aVar 6) (aK (.int 9))) (aK (.int 2)))) aNil))) (q2q (a2 qz (aVar 4) (aVar 5)) (aK (.int 0))))
 (sSeq (sAsg (a2 q1a (a2 fIxS (aK (.str "ab")) (a2 fMod (a2 fDiv (aVar 6) (aK (.int 18))) (aK (.int 2)))) (aC q1i (qh (a2 fIx (a2 qz (aVar 4) (aVar 5)) (aK (.int 0))) aNil))) (q2q (a2 qz (aVar 4) (aVar 5)) (aK (.int 1))))
 (q0v (aMtL q0c (aVar 2) (qh (aTup (qh (aC m_qc (qh (aVar 2) aNil)) (qh (aK (.str "move")) (qh (aVar 5) (qh (a2 fIx (a2 qz (aVar 4) (aVar 5)) (aK (.int 1))) aNil))))) aNil))))))))))
 (sSeq (sAsg (aC q91 (qh (aVar 2) aNil)) (gN 9))
 (sSeq (sFor (iLst (aVar 3)) (gN 5)
 (sIf (aNot (aB (aC (m_q0 6) (qh (aC m_qe (qh (aVar 9) (qh (aVar 5) aNil))) (qh (aC m_qa (qh (a2 fIx (a2 qz (aVar 4) (aVar 5)) (aK (.int 2))) aNil)) aNil)))))
 (sRet (aK (.bl false)))
 q2l))
 (sRet (q3q (aC (m_q0 6) (qh (aVar 9) (qh (aVar 2) aNil))) (aC (m_q0 6) (qh (aC m_qe (qh (aVar 9) (qh (aK (.str "w9")) aNil))) (qh (aLst aNil) aNil)))))))))))))
def m_law : AF := fnZ 10 b_law
end K30
namespace K30
open PySem L2 Z PM
def wn (k : Nat) : Str := ("w" : Str) ++ (toString (k : Int) : String)
def rn (p : Nat) : Str := ("r" : Str) ++ (toString (p : Int) : String)
theorem qaw : ∀ a < 3, ∀ b < 3,(wn a = wn b ↔ a = b) := by
  intro a ha b hb
  have : ∀ a < 3, ∀ b < 3,decide (wn a = wn b) = decide (a = b) := by decide +kernel
  exact decide_eq_decide.mp (this a ha b hb)
theorem wn_9 : ∀ a < 3,wn a ≠ ("w9" : Str) := by decide +kernel
theorem rn_inj : ∀ a < 3, ∀ b < 3,(rn a = rn b ↔ a = b) := by
  intro a ha b hb
  have : ∀ a < 3, ∀ b < 3,decide (rn a = rn b) = decide (a = b) := by decide +kernel
  exact decide_eq_decide.mp (this a ha b hb)
theorem q7z : ∀ a < 3,("r" : Str).length + (Str.ofString (toString ((a : Nat) : Int))).length <= 1000 := by decide +kernel
theorem q7n : ∀ a < 3,(a : Nat).log2 < 1920 := by decide
inductive En where
  | nt (d : Int) (rows : List (Nat × Nat × Str))
  | ot (d : Int) (t : Str) (rest : List AV)
def rowA (z : Nat × Nat × Str) : AV := .tup [.str (wn z.1), .str (rn z.2.1), .str z.2.2, .int 0]
def enA : En -> AV
  | .nt d rs => .tup [.int d, .str "night", .tup (rs.map rowA)]
  | .ot d t rest => .tup (.int d :: .str t :: rest)
def En.ok : En -> Prop
  | .nt d rs => rs.length <= 3 /\ ∀ z ∈ rs,z.2.1 < 3
  | .ot d t rest => t ≠ ("night" : Str) /\ rest.length <= 5 /\ okDs 3 rest = true
def qw (x : Str) : En -> List Nat
  | .nt _ rs => (rs.filter fun z => decide (wn z.1 = x)).map (·.2.1)
  | .ot .. => []
def isN : En -> Bool
  | .nt .. => true
  | .ot .. => false
def rA (ps : List Nat) : List AV := ps.map fun p => .str (rn p)
theorem q6f {x : Str} {e : En} (h : e.ok) : (qw x e).length <= 3 := by
  cases e with
  | nt d rs => unfold qw; rw [List.length_map]; exact Nat.le_trans (List.length_filter_le _ _) h.1
  | ot => exact Nat.zero_le _
theorem qc0 {x : Str} {e : En} (h : e.ok) : ∀ p ∈ qw x e,p < 3 := by
  cases e with
  | nt d rs =>
    intro p hp
    unfold qw at hp
    obtain ⟨z,hz,rfl⟩ := List.mem_map.mp hp
    exact h.2 z (List.mem_filter.mp hz).1
  | ot => intro p hp; exact nomatch hp
theorem q53 {x : Str} : ∀ (bk : List En),(∀ e ∈ bk,e.ok) -> (bk.flatMap (qw x)).length <= 3 * bk.length
  | [],_ => by simp
  | e :: r,h => by
    rw [List.flatMap_cons,List.length_append,List.length_cons]
    have := q53 (x := x) r fun z hz => h z (List.mem_cons_of_mem _ hz)
    have := q6f (x := x) (h e List.mem_cons_self)
    omega
theorem q7k {n : Nat} (ps : List Nat) : q06 n (rA ps) = true := by
  induction ps with
  | nil => rfl
  | cons p r ih => exact ih
theorem qb8 {h : AH} {L : AV} {x : Str} {bk : List En} (hL : IsL h L (bk.map enA)) (hb : bk.length <= 100) (hk : ∀ e ∈ bk,e.ok) :
    m_qb [L, .str x] h = .ok (.lst (rA (bk.flatMap (qw x)))) h := by
  unfold m_qb
  refine q54 (g := [.dead]) ?_ (q7k _)
  have hw : ∀ (c : Cell),okW (h ++ [c]) (bk.map enA) (watch L) = true := fun c => qdh hL.app
  obtain ⟨env',h',q1,q2⟩ := q27 (wt := watch L) (all := bk.map enA) (g := gN 3) (body :=
    (sIf (aB (a2 fEq (a2 fIx (aVar 3) (aK (.int 1))) (aK (.str "night"))))
    (q0v (aMtL q5u (aVar 2) (qh (aLc 4 [1] (q9d (a2 fIx (aVar 3) (aK (.int 2)))) (gT 4 (q14 (gN 0) (q14 (gN 1) (q14 (gN 2) (q14 (gN 3) q6t))))) (aB (a2 fEq (aVar 0) (aVar 4))) (aVar 1)) aNil)))
    q2l)) (k := enA) (P := fun i env g => (∃ o,env = [some L,some (.str x),some (.ref h.length),o]) /\ g = h ++ [.lst (rA ((bk.take i).flatMap (qw x)))])
    (by rintro i env g ⟨_,rfl⟩; exact hw _) bk 0 [some L,some (.str x),some (.ref h.length),none] (h ++ [.lst []]) ⟨⟨_,rfl⟩,rfl⟩ (by
      rintro j e he env g ⟨⟨o,rfl⟩,rfl⟩
      rw [Nat.zero_add]
      have hok := hk e (List.mem_of_getElem? he)
      have tk : (bk.take (j + 1)).flatMap (qw x) = (bk.take j).flatMap (qw x) ++ qw x e := by
        rw [List.take_add_one,he,List.flatMap_append]; simp
      have hlen := q53 (x := x) (bk.take j) fun z hz => hk z (List.mem_of_mem_take hz)
      have hl2 : (bk.take j).length <= 100 := by rw [List.length_take]; omega
      have hrl := q6f (x := x) hok
      refine ⟨_,_,[some L,some (.str x),some (.ref h.length),some (enA e)],h ++ [.lst (rA ((bk.take (j + 1)).flatMap (qw x)))],rfl, .inl ?_,⟨_,rfl⟩,rfl⟩
      rw [tk]
      generalize (bk.take j).flatMap (qw x) = acc at hlen
      have hsum : acc.length + (qw x e).length <= sizeLine := Nat.le_trans (show _ <= 1000 by omega) (by decide)
      cases e with
      | nt d rs =>
        have i1 : atI [AV.int d, .str "night", .tup (rs.map rowA)] 1 = some (.str "night") := rfl
        have i2 : atI [AV.int d, .str "night", .tup (rs.map rowA)] 2 = some (.tup (rs.map rowA)) := rfl
        have key := q5h (wt := none) (all := rs.map rowA) (g := gT 4 (q14 (gN 0) (q14 (gN 1) (q14 (gN 2) (q14 (gN 3) q6t))))) (tc := aB (a2 fEq (aVar 0) (aVar 4))) (te := aVar 1) (be := [none,none,none,none,some (.str x)])
          (h := h ++ [.lst (rA acc)]) (k := rowA) (f := fun z => AV.str (rn z.2.1)) (p := fun z => decide (wn z.1 = x)) q0u rs [] fun z _ => ⟨_,rfl,rfl,fun _ => rfl⟩
        have hr3 : rs.length <= sizeLine := Nat.le_trans hok.1 (by decide)
        have hm : ((rs.filter fun z => decide (wn z.1 = x)).map fun z => AV.str (rn z.2.1)) = rA (qw x (.nt d rs)) := by
          unfold rA qw; rw [List.map_map]; rfl
        rw [hm] at key
        have hrA : (rA acc).length + (rA (qw x (.nt d rs))).length <= sizeLine := by unfold rA; rw [List.length_map,List.length_map]; exact hsum
        generalize qw x (.nt d rs) = new at key hrA
        simp only [List.nil_append] at key
        have app : rA (acc ++ new) = rA acc ++ rA new := by unfold rA; rw [List.map_append]
        rw [app]
        simp [enA,i1,i2,bEnv,hr3,key,hrA]
      | ot d t rest =>
        have i1 : atI (AV.int d :: .str t :: rest) 1 = some (.str t) := q2r (j := 1) rfl
        have ht : ¬ t = ("night" : Str) := hok.1
        simp [enA,i1,ht,qw])
  obtain ⟨⟨o,rfl⟩,rfl⟩ := q2
  rw [Nat.zero_add,List.take_length] at q1
  have hl : q21 (h ++ [.lst []]) L = some (bk.map enA) := qcv hL.app
  show (b_qb [some L,some (.str x),none,none] h).out = _
  unfold b_qb
  rw [q02 (env' := [some L,some (.str x),some (.ref h.length),none]) (h' := h ++ [.lst []]) (by simp)]
  generalize hX : rA (bk.flatMap (qw x)) = rr at q1
  rw [q02 (env' := [some L,some (.str x),some (.ref h.length),o]) (h' := h ++ [.lst rr]) (by simp only [sFor,iLst,aVar,List.getElem?_cons_zero,Option.join_some,Re.q5x,Re.to_ok,hl]; simpa [hl] using q1)]
  simp
def push (rs : List (Nat × Nat)) (p : Nat) : List (Nat × Nat) :=
  match rs.getLast? with
  | some z => if z.1 = p then rs.dropLast ++ [(p,z.2 + 1)] else rs ++ [(p,1)]
  | none => rs ++ [(p,1)]
def rle (ps : List Nat) : List (Nat × Nat) := ps.foldl push []
def runA (z : Nat × Nat) : AV := .tup [.str (rn z.1), .int (z.2 : Int)]
theorem qc8 (rs : List (Nat × Nat)) (p : Nat) : (push rs p).length <= rs.length + 1 := by
  unfold push
  split
  . split
    . rw [List.length_append,List.length_dropLast]; simp
    . simp
  . simp
theorem qd5 {rs : List (Nat × Nat)} {p : Nat} (h : ∀ z ∈ rs,z.1 < 3) (hp : p < 3) : ∀ z ∈ push rs p,z.1 < 3 := by
  intro z hz
  unfold push at hz
  split at hz
  . split at hz
    . rcases List.mem_append.mp hz with hz | hz
      . exact h z ((List.dropLast_subset _) hz)
      . rw [List.mem_singleton] at hz; subst hz; exact hp
    . rcases List.mem_append.mp hz with hz | hz
      . exact h z hz
      . rw [List.mem_singleton] at hz; subst hz; exact hp
  . rcases List.mem_append.mp hz with hz | hz
    . exact h z hz
    . rw [List.mem_singleton] at hz; subst hz; exact hp
theorem qcg (ps : List Nat) : ∀ acc : List (Nat × Nat),(ps.foldl push acc).length <= acc.length + ps.length := by
  induction ps with
  | nil => intro acc; exact Nat.le_refl _
  | cons p r ih =>
    intro acc
    have h1 := ih (push acc p)
    have h2 := qc8 acc p
    rw [List.foldl_cons,List.length_cons]; omega
theorem rle_lt (ps : List Nat) : ∀ acc : List (Nat × Nat),(∀ z ∈ acc,z.1 < 3) -> (∀ p ∈ ps,p < 3) -> ∀ z ∈ ps.foldl push acc,z.1 < 3 := by
  induction ps with
  | nil => intro acc h _; exact h
  | cons p r ih =>
    intro acc h hp
    exact ih _ (qd5 h (hp p List.mem_cons_self)) fun q hq => hp q (List.mem_cons_of_mem _ hq)
theorem q4e {n : Nat} (rs : List (Nat × Nat)) : q06 n (rs.map runA) = true := by
  induction rs with
  | nil => rfl
  | cons p r ih => exact ih
theorem qb2 {h : AH} {L : AV} {x : Str} {bk : List En} (hL : IsL h L (bk.map enA)) (hb : bk.length <= 100) (hk : ∀ e ∈ bk,e.ok) :
    m_qe [L, .str x] h = .ok (.lst ((rle (bk.flatMap (qw x))).map runA)) h := by
  have hlt : ∀ p ∈ bk.flatMap (qw x),p < 3 := fun p hp => by
    obtain ⟨e,he,hq⟩ := List.mem_flatMap.mp hp
    exact qc0 (hk e he) p hq
  have hrl := q53 (x := x) bk hk
  have hro : m_qb [L, .str x] (h ++ [.lst []]) = .ok (.lst (rA (bk.flatMap (qw x)))) (h ++ [.lst []]) := qb8 hL.app hb hk
  generalize bk.flatMap (qw x) = ps at hlt hrl hro
  unfold m_qe
  refine q54 (g := [.dead]) ?_ (q4e _)
  obtain ⟨env',h',q1,q2⟩ := q27 (wt := none) (all := rA ps) (g := gN 3) (body :=
    (sIf (aAnd (aTru (aVar 2)) (aB (a2 fEq (a2 fIx (a2 fIx (aVar 2) (a1 fNeg (aK (.int 1)))) (aK (.int 0))) (aVar 3))))
    (sAsg (aTup (qh (aVar 3) (qh (a2 fAdd (a2 fIx (a2 fIx (aVar 2) (a1 fNeg (aK (.int 1)))) (aK (.int 1))) (aK (.int 1))) aNil))) (q2q (aVar 2) (a1 fNeg (aK (.int 1)))))
    (q0v (aMtL q0c (aVar 2) (qh (aTup (qh (aVar 3) (qh (aK (.int 1)) aNil))) aNil))))) (k := fun p => AV.str (rn p))
    (P := fun i env g => (∃ o,env = [some L,some (.str x),some (.ref h.length),o]) /\ g = h ++ [.lst ((rle (ps.take i)).map runA)])
    (fun _ _ _ _ => q0u) ps 0 [some L,some (.str x),some (.ref h.length),none] (h ++ [.lst []]) ⟨⟨_,rfl⟩,rfl⟩ (by
      rintro j p hp env g ⟨⟨o,rfl⟩,rfl⟩
      rw [Nat.zero_add]
      have hp3 := hlt p (List.mem_of_getElem? hp)
      have tk : rle (ps.take (j + 1)) = push (rle (ps.take j)) p := by
        unfold rle; rw [List.take_add_one,hp,List.foldl_append]; rfl
      refine ⟨_,_,[some L,some (.str x),some (.ref h.length),some (.str (rn p))],h ++ [.lst ((rle (ps.take (j + 1))).map runA)],rfl, .inl ?_,⟨_,rfl⟩,rfl⟩
      rw [tk]
      have hlen := qcg (ps.take j) []
      have hl2 : (ps.take j).length <= 300 := by rw [List.length_take]; omega
      have hlt2 := rle_lt (ps.take j) [] (fun z hz => nomatch hz) fun q hq => hlt q (List.mem_of_mem_take hq)
      show _ = SRe.nx _ _
      have hq : rle (ps.take j) = (ps.take j).foldl push [] := rfl
      rw [<- hq] at hlen hlt2
      generalize rle (ps.take j) = rs at hlen hlt2
      have hsz : rs.length < sizeLine := Nat.lt_of_lt_of_le (show rs.length < 1000 by simp at hlen; omega) (by decide)
      rcases List.eq_nil_or_concat rs with rfl | ⟨r0,z,rfl⟩
      . have h0 : (0 : Nat) < sizeLine := by decide
        simp [push,runA,h0]
      . have hz3 : z.1 < 3 := hlt2 z (by simp)
        have hpu : push (r0 ++ [z]) p = if z.1 = p then r0 ++ [(p,z.2 + 1)] else r0 ++ [z] ++ [(p,1)] := by
          unfold push; simp
        rw [List.concat_eq_append] at *
        rw [hpu]
        have hl : (r0 ++ [z]).map runA = r0.map runA ++ [runA z] := by rw [List.map_append]; rfl
        have at1 : atI (r0.map runA ++ [runA z]) (-1) = some (runA z) := qbx _ _
        have a0 : atI [AV.str (rn z.1), .int (z.2 : Int)] 0 = some (.str (rn z.1)) := rfl
        have a1' : atI [AV.str (rn z.1), .int (z.2 : Int)] 1 = some (.int (z.2 : Int)) := rfl
        have hix : ixN (r0.map runA ++ [runA z]).length (-1) = some r0.length := by
          rw [show (r0.map runA ++ [runA z]).length = r0.length + 1 by simp]
          unfold ixN
          rw [if_neg (by decide),if_pos (by omega)]
          congr 1; omega
        have hset : (r0.map runA ++ [runA z]).set r0.length (AV.tup [.str (rn p), .int ((z.2 : Int) + 1)]) = r0.map runA ++ [AV.tup [.str (rn p), .int ((z.2 : Int) + 1)]] := by
          have := List.set_append_right (s := r0.map runA) (t := [runA z]) r0.length (AV.tup [.str (rn p), .int ((z.2 : Int) + 1)]) (by simp)
          rw [this]; simp
        have he : (r0.map runA ++ [runA z]).isEmpty = false := by simp
        have hsz2 : (r0.map runA ++ [runA z]).length < sizeLine := by simpa using hsz
        rw [hl]
        have iff := rn_inj z.1 hz3 p hp3
        by_cases hc : z.1 = p
        . have hr := iff.mpr hc
          rw [if_pos hc]
          have hm : (r0 ++ [(p,z.2 + 1)]).map runA = r0.map runA ++ [AV.tup [.str (rn p), .int ((z.2 : Int) + 1)]] := by
            rw [List.map_append]; simp [runA]
          rw [hm]
          generalize r0.map runA ++ [runA z] = W at at1 hix hset he hsz2
          rw [hr] at a0 a1'
          simp [he,at1,runA,a0,a1',hr,hix,hset]
        . have hr : ¬ rn z.1 = rn p := fun e => hc (iff.mp e)
          rw [if_neg hc]
          have hm : (r0 ++ [z] ++ [(p,1)]).map runA = r0.map runA ++ [runA z] ++ [AV.tup [.str (rn p), .int 1]] := by
            rw [List.map_append,List.map_append]; rfl
          rw [hm]
          generalize r0.map runA ++ [runA z] = W at at1 hix hset he hsz2
          simp [he,at1,runA,a0,a1',hr,hsz2])
  obtain ⟨⟨o,rfl⟩,rfl⟩ := q2
  rw [Nat.zero_add,List.take_length] at q1
  have hm : (ps.map fun p => AV.str (rn p)) = rA ps := rfl
  rw [hm] at q1
  show (b_qe [some L,some (.str x),none,none] h).out = _
  unfold b_qe
  rw [q02 (env' := [some L,some (.str x),some (.ref h.length),none]) (h' := h ++ [.lst []]) (by simp)]
  generalize (rle ps).map runA = rr at q1
  rw [q02 (env' := [some L,some (.str x),some (.ref h.length),o]) (h' := h ++ [.lst rr]) (by simpa [hro] using q1)]
  simp
def stA (ps : List Nat) : List AV := ps.map fun p : Nat => AV.int (p : Int)
def stg (a b c : Nat) : List Nat := List.replicate a 0 ++ List.replicate b 1 ++ List.replicate c 2
def dif (a b c : Nat) : List Nat := (if a = 0 then [] else [0]) ++ (if b = 0 then [] else [1]) ++ (if c = 0 then [] else [2])
def run3 (a b c : Nat) : List (Nat × Nat) := (if a = 0 then [] else [(0,a)]) ++ (if b = 0 then [] else [(1,b)]) ++ (if c = 0 then [] else [(2,c)])
theorem q40 (p : Nat) : ∀ (n : Nat) (rs : List (Nat × Nat)),(∀ z ∈ rs,z.1 ≠ p) -> (List.replicate n p).foldl push rs = rs ++ (if n = 0 then [] else [(p,n)])
  | 0,rs,_ => by simp
  | n + 1,rs,h => by
    rw [List.replicate_succ',List.foldl_append,q40 p n rs h]
    by_cases hn : n = 0
    . subst hn
      rw [if_pos rfl,List.append_nil]
      show push rs p = _
      unfold push
      cases hg : rs.getLast? with
      | none => simp
      | some z =>
        have : z ∈ rs := List.mem_of_getLast? hg
        dsimp only
        rw [if_neg (h z this)]; simp
    . rw [if_neg hn,if_neg (by omega)]
      show push (rs ++ [(p,n)]) p = _
      unfold push
      simp
theorem qcy (a b c : Nat) : rle (stg a b c) = run3 a b c := by
  unfold rle stg run3
  rw [List.foldl_append,List.foldl_append,q40 0 a [] (fun z hz => nomatch hz),List.nil_append,q40 1 b _ ?_,q40 2 c _ ?_]
  . intro z hz
    rcases List.mem_append.mp hz with hz | hz
    . split at hz
      . exact nomatch hz
      . rw [List.mem_singleton] at hz; subst hz; simp
    . split at hz
      . exact nomatch hz
      . rw [List.mem_singleton] at hz; subst hz; simp
  . intro z hz
    split at hz
    . exact nomatch hz
    . rw [List.mem_singleton] at hz; subst hz; simp
theorem q3s {κ : Type} [DecidableEq κ] (x : κ) : ∀ (n : Nat) (acc : List κ),(List.replicate n x).foldl meet acc = if n = 0 then acc else meet acc x
  | 0,acc => by simp
  | n + 1,acc => by
    rw [List.replicate_succ',List.foldl_append,q3s x n acc,if_neg (Nat.succ_ne_zero n)]
    show meet (if n = 0 then acc else meet acc x) x = meet acc x
    by_cases hn : n = 0
    . rw [if_pos hn]
    . rw [if_neg hn]
      unfold meet
      by_cases hx : x ∈ acc
      . simp [hx]
      . simp [hx]
theorem q8k (a b c : Nat) : srtI (metK ((stg a b c).map fun p : Nat => (p : Int))) = (dif a b c).map fun p : Nat => (p : Int) := by
  have : metK ((stg a b c).map fun p : Nat => (p : Int)) = (dif a b c).map fun p : Nat => (p : Int) := by
    unfold metK stg dif
    rw [List.map_append,List.map_append,List.foldl_append,List.foldl_append,List.map_replicate,List.map_replicate,List.map_replicate,q3s,q3s,q3s]
    by_cases ha : a = 0 <;> by_cases hb : b = 0 <;> by_cases hc : c = 0 <;> simp [ha,hb,hc,meet]
  rw [this]
  unfold dif
  by_cases ha : a = 0 <;> by_cases hb : b = 0 <;> by_cases hc : c = 0 <;> simp [ha,hb,hc,srtI,insI]
theorem qct (a b c : Nat) : (metK ((stg a b c).map fun p : Nat => (p : Int))).length < 64 := by
  have h1 := (q36 (metK ((stg a b c).map fun p : Nat => (p : Int)))).length_eq
  rw [<- h1,q8k,List.length_map]
  unfold dif
  by_cases ha : a = 0 <;> by_cases hb : b = 0 <;> by_cases hc : c = 0 <;> simp [ha,hb,hc]
def cnt (a b c p : Nat) : Nat := if p = 0 then a else if p = 1 then b else c
theorem q9u (a b c : Nat) : ∀ p : Nat,p < 3 -> q4j (.int (p : Int)) (stA (stg a b c)) = cnt a b c p := by
  intro p hp
  unfold q4j stA stg cnt
  have : p = 0 \/ p = 1 \/ p = 2 := by omega
  rcases this with rfl | rfl | rfl <;> simp [List.countP_append,List.countP_replicate,eqF]
theorem qda (a b c : Nat) : run3 a b c = (dif a b c).map fun p => (p,cnt a b c p) := by
  unfold run3 dif cnt
  by_cases ha : a = 0 <;> by_cases hb : b = 0 <;> by_cases hc : c = 0 <;> simp [ha,hb,hc]
theorem dif_lt (a b c : Nat) : ∀ p ∈ dif a b c,p < 3 := by
  unfold dif
  by_cases ha : a = 0 <;> by_cases hb : b = 0 <;> by_cases hc : c = 0 <;> simp [ha,hb,hc]
theorem qbv (ps : List Nat) : (stA ps).all q1s = true := by
  induction ps with
  | nil => rfl
  | cons p r ih => exact ih
theorem qbn (ps : List Nat) : intsOf (stA ps) = some (ps.map fun p : Nat => (p : Int)) := ints_map (fun p : Nat => (p : Int)) ps
theorem due_ok {h : AH} {k a b c : Nat} (hk : h[k]? = some (.lst (stA (stg a b c)))) (hl : (stg a b c).length <= 100) :
    m_qa [.ref k] h = .ok (.lst ((run3 a b c).map runA)) h := by
  rw [qda,List.map_map]
  have hclo : q06 h.length ((dif a b c).map (runA ∘ fun p => (p,cnt a b c p))) = true := by
    rw [<- List.map_map]; exact q4e _
  unfold m_qa
  refine q54 (g := [.dead]) ?_ hclo
  have hk2 : ∀ g,(h ++ g)[k]? = some (.lst (stA (stg a b c))) := fun g => q8y hk
  have hcn := q9u a b c
  have hfl := qbv (stg a b c)
  have hin := qbn (stg a b c)
  have hsr := q8k a b c
  have hml := qct a b c
  have hdl := dif_lt a b c
  have hd3 : (dif a b c).length <= 3 := by
    unfold dif
    by_cases ha : a = 0 <;> by_cases hb : b = 0 <;> by_cases hc : c = 0 <;> simp [ha,hb,hc]
  have hsl : ((stg a b c).map fun p : Nat => (p : Int)).length <= 1000 := by rw [List.length_map]; omega
  generalize stA (stg a b c) = SA at *
  generalize (stg a b c).map (fun p : Nat => (p : Int)) = SI at *
  generalize cnt a b c = cn at *
  generalize dif a b c = ds at *
  obtain ⟨env',h',q1,q2⟩ := q27 (wt := none) (all := ds.map fun p : Nat => AV.int (p : Int)) (g := gN 2) (body :=
    (q0v (aMtL q0c (aVar 1) (qh (aTup (qh (a2 q1a (aK (.str "r")) (aC q1i (qh (aVar 2) aNil))) (qh (aMtL q31 (aVar 0) (qh (aVar 2) aNil)) aNil))) aNil)))) (k := fun p : Nat => AV.int (p : Int))
    (P := fun i env g => (∃ o,env = [some (.ref k),some (.ref h.length),o]) /\ g = h ++ [.lst ((ds.take i).map (runA ∘ fun p => (p,cn p)))])
    (fun _ _ _ _ => q0u) ds 0 [some (.ref k),some (.ref h.length),none] (h ++ [.lst []]) ⟨⟨_,rfl⟩,rfl⟩ (by
      rintro j p hp env g ⟨⟨o,rfl⟩,rfl⟩
      rw [Nat.zero_add]
      have hp3 := hdl p (List.mem_of_getElem? hp)
      have tk : (ds.take (j + 1)).map (runA ∘ fun p => (p,cn p)) = (ds.take j).map (runA ∘ fun p => (p,cn p)) ++ [AV.tup [.str (rn p), .int (cn p : Int)]] := by
        rw [List.take_add_one,hp,List.map_append]; rfl
      refine ⟨_,_,[some (.ref k),some (.ref h.length),some (.int (p : Int))],h ++ [.lst ((ds.take (j + 1)).map (runA ∘ fun p => (p,cn p)))],rfl, .inl ?_,⟨_,rfl⟩,rfl⟩
      rw [tk]
      have hsz : ((ds.take j).map (runA ∘ fun p => (p,cn p))).length < sizeLine := Nat.lt_of_lt_of_le (show _ < 1000 by rw [List.length_map,List.length_take]; omega) (by decide)
      generalize (ds.take j).map (runA ∘ fun p => (p,cn p)) = W at hsz
      have hkW := hk2 [.lst W]
      have hl := q7n p hp3
      have hr : ("r" : Str).length + (Str.ofString (toString (p : Int))).length <= sizeLine := Nat.le_trans (q7z p hp3) (by decide)
      have hrn : ("r" : Str) ++ Str.ofString (toString (p : Int)) = rn p := rfl
      have hc := hcn p hp3
      have hne : k ≠ h.length := Nat.ne_of_lt (qas hk)
      have hr : ("r" : Str).length + (Str.ofString (Int.repr (p : Int))).length <= sizeLine := hr
      have hrn : ("r" : Str) ++ Str.ofString (Int.repr (p : Int)) = rn p := hrn
      have hF : q31 (.ref k) [.int (p : Int)] (h ++ [.lst W]) = .ok (.int (cn p : Int)) (h ++ [.lst W]) := by
        have e : q2m (h ++ [.lst W]) (.ref k) = some SA := by simp [hkW]
        unfold q31
        rw [e]
        dsimp only
        rw [hfl,hc]; rfl
      simp [-q31,hF,hkW,hl,hr,hrn,hsz])
  obtain ⟨⟨o,rfl⟩,rfl⟩ := q2
  rw [Nat.zero_add,List.take_length] at q1
  show (b_qa [some (.ref k),none,none] h).out = _
  unfold b_qa
  rw [q02 (env' := [some (.ref k),some (.ref h.length),none]) (h' := h ++ [.lst []]) (by simp)]
  have hk0 := hk2 [.lst []]
  have hq : (srtI (metK SI)).map AV.int = ds.map fun p : Nat => AV.int (p : Int) := by rw [hsr,List.map_map]; rfl
  generalize ds.map (runA ∘ fun p => (p,cn p)) = rr at q1
  have hSI : SI.length <= 1000 /\ (metK SI).length < 64 := ⟨hsl,hml⟩
  rw [q02 (env' := [some (.ref k),some (.ref h.length),o]) (h' := h ++ [.lst rr]) (by simpa [hk0,hin,hSI,hq] using q1)]
  simp
end K30
namespace K30
open PySem L2 Z PM
structure W where
  p : Int
  s : Str
  a : Nat
  b : Nat
  c : Nat
def W.st (w : W) : List Nat := stg w.a w.b w.c
def W.add (w : W) : W := if w.p = 0 then { w with a := w.a + 1 } else if w.p = 1 then { w with b := w.b + 1 } else { w with c := w.c + 1 }
structure W.ok (w : W) (m : Int) (i : Nat) : Prop where
  lo : -1 <= w.p
  hi : w.p <= m
  z0 : w.p = 0 -> w.b = 0 /\ w.c = 0
  z1 : w.p = 1 -> w.c = 0
  len : w.a + w.b + w.c <= i
theorem W.qal (w : W) : w.st.length = w.a + w.b + w.c := by simp [W.st,stg]; omega
theorem W.qa3 {w : W} {m : Int} {i : Nat} (o : w.ok m i) (hm : m <= 2) (h0 : 0 <= w.p) : w.add.st = w.st ++ [w.p.toNat] := by
  have h1 := o.hi
  have : w.p = 0 \/ w.p = 1 \/ w.p = 2 := by omega
  rcases this with h | h | h
  . obtain ⟨hb,hc⟩ := o.z0 h
    simp [W.add,W.st,stg,h,hb,hc,List.replicate_succ']
  . have hc := o.z1 h
    simp [W.add,W.st,stg,h,hc,List.replicate_succ']
  . simp [W.add,W.st,stg,h,List.replicate_succ']
theorem W.ok_add {w : W} {m : Int} {i : Nat} (o : w.ok m i) (hm : m <= 2) (h0 : 0 <= w.p) : w.add.ok m (i + 1) := by
  obtain ⟨o1,o2,o3,o4,o5⟩ := o
  unfold W.add
  split
  . rename_i h
    exact ⟨o1,o2,o3,o4,by dsimp only; omega⟩
  . split
    . rename_i h0 h
      exact ⟨o1,o2,fun z => absurd z h0,o4,by dsimp only; omega⟩
    . rename_i h0 h
      exact ⟨o1,o2,fun z => absurd z h0,fun z => absurd z h,by dsimp only; omega⟩
theorem W.q9k {w : W} {m : Int} {i : Nat} (o : w.ok m i) : w.ok m (i + 1) := ⟨o.lo,o.hi,o.z0,o.z1,Nat.le_succ_of_le o.len⟩
theorem W.add_p (w : W) : w.add.p = w.p := by unfold W.add; (repeat' split) <;> rfl
theorem W.add_s (w : W) : w.add.s = w.s := by unfold W.add; (repeat' split) <;> rfl
def q11 : Nat -> List W -> AH
  | _,[] => []
  | k,w :: r => .lst (stA w.st) :: .lst [.int w.p, .str w.s, .ref (2 + 2 * k)] :: q11 (k + 1) r
def q37 (n : Nat) : List Key := (List.range n).map fun k => .inr (wn k)
def q3a (n : Nat) : List AV := (List.range n).map fun k => .ref (3 + 2 * k)
def qt (n : Nat) : List AV := (List.range n).map fun k => .str (wn k)
def HH (n : Nat) (bk : List En) (ws : List W) : AH := .lst (bk.map enA) :: .dk (q37 n) (q3a n) :: q11 0 ws
theorem q4h : ∀ (ws : List W) (j k : Nat) (w : W),ws[k]? = some w -> (q11 j ws)[2 * k]? = some (.lst (stA w.st)) /\ (q11 j ws)[2 * k + 1]? = some (.lst [.int w.p, .str w.s, .ref (2 + 2 * (j + k))])
  | x :: r,j,0,w,h => by
    cases (show x = w by simpa using h)
    exact ⟨rfl,rfl⟩
  | x :: r,j,k + 1,w,h => by
    have := q4h r (j + 1) k w (by simpa using h)
    rw [show j + 1 + k = j + (k + 1) by omega] at this
    rw [show 2 * (k + 1) = 2 * k + 1 + 1 by omega]
    exact this
theorem q47 : ∀ (ws : List W) (j k : Nat) (w w' : W),ws[k]? = some w ->
    (w'.p = w.p -> w'.s = w.s -> (q11 j ws).set (2 * k) (.lst (stA w'.st)) = q11 j (ws.set k w')) /\
    (w'.st = w.st -> (q11 j ws).set (2 * k + 1) (.lst [.int w'.p, .str w'.s, .ref (2 + 2 * (j + k))]) = q11 j (ws.set k w'))
  | x :: r,j,0,w,w',h => by
    cases (show x = w by simpa using h)
    refine ⟨fun h1 h2 => ?_,fun h1 => ?_⟩
    . show _ = Cell.lst (stA w'.st) :: Cell.lst [.int w'.p, .str w'.s, .ref (2 + 2 * j)] :: q11 (j + 1) r
      rw [h1,h2]; rfl
    . show _ = Cell.lst (stA w'.st) :: Cell.lst [.int w'.p, .str w'.s, .ref (2 + 2 * j)] :: q11 (j + 1) r
      rw [h1]; rfl
  | x :: r,j,k + 1,w,w',h => by
    obtain ⟨q1,q2⟩ := q47 r (j + 1) k w w' (by simpa using h)
    rw [show j + 1 + k = j + (k + 1) by omega] at q2
    rw [show 2 * (k + 1) = 2 * k + 1 + 1 by omega]
    refine ⟨fun h1 h2 => ?_,fun h1 => ?_⟩
    . show Cell.lst (stA x.st) :: Cell.lst [.int x.p, .str x.s, .ref (2 + 2 * j)] :: (q11 (j + 1) r).set (2 * k) _ = _
      rw [q1 h1 h2]; rfl
    . show Cell.lst (stA x.st) :: Cell.lst [.int x.p, .str x.s, .ref (2 + 2 * j)] :: (q11 (j + 1) r).set (2 * k + 1) _ = _
      rw [q2 h1]; rfl
section
variable {n k : Nat} {bk : List En} {ws : List W} {w w' : W}
theorem g_bk : (HH n bk ws)[0]? = some (.lst (bk.map enA)) := rfl
theorem g_dk : (HH n bk ws)[1]? = some (.dk (q37 n) (q3a n)) := rfl
theorem g_st (h : ws[k]? = some w) : (HH n bk ws)[2 + 2 * k]? = some (.lst (stA w.st)) := by
  rw [show 2 + 2 * k = 2 * k + 1 + 1 by omega]; exact (q4h ws 0 k w h).1
theorem g_pl (h : ws[k]? = some w) : (HH n bk ws)[3 + 2 * k]? = some (.lst [.int w.p, .str w.s, .ref (2 + 2 * k)]) := by
  have := (q4h ws 0 k w h).2
  rw [Nat.zero_add] at this
  rw [show 3 + 2 * k = 2 * k + 1 + 1 + 1 by omega]; exact this
theorem s_bk (bk' : List En) : (HH n bk ws).set 0 (.lst (bk'.map enA)) = HH n bk' ws := rfl
theorem s_st (h : ws[k]? = some w) (h1 : w'.p = w.p) (h2 : w'.s = w.s) : (HH n bk ws).set (2 + 2 * k) (.lst (stA w'.st)) = HH n bk (ws.set k w') := by
  rw [show 2 + 2 * k = 2 * k + 1 + 1 by omega]
  show Cell.lst (bk.map enA) :: Cell.dk (q37 n) (q3a n) :: (q11 0 ws).set (2 * k) _ = _
  rw [(q47 ws 0 k w w' h).1 h1 h2]; rfl
theorem s_pl (h : ws[k]? = some w) (h1 : w'.st = w.st) : (HH n bk ws).set (3 + 2 * k) (.lst [.int w'.p, .str w'.s, .ref (2 + 2 * k)]) = HH n bk (ws.set k w') := by
  have := (q47 ws 0 k w w' h).2 h1
  rw [Nat.zero_add] at this
  rw [show 3 + 2 * k = 2 * k + 1 + 1 + 1 by omega]
  show Cell.lst (bk.map enA) :: Cell.dk (q37 n) (q3a n) :: (q11 0 ws).set (2 * k + 1) _ = _
  rw [this]; rfl
theorem dv_n : ∀ n : Nat,n <= 3 -> ∀ k : Nat,k < n -> dval (q37 n) (q3a n) (.inr (wn k)) = some (.ref (3 + 2 * k)) := by
  intro n hn k hk
  have : n = 1 \/ n = 2 \/ n = 3 := by omega
  have e : ∀ a < 3, ∀ b < 3,(wn a = wn b ↔ a = b) := qaw
  rcases this with rfl | rfl | rfl
  . obtain rfl : k = 0 := by omega
    simp [q37,q3a,List.range_succ,dval]
  . have : k = 0 \/ k = 1 := by omega
    rcases this with rfl | rfl <;> simp [q37,q3a,List.range_succ,dval,e]
  . have : k = 0 \/ k = 1 \/ k = 2 := by omega
    rcases this with rfl | rfl | rfl <;> simp [q37,q3a,List.range_succ,dval,e]
end
def q1e (bk : List En) : Nat := (bk.filter isN).length
theorem q7a {h : AH} {bk : List En} (h0 : h[0]? = some (.lst (bk.map enA))) (hb : bk.length <= 100) (hk : ∀ e ∈ bk,e.ok) : m_qc [.ref 0] h = .ok (.int (q1e bk : Int)) h := by
  have key := q5h (wt := some 0) (all := bk.map enA) (g := gN 0) (tc := aB (a2 fEq (a2 fIx (aVar 0) (aK (.int 1))) (aK (.str "night")))) (te := aVar 0) (be := [none]) (h := h) (k := enA) (f := enA) (p := isN) (q75 h0) bk [] (by
    intro e he
    refine ⟨_,rfl,?_,fun _ => rfl⟩
    cases e with
    | nt d rs =>
      have i1 : atI [AV.int d, .str "night", .tup (rs.map rowA)] 1 = some (.str "night") := rfl
      simp [enA,i1,isN]
    | ot d t rest =>
      have i1 : atI (AV.int d :: .str t :: rest) 1 = some (.str t) := q2r (j := 1) rfl
      have ht : ¬ t = ("night" : Str) := (hk _ he).1
      simp [enA,i1,ht,isN])
  have hsz : bk.length <= sizeLine := Nat.le_trans hb (by decide)
  unfold q1e
  have hl : ((bk.filter isN).map enA).length = (bk.filter isN).length := List.length_map ..
  generalize (bk.filter isN).length = N at hl
  generalize (bk.filter isN).map enA = F at key hl
  simp only [List.nil_append] at key
  have hsz' : (bk.map enA).length <= sizeLine := by rw [List.length_map]; exact hsz
  generalize bk.map enA = B at *
  simp [m_qc,b_qc,bEnv,h0,key,hsz',hl]
end K30
namespace K30
open PySem L2 Z PM
def q4b : AS :=
 (sSeq (sAsg (aLc 1 [4] (iLst (aVar 7)) (gN 0) aYes (aTup (qh (aVar 0) (qh (a2 q1a (aK (.str "r")) (aC q1i (qh (a2 fIx (a2 qz (aVar 1) (aVar 0)) (aK (.int 0))) aNil))) (qh (a2 fIx (a2 qz (aVar 1) (aVar 0)) (aK (.int 1))) (qh (aK (.int 0)) aNil)))))) (gN 8))
 (sSeq (q0v (aMtL q0c (aVar 2) (qh (aTup (qh (aC m_qc (qh (aVar 2) aNil)) (qh (aK (.str "night")) (qh (aC q7o (qh (aVar 8) aNil)) aNil)))) aNil)))
 (sFor (iLst (aVar 7)) (gN 5)
 (q0v (aMtL q0c (a2 fIx (a2 qz (aVar 4) (aVar 5)) (aK (.int 2))) (qh (a2 fIx (a2 qz (aVar 4) (aVar 5)) (aK (.int 0))) aNil))))))
def q5p : AS :=
 (sSeq (sAsg (a2 fIx (aVar 7) (a2 fMod (a2 fDiv (aVar 6) (aK (.int 3))) (aC fLen (qh (aVar 7) aNil)))) (gN 5))
 (sIf (aB (a2 fEq (a2 fMod (a2 fDiv (aVar 6) (aK (.int 9))) (aK (.int 8))) (aK (.int 7))))
 (sSeq (q0v (aMtL q0c (aVar 2) (qh (aTup (qh (aC m_qc (qh (aVar 2) aNil)) (qh (aK (.str "cut")) (qh (aVar 5) (qh (aTup (qh (aK (.int 60)) (qh (aK (.int 30)) aNil))) (qh (aK (.int 10)) aNil)))))) aNil)))
 (sAsg (a1 fNeg (aK (.int 1))) (q2q (a2 qz (aVar 4) (aVar 5)) (aK (.int 0)))))
 (sSeq (sAsg (aC q96 (qh (aVar 1) (qh (a2 fAdd (a2 fIx (a2 qz (aVar 4) (aVar 5)) (aK (.int 0))) (a2 fMod (a2 fDiv (aVar 6) (aK (.int 9))) (aK (.int 2)))) aNil))) (q2q (a2 qz (aVar 4) (aVar 5)) (aK (.int 0))))
 (sSeq (sAsg (a2 q1a (a2 fIxS (aK (.str "ab")) (a2 fMod (a2 fDiv (aVar 6) (aK (.int 18))) (aK (.int 2)))) (aC q1i (qh (a2 fIx (a2 qz (aVar 4) (aVar 5)) (aK (.int 0))) aNil))) (q2q (a2 qz (aVar 4) (aVar 5)) (aK (.int 1))))
 (q0v (aMtL q0c (aVar 2) (qh (aTup (qh (aC m_qc (qh (aVar 2) aNil)) (qh (aK (.str "move")) (qh (aVar 5) (qh (a2 fIx (a2 qz (aVar 4) (aVar 5)) (aK (.int 1))) aNil))))) aNil)))))))
def mb : AS :=
 (sSeq (sAsg (aLc 1 [4] (iLst (aVar 3)) (gN 0) (aAnd (aB (a2 fDIn (aVar 0) (aVar 1))) (aB (a2 fGe (a2 fIx (a2 qz (aVar 1) (aVar 0)) (aK (.int 0))) (aK (.int 0))))) (aVar 0)) (gN 7))
 (sIf (aOr (aB (a2 fLt (a2 fMod (aVar 6) (aK (.int 3))) (aK (.int 2)))) (aB (a2 q2y (aVar 7) (aLst aNil)))) q4b q5p))
def w0 : W := ⟨0, "",0,0,0⟩
def lyW (n : Nat) (ws : List W) : List Nat := (List.range n).filter fun k => decide (0 <= (ws.getD k w0).p)
def strN (ks : List Nat) : List AV := ks.map fun k => .str (wn k)
theorem q3e {ws : List W} {k : Nat} {w : W} (h : ws[k]? = some w) : ws.getD k w0 = w := by simp [List.getD,h]
section
variable {n : Nat} {bk : List En} {ws : List W} {m : Int} {i : Nat}
theorem q3u {k : Nat} (h : k ∈ lyW n ws) : k < n := List.mem_range.mp (List.mem_filter.mp h).1
theorem ly_p {k : Nat} {w : W} (h : k ∈ lyW n ws) (e : ws[k]? = some w) : 0 <= w.p := by
  have := (List.mem_filter.mp h).2
  rw [q3e e] at this
  simpa using this
theorem q55 : (lyW n ws).Nodup := List.nodup_range.filter _
theorem q7h (hn : n <= 3) : (lyW n ws).length <= 3 := Nat.le_trans (List.length_filter_le _ _) (by simpa using hn)
theorem at_of (hl : ws.length = n) {k : Nat} (h : k < n) : ∃ w,ws[k]? = some w := ⟨ws[k],List.getElem?_eq_getElem (by omega)⟩
theorem qba (hn : n <= 3) (hl : ws.length = n) : lcL none (qt n) (gN 0) (aAnd (aB (a2 fDIn (aVar 0) (aVar 1))) (aB (a2 fGe (a2 fIx (a2 qz (aVar 1) (aVar 0)) (aK (.int 0))) (aK (.int 0))))) (aVar 0) [none,some (.ref 1)] (qt n) [] (HH n bk ws) = .ok (strN (lyW n ws)) (HH n bk ws) := by
  have := q5h (wt := none) (all := qt n) (g := gN 0) (tc := aAnd (aB (a2 fDIn (aVar 0) (aVar 1))) (aB (a2 fGe (a2 fIx (a2 qz (aVar 1) (aVar 0)) (aK (.int 0))) (aK (.int 0))))) (te := aVar 0) (be := [none,some (.ref 1)]) (h := HH n bk ws)
    (k := fun k => AV.str (wn k)) (f := fun k => AV.str (wn k)) (p := fun k => decide (0 <= (ws.getD k w0).p)) q0u (List.range n) [] (by
      intro k hk
      have hk := List.mem_range.mp hk
      obtain ⟨w,hw⟩ := at_of hl hk
      have e1 := g_dk (n := n) (bk := bk) (ws := ws)
      have e2 := g_pl (n := n) (bk := bk) hw
      have e3 := dv_n n hn k hk
      have a0 : atI [AV.int w.p, .str w.s, .ref (2 + 2 * k)] 0 = some (.int w.p) := rfl
      rw [q3e hw]
      generalize HH n bk ws = H at *
      exact ⟨_,rfl,by simp [e1,e2,e3,a0],fun _ => rfl⟩)
  exact this
theorem qd8 (hn : n <= 3) (hl : ws.length = n) (hw : ∀ (k : Nat) (w : W),ws[k]? = some w -> w.ok m i) (hm : m <= 2) : lcL none (strN (lyW n ws)) (gN 0) aYes (aTup (qh (aVar 0) (qh (a2 q1a (aK (.str "r")) (aC q1i (qh (a2 fIx (a2 qz (aVar 1) (aVar 0)) (aK (.int 0))) aNil))) (qh (a2 fIx (a2 qz (aVar 1) (aVar 0)) (aK (.int 1))) (qh (aK (.int 0)) aNil))))) [none,some (.ref 1)] (strN (lyW n ws)) [] (HH n bk ws) =
    .ok (((lyW n ws).map fun k => (k,(ws.getD k w0).p.toNat,(ws.getD k w0).s)).map rowA) (HH n bk ws) := by
  have := q7x (wt := none) (all := strN (lyW n ws)) (g := gN 0) (te := aTup (qh (aVar 0) (qh (a2 q1a (aK (.str "r")) (aC q1i (qh (a2 fIx (a2 qz (aVar 1) (aVar 0)) (aK (.int 0))) aNil))) (qh (a2 fIx (a2 qz (aVar 1) (aVar 0)) (aK (.int 1))) (qh (aK (.int 0)) aNil))))) (be := [none,some (.ref 1)]) (h := HH n bk ws)
    (k := fun k => AV.str (wn k)) (f := fun k => rowA (k,(ws.getD k w0).p.toNat,(ws.getD k w0).s)) q0u (lyW n ws) [] (by
      intro k hk
      have hkn := q3u hk
      obtain ⟨w,hw'⟩ := at_of hl hkn
      have hp0 := ly_p hk hw'
      have hp1 := (hw k w hw').hi
      have e1 := g_dk (n := n) (bk := bk) (ws := ws)
      have e2 := g_pl (n := n) (bk := bk) hw'
      have e3 := dv_n n hn k hkn
      rw [q3e hw']
      obtain ⟨p,hp⟩ := Int.eq_ofNat_of_zero_le hp0
      have hp3 : p < 3 := by omega
      have a0 : atI [AV.int w.p, .str w.s, .ref (2 + 2 * k)] 0 = some (.int w.p) := rfl
      have a1 : atI [AV.int w.p, .str w.s, .ref (2 + 2 * k)] 1 = some (.str w.s) := rfl
      have hl := q7n p hp3
      have hr : ("r" : Str).length + (Str.ofString (Int.repr (p : Int))).length <= sizeLine := Nat.le_trans (q7z p hp3) (by decide)
      have hrn : ("r" : Str) ++ Str.ofString (Int.repr (p : Int)) = rn p := rfl
      generalize HH n bk ws = H at *
      rw [hp] at a0 a1 e2 ⊢
      exact ⟨_,rfl,by simp [e1,e2,e3,a0,a1,hl,hr,hrn,rowA]⟩)
  rw [List.nil_append] at this
  rw [List.map_map]
  exact this
def mods (l : List Nat) (ws : List W) : List W := l.foldl (fun ws k => ws.modify k W.add) ws
theorem qc7 (l : List Nat) : ∀ ws : List W,(mods l ws).length = ws.length := by
  induction l with
  | nil => intro ws; rfl
  | cons k r ih => intro ws; show (mods r (ws.modify k W.add)).length = _; rw [ih,List.length_modify]
theorem q6w (l : List Nat) : ∀ (ws : List W) (k : Nat),l.Nodup -> (mods l ws)[k]? = if k ∈ l then (ws[k]?).map W.add else ws[k]? := by
  induction l with
  | nil => intro ws k _; simp [mods]
  | cons j r ih =>
    intro ws k hn
    obtain ⟨h1,h2⟩ := List.nodup_cons.mp hn
    show (mods r (ws.modify j W.add))[k]? = _
    rw [ih _ k h2,List.getElem?_modify]
    by_cases hk : k = j
    . subst hk; simp [h1]
    . have : ¬ j = k := fun z => hk z.symm
      simp [hk,this]
theorem q9z (l : List Nat) (k : Nat) (ws : List W) : mods (l ++ [k]) ws = (mods l ws).modify k W.add := by unfold mods; rw [List.foldl_append]; rfl
theorem qc5 {v x5 x6 x8 x9 : Option AV} (hn : n <= 3) (hl : ws.length = n) (hw : ∀ (k : Nat) (w : W),ws[k]? = some w -> w.ok m i) (hm : m <= 2) (hi : i <= 70) (hb : bk.length <= 90) (hk : ∀ e ∈ bk,e.ok) :
    ∃ x5',q4b [v,some (.int m),some (.ref 0),some (.lst (qt n)),some (.ref 1),x5,x6,some (.lst (strN (lyW n ws))),x8,x9] (HH n bk ws) =
      .nx [v,some (.int m),some (.ref 0),some (.lst (qt n)),some (.ref 1),x5',x6,some (.lst (strN (lyW n ws))),some (.lst (((lyW n ws).map fun k => (k,(ws.getD k w0).p.toNat,(ws.getD k w0).s)).map rowA)),x9]
        (HH n (bk ++ [.nt (q1e bk) ((lyW n ws).map fun k => (k,(ws.getD k w0).p.toNat,(ws.getD k w0).s))]) (mods (lyW n ws) ws)) := by
  have hrow := qd8 (bk := bk) hn hl hw hm
  have hday := q7a (h := HH n bk ws) (bk := bk) g_bk (by omega) hk
  have hlk : (strN (lyW n ws)).length <= sizeLine := by
    unfold strN; rw [List.length_map]; exact Nat.le_trans (q7h hn) (by decide)
  have e0 := g_bk (n := n) (bk := bk) (ws := ws)
  have s0 := s_bk (n := n) (bk := bk) (ws := ws) (bk ++ [.nt (q1e bk) ((lyW n ws).map fun k => (k,(ws.getD k w0).p.toNat,(ws.getD k w0).s))])
  have hbl : (bk.map enA).length < sizeLine := Nat.lt_of_lt_of_le (show _ < 1000 by rw [List.length_map]; omega) (by decide)
  have happ : (bk ++ [En.nt (q1e bk) ((lyW n ws).map fun k => (k,(ws.getD k w0).p.toNat,(ws.getD k w0).s))]).map enA = bk.map enA ++ [AV.tup [.int (q1e bk), .str "night", .tup (((lyW n ws).map fun k => (k,(ws.getD k w0).p.toNat,(ws.getD k w0).s)).map rowA)]] := by
    rw [List.map_append]; rfl
  rw [happ] at s0
  generalize hR : ((lyW n ws).map fun k => (k,(ws.getD k w0).p.toNat,(ws.getD k w0).s)) = R at *
  generalize hB : bk ++ [En.nt (q1e bk) R] = bk2 at *
  obtain ⟨env',h',q1,q2⟩ := q27 (wt := none) (all := strN (lyW n ws)) (g := gN 5) (body :=
    (q0v (aMtL q0c (a2 fIx (a2 qz (aVar 4) (aVar 5)) (aK (.int 2))) (qh (a2 fIx (a2 qz (aVar 4) (aVar 5)) (aK (.int 0))) aNil)))) (k := fun k => AV.str (wn k))
    (P := fun j env g => (∃ o,env = [v,some (.int m),some (.ref 0),some (.lst (qt n)),some (.ref 1),o,x6,some (.lst (strN (lyW n ws))),some (.lst (R.map rowA)),x9]) /\ g = HH n bk2 (mods ((lyW n ws).take j) ws))
    (fun _ _ _ _ => q0u) (lyW n ws) 0 [v,some (.int m),some (.ref 0),some (.lst (qt n)),some (.ref 1),x5,x6,some (.lst (strN (lyW n ws))),some (.lst (R.map rowA)),x9] (HH n bk2 ws) ⟨⟨_,rfl⟩,rfl⟩ (by
      rintro j k hj env g ⟨⟨o,rfl⟩,rfl⟩
      rw [Nat.zero_add]
      have hkm : k ∈ lyW n ws := List.mem_of_getElem? hj
      have hkn := q3u hkm
      obtain ⟨w,hw'⟩ := at_of hl hkn
      have tk : (lyW n ws).take (j + 1) = (lyW n ws).take j ++ [k] := by rw [List.take_add_one,hj]; rfl
      have hnd := q55 (n := n) (ws := ws)
      have hni : k ∉ (lyW n ws).take j := fun z => by
        have h2 : ((lyW n ws).take (j + 1)).Nodup := hnd.sublist (List.take_sublist _ _)
        rw [tk] at h2
        exact (List.nodup_append.mp h2).2.2 k z k (by simp) rfl
      have hg : (mods ((lyW n ws).take j) ws)[k]? = some w := by
        rw [q6w _ _ _ (hnd.sublist (List.take_sublist _ _)),if_neg hni]; exact hw'
      have ok := hw k w hw'
      have hp0 := ly_p hkm hw'
      refine ⟨_,_,[v,some (.int m),some (.ref 0),some (.lst (qt n)),some (.ref 1),some (.str (wn k)),x6,some (.lst (strN (lyW n ws))),some (.lst (R.map rowA)),x9],HH n bk2 (mods ((lyW n ws).take (j + 1)) ws),rfl, .inl ?_,⟨_,rfl⟩,rfl⟩
      have hmod : mods ((lyW n ws).take (j + 1)) ws = (mods ((lyW n ws).take j) ws).set k w.add := by
        rw [tk,q9z]
        refine List.ext_getElem? fun l => ?_
        rw [List.getElem?_modify,List.getElem?_set]
        by_cases hlk : k = l
        . subst hlk
          obtain ⟨hlt,he⟩ := List.getElem?_eq_some_iff.mp hg
          simp [hlt,he]
        . simp [hlk]
      rw [hmod]
      have e1 := g_dk (n := n) (bk := bk2) (ws := mods ((lyW n ws).take j) ws)
      have e2 := g_pl (n := n) (bk := bk2) hg
      have e3 := dv_n n hn k hkn
      have e4 := g_st (n := n) (bk := bk2) hg
      have e5 := s_st (n := n) (bk := bk2) (w' := w.add) hg w.add_p w.add_s
      have hst : stA w.add.st = stA w.st ++ [.int w.p] := by
        rw [W.qa3 ok hm hp0]
        unfold stA
        rw [List.map_append,List.map_cons,List.map_nil,Int.toNat_of_nonneg hp0]
      rw [hst] at e5
      have hsl : (stA w.st).length < sizeLine := Nat.lt_of_lt_of_le (show _ < 1000 by unfold stA; rw [List.length_map,W.qal]; have := ok.len; omega) (by decide)
      have a0 : atI [AV.int w.p, .str w.s, .ref (2 + 2 * k)] 0 = some (.int w.p) := rfl
      have a2' : atI [AV.int w.p, .str w.s, .ref (2 + 2 * k)] 2 = some (.ref (2 + 2 * k)) := rfl
      generalize HH n bk2 (mods ((lyW n ws).take j) ws) = H at *
      simp [e1,e2,e3,e4,e5,a0,a2',hsl])
  obtain ⟨⟨o,rfl⟩,rfl⟩ := q2
  rw [Nat.zero_add,List.take_length] at q1
  refine ⟨o,?_⟩
  have hst : (lyW n ws).map (fun k => AV.str (wn k)) = strN (lyW n ws) := rfl
  rw [hst] at q1
  generalize strN (lyW n ws) = SN at *
  generalize hZ : HH n bk2 (mods (lyW n ws) ws) = Z at *
  generalize HH n bk2 ws = H2 at *
  generalize HH n bk ws = H at *
  generalize bk.map enA = B at *
  generalize R.map rowA = RA at *
  generalize qt n = NN at *
  unfold q4b
  rw [q02 (env' := [v,some (.int m),some (.ref 0),some (.lst NN),some (.ref 1),x5,x6,some (.lst SN),some (.lst RA),x9]) (h' := H) (by simp [bEnv,hlk,hrow])]
  rw [q02 (env' := [v,some (.int m),some (.ref 0),some (.lst NN),some (.ref 1),x5,x6,some (.lst SN),some (.lst RA),x9]) (h' := H2) (by simp [hday,e0,hbl,s0])]
  simpa using q1
end
end K30
namespace K30
open PySem L2 Z PM
section
variable {n : Nat} {bk : List En} {ws : List W} {m : Int} {i : Nat} {v x5 x7 x8 x9 : Option AV} {c : Int}
def newP (m p c : Int) : Int := if p + c / 9 % 2 < m then p + c / 9 % 2 else m
theorem newP_b {p : Int} (h0 : 0 <= p) (h1 : p <= m) : p <= newP m p c /\ newP m p c <= m := by unfold newP; split <;> omega
theorem ab_at (j : Int) : ∃ ch : Nat,atI ("ab" : Str).cps.toList (j % 2) = some ch /\ (⟨#[ch]⟩ : Str).length = 1 := by
  have : j % 2 = 0 \/ j % 2 = 1 := by omega
  rcases this with h | h <;> rw [h]
  . exact ⟨97,by decide +kernel,rfl⟩
  . exact ⟨98,by decide +kernel,rfl⟩
theorem qcq (hn : n <= 3) (hl : ws.length = n) (hw : ∀ (k : Nat) (w : W),ws[k]? = some w -> w.ok m i) (hm : m <= 2) (hb : bk.length <= 90) (hk : ∀ e ∈ bk,e.ok) (hne : lyW n ws ≠ []) :
    ∃ x5' e k w w',ws[k]? = some w /\ e.ok /\ isN e = false /\ w'.ok m i /\ w'.st = w.st /\
      q5p [v,some (.int m),some (.ref 0),some (.lst (qt n)),some (.ref 1),x5,some (.int c),some (.lst (strN (lyW n ws))),x8,x9] (HH n bk ws) =
      .nx [v,some (.int m),some (.ref 0),some (.lst (qt n)),some (.ref 1),x5',some (.int c),some (.lst (strN (lyW n ws))),x8,x9] (HH n (bk ++ [e]) (ws.set k w')) := by
  have hlen := q7h (n := n) (ws := ws) hn
  have hpos : 0 < (lyW n ws).length := List.length_pos_iff.mpr hne
  have hsl : (strN (lyW n ws)).length = (lyW n ws).length := by unfold strN; rw [List.length_map]
  obtain ⟨j,hj,hidx⟩ : ∃ j : Nat,j < (lyW n ws).length /\ c / 3 % ((strN (lyW n ws)).length : Int) = (j : Int) := by
    rw [hsl]
    have h1 := Int.emod_nonneg (c / 3) (show ((lyW n ws).length : Int) ≠ 0 by omega)
    have h2 := Int.emod_lt_of_pos (c / 3) (show (0 : Int) < ((lyW n ws).length : Int) by omega)
    exact ⟨(c / 3 % ((lyW n ws).length : Int)).toNat,by omega,by omega⟩
  have hat : atI (strN (lyW n ws)) (j : Int) = some (.str (wn (lyW n ws)[j])) := q2r (by unfold strN; rw [List.getElem?_map,List.getElem?_eq_getElem hj]; rfl)
  have hkm : (lyW n ws)[j] ∈ lyW n ws := List.getElem_mem hj
  generalize (lyW n ws)[j] = k at hat hkm
  have hkn := q3u hkm
  obtain ⟨w,hw'⟩ := at_of hl hkn
  have ok := hw k w hw'
  have hp0 := ly_p hkm hw'
  have hday := q7a (h := HH n bk ws) (bk := bk) g_bk (by omega) hk
  have hnz : 0 < (strN (lyW n ws)).length := by rw [hsl]; omega
  have e0 := g_bk (n := n) (bk := bk) (ws := ws)
  have e3 := dv_n n hn k hkn
  have hbl : (bk.map enA).length < sizeLine := Nat.lt_of_lt_of_le (show _ < 1000 by rw [List.length_map]; omega) (by decide)
  generalize strN (lyW n ws) = SN at *
  by_cases h7 : c / 9 % 8 = 7
  . let e : En := .ot (q1e bk) "cut" [.str (wn k), .tup [.int 60, .int 30], .int 10]
    let w' : W := { w with p := -1 }
    refine ⟨some (.str (wn k)),e,k,w,w',hw',⟨by decide +kernel,by simp,by simp [okDs,okD]⟩,rfl,⟨(by show (-1 : Int) <= -1; decide),?_,fun z => absurd (show (-1 : Int) = 0 from z) (by decide),fun z => absurd (show (-1 : Int) = 1 from z) (by decide),ok.len⟩,rfl,?_⟩
    . have := ok.hi; show (-1 : Int) <= m; omega
    have s0 := s_bk (n := n) (bk := bk) (ws := ws) (bk ++ [e])
    have happ : (bk ++ [e]).map enA = bk.map enA ++ [AV.tup [.int (q1e bk), .str "cut", .str (wn k), .tup [.int 60, .int 30], .int 10]] := by rw [List.map_append]; rfl
    rw [happ] at s0
    have f1 := g_dk (n := n) (bk := bk ++ [e]) (ws := ws)
    have f2 := g_pl (n := n) (bk := bk ++ [e]) hw'
    have f5 := s_pl (n := n) (bk := bk ++ [e]) (w' := w') hw' rfl
    generalize bk ++ [e] = bk2 at *
    have hset : ([AV.int w.p, .str w.s, .ref (2 + 2 * k)] : List AV).set 0 (.int (-1)) = [.int w'.p, .str w'.s, .ref (2 + 2 * k)] := rfl
    have hix : ixN ([AV.int w.p, .str w.s, .ref (2 + 2 * k)] : List AV).length 0 = some 0 := rfl
    generalize hW3 : ([AV.int w.p, .str w.s, .ref (2 + 2 * k)] : List AV) = W3 at *
    generalize HH n bk2 (ws.set k w') = Z at *
    generalize HH n bk2 ws = H2 at *
    generalize HH n bk ws = H at *
    generalize bk.map enA = B at *
    generalize qt n = NN at *
    unfold q5p
    simp [hnz,hidx,hat,h7,hday,e0,hbl,s0,f1,f2,e3,hix,hset,f5]
  . obtain ⟨b1,b2⟩ := newP_b (c := c) hp0 ok.hi
    obtain ⟨p,hp⟩ := Int.eq_ofNat_of_zero_le (Int.le_trans hp0 b1)
    have hp3 : p < 3 := by omega
    obtain ⟨ch,hch,hc1⟩ := ab_at (c / 18)
    have hs : (⟨#[ch]⟩ : Str).length + (Str.ofString (Int.repr (p : Int))).length <= sizeLine := by
      have := q7z p hp3
      have hr : ("r" : Str).length = 1 := by decide +kernel
      refine Nat.le_trans (show _ <= 1000 from ?_) (by decide)
      rw [hc1]; rw [hr] at this; exact this
    let s' : Str := (⟨#[ch]⟩ : Str) ++ Str.ofString (Int.repr (p : Int))
    let e : En := .ot (q1e bk) "move" [.str (wn k), .str s']
    let w1 : W := { w with p := (p : Int) }
    let w' : W := { w1 with s := s' }
    refine ⟨some (.str (wn k)),e,k,w,w',hw',⟨by decide +kernel,by simp,by simp [okDs,okD]⟩,rfl,⟨?_,?_,fun z => ?_,fun z => ?_,ok.len⟩,rfl,?_⟩
    . show (-1 : Int) <= (p : Int); omega
    . show (p : Int) <= m; omega
    . have z : (p : Int) = 0 := z
      exact ok.z0 (by omega)
    . have z : (p : Int) = 1 := z
      have : w.p = 0 \/ w.p = 1 := by omega
      rcases this with h | h
      . exact (ok.z0 h).2
      . exact ok.z1 h
    have f1 := g_dk (n := n) (bk := bk) (ws := ws)
    have f2 := g_pl (n := n) (bk := bk) hw'
    have f5 := s_pl (n := n) (bk := bk) (w' := w1) hw' rfl
    have hw1 : (ws.set k w1)[k]? = some w1 := List.getElem?_set_self (List.getElem?_eq_some_iff.mp hw').1
    have k1 := g_dk (n := n) (bk := bk) (ws := ws.set k w1)
    have k2 := g_pl (n := n) (bk := bk) hw1
    have k5 := s_pl (n := n) (bk := bk) (w' := w') hw1 rfl
    rw [List.set_set] at k5
    have l0 := g_bk (n := n) (bk := bk) (ws := ws.set k w')
    have l1 := g_dk (n := n) (bk := bk) (ws := ws.set k w')
    have hw2 : (ws.set k w')[k]? = some w' := List.getElem?_set_self (List.getElem?_eq_some_iff.mp hw').1
    have l2 := g_pl (n := n) (bk := bk) hw2
    have hday2 := q7a (h := HH n bk (ws.set k w')) (bk := bk) g_bk (by omega) hk
    have s0 := s_bk (n := n) (bk := bk) (ws := ws.set k w') (bk ++ [e])
    have happ : (bk ++ [e]).map enA = bk.map enA ++ [AV.tup [.int (q1e bk), .str "move", .str (wn k), .str s']] := by rw [List.map_append]; rfl
    rw [happ] at s0
    have hpn : (if w.p + c / 9 % 2 < m then w.p + c / 9 % 2 else m) = (p : Int) := hp
    have hlg := q7n p hp3
    have hab : ("ab" : Str).length <= sizeLine := by decide +kernel
    have i0 : ixN ([AV.int w.p, .str w.s, .ref (2 + 2 * k)] : List AV).length 0 = some 0 := rfl
    have i1 : ixN ([AV.int (p : Int), .str w.s, .ref (2 + 2 * k)] : List AV).length 1 = some 1 := rfl
    have hset : ([AV.int w.p, .str w.s, .ref (2 + 2 * k)] : List AV).set 0 (.int (p : Int)) = [.int w1.p, .str w1.s, .ref (2 + 2 * k)] := rfl
    have hset1 : ([AV.int (p : Int), .str w.s, .ref (2 + 2 * k)] : List AV).set 1 (.str s') = [.int w'.p, .str w'.s, .ref (2 + 2 * k)] := rfl
    have a0 : atI ([AV.int w.p, .str w.s, .ref (2 + 2 * k)] : List AV) 0 = some (.int w.p) := rfl
    have a0' : atI ([AV.int (p : Int), .str w.s, .ref (2 + 2 * k)] : List AV) 0 = some (.int (p : Int)) := rfl
    have a1' : atI [AV.int w'.p, .str w'.s, .ref (2 + 2 * k)] 1 = some (.str s') := rfl
    have k2 : (HH n bk (ws.set k w1))[3 + 2 * k]? = some (.lst [.int (p : Int), .str w.s, .ref (2 + 2 * k)]) := k2
    have hss : (⟨#[ch]⟩ : Str) ++ Str.ofString (Int.repr (p : Int)) = s' := rfl
    generalize bk ++ [e] = bk2 at *
    generalize hV0 : ([AV.int w.p, .str w.s, .ref (2 + 2 * k)] : List AV) = V0 at *
    generalize hV1 : ([AV.int (p : Int), .str w.s, .ref (2 + 2 * k)] : List AV) = V1 at *
    generalize hV2 : ([AV.int w'.p, .str w'.s, .ref (2 + 2 * k)] : List AV) = V2 at *
    generalize HH n bk2 (ws.set k w') = Z at *
    generalize HH n bk (ws.set k w') = H2 at *
    generalize HH n bk (ws.set k w1) = H1 at *
    generalize HH n bk ws = H at *
    generalize bk.map enA = B at *
    generalize qt n = NN at *
    unfold q5p
    rw [q02 (env' := [v,some (.int m),some (.ref 0),some (.lst NN),some (.ref 1),some (.str (wn k)),some (.int c),some (.lst SN),x8,x9]) (h' := H) (by simp [hnz,hidx,hat])]
    simp [h7,f1,f2,e3,a0,hpn,i0,hset,f5,k1,k2,a0',hab,hch,hlg,hs,hss,i1,hset1,k5,hday2,l0,l1,l2,a1',hbl,s0]
end
end K30
namespace K30
open PySem L2 Z PM
structure Good (n : Nat) (m : Int) (i : Nat) (bk : List En) (ws : List W) : Prop where
  hl : ws.length = n
  hw : ∀ (k : Nat) (w : W),ws[k]? = some w -> w.ok m i /\ bk.flatMap (qw (wn k)) = w.st
  hb : bk.length <= 1 + n + i
  hk : ∀ e ∈ bk,e.ok
  h9 : bk.flatMap (qw "w9") = []
theorem q7t {d : Int} {P : Nat -> Nat} {S : Nat -> Str} {k : Nat} (hk : k < 3) : ∀ (ks : List Nat),ks.Nodup -> (∀ j ∈ ks,j < 3) ->
    qw (wn k) (.nt d (ks.map fun j => (j,P j,S j))) = if k ∈ ks then [P k] else []
  | [],_,_ => rfl
  | j :: r,hn,hl => by
    obtain ⟨h1,h2⟩ := List.nodup_cons.mp hn
    have ih := q7t (d := d) (P := P) (S := S) hk r h2 fun z hz => hl z (List.mem_cons_of_mem _ hz)
    have iff := qaw j (hl j List.mem_cons_self) k hk
    have e0 : ∀ rs,qw (wn k) (.nt d rs) = (rs.filter fun z => decide (wn z.1 = wn k)).map (·.2.1) := fun _ => rfl
    rw [e0] at ih ⊢
    rw [List.map_cons,List.filter_cons]
    by_cases e : j = k
    . subst e
      have : decide (wn j = wn j) = true := decide_eq_true rfl
      rw [if_pos this,List.map_cons,ih,if_neg h1,if_pos List.mem_cons_self]
    . have : decide (wn j = wn k) = false := decide_eq_false fun z => e (iff.mp z)
      simp only [this,Bool.false_eq_true,if_false,ih]
      have : ¬ k = j := fun z => e z.symm
      simp [this]
theorem q8f {d : Int} {P : Nat -> Nat} {S : Nat -> Str} : ∀ (ks : List Nat),(∀ j ∈ ks,j < 3) -> qw "w9" (.nt d (ks.map fun j => (j,P j,S j))) = []
  | [],_ => rfl
  | j :: r,hl => by
    have ih := q8f (d := d) (P := P) (S := S) r fun z hz => hl z (List.mem_cons_of_mem _ hz)
    have ne := wn_9 j (hl j List.mem_cons_self)
    have e0 : ∀ rs,qw ("w9" : Str) (.nt d rs) = (rs.filter fun z => decide (wn z.1 = ("w9" : Str))).map (·.2.1) := fun _ => rfl
    rw [e0] at ih ⊢
    rw [List.map_cons,List.filter_cons]
    have : decide (wn j = ("w9" : Str)) = false := decide_eq_false ne
    simp only [this,Bool.false_eq_true,if_false,ih]
theorem q9h {n i : Nat} {m : Int} {bk : List En} {ws : List W} (hn : n <= 3) (hm : m <= 2) (g : Good n m i bk ws) :
    Good n m (i + 1) (bk ++ [.nt (q1e bk) ((lyW n ws).map fun k => (k,(ws.getD k w0).p.toNat,(ws.getD k w0).s))]) (mods (lyW n ws) ws) where
  hl := by rw [qc7]; exact g.hl
  hw := by
    intro k w hk
    rw [q6w _ _ _ q55] at hk
    have hkn : k < n := by
      by_cases hm' : k ∈ lyW n ws
      . exact q3u hm'
      . rw [if_neg hm'] at hk
        have := (List.getElem?_eq_some_iff.mp hk).1
        rw [g.hl] at this; exact this
    rw [List.flatMap_append,List.flatMap_singleton,q7t (by omega) _ q55 fun j hj => by have := q3u hj; omega]
    by_cases hm' : k ∈ lyW n ws
    . rw [if_pos hm'] at hk ⊢
      obtain ⟨u,hu⟩ := at_of g.hl hkn
      rw [hu] at hk
      cases hk
      obtain ⟨o,e⟩ := g.hw k u hu
      have hp := ly_p hm' hu
      refine ⟨W.ok_add o hm hp,?_⟩
      rw [e,W.qa3 o hm hp,q3e hu]
    . rw [if_neg hm'] at hk ⊢
      obtain ⟨o,e⟩ := g.hw k w hk
      exact ⟨W.q9k o,by rw [e,List.append_nil]⟩
  hb := by have := g.hb; rw [List.length_append,List.length_singleton]; omega
  hk := by
    intro e he
    rcases List.mem_append.mp he with he | he
    . exact g.hk e he
    . rw [List.mem_singleton] at he; subst he
      refine ⟨by rw [List.length_map]; exact q7h hn,fun z hz => ?_⟩
      obtain ⟨k,hk,rfl⟩ := List.mem_map.mp hz
      obtain ⟨w,hw⟩ := at_of g.hl (q3u hk)
      have := (g.hw k w hw).1.hi
      have h0 := ly_p hk hw
      show (ws.getD k w0).p.toNat < 3
      rw [q3e hw]; omega
  h9 := by
    rw [List.flatMap_append,List.flatMap_singleton,g.h9,q8f _ fun j hj => by have := q3u hj; omega]; rfl
theorem q7l {x : Str} {e : En} (h : isN e = false) : qw x e = [] := by
  cases e with
  | nt => cases h
  | ot => rfl
theorem q9t {n i k : Nat} {m : Int} {bk : List En} {ws : List W} {e : En} {w w' : W} (g : Good n m i bk ws) (hw : ws[k]? = some w) (he : e.ok) (hi : isN e = false) (ho : w'.ok m i) (hs : w'.st = w.st) :
    Good n m (i + 1) (bk ++ [e]) (ws.set k w') where
  hl := by rw [List.length_set]; exact g.hl
  hw := by
    intro j u hu
    rw [List.flatMap_append,List.flatMap_singleton,q7l hi,List.append_nil]
    rw [List.getElem?_set] at hu
    by_cases hj : k = j
    . subst hj
      have hlt := (List.getElem?_eq_some_iff.mp hw).1
      rw [if_pos rfl,if_pos hlt] at hu
      cases hu
      exact ⟨W.q9k ho,by rw [(g.hw k w hw).2,hs]⟩
    . rw [if_neg hj] at hu
      exact ⟨W.q9k (g.hw j u hu).1,(g.hw j u hu).2⟩
  hb := by have := g.hb; rw [List.length_append,List.length_singleton]; omega
  hk := by
    intro z hz
    rcases List.mem_append.mp hz with hz | hz
    . exact g.hk z hz
    . rw [List.mem_singleton] at hz; subst hz; exact he
  h9 := by rw [List.flatMap_append,List.flatMap_singleton,g.h9,q7l hi]; rfl
def Jx (n : Nat) (m : Int) (v : Option AV) (i : Nat) (env : AEnv) (h : AH) : Prop := ∃ ws bk x5 x6 x7 x8,Good n m i bk ws /\ env = [v,some (.int m),some (.ref 0),some (.lst (qt n)),some (.ref 1),x5,x6,x7,x8,none] /\ h = HH n bk ws
theorem step {n i : Nat} {m : Int} {v : Option AV} {c : Int} (hn : n <= 3) (hm : m <= 2) (hi : i <= 64) {env : AEnv} {h : AH} (j : Jx n m v i env h) :
    ∃ e1 h1 e2 h2,gN 6 (.int c) env h = .ok e1 h1 /\ (mb e1 h1 = .nx e2 h2 \/ mb e1 h1 = .ct e2 h2) /\ Jx n m v (i + 1) e2 h2 := by
  obtain ⟨ws,bk,x5,x6,x7,x8,g,rfl,rfl⟩ := j
  have hb : bk.length <= 90 := by have := g.hb; omega
  have hly := qba (bk := bk) hn g.hl
  have hlen : (strN (lyW n ws)).length = (lyW n ws).length := by unfold strN; rw [List.length_map]
  have hnn : (qt n).length <= sizeLine := by unfold qt; rw [List.length_map,List.length_range]; exact Nat.le_trans hn (by decide)
  have hws : ∀ (k : Nat) (w : W),ws[k]? = some w -> w.ok m i := fun k w e => (g.hw k w e).1
  suffices hh : ∃ e2 h2,(sIf (aOr (aB (a2 fLt (a2 fMod (aVar 6) (aK (.int 3))) (aK (.int 2)))) (aB (a2 q2y (aVar 7) (aLst aNil)))) q4b q5p) [v,some (.int m),some (.ref 0),some (.lst (qt n)),some (.ref 1),x5,some (.int c),some (.lst (strN (lyW n ws))),x8,none] (HH n bk ws) = .nx e2 h2 /\ Jx n m v (i + 1) e2 h2 by
    obtain ⟨e2,h2,q1,q2⟩ := hh
    refine ⟨_,_,e2,h2,rfl, .inl ?_,q2⟩
    unfold mb
    show sSeq _ _ [v,some (.int m),some (.ref 0),some (.lst (qt n)),some (.ref 1),x5,some (.int c),x7,x8,none] (HH n bk ws) = _
    generalize HH n bk ws = H at *
    generalize qt n = NN at *
    generalize strN (lyW n ws) = SN at *
    rw [q02 (env' := [v,some (.int m),some (.ref 0),some (.lst NN),some (.ref 1),x5,some (.int c),some (.lst SN),x8,none]) (h' := H) (by simp [bEnv,hnn,hly])]
    exact q1
  have goN : ∃ e2 h2,q4b [v,some (.int m),some (.ref 0),some (.lst (qt n)),some (.ref 1),x5,some (.int c),some (.lst (strN (lyW n ws))),x8,none] (HH n bk ws) = .nx e2 h2 /\ Jx n m v (i + 1) e2 h2 := by
    obtain ⟨x5',q⟩ := qc5 (v := v) (x5 := x5) (x6 := some (.int c)) (x8 := x8) (x9 := none) hn g.hl hws hm (by omega) hb g.hk
    exact ⟨_,_,q,_,_,x5',_,_,_,q9h hn hm g,rfl,rfl⟩
  by_cases hc : c % 3 < 2
  . obtain ⟨e2,h2,q1,q2⟩ := goN
    refine ⟨e2,h2,?_,q2⟩
    rw [<- q1]
    simp [hc]
  . by_cases he : lyW n ws = []
    . obtain ⟨e2,h2,q1,q2⟩ := goN
      refine ⟨e2,h2,?_,q2⟩
      rw [<- q1]
      have : (strN (lyW n ws)).isEmpty = true := by rw [he]; rfl
      generalize strN (lyW n ws) = SN at *
      simp only [sIf,aOr,aB,a2,aVar,aK,fLt,fMod,q2y,aLst,aNil]
      simp [hc,this]
    . obtain ⟨x5',e,k,w,w',q1,q2,q3,q4,q5,q6⟩ := qcq (v := v) (x5 := x5) (x8 := x8) (x9 := none) (c := c) hn g.hl hws hm hb g.hk he
      refine ⟨_,_,q6 ▸ ?_,_,_,x5',some (.int c),some (.lst (strN (lyW n ws))),x8,q9t g q1 q2 q3 q4 q5,rfl,rfl⟩
      have : (strN (lyW n ws)).isEmpty = false := by
        rw [List.isEmpty_eq_false_iff]
        intro z
        have := congrArg List.length z
        rw [hlen] at this
        exact he (List.length_eq_zero_iff.mp this)
      generalize strN (lyW n ws) = SN at *
      simp only [sIf,aOr,aB,a2,aVar,aK,fLt,fMod,q2y,aLst,aNil]
      simp [hc,this]
end K30
namespace K30
open PySem L2 Z PM
def b0 : En := .ot 0 "batch" [.str "m", .tup [.tup [.str "f", .int 900]]]
def wE (k : Nat) : En := .ot 0 "wheel" [.str (wn k), .str "m", .str "kind", .str "a0", .int 100]
def bk0 (n : Nat) : List En := b0 :: (List.range n).map wE
def ws0 (n : Nat) : List W := List.replicate n ⟨0, "a0",0,0,0⟩
theorem good0 : ∀ n : Nat,n <= 3 -> ∀ m : Int,0 <= m -> Good n m 0 (bk0 n) (ws0 n) := by
  intro n hn m hm
  have ht : ("wheel" : Str) ≠ "night" := by decide +kernel
  have hb : ("batch" : Str) ≠ "night" := by decide +kernel
  have hf : ∀ x : Str,(bk0 n).flatMap (qw x) = [] := by
    intro x
    unfold bk0
    rw [List.flatMap_cons]
    show [] ++ _ = []
    rw [List.nil_append,List.flatMap_eq_nil_iff]
    intro e he
    obtain ⟨k,_,rfl⟩ := List.mem_map.mp he
    rfl
  refine ⟨by simp [ws0],fun k w hk => ?_,by simp [bk0]; omega,fun e he => ?_,hf _⟩
  . have : w = ⟨0, "a0",0,0,0⟩ := by
      have := List.mem_of_getElem? hk
      exact List.eq_of_mem_replicate this
    subst this
    exact ⟨⟨by decide,hm,fun _ => ⟨rfl,rfl⟩,fun _ => rfl,Nat.zero_le _⟩,hf _⟩
  . unfold bk0 at he
    rcases List.mem_cons.mp he with rfl | he
    . exact ⟨hb,by decide,by simp [okDs,okD]⟩
    . obtain ⟨k,_,rfl⟩ := List.mem_map.mp he
      exact ⟨ht,by simp,by simp [okDs,okD]⟩
theorem okE {e : En} (h : e.ok) : okD 4 (enA e) = true := by
  cases e with
  | nt d rs =>
    have hr : okDs 2 (rs.map rowA) = true := q4p fun x hx => by
      obtain ⟨z,_,rfl⟩ := List.mem_map.mp hx
      simp [rowA,okD,okDs]
    have hl : (rs.map rowA).length <= 100000 := by rw [List.length_map]; have := h.1; omega
    show okD 4 (.tup [.int d, .str "night", .tup (rs.map rowA)]) = true
    generalize rs.map rowA = R at *
    simp [okD,okDs,hr,hl]
  | ot d t rest =>
    have h1 := h.2.1
    have h2 := h.2.2
    have hl : rest.length + 1 + 1 <= 100000 := by omega
    simp [enA,okD,okDs,h2,hl]
theorem okB {bk : List En} (h : ∀ e ∈ bk,e.ok) : okDs 4 (bk.map enA) = true := q4p fun x hx => by
  obtain ⟨e,he,rfl⟩ := List.mem_map.mp hx
  exact okE (h e he)
theorem okR (rs : List (Nat × Nat)) : okDs 4 (rs.map runA) = true := q4p fun x hx => by
  obtain ⟨e,he,rfl⟩ := List.mem_map.mp hx
  simp [runA,okD,okDs]
theorem cut2 (ns : List Int) : cutA (ns.map AV.int) (some 2) none = (ns.drop 2).map AV.int := by
  unfold cutA
  have h1 : HT.sIx (ns.map AV.int).length 0 (some 2) = min 2 (ns.map AV.int).length := HT.qcf _ _ 2
  rw [h1,HT.qb9,List.length_map]
  by_cases h : 2 <= ns.length
  . rw [Nat.min_eq_left h,List.take_of_length_le (by simp),List.map_drop]
  . rw [Nat.min_eq_right (by omega)]
    have e1 : (ns.map AV.int).drop ns.length = [] := List.drop_eq_nil_of_le (by simp)
    have e2 : ns.drop 2 = [] := List.drop_eq_nil_of_le (by omega)
    rw [e1,e2]; simp
def furn : AS :=
 (sSeq (sAsg (q2b (qh (aTup (qh (aK (.int 0)) (qh (aK (.str "batch")) (qh (aK (.str "m")) (qh (aTup (qh (aTup (qh (aK (.str "f")) (qh (aK (.int 900)) aNil))) aNil)) aNil))))) aNil)) (gN 2))
 (sSeq (sAsg (aLc 1 [] (q4k (a2 fAdd (aK (.int 1)) (a2 fMod (aC m_qd (qh (aVar 0) (qh (aK (.int 1)) aNil))) (aK (.int 3))))) (gN 0) aYes (a2 q1a (aK (.str "w")) (aC q1i (qh (aVar 0) aNil)))) (gN 3))
 (sSeq (sAsg q7p (gN 4))
 (sFor (iLst (aVar 3)) (gN 5)
 (sSeq (q0v (aMtL q0c (aVar 2) (qh (aTup (qh (aK (.int 0)) (qh (aK (.str "wheel")) (qh (aVar 5) (qh (aK (.str "m")) (qh (aK (.str "kind")) (qh (aK (.str "a0")) (qh (aK (.int 100)) aNil)))))))) aNil)))
 (q7w (aVar 4) (aVar 5) (q2b (qh (aK (.int 0)) (qh (aK (.str "a0")) (qh (q2b aNil) aNil))))))))))
theorem qcn {v : AV} {m q : Int} (c1 : ∀ h,m_qd [v, .int 1] h = .ok (.int q) h) : ∃ n x5,1 <= n /\ n <= 3 /\
    furn [some v,some (.int m),none,none,none,none,none,none,none,none] [] = .nx [some v,some (.int m),some (.ref 0),some (.lst (qt n)),some (.ref 1),x5,none,none,none,none] (HH n (bk0 n) (ws0 n)) := by
  have hq : q % 3 = 0 \/ q % 3 = 1 \/ q % 3 = 2 := by omega
  have r1 : ∀ h,rng1 (.int 1) h = .ok ([AV.int 0],none) h := fun h => rfl
  have r2 : ∀ h,rng1 (.int 2) h = .ok ([AV.int 0,AV.int 1],none) h := fun h => rfl
  have r3 : ∀ h,rng1 (.int 3) h = .ok ([AV.int 0,AV.int 1,AV.int 2],none) h := fun h => rfl
  have z3 : (3 : Nat) <= sizeLine := by decide
  have z2 : (2 : Nat) <= sizeLine := by decide
  have z1 : (1 : Nat) <= sizeLine := by decide
  rcases hq with h | h | h
  . refine ⟨1,some (.str (wn 0)),by decide,by decide,?_⟩
    have key : ∀ g,lcL none [AV.int 0] (gN 0) aYes (a2 q1a (aK (.str "w")) (aC q1i (qh (aVar 0) aNil))) [none] [AV.int 0] [] g = .ok (qt 1) g := fun g => rfl
    unfold furn
    rw [q02 (env' := [some v,some (.int m),some (.ref 0),none,none,none,none,none,none,none]) (h' := [.lst [enA b0]]) (by simp; rfl)]
    generalize hB : [Cell.lst [enA b0]] = B
    rw [q02 (env' := [some v,some (.int m),some (.ref 0),some (.lst (qt 1)),none,none,none,none,none,none]) (h' := B) (by simp [bEnv,c1,h,r1,z1,key])]
    subst hB
    rfl
  . refine ⟨2,some (.str (wn 1)),by decide,by decide,?_⟩
    have key : ∀ g,lcL none [AV.int 0,AV.int 1] (gN 0) aYes (a2 q1a (aK (.str "w")) (aC q1i (qh (aVar 0) aNil))) [none] [AV.int 0,AV.int 1] [] g = .ok (qt 2) g := fun g => rfl
    unfold furn
    rw [q02 (env' := [some v,some (.int m),some (.ref 0),none,none,none,none,none,none,none]) (h' := [.lst [enA b0]]) (by simp; rfl)]
    generalize hB : [Cell.lst [enA b0]] = B
    rw [q02 (env' := [some v,some (.int m),some (.ref 0),some (.lst (qt 2)),none,none,none,none,none,none]) (h' := B) (by simp [bEnv,c1,h,r2,z2,key])]
    subst hB
    rfl
  . refine ⟨3,some (.str (wn 2)),by decide,by decide,?_⟩
    have key : ∀ g,lcL none [AV.int 0,AV.int 1,AV.int 2] (gN 0) aYes (a2 q1a (aK (.str "w")) (aC q1i (qh (aVar 0) aNil))) [none] [AV.int 0,AV.int 1,AV.int 2] [] g = .ok (qt 3) g := fun g => rfl
    unfold furn
    rw [q02 (env' := [some v,some (.int m),some (.ref 0),none,none,none,none,none,none,none]) (h' := [.lst [enA b0]]) (by simp; rfl)]
    generalize hB : [Cell.lst [enA b0]] = B
    rw [q02 (env' := [some v,some (.int m),some (.ref 0),some (.lst (qt 3)),none,none,none,none,none,none]) (h' := B) (by simp [bEnv,c1,h,r3,z3,key])]
    subst hB
    rfl
def endS : AS :=
 (sSeq (sAsg (aC q91 (qh (aVar 2) aNil)) (gN 9))
 (sSeq (sFor (iLst (aVar 3)) (gN 5)
 (sIf (aNot (aB (aC (m_q0 6) (qh (aC m_qe (qh (aVar 9) (qh (aVar 5) aNil))) (qh (aC m_qa (qh (a2 fIx (a2 qz (aVar 4) (aVar 5)) (aK (.int 2))) aNil)) aNil)))))
 (sRet (aK (.bl false)))
 q2l))
 (sRet (q3q (aC (m_q0 6) (qh (aVar 9) (qh (aVar 2) aNil))) (aC (m_q0 6) (qh (aC m_qe (qh (aVar 9) (qh (aK (.str "w9")) aNil))) (qh (aLst aNil) aNil)))))))
theorem end_ok {n i : Nat} {m : Int} {v x5 x6 x7 x8 : Option AV} {bk : List En} {ws : List W} (hn : n <= 3) (hi : i <= 64) (g : Good n m i bk ws) :
    ∃ h2,endS [v,some (.int m),some (.ref 0),some (.lst (qt n)),some (.ref 1),x5,x6,x7,x8,none] (HH n bk ws) = .rt (.bl true) h2 := by
  have hb : bk.length <= 100 := by have := g.hb; omega
  have hl : ∀ x,m_qe [.lst (bk.map enA), .str x] (HH n bk ws) = .ok (.lst ((rle (bk.flatMap (qw x))).map runA)) (HH n bk ws) := fun x => qb2 (.inl rfl) hb g.hk
  have e0 := g_bk (n := n) (bk := bk) (ws := ws)
  have hbl : (bk.map enA).length <= 100000 := by rw [List.length_map]; omega
  have same1 : m_q0 6 [.lst (bk.map enA), .ref 0] (HH n bk ws) = .ok (.bl true) (HH n bk ws) := q5v (n := 4) hbl (.inl rfl) (.inr ⟨0,rfl,e0⟩) (okB g.hk)
  have hl9 := hl "w9"
  rw [g.h9] at hl9
  have same2 : m_q0 6 [.lst [], .lst []] (HH n bk ws) = .ok (.bl true) (HH n bk ws) := q5v (n := 4) (xs := []) (by simp) (.inl rfl) (.inl rfl) rfl
  have hl9 : m_qe [.lst (bk.map enA), .str "w9"] (HH n bk ws) = .ok (.lst []) (HH n bk ws) := hl9
  obtain ⟨env',h',q1,q2⟩ := q27 (wt := none) (all := qt n) (g := gN 5) (body :=
    (sIf (aNot (aB (aC (m_q0 6) (qh (aC m_qe (qh (aVar 9) (qh (aVar 5) aNil))) (qh (aC m_qa (qh (a2 fIx (a2 qz (aVar 4) (aVar 5)) (aK (.int 2))) aNil)) aNil)))))
    (sRet (aK (.bl false)))
    q2l)) (k := fun k => AV.str (wn k))
    (P := fun j env h => (∃ o,env = [v,some (.int m),some (.ref 0),some (.lst (qt n)),some (.ref 1),o,x6,x7,x8,some (.lst (bk.map enA))]) /\ h = HH n bk ws)
    (fun _ _ _ _ => q0u) (List.range n) 0 [v,some (.int m),some (.ref 0),some (.lst (qt n)),some (.ref 1),x5,x6,x7,x8,some (.lst (bk.map enA))] (HH n bk ws) ⟨⟨_,rfl⟩,rfl⟩ (by
      rintro j k hj env h ⟨⟨o,rfl⟩,rfl⟩
      have hk : k < n := List.mem_range.mp (List.mem_of_getElem? hj)
      obtain ⟨w,hw⟩ := at_of g.hl hk
      obtain ⟨o1,o2⟩ := g.hw k w hw
      have e1 := g_dk (n := n) (bk := bk) (ws := ws)
      have e2 := g_pl (n := n) (bk := bk) hw
      have e3 := dv_n n hn k hk
      have e4 := g_st (n := n) (bk := bk) hw
      have hlk := hl (wn k)
      rw [o2] at hlk
      have hst : w.st = stg w.a w.b w.c := rfl
      rw [hst,qcy] at hlk
      have hd : m_qa [.ref (2 + 2 * k)] (HH n bk ws) = .ok (.lst ((run3 w.a w.b w.c).map runA)) (HH n bk ws) := due_ok e4 (by have := W.qal w; rw [hst] at this; rw [this]; have := o1.len; omega)
      have hrl : ((run3 w.a w.b w.c).map runA).length <= 100000 := by
        rw [List.length_map]
        unfold run3
        by_cases ha : w.a = 0 <;> by_cases hb : w.b = 0 <;> by_cases hc : w.c = 0 <;> simp [ha,hb,hc]
      have hs : m_q0 6 [.lst ((run3 w.a w.b w.c).map runA), .lst ((run3 w.a w.b w.c).map runA)] (HH n bk ws) = .ok (.bl true) (HH n bk ws) := q5v (n := 4) hrl (.inl rfl) (.inl rfl) (okR _)
      refine ⟨_,_,[v,some (.int m),some (.ref 0),some (.lst (qt n)),some (.ref 1),some (.str (wn k)),x6,x7,x8,some (.lst (bk.map enA))],HH n bk ws,rfl, .inl ?_,⟨_,rfl⟩,rfl⟩
      have a2' : atI [AV.int w.p, .str w.s, .ref (2 + 2 * k)] 2 = some (.ref (2 + 2 * k)) := rfl
      generalize (run3 w.a w.b w.c).map runA = RR at *
      generalize HH n bk ws = H at *
      generalize bk.map enA = B at *
      simp [hlk,e1,e2,e3,a2',hd,hs])
  obtain ⟨⟨o,rfl⟩,rfl⟩ := q2
  have hnm : (List.range n).map (fun k => AV.str (wn k)) = qt n := rfl
  rw [hnm] at q1
  generalize HH n bk ws = H at *
  generalize bk.map enA = B at *
  generalize qt n = NN at *
  refine ⟨H,?_⟩
  unfold endS
  rw [q02 (env' := [v,some (.int m),some (.ref 0),some (.lst NN),some (.ref 1),x5,x6,x7,x8,some (.lst B)]) (h' := H) (by simp [e0])]
  rw [q02 (env' := [v,some (.int m),some (.ref 0),some (.lst NN),some (.ref 1),o,x6,x7,x8,some (.lst B)]) (h' := H) (by simpa using q1)]
  simp [same1,same2,hl9]
theorem law_true : ∀ ns : List Int,ns.length <= 63 -> ∃ h,m_law [.kst (ns.map AV.int)] [] = .ok (.bl true) h := by
  intro ns hl
  have c0 : ∀ h,m_qd [.kst (ns.map AV.int), .int 0] h = .ok (.int (cz ns 0)) h := fun h => at_ok ns 0 h
  have c1 : ∀ h,m_qd [.kst (ns.map AV.int), .int 1] h = .ok (.int (cz ns 1)) h := fun h => at_ok ns 1 h
  obtain ⟨n,x5,hn1,hn,hf⟩ := qcn (m := cz ns 0 % 3) c1
  have hm0 : 0 <= cz ns 0 % 3 := by omega
  have hm2 : cz ns 0 % 3 <= 2 := by omega
  have hcut := cut2 ns
  obtain ⟨env',h',q1,q2⟩ := q27 (wt := none) (all := (ns.drop 2).map AV.int) (g := gN 6) (body := mb) (k := AV.int) (P := fun i env h => Jx n (cz ns 0 % 3) (some (.kst (ns.map AV.int))) i env h)
    (fun _ _ _ _ => q0u) (ns.drop 2) 0 [some (.kst (ns.map AV.int)),some (.int (cz ns 0 % 3)),some (.ref 0),some (.lst (qt n)),some (.ref 1),x5,none,none,none,none] (HH n (bk0 n) (ws0 n)) ⟨_,_,_,_,_,_,good0 n hn _ hm0,rfl,rfl⟩ (by
      intro j y hj env h hp
      rw [Nat.zero_add] at hp ⊢
      have hj' : j < 64 := by have := (List.getElem?_eq_some_iff.mp hj).1; simp at this; omega
      exact step hn hm2 (by omega) hp)
  obtain ⟨ws,bk,y5,y6,y7,y8,g,rfl,rfl⟩ := q2
  obtain ⟨h2,q3⟩ := end_ok (v := some (.kst (ns.map AV.int))) (x5 := y5) (x6 := y6) (x7 := y7) (x8 := y8) hn (by simp; omega) g
  refine ⟨h2,?_⟩
  show (sSeq (sAsg (a2 fMod (aC m_qd (qh (aVar 0) (qh (aK (.int 0)) aNil))) (aK (.int 3))) (gN 1)) (sSeq _ (sSeq _ (sSeq _ (sSeq _ (sSeq (sFor (iLst (aSl fSlL (aVar 0) (q6s (aK (.int 2))) q6v)) (gN 6) mb) endS))))) [some (.kst (ns.map AV.int)),none,none,none,none,none,none,none,none,none] []).out = _
  unfold furn at hf
  generalize HH n (bk0 n) (ws0 n) = H0 at *
  generalize HH n bk ws = H at *
  generalize qt n = NN at *
  rw [q02 (env' := [some (.kst (ns.map AV.int)),some (.int (cz ns 0 % 3)),none,none,none,none,none,none,none,none]) (h' := []) (by simp [c0])]
  rw [q99 hf]
  rw [q02 (env' := [some (.kst (ns.map AV.int)),some (.int (cz ns 0 % 3)),some (.ref 0),some (.lst NN),some (.ref 1),y5,y6,y7,y8,none]) (h' := H) (by simp only [sFor,iLst,aSl,fSlL,aVar,q6s,q6v,aK]; simp [hcut]; simpa using q1)]
  rw [q3]; rfl
end K30
namespace K30
open PySem L2 Z PM
def top (i : Nat) : Stmt := PySem.Challenge.pw_curdcellar_k30_lyings.main.body.getD i (.Pass ⟨0,0,0,0⟩)
abbrev s_qb : Stmt := top 1
abbrev s_qe : Stmt := top 2
abbrev s_qd : Stmt := top 4
abbrev s_q0 : Stmt := top 5
abbrev s_qa : Stmt := top 6
abbrev s_qc : Stmt := top 7
abbrev q1r : Stmt := top 8
structure Adr where
  a_qb : Addr
  fd_qb : FuncData
  a_qe : Addr
  fd_qe : FuncData
  a_qd : Addr
  fd_qd : FuncData
  a_q0 : Addr
  fd_q0 : FuncData
  a_qa : Addr
  fd_qa : FuncData
  a_qc : Addr
  fd_qc : FuncData
  a_law : Addr
  fd_law : FuncData
structure Txt (K : W.Frag) (mg : Str -> Option Value) (A : Adr) : Prop where
  F_qb : Fun K "rooms_by_night" "rooms_by_night" s_qb A.a_qb A.fd_qb
  d_qb : mg "rooms_by_night" = some (.ref A.a_qb)
  b_qb : Binds K A.fd_qb ["book", "wheel"] []
  F_qe : Fun K "lyings" "lyings" s_qe A.a_qe A.fd_qe
  d_qe : mg "lyings" = some (.ref A.a_qe)
  b_qe : Binds K A.fd_qe ["book", "wheel"] []
  F_qd : Fun K "_law_at" "_law_at" s_qd A.a_qd A.fd_qd
  d_qd : mg "_law_at" = some (.ref A.a_qd)
  b_qd : Binds K A.fd_qd ["_law_script", "_law_k"] []
  F_q0 : Fun K "_law_same" "_law_same" s_q0 A.a_q0 A.fd_q0
  d_q0 : mg "_law_same" = some (.ref A.a_q0)
  b_q0 : Binds K A.fd_q0 ["_law_found", "_law_due"] []
  F_qa : Fun K "_law_nights_due" "_law_nights_due" s_qa A.a_qa A.fd_qa
  d_qa : mg "_law_nights_due" = some (.ref A.a_qa)
  b_qa : Binds K A.fd_qa ["_law_stages"] []
  F_qc : Fun K "_law_day_of" "_law_day_of" s_qc A.a_qc A.fd_qc
  d_qc : mg "_law_day_of" = some (.ref A.a_qc)
  b_qc : Binds K A.fd_qc ["_law_book"] []
  F_law : Fun K "law" "law" q1r A.a_law A.fd_law
  d_law : mg "law" = some (.ref A.a_law)
  b_law : Binds K A.fd_law ["_law_script"] []
  n_len : mg "len" = none
  n_all : mg "all" = none
  n_min : mg "min" = none
  n_range : mg "range" = none
  n_int : mg "int" = none
  n_bool : mg "bool" = none
  n_str : mg "str" = none
  n_list : mg "list" = none
  n_tuple : mg "tuple" = none
  n_isinstance : mg "isinstance" = none
  n_sorted : mg "sorted" = none
  n_set : mg "set" = none
theorem sc_qb : q15 ["book", "wheel", "rooms", "entry"] ["book", "wheel"] (qr s_qb) := ⟨rfl,rfl,rfl,by decide +kernel,rfl,by decide +kernel,by decide +kernel⟩
theorem sc_qe : q15 ["book", "wheel", "runs", "room"] ["book", "wheel"] (qr s_qe) := ⟨rfl,rfl,rfl,by decide +kernel,rfl,by decide +kernel,by decide +kernel⟩
theorem sc_qd : q15 ["_law_script", "_law_k"] ["_law_script", "_law_k"] (qr s_qd) := ⟨rfl,rfl,rfl,by decide +kernel,rfl,by decide +kernel,by decide +kernel⟩
theorem sc_q0 : q15 ["_law_found", "_law_due", "_law_alike"] ["_law_found", "_law_due"] (qr s_q0) := ⟨rfl,rfl,rfl,by decide +kernel,rfl,by decide +kernel,by decide +kernel⟩
theorem sc_qa : q15 ["_law_stages", "_law_due", "_law_place"] ["_law_stages"] (qr s_qa) := ⟨rfl,rfl,rfl,by decide +kernel,rfl,by decide +kernel,by decide +kernel⟩
theorem sc_qc : q15 ["_law_book"] ["_law_book"] (qr s_qc) := ⟨rfl,rfl,rfl,by decide +kernel,rfl,by decide +kernel,by decide +kernel⟩
theorem qb4 : q15 ["_law_script", "_law_most", "_law_book", "_law_wheels", "_law_places", "_law_wheel", "_law_cell", "_law_lying", "_law_rows", "_law_handed"] ["_law_script"] (qr q1r) := ⟨rfl,rfl,rfl,by decide +kernel,rfl,by decide +kernel,by decide +kernel⟩
def clT (A : Adr) : Nat -> Addr := fun _ => 0
def fnT : Nat -> Str := fun _ => ""
theorem injT (c i j : Nat) (hi : i ∈ flT c) (hj : j ∈ flT c) (e : fnT i = fnT j) : i = j := by
  have all : ∀ i ∈ ([] : List Nat), ∀ j ∈ ([] : List Nat),fnT i = fnT j -> i = j := by decide +kernel
  have lt : ∀ c i,i ∈ flT c -> i ∈ ([] : List Nat) := by
    intro c i h
    unfold flT at h
    split at h <;> simp at h ⊢ <;> omega
  exact all i (lt c i hi) j (lt c j hj) e
section
variable {P : Program} {w : World} {K : W.Frag} {mg : Str -> Option Value} {base : Heap} {A : Adr}
theorem fldT (T : Txt K mg A) (c i : Nat) (h : i ∈ flT c) : Cls K (clT A c) /\ qay K (clT A c) (fnT i) := by
  cases h
def ctOf (T : Txt K mg A) : Ct := ⟨K,clT A,fnT,flT,injT,fldT T,flG,none⟩
theorem z_qb (T : Txt K mg A) : FnOk P w K mg base (CX1 P w) 1 A.a_qb A.fd_qb ["book", "wheel"] (spZ (ctOf T) 2 m_qb) := by
  refine FnOk.imp (T.F_qb.okR sc_qb (fun vs H Q E h => q25 h) (fun cdv A' outer s H vs Q E hr h => ?_)) (fun vs H Q E h => q51 h)
  have nd := sc_qb.nd
  have hu := q3b hr
  exact ⟨_,(qu (q22 (i := 2) nd rfl (Or.inl rfl) (q2h ql))
 (qu (q2v PassesOwn.leaving rfl (q1g (pv 0)) (q0b (i := 3) nd rfl (Or.inl rfl))
 (qy (q34 (q17 q2c (q0j q0t (pv 3) qp (fun _ _ => rfl)) q0g (q0n _))
 (qy (q1w (q2p PySem.F.plainAttrs_list PySem.F.slot_list_extend PySem.F.type_list_extend q9o (pv 2) (qi (q9m (osc := qr s_qb) (N0 := ["book", "wheel", "rooms", "entry"]) rfl rfl rfl (own := ["name", "room", "shelf", "loss"]) (fv := [("wheel",1)]) ⟨rfl,by decide +kernel,by decide +kernel,by decide +kernel,by decide +kernel,by decide +kernel⟩ (pi_tup (q0j q0t (pv 3) qp (fun _ _ => rfl))) (fun _ _ _ => (qcr (K := K) (n := 4) rfl rfl rfl (q3p (q0b (i := 0) (show (["name", "room", "shelf", "loss", "wheel"] : List Str).Nodup by decide +kernel) rfl (Or.inl rfl) (hf := Or.inr rfl)) (q3p (q0b (i := 1) (show (["name", "room", "shelf", "loss", "wheel"] : List Str).Nodup by decide +kernel) rfl (Or.inl rfl) (hf := Or.inr rfl)) (q3p (q0b (i := 2) (show (["name", "room", "shelf", "loss", "wheel"] : List Str).Nodup by decide +kernel) rfl (Or.inl rfl) (hf := Or.inr rfl)) (q3p (q0b (i := 3) (show (["name", "room", "shelf", "loss", "wheel"] : List Str).Nodup by decide +kernel) rfl (Or.inl rfl) (hf := Or.inr rfl)) qdg)))))) (fun _ _ _ => (q60 (q17 q2c (pv 0) (pv 4) (q0n _)))) (fun _ _ _ => (pv 1))) ql))))
 q3i)))
 (qy (q1m (pv 2))))),q28 (C := ctOf T) ((q03 (q0o (q2s qm) q07)
 (q03 (q32 (q1f qj) q07
 (q3d (q12 (qq q2d (qq q0k qj qo) q0f))
 (q1z (q23 qag qj (qk (q4r (own := ["name", "room", "shelf", "loss"]) (fv := [("wheel",1)]) (si_tup (qq q0k qj qo)) (qcl (q35 q1c (q35 q1c (q35 q1c (q35 q1c qbr))))) (q12 (qq q2d qj qj)) qj) qm)))
 q3l))
 (q1j (q7e qj))))) rfl h⟩
theorem z_qe (T : Txt K mg A) : FnOk P w K mg base (CX1 P w) 2 A.a_qe A.fd_qe ["book", "wheel"] (spZ (ctOf T) 2 m_qe) := by
  refine FnOk.imp (T.F_qe.okR sc_qe (fun vs H Q E h => q25 h) (fun cdv A' outer s H vs Q E hr h => ?_)) (fun vs H Q E h => q51 h)
  have nd := sc_qe.nd
  have hu := q3b hr
  exact ⟨_,(qu (q22 (i := 2) nd rfl (Or.inl rfl) (q2h ql))
 (qu (q2v PassesOwn.leaving rfl (q1g (q0q (z_qb T) hr.q9 rfl T.d_qb T.F_qb.kp T.b_qb .nil out_of.passes (qi (pv 0) (qi (pv 1) ql)))) (q0b (i := 3) nd rfl (Or.inl rfl))
 (qy (q34 (PW.pt (q9w (qbt (pv 2) (fun _ => rfl)) (q8g (q17 q2c (q0j q0t (q0j q0t (pv 2) (q6q q59 qp) (fun _ _ => rfl)) qp (fun _ _ => rfl)) (pv 3) (q0n _)))))
 (qy (q5o (q16 (qi (pv 3) (qi (q0w q7u (q0j q0t (q0j q0t (pv 2) (q6q q59 qp) (fun _ _ => rfl)) qp (fun _ _ => rfl)) qp) ql))) (q5e (pv 2) (q6q q59 qp) set_list)))
 (qy (q1w (q2p PySem.F.plainAttrs_list PySem.F.slot_list_append PySem.F.type_list_append q18 (pv 2) (qi (q16 (qi (pv 3) (qi qp ql))) ql)))))))
 (qy (q1m (pv 2))))),q28 (C := ctOf T) ((q03 (q0o (q2s qm) q07)
 (q03 (q32 (q1f (q0r (qk qj (qk qj qm)))) q07
 (q3d (qb3 (st_tru qj) (q12 (qq q2d (qq q0k (qq q0k qj (q6o q5f qo)) qo) qj)))
 (q0o (q1d (qk qj (qk (qq q78 (qq q0k (qq q0k qj (q6o q5f qo)) qo) qo) qm))) (q4u qj (q6o q5f qo)))
 (q1z (q23 q1l qj (qk (q1d (qk qj (qk qo qm))) qm)))))
 (q1j (q7e qj))))) rfl h⟩
theorem z_qd (T : Txt K mg A) : FnOk P w K mg base (CX1 P w) 1 A.a_qd A.fd_qd ["_law_script", "_law_k"] (spZ (ctOf T) 2 m_qd) := by
  refine T.F_qd.okR sc_qd (fun vs H Q E h => q25 h) (fun cdv A' outer s H vs Q E hr h => ?_)
  have nd := sc_qd.nd
  have hu := q3b hr
  exact ⟨_,(qu (q34 (q17 op_lt (pv 1) (q01 q1y rfl T.n_len PySem.boot_len (qi (pv 0) ql)) (q0n _))
 (qy (q1m (q0j q0t (pv 0) (pv 1) (fun _ _ => rfl))))
 q3i)
 (qy (q1m qp))),q28 (C := ctOf T) ((q03 (q3d (q12 (qq s2_lt qj (q1h q3k (qk qj qm))))
 (q1j (qq q0k qj qj))
 q3l)
 (q1j qo))) rfl h⟩
theorem zr_q0 (T : Txt K mg A) : ∀ n,FnOk P w K mg base (CX1 P w) (n + 0) A.a_q0 A.fd_q0 ["_law_found", "_law_due"] (spZ (ctOf T) 2 (m_q0 n))
  | 0 => fn_no rfl
  | n + 1 => by
    have G_q0 : FnOk P w K mg base (CX1 P w) (n + 0) A.a_q0 A.fd_q0 ["_law_found", "_law_due"] (spZ (ctOf T) 2 (m_q0 n)) := zr_q0 T n
    refine T.F_q0.okR sc_q0 (fun vs H Q E h => q25 h) (fun cdv A' outer s H vs Q E hr h => ?_)
    have nd := sc_q0.nd
    have hu := q3b hr
    exact ⟨_,(qu (q34 (qab (q01 q92 rfl T.n_isinstance PyProof.Rows.boot_isinstance (qi (pv 1) (qi (q16 (qi (q0y (v := .ty "list") rfl T.n_list PyProof.Rows.boot_list rfl) (qi (q0y (v := .ty "tuple") rfl T.n_tuple PyProof.Rows.boot_tuple rfl) ql))) ql))))
 (qu (q34 (PW.pt (pw_or (q17 op_ne (q01 q0p rfl T.n_isinstance PyProof.Rows.boot_isinstance (qi (pv 0) (qi (q0y (v := .ty "list") rfl T.n_list PyProof.Rows.boot_list rfl) ql))) (q01 q0p rfl T.n_isinstance PyProof.Rows.boot_isinstance (qi (pv 1) (qi (q0y (v := .ty "list") rfl T.n_list PyProof.Rows.boot_list rfl) ql))) (q0n _)) (qat (q17 op_ne (q01 q0p rfl T.n_isinstance PyProof.Rows.boot_isinstance (qi (pv 0) (qi (q0y (v := .ty "tuple") rfl T.n_tuple PyProof.Rows.boot_tuple rfl) ql))) (q01 q0p rfl T.n_isinstance PyProof.Rows.boot_isinstance (qi (pv 1) (qi (q0y (v := .ty "tuple") rfl T.n_tuple PyProof.Rows.boot_tuple rfl) ql))) (q0n _)))))
 (qy (q1m pe_bl))
 q3i)
 (qy (q1m (q4d (q3h q2c (q01 q1y rfl T.n_len PySem.boot_len (qi (pv 0) ql)) (q01 q1y rfl T.n_len PySem.boot_len (qi (pv 1) ql)) (q0n _)) (q5n (q01 (qaq rfl) rfl T.n_all PyProof.Rows.boot_all (qi (q9m (osc := qr s_q0) (N0 := ["_law_found", "_law_due", "_law_alike"]) rfl rfl rfl (own := ["_law_k"]) (fv := [("_law_found",0),("_law_due",1)]) ⟨rfl,by decide +kernel,by decide +kernel,by decide +kernel,by decide +kernel,by decide +kernel⟩ (q6b rfl T.n_range (qi (q01 q1y rfl T.n_len PySem.boot_len (qi (pv 1) ql)) ql)) (fun _ _ _ => (q0b (i := 0) (show (["_law_k", "_law_found", "_law_due"] : List Str).Nodup by decide +kernel) rfl (Or.inl rfl) (hf := Or.inr rfl))) (fun _ _ _ => q5t) (fun _ _ _ => (q0q G_q0 hr rfl T.d_q0 T.F_q0.kp T.b_q0 .nil q0e (qi (q0j (q2t (K := K) rfl) (pv 1) (pv 0) (fun _ _ => rfl)) (qi (q0j (q2t (K := K) rfl) (pv 2) (pv 0) (fun _ _ => rfl)) ql))))) ql)))))))
 q3i)
 (qu (q22 (i := 2) nd rfl (Or.inl rfl) (q4d (q3h q2c (q01 q0p rfl T.n_isinstance PyProof.Rows.boot_isinstance (qi (pv 0) (qi (q0y (v := .ty "int") rfl T.n_int PyProof.Rows.boot_int rfl) ql))) (q01 q0p rfl T.n_isinstance PyProof.Rows.boot_isinstance (qi (pv 1) (qi (q0y (v := .ty "int") rfl T.n_int PyProof.Rows.boot_int rfl) ql))) (q0n _)) (q5n (q3h q2c (q01 q0p rfl T.n_isinstance PyProof.Rows.boot_isinstance (qi (pv 0) (qi (q0y (v := .ty "bool") rfl T.n_bool PyProof.Rows.boot_bool rfl) ql))) (q01 q0p rfl T.n_isinstance PyProof.Rows.boot_isinstance (qi (pv 1) (qi (q0y (v := .ty "bool") rfl T.n_bool PyProof.Rows.boot_bool rfl) ql))) (q0n _)))))
 (qy (q1m (q4d (pv 2) (q4d (q3h q2c (q01 q0p rfl T.n_isinstance PyProof.Rows.boot_isinstance (qi (pv 0) (qi (q0y (v := .ty "str") rfl T.n_str PyProof.Rows.boot_str rfl) ql))) (q01 q0p rfl T.n_isinstance PyProof.Rows.boot_isinstance (qi (pv 1) (qi (q0y (v := .ty "str") rfl T.n_str PyProof.Rows.boot_str rfl) ql))) (q0n _)) (q5n (q3h q2c (pv 0) (pv 1) (q0n _))))))))),q28 (C := ctOf T) ((q03 (q3d (st_b (qbi qj))
 (q03 (q3d (st_or (q12 (qq s2_ne (q1q .list rfl (by intro z; cases z) qj) (q1q .list rfl (by intro z; cases z) qj))) (q12 (qq s2_ne (q1q .tuple rfl (by intro z; cases z) qj) (q1q .tuple rfl (by intro z; cases z) qj))))
 (q1j se_bl)
 q3l)
 (q1j (q4f (qq q2d (q1h q3k (qk qj qm)) (q1h q3k (qk qj qm))) (q1h sc_all (qk (q4r (own := ["_law_k"]) (fv := [("_law_found",0),("_law_due",1)]) (q69 (q1h q3k (qk qj qm))) q1c q70 (q0r (qk (qq q0k qj qj) (qk (qq q0k qj qj) qm)))) qm)))))
 q3l)
 (q03 (q0o (q4f (qq q2d (q1q .int rfl (by intro z; cases z) qj) (q1q .int rfl (by intro z; cases z) qj)) (qq q2d (q1q .bool rfl (by intro z; cases z) qj) (q1q .bool rfl (by intro z; cases z) qj))) q07)
 (q1j (q4f qj (q4f (qq q2d (q1q .str rfl (by intro z; cases z) qj) (q1q .str rfl (by intro z; cases z) qj)) (qq q2d qj qj))))))) rfl h⟩
theorem z_q0 (T : Txt K mg A) (k : Nat) : FnOk P w K mg base (CX1 P w) (k + 0) A.a_q0 A.fd_q0 ["_law_found", "_law_due"] (spZ (ctOf T) 2 (m_q0 k)) := zr_q0 T k
theorem z_qa (T : Txt K mg A) : FnOk P w K mg base (CX1 P w) 1 A.a_qa A.fd_qa ["_law_stages"] (spZ (ctOf T) 1 m_qa) := by
  refine FnOk.imp (T.F_qa.okR sc_qa (fun vs H Q E h => q25 h) (fun cdv A' outer s H vs Q E hr h => ?_)) (fun vs H Q E h => q51 h)
  have nd := sc_qa.nd
  have hu := q3b hr
  exact ⟨_,(qu (q22 (i := 1) nd rfl (Or.inl rfl) (q2h ql))
 (qu (q2v PassesOwn.leaving rfl (q1g (q01 (q5m rfl) rfl T.n_sorted PyProof.Rows.boot_sorted (qi (q1k (q95 rfl) rfl T.n_set PyProof.Rows.boot_set (qi (pv 0) ql)) ql))) (q0b (i := 2) nd rfl (Or.inl rfl))
 (qy (q1w (q2p PySem.F.plainAttrs_list PySem.F.slot_list_append PySem.F.type_list_append q18 (pv 1) (qi (q16 (qi (q0w q2n q0g (q1k q39 rfl T.n_str PyProof.Rows.boot_str (qi (pv 2) ql))) (qi (q2p PySem.F.plainAttrs_list PySem.F.slot_list_count PySem.F.type_list_count qax (pv 0) (qi (pv 2) ql)) ql))) ql)))))
 (qy (q1m (pv 1))))),q28 (C := ctOf T) ((q03 (q0o (q2s qm) q07)
 (q03 (q32 (q1f (q86 qj)) q07
 (q1z (q23 q1l qj (qk (q1d (qk (qq q4t q0f (q1h q4q (qk qj qm))) (qk (q23 qbj qj (qk qj qm)) qm))) qm))))
 (q1j (q7e qj))))) rfl h⟩
theorem z_qc (T : Txt K mg A) : FnOk P w K mg base (CX1 P w) 1 A.a_qc A.fd_qc ["_law_book"] (spZ (ctOf T) 1 m_qc) := by
  refine T.F_qc.okR sc_qc (fun vs H Q E h => q25 h) (fun cdv A' outer s H vs Q E hr h => ?_)
  have nd := sc_qc.nd
  have hu := q3b hr
  exact ⟨_,(qy (q1m (q01 q1y rfl T.n_len PySem.boot_len (qi (q9m (osc := qr s_qc) (N0 := ["_law_book"]) rfl rfl rfl (own := ["_law_entry"]) (fv := []) ⟨rfl,by decide +kernel,by decide +kernel,by decide +kernel,by decide +kernel,by decide +kernel⟩ (q1g (pv 0)) (fun _ _ _ => (q0b (i := 0) (show (["_law_entry"] : List Str).Nodup by decide +kernel) rfl (Or.inl rfl) (hf := Or.inr rfl))) (fun _ _ _ => (q60 (q17 q2c (q0j (q2t (K := K) rfl) (pv 0) qp (fun _ _ => rfl)) q0g (q0n _)))) (fun _ _ _ => (pv 0))) ql)))),q28 (C := ctOf T) ((q1j (q1h q3k (qk (q4r (own := ["_law_entry"]) (fv := []) (q1f qj) q1c (q12 (qq q2d (qq q0k qj qo) q0f)) qj) qm)))) rfl h⟩
end
end K30
namespace K30
open PySem L2 Z PM
section
variable {P : Program} {w : World} {K : W.Frag} {mg : Str -> Option Value} {base : Heap} {A : Adr}
theorem ok_law (T : Txt K mg A) : FnOk P w K mg base CX0 7 A.a_law A.fd_law ["_law_script"] (q5g K) := by
  refine T.F_law.ok qb4 (fun vs H Q E h => ?_) (fun cdv A' outer s H vs Q E hr h => ?_)
  . obtain ⟨a,ns,rfl,_⟩ := h
    rfl
  . have nd := qb4.nd
    have hu := q3b hr
    exact ⟨_,(qu (q22 (i := 1) nd rfl (Or.inl rfl) (q0w q2u (q0q (z_qd T) hr.q9 rfl T.d_qd T.F_qd.kp T.b_qd .nil q0e (qi (pv 0) (qi qp ql))) qp))
 (qu (q22 (i := 2) nd rfl (Or.inl rfl) (q2h (qi (q16 (qi qp (qi q0g (qi q0g (qi (q16 (qi (q16 (qi q0g (qi qp ql))) ql)) ql))))) ql)))
 (qu (q56 (osc := qr q1r) (N0 := ["_law_script", "_law_most", "_law_book", "_law_wheels", "_law_places", "_law_wheel", "_law_cell", "_law_lying", "_law_rows", "_law_handed"]) (i := 3) rfl rfl rfl nd rfl (Or.inl rfl) (own := ["_law_k"]) (fv := []) ⟨rfl,by decide +kernel,by decide +kernel,by decide +kernel,by decide +kernel,by decide +kernel⟩ (q6b rfl T.n_range (qi (q0w q7u qp (q0w q2u (q0q (z_qd T) hr.q9 rfl T.d_qd T.F_qd.kp T.b_qd .nil q0e (qi (pv 0) (qi qp ql))) qp)) ql)) (fun _ _ _ => (q0b (i := 0) (show (["_law_k"] : List Str).Nodup by decide +kernel) rfl (Or.inl rfl) (hf := Or.inr rfl))) (fun _ _ _ => q5t) (fun _ _ _ => (q0w q2n q0g (q1k q39 rfl T.n_str PyProof.Rows.boot_str (qi (pv 0) ql)))))
 (qu (q22 (i := 4) nd rfl (Or.inr rfl) qbf)
 (qu (q2v PassesOwn.never rfl (q1g (pv 3)) (q0b (i := 5) nd rfl (Or.inl rfl))
 (qu (q1w (q2p PySem.F.plainAttrs_list PySem.F.slot_list_append PySem.F.type_list_append q18 (pv 2) (qi (q16 (qi qp (qi q0g (qi (pv 5) (qi q0g (qi q0g (qi q0g (qi qp ql)))))))) ql)))
 (qy (qdb hu (pv 4) (pv 5) (q2h (qi qp (qi q0g (qi (q2h ql) ql)))) rfl))))
 (qu (q2v PassesOwn.never rfl (q1g (qc3 qbc (pv 0) (qcw qp) qd1)) (q0b (i := 6) nd rfl (Or.inl rfl))
 (qu (q56 (osc := qr q1r) (N0 := ["_law_script", "_law_most", "_law_book", "_law_wheels", "_law_places", "_law_wheel", "_law_cell", "_law_lying", "_law_rows", "_law_handed"]) (i := 7) rfl rfl rfl nd rfl (Or.inl rfl) (own := ["_law_wheel"]) (fv := [("_law_places",4)]) ⟨rfl,by decide +kernel,by decide +kernel,by decide +kernel,by decide +kernel,by decide +kernel⟩ (q1g (pv 3)) (fun _ _ _ => (q0b (i := 0) (show (["_law_wheel", "_law_places"] : List Str).Nodup by decide +kernel) rfl (Or.inl rfl) (hf := Or.inr rfl))) (fun _ _ _ => (q60 (PW.pt (q9w (pt_cmp (pc_din hu (pv 0) (pv 1))) (q8g (q17 op_ge (q0j (q2t (K := K) rfl) (q0x hu (pv 1) (pv 0) (fun _ _ => rfl)) qp (fun _ _ => rfl)) qp (q0n _))))))) (fun _ _ _ => (pv 0)))
 (qy (q34 (PW.pt (pw_or (q17 op_lt (q0w q2u (pv 6) qp) qp (q0n _)) (qat (q17 (qak (Nat.lt_of_succ_lt (q3b hr))) (pv 7) (q2h ql) (q0n _)))))
 (qu (q56 (osc := qr q1r) (N0 := ["_law_script", "_law_most", "_law_book", "_law_wheels", "_law_places", "_law_wheel", "_law_cell", "_law_lying", "_law_rows", "_law_handed"]) (i := 8) rfl rfl rfl nd rfl (Or.inl rfl) (own := ["_law_wheel"]) (fv := [("_law_places",4)]) ⟨rfl,by decide +kernel,by decide +kernel,by decide +kernel,by decide +kernel,by decide +kernel⟩ (q1g (pv 7)) (fun _ _ _ => (q0b (i := 0) (show (["_law_wheel", "_law_places"] : List Str).Nodup by decide +kernel) rfl (Or.inl rfl) (hf := Or.inr rfl))) (fun _ _ _ => q5t) (fun _ _ _ => (q16 (qi (pv 0) (qi (q0w q2n q0g (q1k q39 rfl T.n_str PyProof.Rows.boot_str (qi (q0j (q2t (K := K) rfl) (q0x hu (pv 1) (pv 0) (fun _ _ => rfl)) qp (fun _ _ => rfl)) ql))) (qi (q0j (q2t (K := K) rfl) (q0x hu (pv 1) (pv 0) (fun _ _ => rfl)) qp (fun _ _ => rfl)) (qi qp ql)))))))
 (qu (q1w (q2p PySem.F.plainAttrs_list PySem.F.slot_list_append PySem.F.type_list_append q18 (pv 2) (qi (q16 (qi (q0q (z_qc T) hr.q9 rfl T.d_qc T.F_qc.kp T.b_qc .nil q0e (qi (pv 2) ql)) (qi q0g (qi (q1k q89 rfl T.n_tuple PyProof.Rows.boot_tuple (qi (pv 8) ql)) ql)))) ql)))
 (qy (q2v PassesOwn.never rfl (q1g (pv 7)) (q0b (i := 5) nd rfl (Or.inl rfl))
 (qy (q1w (q2p PySem.F.plainAttrs_list PySem.F.slot_list_append PySem.F.type_list_append q18 (q0j q0t (q0x hu (pv 4) (pv 5) (fun _ _ => rfl)) qp (fun _ _ => rfl)) (qi (q0j q0t (q0x hu (pv 4) (pv 5) (fun _ _ => rfl)) qp (fun _ _ => rfl)) ql))))))))
 (qu (q22 (i := 5) nd rfl (Or.inl rfl) (q0j q0t (pv 7) (q0w q2u (q0w q4l (pv 6) qp) (q01 q1y rfl T.n_len PySem.boot_len (qi (pv 7) ql))) (fun _ _ => rfl)))
 (qy (q34 (q17 q2c (q0w q2u (q0w q4l (pv 6) qp) qp) qp (q0n _))
 (qu (q1w (q2p PySem.F.plainAttrs_list PySem.F.slot_list_append PySem.F.type_list_append q18 (pv 2) (qi (q16 (qi (q0q (z_qc T) hr.q9 rfl T.d_qc T.F_qc.kp T.b_qc .nil q0e (qi (pv 2) ql)) (qi q0g (qi (pv 5) (qi (q16 (qi qp (qi qp ql))) (qi qp ql)))))) ql)))
 (qy (q5o (q6q q59 qp) (q5e (q0x hu (pv 4) (pv 5) (fun _ _ => rfl)) qp set_list))))
 (qu (q5o (q01 (q97 rfl) rfl T.n_min PyProof.Rows.boot_min (qi (pv 1) (qi (q0w q7u (q0j q0t (q0x hu (pv 4) (pv 5) (fun _ _ => rfl)) qp (fun _ _ => rfl)) (q0w q2u (q0w q4l (pv 6) qp) qp)) ql))) (q5e (q0x hu (pv 4) (pv 5) (fun _ _ => rfl)) qp set_list))
 (qu (q5o (q0w q2n (q0j qa7 q0g (q0w q2u (q0w q4l (pv 6) qp) qp) (fun _ _ => rfl)) (q1k q39 rfl T.n_str PyProof.Rows.boot_str (qi (q0j q0t (q0x hu (pv 4) (pv 5) (fun _ _ => rfl)) qp (fun _ _ => rfl)) ql))) (q5e (q0x hu (pv 4) (pv 5) (fun _ _ => rfl)) qp set_list))
 (qy (q1w (q2p PySem.F.plainAttrs_list PySem.F.slot_list_append PySem.F.type_list_append q18 (pv 2) (qi (q16 (qi (q0q (z_qc T) hr.q9 rfl T.d_qc T.F_qc.kp T.b_qc .nil q0e (qi (pv 2) ql)) (qi q0g (qi (pv 5) (qi (q0j q0t (q0x hu (pv 4) (pv 5) (fun _ _ => rfl)) qp (fun _ _ => rfl)) ql))))) ql)))))))))))))
 (qu (q22 (i := 9) nd rfl (Or.inl rfl) (q1k q9e rfl T.n_list PyProof.Rows.boot_list (qi (pv 2) ql)))
 (qu (q2v PassesOwn.never rfl (q1g (pv 3)) (q0b (i := 5) nd rfl (Or.inl rfl))
 (qy (q34 (pt_not (qab (q0q (z_q0 T 6) hr.q9 rfl T.d_q0 T.F_q0.kp T.b_q0 .nil q0e (qi (q0q (z_qe T) hr.q9 rfl T.d_qe T.F_qe.kp T.b_qe .nil q0e (qi (pv 9) (qi (pv 5) ql))) (qi (q0q (z_qa T) hr.q9 rfl T.d_qa T.F_qa.kp T.b_qa .nil q0e (qi (q0j q0t (q0x hu (pv 4) (pv 5) (fun _ _ => rfl)) qp (fun _ _ => rfl)) ql)) ql)))))
 (qy (q1m pe_bl))
 q3i)))
 (qy (q1m (q4d (q0q (z_q0 T 6) hr.q9 rfl T.d_q0 T.F_q0.kp T.b_q0 .nil q0e (qi (pv 9) (qi (pv 2) ql))) (q5n (q0q (z_q0 T 6) hr.q9 rfl T.d_q0 T.F_q0.kp T.b_q0 .nil q0e (qi (q0q (z_qe T) hr.q9 rfl T.d_qe T.F_qe.kp T.b_qe .nil q0e (qi (pv 9) (qi q0g ql))) (qi (q2h ql) ql))))))))))))))),q28 (C := ctOf T) (E := E0) ((q03 (q0o (qq q2z (q0r (qk qj (qk qo qm))) qo) q07)
 (q03 (q0o (q2s (qk (q1d (qk qo (qk q0f (qk q0f (qk (q1d (qk (q1d (qk q0f (qk qo qm))) qm)) qm))))) qm)) q07)
 (q03 (q0o (q4r (own := ["_law_k"]) (fv := []) (q69 (qq q78 qo (qq q2z (q0r (qk qj (qk qo qm))) qo))) q1c q70 (qq q4t q0f (q1h q4q (qk qj qm)))) q07)
 (q03 (q0o qc2 q07)
 (q03 (q32 (q1f qj) q07
 (q03 (q1z (q23 q1l qj (qk (q1d (qk qo (qk q0f (qk qj (qk q0f (qk q0f (qk q0f (qk qo qm)))))))) qm)))
 (qd6 qj qj (q2s (qk qo (qk q0f (qk (q2s qm) qm)))))))
 (q03 (q32 (q1f (se_sl qce qj (qdf qo) qcs)) q07
 (q03 (q0o (q4r (own := ["_law_wheel"]) (fv := [("_law_places",4)]) (q1f qj) q1c (qb3 (st_b (se_din qj qj)) (q12 (qq s2_ge (qq q0k (q10 qj qj) qo) qo))) qj) q07)
 (q3d (st_or (q12 (qq s2_lt (qq q2z qj qo) qo)) (q12 (qq qc6 qj (qa1 qm))))
 (q03 (q0o (q4r (own := ["_law_wheel"]) (fv := [("_law_places",4)]) (q1f qj) q1c q70 (q1d (qk qj (qk (qq q4t q0f (q1h q4q (qk (qq q0k (q10 qj qj) qo) qm))) (qk (qq q0k (q10 qj qj) qo) (qk qo qm)))))) q07)
 (q03 (q1z (q23 q1l qj (qk (q1d (qk (q0r (qk qj qm)) (qk q0f (qk (q1h qb5 (qk qj qm)) qm)))) qm)))
 (q32 (q1f qj) q07
 (q1z (q23 q1l (qq q0k (q10 qj qj) qo) (qk (qq q0k (q10 qj qj) qo) qm))))))
 (q03 (q0o (qq q0k qj (qq q2z (qq q5c qj qo) (q1h q3k (qk qj qm)))) q07)
 (q3d (q12 (qq q2d (qq q2z (qq q5c qj qo) qo) qo))
 (q03 (q1z (q23 q1l qj (qk (q1d (qk (q0r (qk qj qm)) (qk q0f (qk qj (qk (q1d (qk qo (qk qo qm))) (qk qo qm)))))) qm)))
 (q0o (q6o q5f qo) (q4u (q10 qj qj) qo)))
 (q03 (q0o (q1h qd9 (qk qj (qk (qq q78 (qq q0k (q10 qj qj) qo) (qq q2z (qq q5c qj qo) qo)) qm))) (q4u (q10 qj qj) qo))
 (q03 (q0o (qq q4t (qq s2_ixS q0f (qq q2z (qq q5c qj qo) qo)) (q1h q4q (qk (qq q0k (q10 qj qj) qo) qm))) (q4u (q10 qj qj) qo))
 (q1z (q23 q1l qj (qk (q1d (qk (q0r (qk qj qm)) (qk q0f (qk qj (qk (qq q0k (q10 qj qj) qo) qm))))) qm))))))))))
 (q03 (q0o (q1h qd0 (qk qj qm)) q07)
 (q03 (q32 (q1f qj) q07
 (q3d (st_not (st_b (q0r (qk (q0r (qk qj (qk qj qm))) (qk (q0r (qk (qq q0k (q10 qj qj) qo) qm)) qm)))))
 (q1j se_bl)
 q3l))
 (q1j (q4f (q0r (qk qj (qk qj qm))) (q0r (qk (q0r (qk qj (qk q0f qm))) (qk (qa1 qm) qm)))))))))))))) rfl (q9y (C := ctOf T) rfl law_true h)⟩
end
theorem all_mk {l : W.OpenLaw} {w : World} {K : W.Frag} {h : Heap} {mg : Str -> Option Value} {fa : Addr} (X : K.In h) (G : h.Ns mainGlobals mg) (hfa : mg "law" = some (.ref fa))
    {f1 : Addr} {od1 an1 : Option Addr} {sl1 : Array (Option Value)} {oc1 kV1 dc1 pm1 cd1 ct1 : Value}
    {f2 : Addr} {od2 an2 : Option Addr} {sl2 : Array (Option Value)} {oc2 kV2 dc2 pm2 cd2 ct2 : Value}
    {f3 : Addr} {od3 an3 : Option Addr} {sl3 : Array (Option Value)} {oc3 kV3 dc3 pm3 cd3 ct3 : Value}
    {f4 : Addr} {od4 an4 : Option Addr} {sl4 : Array (Option Value)} {oc4 kV4 dc4 pm4 cd4 ct4 : Value}
    {f5 : Addr} {od5 an5 : Option Addr} {sl5 : Array (Option Value)} {oc5 kV5 dc5 pm5 cd5 ct5 : Value}
    {f6 : Addr} {od6 an6 : Option Addr} {sl6 : Array (Option Value)} {oc6 kV6 dc6 pm6 cd6 ct6 : Value}
    {f7 : Addr} {od7 an7 : Option Addr} {sl7 : Array (Option Value)} {oc7 kV7 dc7 pm7 cd7 ct7 : Value}
    (a1 : W.nsIn K mainGlobals "rooms_by_night" = some (some (.ref f1))) (l1 : K.lookup f1 = some ⟨oc1,od1, .func (W.fnOf "rooms_by_night" "rooms_by_night" (q0z s_qb) (q0l s_qb) (qr s_qb) .none kV1 dc1 pm1 an1 cd1 ct1),sl1⟩) (c1 : W.codeIn K cd1 "rooms_by_night" = true) (k1 : W.keepIn K (.ref f1) = true)
    (a2 : W.nsIn K mainGlobals "lyings" = some (some (.ref f2))) (l2 : K.lookup f2 = some ⟨oc2,od2, .func (W.fnOf "lyings" "lyings" (q0z s_qe) (q0l s_qe) (qr s_qe) .none kV2 dc2 pm2 an2 cd2 ct2),sl2⟩) (c2 : W.codeIn K cd2 "lyings" = true) (k2 : W.keepIn K (.ref f2) = true)
    (a3 : W.nsIn K mainGlobals "_law_at" = some (some (.ref f3))) (l3 : K.lookup f3 = some ⟨oc3,od3, .func (W.fnOf "_law_at" "_law_at" (q0z s_qd) (q0l s_qd) (qr s_qd) .none kV3 dc3 pm3 an3 cd3 ct3),sl3⟩) (c3 : W.codeIn K cd3 "_law_at" = true) (k3 : W.keepIn K (.ref f3) = true)
    (a4 : W.nsIn K mainGlobals "_law_same" = some (some (.ref f4))) (l4 : K.lookup f4 = some ⟨oc4,od4, .func (W.fnOf "_law_same" "_law_same" (q0z s_q0) (q0l s_q0) (qr s_q0) .none kV4 dc4 pm4 an4 cd4 ct4),sl4⟩) (c4 : W.codeIn K cd4 "_law_same" = true) (k4 : W.keepIn K (.ref f4) = true)
    (a5 : W.nsIn K mainGlobals "_law_nights_due" = some (some (.ref f5))) (l5 : K.lookup f5 = some ⟨oc5,od5, .func (W.fnOf "_law_nights_due" "_law_nights_due" (q0z s_qa) (q0l s_qa) (qr s_qa) .none kV5 dc5 pm5 an5 cd5 ct5),sl5⟩) (c5 : W.codeIn K cd5 "_law_nights_due" = true) (k5 : W.keepIn K (.ref f5) = true)
    (a6 : W.nsIn K mainGlobals "_law_day_of" = some (some (.ref f6))) (l6 : K.lookup f6 = some ⟨oc6,od6, .func (W.fnOf "_law_day_of" "_law_day_of" (q0z s_qc) (q0l s_qc) (qr s_qc) .none kV6 dc6 pm6 an6 cd6 ct6),sl6⟩) (c6 : W.codeIn K cd6 "_law_day_of" = true) (k6 : W.keepIn K (.ref f6) = true)
    (a7 : W.nsIn K mainGlobals "law" = some (some (.ref f7))) (l7 : K.lookup f7 = some ⟨oc7,od7, .func (W.fnOf "law" "law" (q0z q1r) (q0l q1r) (qr q1r) .none kV7 dc7 pm7 an7 cd7 ct7),sl7⟩) (c7 : W.codeIn K cd7 "law" = true) (k7 : W.keepIn K (.ref f7) = true)
    (z_len : W.nsIn K mainGlobals "len" = some none)
    (z_all : W.nsIn K mainGlobals "all" = some none)
    (z_min : W.nsIn K mainGlobals "min" = some none)
    (z_range : W.nsIn K mainGlobals "range" = some none)
    (z_int : W.nsIn K mainGlobals "int" = some none)
    (z_bool : W.nsIn K mainGlobals "bool" = some none)
    (z_str : W.nsIn K mainGlobals "str" = some none)
    (z_list : W.nsIn K mainGlobals "list" = some none)
    (z_tuple : W.nsIn K mainGlobals "tuple" = some none)
    (z_isinstance : W.nsIn K mainGlobals "isinstance" = some none)
    (z_sorted : W.nsIn K mainGlobals "sorted" = some none)
    (z_set : W.nsIn K mainGlobals "set" = some none)
    : ∃ fd : FuncData,(∀ (s : Shared) (v : Value),BindsTo s fd ⟨[v],[]⟩ [("_law_script",v)]) /\ ∀ base : Heap,K.In base -> base.Ns mainGlobals mg -> FnOk l.prog w K mg base CX0 7 fa fd ["_law_script"] (q5g K) := by
  have e := hfa.symm.trans (W.mg_of X G a7)
  cases e
  have F1 := q2w (st := s_qb) l1 c1 k1
  have b1 := F1.binds (ps := ["book", "wheel"]) fun _ _ _ _ _ _ us hl => match us,hl with | [_,_],_ => rfl
  have F2 := q2w (st := s_qe) l2 c2 k2
  have b2 := F2.binds (ps := ["book", "wheel"]) fun _ _ _ _ _ _ us hl => match us,hl with | [_,_],_ => rfl
  have F3 := q2w (st := s_qd) l3 c3 k3
  have b3 := F3.binds (ps := ["_law_script", "_law_k"]) fun _ _ _ _ _ _ us hl => match us,hl with | [_,_],_ => rfl
  have F4 := q2w (st := s_q0) l4 c4 k4
  have b4 := F4.binds (ps := ["_law_found", "_law_due"]) fun _ _ _ _ _ _ us hl => match us,hl with | [_,_],_ => rfl
  have F5 := q2w (st := s_qa) l5 c5 k5
  have b5 := F5.binds (ps := ["_law_stages"]) fun _ _ _ _ _ _ us hl => match us,hl with | [_],_ => rfl
  have F6 := q2w (st := s_qc) l6 c6 k6
  have b6 := F6.binds (ps := ["_law_book"]) fun _ _ _ _ _ _ us hl => match us,hl with | [_],_ => rfl
  have F7 := q2w (st := q1r) l7 c7 k7
  have b7 := F7.binds (ps := ["_law_script"]) fun _ _ _ _ _ _ us hl => match us,hl with | [_],_ => rfl
  have T : Txt K mg ⟨f1,_,f2,_,f3,_,f4,_,f5,_,f6,_,fa,_⟩ := ⟨F1,W.mg_of X G a1,b1,F2,W.mg_of X G a2,b2,F3,W.mg_of X G a3,b3,F4,W.mg_of X G a4,b4,F5,W.mg_of X G a5,b5,F6,W.mg_of X G a6,b6,F7,W.mg_of X G a7,b7,W.mg_none_of X G z_len,W.mg_none_of X G z_all,W.mg_none_of X G z_min,W.mg_none_of X G z_range,W.mg_none_of X G z_int,W.mg_none_of X G z_bool,W.mg_none_of X G z_str,W.mg_none_of X G z_list,W.mg_none_of X G z_tuple,W.mg_none_of X G z_isinstance,W.mg_none_of X G z_sorted,W.mg_none_of X G z_set⟩
  exact ⟨W.fnOf "law" "law" (q0z q1r) (q0l q1r) (qr q1r) .none kV7 dc7 pm7 an7 cd7 ct7,fun s v => .of_eq rfl,fun base _ _ => ok_law T⟩
theorem walk {l : W.OpenLaw} {q : Program} {loose : List Str} {XP : (Str -> Option Value) -> Heap -> Prop} {YP : World -> Heap -> Prop} {d : DefRec} {K : Params -> W.Frag} (hn : l.most = some 63) (hdf : d.params.defaults = [])
    (hY : ∀ (w : World) (h : Heap),YP w h -> (K w.params).In h)
    (F : ∀ (w : World) (mg : Str -> Option Value) (fa : Addr) (h : Heap),(K w.params).In h -> h.Ns mainGlobals mg -> mg d.name = some (.ref fa) ->
      ∃ fd : FuncData,(∀ (s : Shared) (u : Value),BindsTo s fd ⟨[u],[]⟩ [("_law_script",u)]) /\ ∀ base : Heap,(K w.params).In base -> base.Ns mainGlobals mg -> FnOk l.prog w (K w.params) mg base CX0 7 fa fd ["_law_script"] (q5g (K w.params))) :
    W.WalkO q loose XP YP l.row.toRowW d [] (fun f vs => PySem.call f vs) :=
  L2.qd3 (n := 63) (k := 7) (x := "_law_script") (CX := fun _ => CX0) (sp := fun w => q5g (K w.params)) hn (by decide) hdf ⟨rfl,by decide,by decide⟩ hY F (fun _ _ a ns hl _ hS => ⟨a,ns,rfl,hS,hl,fun _ => rfl⟩) fun _ _ _ _ _ z => z
end K30
open PySem PySem.W PyProof.Rows
set_option maxRecDepth 100000 in
set_option maxHeartbeats 0 in
def PySem.W.Fast.tw12581024282205540593 : Unit := ()
def PySem.W.Fast.tw703359945521179916 : Unit := ()
def PySem.W.Fast.tw11814993075494159742 : Unit := ()
def PySem.W.Fast.tw1060302887754351112 : Unit := ()
def PySem.W.Fast.tw12407947910045064245 : Unit := ()
def PySem.W.Fast.tw9416902051462317826 : Unit := ()
def PySem.W.Fast.tw13425868919704149143 : Unit := ()
def PySem.W.Fast.tw1955965961200313726 : Unit := ()
def PySem.W.Fast.tw12759426414775740708 : Unit := ()
def PySem.W.Fast.tw1457992510965181961 : Unit := ()
def PySem.W.Fast.tw5122015352385677085 : Unit := ()
def PySem.W.Fast.tw3225480892718558217 : Unit := ()
def PySem.W.Fast.tw1406977943609438829 : Unit := ()
def PySem.W.Fast.tw4200469044345754480 : Unit := ()
def PySem.W.Fast.tw179431174741819283 : Unit := ()
def PySem.W.Fast.tw5812226344050800194 : Unit := ()
theorem PySem.Challenge.cw_curdcellar_k30_lyings_holds : PySem.Challenge.rw_curdcellar_k30_lyings.Holds := by
  w_on; o_law; k_head; (case hw => w_witness2)
  k_fill
  refine K30.walk (l := PySem.Challenge.rw_curdcellar_k30_lyings) rfl rfl (fun w h Y => W.kIn_of Y) ?F
  case F =>
    intro w mg fa h KX G hmg
    refine' K30.all_mk KX G hmg ..
    all_goals try first | k_exc | k_is
