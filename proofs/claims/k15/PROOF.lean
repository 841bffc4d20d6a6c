import PyProof.Rows.All
import Wide.All
import OpenK.AllK
import Wide.FinOn
import PyProof.EqAt
import PyProof.EqKinds
import PyProof.TupleCall
import PyProof.StrWalks
import PyProof.StrLawsTight
import PyProof.StrLawsIn
import PyProof.StrLawsIdx
import PyProof.ConsumeWalk
import PyProof.StrBlockG
import PyProof.MeetsStr2
import PyProof.ZipIter
import PyProof.Rows.ZipGen
import PyProof.NeKinds
import OpenK.KOwn
import PyProof.NsDelKeeps
import PyProof.ExcClass3
import PyProof.StationsW
import KE.KIsAll
import OpenK.KDescr
import KE.KIntText
import PyProof.FString
import PyProof.ReprStr
import PyProof.StrLawsRepr
import PyProof.DictItems
import PyProof.Rows.DictItemsRows
import KE.KPairComp
import KE.KMinKey
import PyProof.Rows.MinMaxN
import PyProof.Rows.CallKwBuiltin
import PyProof.AutoListH
import PyProof.Rows.TupIter
import PyProof.Rows.StrWeight2
import PyProof.EnumFor
import PyProof.EnumMake
import PyProof.Rows.EnumRows
import PyProof.Rows.SeqGen
import KE.KRevSl
import OpenK.KCls
import PyProof.Rows.SetFrom
import PyProof.SetRoads
import PyProof.DictKinds
import PyProof.Rows.Range3
import PySem.Challenge.RW_curdcellar_k15_night_losses
set_option Elab.async false
set_option linter.all false
set_option maxRecDepth 100000
namespace L2
open PySem PySem.Spec PyProof.Rows
abbrev Key := Sum Int Str
def keyIs : Key → Value → Bool
  | .inl k, v => Value.isInt k v
  | .inr x, v => Value.isStrOf x v
def keyH (w : World) : Key → Int
  | .inl k => hashInt k
  | .inr x => hashStr w x
theorem keyIs_shape : ∀ {k : Key} {v : Value}, keyIs k v = true → (∃ i t, k = Sum.inl i ∧ v = Value.int i t) ∨ (∃ x t, k = Sum.inr x ∧ v = Value.str x t)
  | .inl i, v, h => by
    obtain ⟨t, e⟩ := Value.isInt_shape (k := i) (v := v) h
    exact .inl ⟨i, t, rfl, e⟩
  | .inr x, v, h => by
    obtain ⟨t, e⟩ := Value.isStrOf_shape (x := x) (v := v) h
    exact .inr ⟨x, t, rfl, e⟩
theorem keyIs_int (i : Int) (t : Tok) : keyIs (.inl i) (.int i t) = true := by simp [keyIs, Value.isInt]
theorem keyIs_str (x : Str) (t : Tok) : keyIs (.inr x) (.str x t) = true := by simp [keyIs, Value.isStrOf]
theorem key_ll (a b : Int) : decide ((Sum.inl a : Key) = Sum.inl b) = (a == b) := by
  by_cases e : a = b
  · subst e; simp
  · have h : ¬ (Sum.inl a : Key) = Sum.inl b := fun q => e (Sum.inl.inj q)
    rw [decide_eq_false h]
    exact (beq_eq_false_iff_ne.mpr e).symm
theorem key_rr (a b : Str) : decide ((Sum.inr a : Key) = Sum.inr b) = decide (a = b) := by
  by_cases e : a = b
  · subst e; simp
  · have h : ¬ (Sum.inr a : Key) = Sum.inr b := fun q => e (Sum.inr.inj q)
    rw [decide_eq_false h, decide_eq_false e]
theorem key_lr (a : Int) (b : Str) : decide ((Sum.inl a : Key) = Sum.inr b) = false := decide_eq_false (fun q => nomatch q)
theorem key_rl (a : Str) (b : Int) : decide ((Sum.inr a : Key) = Sum.inl b) = false := decide_eq_false (fun q => nomatch q)
def mixKind (prog : Program) (w : World) : PySem.KeyKind prog w Key where
  is := keyIs
  hash := keyH w
  inj := fun v a b ha hb => by
    rcases keyIs_shape ha with ⟨i, t, rfl, rfl⟩ | ⟨x, t, rfl, rfl⟩
    · rcases keyIs_shape hb with ⟨j, u, rfl, e⟩ | ⟨y, u, rfl, e⟩
      · injection e with e1 _; rw [e1]
      · exact nomatch e
    · rcases keyIs_shape hb with ⟨j, u, rfl, e⟩ | ⟨y, u, rfl, e⟩
      · exact nomatch e
      · injection e with e1 _; rw [e1]
  byValue := fun k v h => by
    rcases keyIs_shape h with ⟨i, t, rfl, rfl⟩ | ⟨x, t, rfl, rfl⟩ <;> rfl
  pyHash := fun hv h => by
    rcases keyIs_shape hv with ⟨i, t, rfl, rfl⟩ | ⟨x, t, rfl, rfl⟩
    · exact wpAny_pyHash_int h
    · exact wpAny_pyHash_str h
  eqBool := fun hu hv h => by
    rcases keyIs_shape hu with ⟨i, t, rfl, rfl⟩ | ⟨x, t, rfl, rfl⟩
    · rcases keyIs_shape hv with ⟨j, u, rfl, rfl⟩ | ⟨y, u, rfl, rfl⟩
      · rw [key_ll] at h; exact wpAny_eqBool_int h
      · rw [key_lr] at h; exact SeqAt.EqAt.int_str i t y u _ _ _ _ h
    · rcases keyIs_shape hv with ⟨j, u, rfl, rfl⟩ | ⟨y, u, rfl, rfl⟩
      · rw [key_rl] at h; exact SeqAt.EqAt.str_int x t j u _ _ _ _ h
      · rw [key_rr] at h; exact wpAny_eqBool_str h
  «strs» := fun k x t v h => by
    rcases keyIs_shape h with ⟨i, u, rfl, e⟩ | ⟨y, u, rfl, e⟩
    · exact nomatch e
    · injection e with e1 _
      subst e1
      cases v <;> rfl
theorem mixKind_int (prog : Program) (w : World) (i : Int) (t : Tok) : (mixKind prog w).is (.inl i) (.int i t) = true := keyIs_int i t
theorem mixKind_str (prog : Program) (w : World) (x : Str) (t : Tok) : (mixKind prog w).is (.inr x) (.str x t) = true := keyIs_str x t
end L2
namespace L2
open PySem PySem.Spec PyProof.Rows
inductive V where
  | non | bl (b : Bool) | int (i : Int) | str (x : Str) | byt (b : Array UInt8) | flt (b : UInt64) | ref (a : Addr) | ty (n : String)
  deriving DecidableEq
def RelV : V → Value → Prop
  | .non, u => u = Value.none
  | .bl b, u => u = Value.bool b
  | .int i, u => ∃ t, u = Value.int i t
  | .str x, u => ∃ t, u = Value.str x t
  | .byt b, u => ∃ t, u = Value.bytes b t
  | .flt b, u => ∃ t, u = Value.float b t
  | .ref a, u => u = Value.ref a
  | .ty n, u => u = Value.type n
abbrev Vals : List V → List Value → Prop := Paired RelV
theorem Vals.length {xs : List V} {us : List Value} (r : Vals xs us) : xs.length = us.length := Paired.length r
theorem Vals.get : ∀ {xs : List V} {us : List Value} {i : Nat} {x : V}, Vals xs us → xs[i]? = some x → ∃ u, us[i]? = some u ∧ RelV x u
  | _, _, _, _, .nil, e => by simp at e
  | _, _, 0, _, .cons r _, e => by simp at e; subst e; exact ⟨_, rfl, r⟩
  | _, _, i + 1, x, .cons _ t, e => by
    obtain ⟨u, h1, h2⟩ := Vals.get (i := i) (x := x) t (by simpa using e)
    exact ⟨u, by simpa using h1, h2⟩
theorem Vals.set {x : V} {u : Value} (r : RelV x u) : ∀ {xs : List V} {us : List Value} (i : Nat), Vals xs us → Vals (xs.set i x) (us.set i u)
  | _, _, _, .nil => .nil
  | _, _, 0, .cons _ t => .cons r t
  | _, _, i + 1, .cons q t => .cons q (Vals.set r i t)
theorem Vals.append : ∀ {xs ys : List V} {us ws : List Value}, Vals xs us → Vals ys ws → Vals (xs ++ ys) (us ++ ws)
  | _, _, _, _, .nil, s => s
  | _, _, _, _, .cons r t, s => .cons r (Vals.append t s)
theorem Vals.take : ∀ {xs : List V} {us : List Value} (n : Nat), Vals xs us → Vals (xs.take n) (us.take n)
  | _, _, 0, _ => .nil
  | _, _, _ + 1, .nil => .nil
  | _, _, n + 1, .cons r t => .cons r (Vals.take n t)
theorem Vals.drop : ∀ {xs : List V} {us : List Value} (n : Nat), Vals xs us → Vals (xs.drop n) (us.drop n)
  | _, _, 0, r => r
  | _, _, _ + 1, .nil => .nil
  | _, _, n + 1, .cons _ t => Vals.drop n t
theorem Vals.none_of : ∀ {xs : List V} {us : List Value} {i : Nat}, Vals xs us → xs[i]? = none → us[i]? = none := fun {xs us i} r e => by
  have h1 := r.length
  have h2 : xs.length ≤ i := List.getElem?_eq_none_iff.mp e
  exact List.getElem?_eq_none_iff.mpr (by omega)
def RelO : Option V → Option Value → Prop
  | some v, some u => RelV v u
  | none, none => True
  | _, _ => False
def KV {κ : Type} : List (κ × V) → List (κ × Value) → Prop := Paired fun (p : κ × V) (q : κ × Value) => p.1 = q.1 ∧ RelV p.2 q.2
def kV : Key → V
  | .inl i => .int i
  | .inr x => .str x
inductive HO where
  | lst (xs : List V)
  | tup (xs : List V)
  | dK (kvs : List (Key × V)) | dT (kvs : List (List Key × V))
  | set (S : Int → Bool) (n : Nat)
  | ins (C dx : Addr) (fs : List (Str × V))
  | own (x : Addr)
  | xd (fs : List (Str × V))
  | met (f x : Addr)
  | rng (lo hi : Int)
  | frz (o : Obj) (u : HO)
  | tbl (ps : Array Value)
  | ext (φ : Heap → Prop)
abbrev Hp := Addr → Option HO
def upd (H : Hp) (a : Addr) (o : HO) : Hp := fun b => if b = a then some o else H b
theorem upd_same {H : Hp} {a : Addr} {o : HO} : upd H a o a = some o := by unfold upd; rw [if_pos rfl]
theorem upd_ne {H : Hp} {a b : Addr} {o : HO} (h : b ≠ a) : upd H a o b = H b := by unfold upd; rw [if_neg h]
theorem ne_of {H : Hp} {a b : Addr} {o u : HO} (h : H a = some o) (h' : H b = some u) (d : o ≠ u) : a ≠ b := by
  intro e; subst e; rw [h] at h'; exact d (Option.some.inj h')
theorem ne_of_none {H : Hp} {a b : Addr} {o : HO} (h : H a = some o) (h' : H b = none) : a ≠ b := by
  intro e; subst e; rw [h] at h'; cases h'
section
variable (P : Program) (w : World)
def ObjOk (H : Hp) (h : Heap) (a : Addr) : HO → Prop
  | .lst xs => xs.length ≤ sizeLine ∧ ∃ (its : List Value) (n : Nat), Vals xs its ∧ h.get? a = some { cls := .type "list", data := .seq its.toArray n }
  | .tup xs => xs.length ≤ sizeLine ∧ ∃ its : List Value, Vals xs its ∧ IsTup h a its.toArray
  | .dK kvs => kvs.length ≤ sizeLine ∧ (a == sysModules) = false ∧ ∃ vs, KV kvs vs ∧ h.DictOf (mixKind P w) a vs
  | .dT kvs => kvs.length ≤ sizeLine ∧ (a == sysModules) = false ∧ ∃ xs : List (List Key × Addr × Value),
      Paired (fun (p : List Key × V) (q : List Key × Addr × Value) => p.1 = q.1 ∧ H q.2.1 = some (.tup (p.1.map kV)) ∧ RelV p.2 q.2.2) kvs xs ∧
      ∃ o es ep, h.get? a = some o ∧ o.ExactDict ∧ o.data = .dict es ep ∧ es.toList = xs.map (entryOfKey (tupleKind (mixKind P w))) ∧ (xs.map (·.1)).Nodup
  | .set S n => h.SetOf (intKind P w) a S n
  | .ins C dx fs => H dx = some (.own a) ∧ fs.length ≤ 1000 ∧ dx ≠ a ∧ h.get? a = some (PySem.W.instObj C dx) ∧
      ∃ mA, h.Ns1 dx mA ∧ (∀ f, RelO (fs.lookup f) (mA f)) ∧ PySem.Within mA (fs.map (·.1))
  | .own _ => ∃ o, h.get? a = some o
  | .xd fs => ∃ mA, h.Ns1 a mA ∧ ∀ f, RelO (fs.lookup f) (mA f)
  | .rng lo hi => ∃ t u v, h.get? a = some { cls := .type "range", data := .fields #[.int lo t, .int hi u, .int 1 v] }
  | .frz o u => h.get? a = some o ∧ ObjOk H h a u
  | .tbl ps => h.get? a = some { cls := .none, data := .fields ps }
  | .met f x => h.get? a = some (PySem.W.methodObj (.ref f) (.ref x))
  | .ext φ => φ h ∧ (∃ o, h.get? a = some o) ∧ ∀ h1 h2 : Heap, φ h1 → (∀ o, h1.get? a = some o → h2.get? a = some o) → φ h2
def HOk (H : Hp) (h : Heap) : Prop := ∀ a o, H a = some o → ObjOk P w H h a o
end
section
variable {P : Program} {w : World} {H H' : Hp} {h h' : Heap} {a : Addr} {o : HO}
theorem ObjOk.lt (x : ObjOk P w H h a o) : a < h.objs.size := by
  cases o with
  | lst xs => obtain ⟨_, _, _, _, e⟩ := x; exact Heap.lt_size e
  | tup xs => obtain ⟨_, _, _, p⟩ := x; exact p.lt
  | dK kvs => obtain ⟨_, _, _, _, o, _, _, e, _⟩ := x; exact Heap.lt_size e
  | dT kvs => obtain ⟨_, _, _, _, o, _, _, e, _⟩ := x; exact Heap.lt_size e
  | set S n => obtain ⟨o, _, _, _, e, _⟩ := x; exact Heap.lt_size e
  | ins C dx fs => obtain ⟨_, _, _, e, _⟩ := x; exact Heap.lt_size e
  | own y => obtain ⟨_, e⟩ := x; exact Heap.lt_size e
  | xd fs => obtain ⟨_, ⟨_, _, _, e, _⟩, _⟩ := x; exact Heap.lt_size e
  | rng lo hi => obtain ⟨_, _, _, e⟩ := x; exact Heap.lt_size e
  | frz ob u => obtain ⟨e, _⟩ := x; exact Heap.lt_size e
  | tbl ps => exact Heap.lt_size (show h.get? a = some _ from x)
  | met f y => exact Heap.lt_size (show h.get? a = some _ from x)
  | ext φ => obtain ⟨_, ⟨_, e⟩, _⟩ := x; exact Heap.lt_size e
theorem Paired.mapP {α β : Type} {F G : α → β → Prop} : ∀ {l₁ : List α} {l₂ : List β}, Paired F l₁ l₂ → (∀ a b, F a b → G a b) → Paired G l₁ l₂
  | _, _, .nil, _ => .nil
  | _, _, .cons r t, f => .cons (f _ _ r) (Paired.mapP t f)
theorem ObjOk.stay (x : ObjOk P w H h a o) (k : ∀ b u, (b = a ∨ H b = some (.own a)) → h.get? b = some u → h'.get? b = some u)
    (ho : ∀ b, H b = some (.own a) → H' b = some (.own a)) (ht : ∀ b xs, H b = some (.tup xs) → H' b = some (.tup xs)) : ObjOk P w H' h' a o := by
  induction o with
  | lst xs => obtain ⟨z, its, n, r, e⟩ := x; exact ⟨z, its, n, r, k _ _ (.inl rfl) e⟩
  | tup xs => obtain ⟨z, its, r, ob, e, c⟩ := x; exact ⟨z, its, r, ob, k _ _ (.inl rfl) e, c⟩
  | dK kvs => obtain ⟨z, y, vs, r, ob, es, ep, e, c⟩ := x; exact ⟨z, y, vs, r, ob, es, ep, k _ _ (.inl rfl) e, c⟩
  | dT kvs =>
    obtain ⟨z, y, xs, r, ob, es, ep, e, c⟩ := x
    exact ⟨z, y, xs, Paired.mapP r fun p q z => ⟨z.1, ht _ _ z.2.1, z.2.2⟩, ob, es, ep, k _ _ (.inl rfl) e, c⟩
  | set S n => obtain ⟨ob, es, ep, t, e, c⟩ := x; exact ⟨ob, es, ep, t, k _ _ (.inl rfl) e, c⟩
  | ins C dx fs =>
    obtain ⟨d, z, ne, e, mA, ⟨od, es, ep, e2, c⟩, r⟩ := x
    exact ⟨ho _ d, z, ne, k _ _ (.inl rfl) e, mA, ⟨od, es, ep, k _ _ (.inr d) e2, c⟩, r⟩
  | own y => obtain ⟨ob, e⟩ := x; exact ⟨ob, k _ _ (.inl rfl) e⟩
  | xd fs => obtain ⟨mA, ⟨od, es, ep, e, c⟩, r⟩ := x; exact ⟨mA, ⟨od, es, ep, k _ _ (.inl rfl) e, c⟩, r⟩
  | rng lo hi => obtain ⟨t, u, v, e⟩ := x; exact ⟨t, u, v, k _ _ (.inl rfl) e⟩
  | frz ob u ih => obtain ⟨e, q⟩ := x; exact ⟨k _ _ (.inl rfl) e, ih q⟩
  | tbl ps =>
    have e : h.get? a = some { cls := .none, data := .fields ps } := x
    show h'.get? a = some { cls := .none, data := .fields ps }
    exact k a _ (.inl rfl) e
  | met f y =>
    have e : h.get? a = some (PySem.W.methodObj (.ref f) (.ref y)) := x
    show h'.get? a = some (PySem.W.methodObj (.ref f) (.ref y))
    exact k a _ (.inl rfl) e
  | ext φ => obtain ⟨p, ⟨o, e⟩, st⟩ := x; exact ⟨st _ _ p fun o q => k _ _ (.inl rfl) q, ⟨o, k _ _ (.inl rfl) e⟩, st⟩
theorem HOk.lt (x : HOk P w H h) (e : H a = some o) : a < h.objs.size := (x a o e).lt
theorem HOk.fresh (x : HOk P w H h) (e : h.objs.size ≤ a) : H a = none := by
  cases q : H a with
  | none => rfl
  | some u => exact absurd (Nat.lt_of_lt_of_le (x.lt q) e) (Nat.lt_irrefl _)
theorem HOk.kept (x : HOk P w H h) (k : ∀ b u, h.get? b = some u → h'.get? b = some u) : HOk P w H h' := fun a o e =>
  (x a o e).stay (fun b u _ q => k b u q) (fun _ q => q) fun _ _ q => q
theorem HOk.laid (x : HOk P w H h) (k : ∀ b u, h.get? b = some u → h'.get? b = some u) (hp : h.objs.size ≤ a) (new : ObjOk P w (upd H a o) h' a o) : HOk P w (upd H a o) h' := fun b u e => by
  have hn := x.fresh hp
  by_cases hb : b = a
  · subst hb; rw [upd_same] at e; cases e; exact new
  · rw [upd_ne hb] at e
    exact (x b u e).stay (fun c v _ q => k c v q) (fun c q => by rw [upd_ne (ne_of_none q hn)]; exact q) fun c xs q => by rw [upd_ne (ne_of_none q hn)]; exact q
end
def Rd (H : Hp) (a : Addr) (u : HO) : Prop := H a = some u ∨ ∃ o, H a = some (.frz o u)
theorem Rd.of {H : Hp} {a : Addr} {u : HO} (h : H a = some u) : Rd H a u := .inl h
theorem Rd.ok {P : Program} {w : World} {H : Hp} {h : Heap} {a : Addr} {u : HO} (r : Rd H a u) (x : HOk P w H h) : ObjOk P w H h a u := by
  rcases r with r | ⟨o, r⟩
  · exact x a u r
  · obtain ⟨_, q⟩ := x a _ r
    exact q
def Mut : Option HO → Prop
  | some (.lst _) => True
  | some (.dK _) => True
  | some (.dT _) => True
  | some (.set _ _) => True
  | some (.ins _ _ _) => True
  | some (.ext _) => True
  | _ => False
section
variable {P : Program} {w : World} {H : Hp} {h h' : Heap} {x e : Addr} {o' : HO}
theorem HOk.write (ok : HOk P w H h) (mu : Mut (H x)) (he : e = x ∨ H e = some (.own x)) (k : ∀ b u, b ≠ e → h.get? b = some u → h'.get? b = some u) (heo : ∃ u, h'.get? e = some u)
    (new : ObjOk P w (upd H x o') h' x o') : HOk P w (upd H x o') h' := fun b u q => by
  have nown : ∀ c y, H c = some (.own y) → c ≠ x := fun c y r z => by subst z; rw [r] at mu; exact mu
  have ntup : ∀ c xs, H c = some (.tup xs) → c ≠ x := fun c xs r z => by subst z; rw [r] at mu; exact mu
  by_cases hb : b = x
  · subst hb; rw [upd_same] at q; cases q; exact new
  · rw [upd_ne hb] at q
    by_cases hbe : b = e
    · have q' : H b = some (.own x) := by
        rcases he with z | z
        · exact absurd (hbe.trans z) hb
        · rw [hbe]; exact z
      rw [q] at q'; cases q'
      obtain ⟨v, hv⟩ := heo
      exact ⟨v, by rw [hbe]; exact hv⟩
    · refine (ok b u q).stay (fun c v hc r => k c v ?_ r) (fun c r => by rw [upd_ne (nown c b r)]; exact r) fun c xs r => by rw [upd_ne (ntup c xs r)]; exact r
      rcases hc with rfl | hc
      · exact hbe
      · rintro rfl
        rcases he with z | z
        · exact nown c b hc z
        · rw [hc] at z; cases z; exact hb rfl
end
structure Un (fs ex : List Addr) (H H' : Hp) (h h' : Heap) : Prop where
  keep : ∀ b o, h.get? b = some o → H b = none → b ∉ fs → b ∉ ex → h'.get? b = some o
  slot : ∀ b o, h.get? b = some o → H b = none → b ∈ fs → b ∉ ex → ∃ sl, h'.get? b = some { o with slots := sl }
  free : ∀ b o, h.get? b = some o → H b = none → b ∉ ex → H' b = none
  there : ∀ b o, h.get? b = some o → b ∉ ex → ∃ o', h'.get? b = some o'
  tups : ∀ b xs, H b = some (.tup xs) → H' b = some (.tup xs)
  frzs : ∀ b o u, H b = some (.frz o u) → H' b = some (.frz o u)
  tbls : ∀ b ps, H b = some (.tbl ps) → ∃ more, H' b = some (.tbl (ps ++ more))
section
variable {fs fs' ex ex' : List Addr} {H H1 H2 : Hp} {h h1 h2 h' : Heap} {a x e : Addr} {o : HO}
theorem Un.any (u : Un fs ex H H1 h h1) {b : Addr} {ob : Obj} (q : h.get? b = some ob) (n : H b = none) (hx : b ∉ ex) : ∃ sl, h1.get? b = some { ob with slots := sl } := by
  by_cases hb : b ∈ fs
  · exact u.slot b ob q n hb hx
  · exact ⟨ob.slots, u.keep b ob q n hb hx⟩
theorem Un.trans (a : Un fs ex H H1 h h1) (b : Un fs ex H1 H2 h1 h2) : Un fs ex H H2 h h2 where
  keep := fun c ob q n hc hx => b.keep c ob (a.keep c ob q n hc hx) (a.free c ob q n hx) hc hx
  slot := fun c ob q n hc hx => by
    obtain ⟨sl, e1⟩ := a.slot c ob q n hc hx
    obtain ⟨sl', e2⟩ := b.slot c _ e1 (a.free c ob q n hx) hc hx
    exact ⟨sl', e2⟩
  free := fun c ob q n hx => by
    obtain ⟨o', e1⟩ := a.there c ob q hx
    exact b.free c o' e1 (a.free c ob q n hx) hx
  there := fun c ob q hx => by
    obtain ⟨o', e1⟩ := a.there c ob q hx
    exact b.there c o' e1 hx
  tups := fun c xs q => b.tups c xs (a.tups c xs q)
  frzs := fun c ob xs q => b.frzs c ob xs (a.frzs c ob xs q)
  tbls := fun c ps q => by
    obtain ⟨m1, e1⟩ := a.tbls c ps q
    obtain ⟨m2, e2⟩ := b.tbls c _ e1
    exact ⟨m1 ++ m2, by rw [e2, Array.append_assoc]⟩
theorem Un.kept (k : ∀ b u, h.get? b = some u → h'.get? b = some u) : Un fs ex H H h h' :=
  ⟨fun b ob q _ _ _ => k b ob q, fun b ob q _ _ _ => ⟨ob.slots, k b ob q⟩, fun _ _ _ n _ => n, fun b ob q _ => ⟨ob, k b ob q⟩, fun _ _ q => q, fun _ _ _ q => q, fun _ ps q => ⟨#[], by rw [q]; simp⟩⟩
theorem Un.refl : Un fs ex H H h h := Un.kept fun _ _ q => q
theorem Un.laid (k : ∀ b u, h.get? b = some u → h'.get? b = some u) (hp : h.objs.size ≤ a) (hn : H a = none) : Un fs ex H (upd H a o) h h' where
  keep := fun b u q _ _ _ => k b u q
  slot := fun b u q _ _ _ => ⟨u.slots, k b u q⟩
  free := fun b u q n _ => by rw [upd_ne (Nat.ne_of_lt (Nat.lt_of_lt_of_le (Heap.lt_size q) hp))]; exact n
  there := fun b u q _ => ⟨u, k b u q⟩
  tups := fun b xs q => by rw [upd_ne (ne_of_none q hn)]; exact q
  frzs := fun b u xs q => by rw [upd_ne (ne_of_none q hn)]; exact q
  tbls := fun b ps q => ⟨#[], by rw [upd_ne (ne_of_none q hn), q]; simp⟩
theorem Un.write (mu : Mut (H x)) (he : e = x ∨ H e = some (.own x)) (k : ∀ b u, b ≠ e → h.get? b = some u → h'.get? b = some u) (heo : ∃ u, h'.get? e = some u) : Un fs ex H (upd H x o) h h' := by
  have hx : ∀ b, H b = none → b ≠ x := fun b n z => by subst z; rw [n] at mu; exact mu
  have hb : ∀ b, H b = none → b ≠ e := fun b n z => by
    subst z
    rcases he with r | r
    · exact hx b n r
    · rw [n] at r; cases r
  have hm : ∀ b u, H b = some u → ¬ Mut (some u) → b ≠ x := fun b u q nm z => by subst z; rw [q] at mu; exact nm mu
  refine ⟨fun b u q n _ _ => k b u (hb b n) q, fun b u q n _ _ => ⟨u.slots, k b u (hb b n) q⟩, fun b u q n _ => by rw [upd_ne (hx b n)]; exact n, fun b u q _ => ?_,
    fun b xs q => by rw [upd_ne (hm b _ q fun z => z)]; exact q, fun b u xs q => by rw [upd_ne (hm b _ q fun z => z)]; exact q, fun b ps q => ⟨#[], by rw [upd_ne (hm b _ q fun z => z), q]; simp⟩⟩
  by_cases hbe : b = e
  · subst hbe; exact heo
  · exact ⟨u, k b u hbe q⟩
theorem Un.mono (u : Un fs ex H H1 h h1) (hs : ∀ b ∈ fs, b ∈ fs') (hx : ∀ b ∈ ex, b ∈ ex') : Un fs' ex' H H1 h h1 :=
  ⟨fun b ob q n hb he => u.keep b ob q n (fun z => hb (hs b z)) fun z => he (hx b z), fun _ _ q n _ he => u.any q n fun z => he (hx _ z), fun b ob q n he => u.free b ob q n fun z => he (hx b z), fun b ob q he => u.there b ob q fun z => he (hx b z), u.tups, u.frzs, u.tbls⟩
end
def trk (h : Heap) (H : Hp) : List Addr := (List.range h.objs.size).filter fun a => (H a).isSome
def hidT (h : Heap) (H : Hp) : Heap := PySem.W.hideAll h (trk h H)
theorem hidT_size (h : Heap) (H : Hp) : (hidT h H).objs.size = h.objs.size := PySem.W.hideAll_size _ _
theorem hidT_get {h : Heap} {H : Hp} {b : Addr} {o : Obj} (e : h.get? b = some o) (n : H b = none) : (hidT h H).get? b = some o :=
  PySem.W.hideAll_get _ e fun hm => by
    have q : (H b).isSome = true := (List.mem_filter.mp hm).2
    rw [n] at q; simp at q
theorem of_hidT {h : Heap} {H : Hp} {b : Addr} {o : Obj} (e : (hidT h H).get? b = some o) : h.get? b = some o ∧ H b = none := by
  have e' : h.get? b = some o := PySem.W.of_hideAll (trk h H) e
  refine ⟨e', ?_⟩
  cases q : H b with
  | none => rfl
  | some x =>
    have hm : b ∈ trk h H := List.mem_filter.mpr ⟨List.mem_range.mpr (Heap.lt_size e'), by simp [q]⟩
    have z : (hidT h H).get? b = none := PySem.W.hideAll_none (trk h H) hm
    rw [z] at e; cases e
def allNews (g h : Heap) (L : Addr) : List (Addr × Obj) := (List.range h.objs.size).filterMap fun a => if a = L ∨ (g.get? a).isSome = true then none else (h.get? a).map fun o => (a, o)
def rest (g h : Heap) (L d : Addr) : List (Addr × Obj) := (allNews g h L).filter fun p => decide (p.1 ≠ d)
end L2
namespace L2
open PySem PySem.Spec PyProof.Rows
structure Mod (K : PySem.W.Frag) (mg : Str → Option Value) (base : Heap) : Prop where
  kin : K.In base
  glob : base.Ns mainGlobals mg
  blt : ∃ mb, base.Ns builtinsNs mb ∧ ∀ x : Str, x ≠ "__name__" → mb x = bootBuiltins x
  nolimit : base.NoLimit
structure Cx where
  prog : Program
  w : World
  K : PySem.W.Frag
  mg : Str → Option Value
  base : Heap
  A : Around
  N : List Str
  s₀ : Shared
  H₀ : Hp
  env : Env
  outer : List Env
  stack : List Env
  ex : List Addr
  fn : Str → Bool
  calm : Bool
  pn : List (Addr × Obj)
  xe : Value → Shared → Prop
def frs (l : List Env) : List Addr := l.filterMap (·.frame)
abbrev Cx.fs (X : Cx) : List Addr := frs X.outer
def Vis (sc : Scope) (x : Str) : Prop := sc.names.lookup x = some .local ∨ sc.names.lookup x = some .cell ∨ sc.names.lookup x = some .free
def Loc (sc : Scope) (x : Str) : Prop := sc.names.lookup x = some .local ∨ sc.names.lookup x = some .cell
def Look (env : Env) (h : Heap) (m : Str → Option Value) (x : Str) (u : Value) : Prop :=
  (env.kindOf x = some .local ∧ m x = some u) ∨ ((env.kindOf x = some .cell ∨ env.kindOf x = some .free) ∧ ∃ c, env.cells.lookup x = some c ∧ h.IsCell c (some u))
structure Cx.Ok (X : Cx) : Prop where
  mod : Mod X.K X.mg X.base
  kind : X.env.scope.kind = .function
  glob : X.env.globals = mainGlobals
  blt : X.env.builtins = builtinsNs
  above : X.s₀.heap.objs.size ≤ X.env.locals
  inj : ∀ x y c, X.env.cells.lookup x = some c → X.env.cells.lookup y = some c → x = y
  has : ∀ x, (X.env.kindOf x = some .cell ∨ X.env.kindOf x = some .free) → ∃ c, X.env.cells.lookup x = some c
  cab : ∀ x c, X.fn x = true → X.env.cells.lookup x = some c → X.s₀.heap.objs.size ≤ c
  hd : X.calm = true → X.A.handled = none
  frames : X.A.frames = some X.stack
  stk : X.stack = X.outer ∨ (X.stack = X.env :: X.outer ∧ X.env.frame = some X.env.locals)
  exf : ∀ b ∈ X.ex, b ≠ X.env.locals ∧ ∀ x c, X.env.cells.lookup x = some c → c ≠ b
  bs : ∀ b o, X.base.get? b = some o → X.s₀.heap.get? b = some o ∧ X.H₀ b = none
  bsz : X.base.objs.size ≤ X.s₀.heap.objs.size
  noex : ∀ b o, X.base.get? b = some o → b ∉ X.ex
  exfs : ∀ b ∈ X.ex, b ∉ X.fs
  funs : X.s₀.heap.FunFrames X.base X.outer
  frf : ∀ b ∈ X.fs, X.H₀ b = none
structure Inv (X : Cx) (pins : List (Addr × Obj)) (σ : List (Option V)) (H : Hp) (s : Shared) : Prop where
  ok : X.Ok
  os : s.os = X.s₀.os
  bare : AllBare s.gens
  base : Un X.fs X.ex X.H₀ H X.s₀.heap s.heap
  loc : ∃ m, s.heap.Ns X.env.locals m ∧ ∀ (i : Nat) (x : Str) (v : V), X.N[i]? = some x → σ[i]? = some (some v) → Vis X.env.scope x → ∃ u, RelV v u ∧ Look X.env s.heap m x u
  cell : ∀ x c, X.env.cells.lookup x = some c → ∃ v, s.heap.IsCell c v
  free : H X.env.locals = none
  freeC : ∀ x c, X.env.cells.lookup x = some c → H c = none
  pin : ∀ p ∈ X.pn ++ pins, s.heap.get? p.1 = some p.2 ∧ H p.1 = none ∧ p.1 ≠ X.env.locals ∧ p.1 ∉ X.fs ∧ ∀ v, p.2.data ≠ .cell v
  hok : HOk X.prog X.w H s.heap
  len : σ.length = X.N.length
section
variable {X : Cx} {pins : List (Addr × Obj)} {σ : List (Option V)} {H H' : Hp} {s : Shared} {h' : Heap}
theorem Cx.Ok.nofr (ok : X.Ok) {b : Addr} {o : Obj} (e : X.base.get? b = some o) : b ∉ X.fs := fun hb => by
  have := (ok.funs.mem hb).1
  rw [e] at this; cases this
theorem Inv.bs (I : Inv X pins σ H s) : ∀ b o, X.base.get? b = some o → s.heap.get? b = some o ∧ H b = none := fun b o e =>
  ⟨I.base.keep b o (I.ok.bs b o e).1 (I.ok.bs b o e).2 (I.ok.nofr e) (I.ok.noex b o e), I.base.free b o (I.ok.bs b o e).1 (I.ok.bs b o e).2 (I.ok.noex b o e)⟩
theorem Inv.bk (I : Inv X pins σ H s) : ∀ b o, X.base.get? b = some o → s.heap.get? b = some o := fun b o e => (I.bs b o e).1
theorem Inv.mod (I : Inv X pins σ H s) : Mod X.K X.mg X.base := I.ok.mod
theorem Inv.kIn (I : Inv X pins σ H s) : X.K.In s.heap := I.ok.mod.kin.keeps I.bk
theorem Inv.nolimit (I : Inv X pins σ H s) : s.heap.NoLimit := I.ok.mod.nolimit.keeps I.bk
theorem Inv.fr (I : Inv X pins σ H s) : ∃ m, Fr X.base X.env.locals s.heap m :=
  let ⟨m, hn, _⟩ := I.loc
  ⟨m, hn, I.bk, Nat.le_trans I.ok.bsz I.ok.above⟩
theorem Inv.lt (I : Inv X pins σ H s) : X.env.locals < s.heap.objs.size := let ⟨_, hn, _⟩ := I.loc; hn.lt
theorem Inv.sz (I : Inv X pins σ H s) : X.s₀.heap.objs.size ≤ s.heap.objs.size := Nat.le_trans I.ok.above (Nat.le_of_lt I.lt)
theorem Inv.nofs (I : Inv X pins σ H s) {a : Addr} (h : s.heap.objs.size ≤ a) : a ∉ X.fs := fun hb => by
  obtain ⟨_, o, ho, _⟩ := I.ok.funs.mem hb
  exact absurd (Nat.lt_of_lt_of_le (Heap.lt_size ho) (Nat.le_trans I.sz h)) (Nat.lt_irrefl _)
theorem Inv.cne (I : Inv X pins σ H s) : ∀ x c, X.env.cells.lookup x = some c → c ≠ X.env.locals := fun x c e z => by
  obtain ⟨v, o, ho, hd⟩ := I.cell x c e
  obtain ⟨m, ⟨o', es, ep, ho', hd', _⟩, _⟩ := I.loc
  rw [z, ho'] at ho; cases ho; rw [hd'] at hd; cases hd
theorem Inv.funs (I : Inv X pins σ H s) : s.heap.FunFrames X.base X.outer := by
  have all : ∀ (l : List Env), (∀ b ∈ frs l, b ∈ X.fs) → X.s₀.heap.FunFrames X.base l → s.heap.FunFrames X.base l := by
    intro l
    induction l with
    | nil => intro _ _; trivial
    | cons env r ih =>
      intro hs hl
      obtain ⟨hk, ⟨L, o, hf, hn, ho, hd⟩, hr⟩ := hl
      have hL : L ∈ X.fs := hs L (by unfold frs; rw [List.filterMap_cons, hf]; exact List.mem_cons_self)
      obtain ⟨sl, e⟩ := I.base.slot L o ho (I.ok.frf L hL) hL fun z => I.ok.exfs L z hL
      exact ⟨hk, ⟨L, _, hf, hn, e, hd⟩, ih (fun b hb => hs b (by unfold frs; rw [List.filterMap_cons, hf]; exact List.mem_cons_of_mem _ hb)) hr⟩
  exact all X.outer (fun _ hb => hb) I.ok.funs
theorem Inv.stack (I : Inv X pins σ H s) : s.heap.FunFrames X.base X.stack := by
  rcases I.ok.stk with e | ⟨e, hf⟩
  · rw [e]; exact I.funs
  · rw [e]
    obtain ⟨m, hn, _⟩ := I.loc
    refine .cons (by rw [I.ok.kind]; decide) hf hn ?_ I.funs
    exact Heap.get?_none_of_le (Nat.le_trans I.ok.bsz I.ok.above)
theorem Inv.stkSub (I : Inv X pins σ H s) : ∀ b ∈ frs X.stack, b ∈ X.env.locals :: X.fs := fun b hb => by
  rcases I.ok.stk with e | ⟨e, hf⟩
  · rw [e] at hb; exact List.mem_cons_of_mem _ hb
  · rw [e] at hb
    unfold frs at hb
    rw [List.filterMap_cons, hf] at hb
    exact hb
theorem Inv.stkFree (I : Inv X pins σ H s) : ∀ b ∈ frs X.stack, H b = none := fun b hb => by
  rcases List.mem_cons.mp (I.stkSub b hb) with e | hb
  · rw [e]; exact I.free
  · obtain ⟨_, o, ho, _⟩ := I.ok.funs.mem hb
    exact I.base.free b o ho (I.ok.frf b hb) fun z => I.ok.exfs b z hb
theorem Inv.step {g' : Array GenState} {t' : Nat} {d' : Drawn} {ch : List Addr} (I : Inv X pins σ H s)
    (hch : ∀ b ∈ ch, (b ∈ X.ex ∨ X.s₀.heap.objs.size ≤ b) ∧ b ≠ X.env.locals ∧ (∀ x c, X.env.cells.lookup x = some c → c ≠ b) ∧ ∀ p ∈ X.pn ++ pins, p.1 ≠ b)
    (keep : ∀ b o, b ≠ X.env.locals → b ∉ X.fs → b ∉ ch → s.heap.get? b = some o → H b = none → h'.get? b = some o)
    (slot : ∀ b o, b ≠ X.env.locals → b ∈ X.fs → b ∉ ch → s.heap.get? b = some o → H b = none → ∃ sl, h'.get? b = some { o with slots := sl }) (free : ∀ b o, b ∉ ch → s.heap.get? b = some o → H b = none → H' b = none)
    (there : ∀ b o, b ∉ ch → s.heap.get? b = some o → ∃ o', h'.get? b = some o')
    (tups : ∀ b xs, H b = some (.tup xs) → H' b = some (.tup xs)) (frzs : ∀ b o u, H b = some (.frz o u) → H' b = some (.frz o u)) (tbls : ∀ b ps, H b = some (.tbl ps) → ∃ more, H' b = some (.tbl (ps ++ more)))
    (ns : ∀ m, s.heap.Ns X.env.locals m → h'.Ns X.env.locals m) (hok : HOk X.prog X.w H' h') (hg : AllBare g') :
    Inv X pins σ H' { s with heap := h', gens := g', drawn := d', toks := t' } := by
  have neL : ∀ b o, X.s₀.heap.get? b = some o → b ≠ X.env.locals := fun b o e => Nat.ne_of_lt (Nat.lt_of_lt_of_le (Heap.lt_size e) I.ok.above)
  have neC : ∀ b o, X.s₀.heap.get? b = some o → b ∉ X.ex → b ∉ ch := fun b o e hx hb => by
    rcases (hch b hb).1 with z | z
    · exact hx z
    · exact absurd (Nat.lt_of_lt_of_le (Heap.lt_size e) z) (Nat.lt_irrefl _)
  have cellK : ∀ x c, X.env.cells.lookup x = some c → ∀ v, s.heap.IsCell c v → h'.IsCell c v := fun x c e v ⟨o, ho, hd⟩ => by
    have nch : c ∉ ch := fun z => (hch c z).2.2.1 x c e rfl
    by_cases hc : c ∈ X.fs
    · obtain ⟨sl, q⟩ := slot c o (I.cne x c e) hc nch ho (I.freeC x c e)
      exact ⟨_, q, hd⟩
    · exact ⟨o, keep c o (I.cne x c e) hc nch ho (I.freeC x c e), hd⟩
  refine ⟨I.ok, I.os, hg, ⟨fun b o e n hb hx => ?_, fun b o e n hb hx => ?_, fun b o e n hx => ?_, fun b o e hx => ?_, fun b xs e => tups b xs (I.base.tups b xs e), fun b o xs e => frzs b o xs (I.base.frzs b o xs e), fun b ps e => ?_⟩, ?_, fun x c e => ?_, ?_, fun x c e => ?_, fun p hp => ?_, hok, I.len⟩
  · exact keep b o (neL b o e) hb (neC b o e hx) (I.base.keep b o e n hb hx) (I.base.free b o e n hx)
  · obtain ⟨sl, e1⟩ := I.base.slot b o e n hb hx
    obtain ⟨sl', e2⟩ := slot b _ (neL b o e) hb (neC b o e hx) e1 (I.base.free b o e n hx)
    exact ⟨sl', e2⟩
  · obtain ⟨o', e1⟩ := I.base.there b o e hx
    exact free b o' (neC b o e hx) e1 (I.base.free b o e n hx)
  · obtain ⟨o', e1⟩ := I.base.there b o e hx
    exact there b o' (neC b o e hx) e1
  · obtain ⟨m1, e1⟩ := I.base.tbls b ps e
    obtain ⟨m2, e2⟩ := tbls b _ e1
    exact ⟨m1 ++ m2, by rw [e2, Array.append_assoc]⟩
  · obtain ⟨m, hn, hl⟩ := I.loc
    refine ⟨m, ns m hn, fun i x v e1 e2 e3 => ?_⟩
    obtain ⟨u, r, l⟩ := hl i x v e1 e2 e3
    refine ⟨u, r, ?_⟩
    rcases l with l | ⟨k, c, e, z⟩
    · exact .inl l
    · exact .inr ⟨k, c, e, cellK x c e _ z⟩
  · obtain ⟨v, z⟩ := I.cell x c e
    exact ⟨v, cellK x c e v z⟩
  · obtain ⟨m, ⟨o, _, _, ho, _⟩, _⟩ := I.loc
    exact free _ o (fun z => (hch _ z).2.1 rfl) ho I.free
  · obtain ⟨v, o, ho, hd⟩ := I.cell x c e
    exact free c o (fun z => (hch c z).2.2.1 x c e rfl) ho (I.freeC x c e)
  · obtain ⟨e, n, ne, nf, d⟩ := I.pin p hp
    have nch : p.1 ∉ ch := fun z => (hch p.1 z).2.2.2 p hp rfl
    exact ⟨keep p.1 p.2 ne nf nch e n, free p.1 p.2 nch e n, ne, nf, d⟩
theorem Inv.un {t' : Nat} (I : Inv X pins σ H s) (u : Un X.fs [] H H' s.heap h') (hok : HOk X.prog X.w H' h') : Inv X pins σ H' { s with heap := h', toks := t' } := by
  obtain ⟨m, ⟨o, es, ep, ho, r⟩, _⟩ := id I.loc
  obtain ⟨sl, hL⟩ := u.any ho I.free (by simp)
  exact I.step (g' := s.gens) (d' := s.drawn) (ch := []) (fun _ z => nomatch z) (fun b o _ hb _ e n => u.keep b o e n hb (by simp)) (fun b o _ hb _ e n => u.slot b o e n hb (by simp)) (fun b o _ e n => u.free b o e n (by simp)) (fun b o _ e => u.there b o e (by simp)) u.tups u.frzs u.tbls (fun m' hm => by
    obtain ⟨o', es', ep', ho', r'⟩ := hm
    rw [ho] at ho'; cases ho'
    exact ⟨_, es', ep', hL, r'⟩) hok I.bare
theorem Inv.call {g' : Array GenState} {t' : Nat} {d' : Drawn} {ch : List Addr} (I : Inv X pins σ H s) (u : Un (frs X.stack) ch H H' s.heap h') (hok : HOk X.prog X.w H' h') (hg : AllBare g')
    (hch : ∀ b ∈ ch, (b ∈ X.ex ∨ X.s₀.heap.objs.size ≤ b) ∧ b ≠ X.env.locals ∧ (∀ x c, X.env.cells.lookup x = some c → c ≠ b) ∧ ∀ p ∈ X.pn ++ pins, p.1 ≠ b) :
    Inv X pins σ H' { s with heap := h', gens := g', drawn := d', toks := t' } := by
  obtain ⟨m, ⟨o, es, ep, ho, r⟩, _⟩ := id I.loc
  obtain ⟨sl, hL⟩ := u.any ho I.free fun z => (hch _ z).2.1 rfl
  exact I.step (ch := ch) hch (fun b o hL hb hc e n => u.keep b o e n (fun z => (List.mem_cons.mp (I.stkSub b z)).elim hL hb) hc) (fun b o _ _ hc e n => u.any e n hc) (fun b o hc e n => u.free b o e n hc) (fun b o hc e => u.there b o e hc) u.tups u.frzs u.tbls (fun m' hm => by
    obtain ⟨o', es', ep', ho', r'⟩ := hm
    rw [ho] at ho'; cases ho'
    exact ⟨_, es', ep', hL, r'⟩) hok hg
theorem Inv.turned {t' : Nat} {it : Addr} (I : Inv X pins σ H s) (k : ∀ b o, b ≠ it → s.heap.get? b = some o → h'.get? b = some o) (hn : H it = none) (hL : it ≠ X.env.locals)
    (h1 : it ∈ X.ex ∨ X.s₀.heap.objs.size ≤ it) (h2 : ∀ x c, X.env.cells.lookup x = some c → c ≠ it) (h3 : ∀ p ∈ X.pn ++ pins, p.1 ≠ it) : Inv X pins σ H { s with heap := h', toks := t' } := by
  have nit : ∀ b u, H b = some u → b ≠ it := fun b u e z => by rw [z, hn] at e; cases e
  refine I.step (g' := s.gens) (d' := s.drawn) (ch := [it]) (fun b hb => ?_) (fun b o _ _ hc e _ => k b o (fun z => hc (by simp [z])) e) (fun b o _ _ hc e _ => ⟨o.slots, k b o (fun z => hc (by simp [z])) e⟩) (fun _ _ _ _ n => n)
    (fun b o hc e => ⟨o, k b o (fun z => hc (by simp [z])) e⟩) (fun _ _ e => e) (fun _ _ _ e => e) (fun b ps e => ⟨#[], by rw [e]; simp⟩) (fun m hm => ?_) (fun b u e => ?_) I.bare
  · have e : b = it := by simpa using hb
    subst e
    exact ⟨h1, hL, h2, h3⟩
  · obtain ⟨o, es, ep, ho, r⟩ := hm
    exact ⟨o, es, ep, k _ o (Ne.symm hL) ho, r⟩
  · refine (I.hok b u e).stay (fun c v hc q => k c v ?_ q) (fun _ q => q) fun _ _ q => q
    rcases hc with z | z
    · rw [z]; exact nit b u e
    · exact nit c _ z
theorem Inv.tok (I : Inv X pins σ H s) (t : Nat) : Inv X pins σ H { s with toks := t } := I.un (h' := s.heap) (t' := t) Un.refl I.hok
theorem Inv.kept {t' : Nat} (I : Inv X pins σ H s) (k : ∀ b u, s.heap.get? b = some u → h'.get? b = some u) : Inv X pins σ H { s with heap := h', toks := t' } := I.un (Un.kept k) (I.hok.kept k)
theorem Inv.laid {a : Addr} {o : HO} {t' : Nat} (I : Inv X pins σ H s) (k : ∀ b u, s.heap.get? b = some u → h'.get? b = some u) (hp : s.heap.objs.size ≤ a) (new : ObjOk X.prog X.w (upd H a o) h' a o) :
    Inv X pins σ (upd H a o) { s with heap := h', toks := t' } := I.un (Un.laid k hp (I.hok.fresh hp)) (I.hok.laid k hp new)
theorem Inv.write {x e : Addr} {o : HO} {t' : Nat} (I : Inv X pins σ H s) (mu : Mut (H x)) (he : e = x ∨ H e = some (.own x)) (k : ∀ b u, b ≠ e → s.heap.get? b = some u → h'.get? b = some u) (heo : ∃ u, h'.get? e = some u)
    (new : ObjOk X.prog X.w (upd H x o) h' x o) : Inv X pins σ (upd H x o) { s with heap := h', toks := t' } := I.un (Un.write mu he k heo) (I.hok.write mu he k heo new)
theorem Inv.weak {σ' : List (Option V)} (I : Inv X pins σ H s) (hl : σ'.length = σ.length) (w : ∀ (i : Nat) v, σ'[i]? = some (some v) → σ[i]? = some (some v)) : Inv X pins σ' H s :=
  ⟨I.ok, I.os, I.bare, I.base, let ⟨m, hn, hl'⟩ := I.loc; ⟨m, hn, fun i x v e1 e2 e3 => hl' i x v e1 (w i v e2) e3⟩, I.cell, I.free, I.freeC, I.pin, I.hok, hl.trans I.len⟩
theorem Inv.pins_of {pins' : List (Addr × Obj)} (I : Inv X pins σ H s) (h : ∀ p ∈ pins', s.heap.get? p.1 = some p.2 ∧ H p.1 = none ∧ p.1 ≠ X.env.locals ∧ p.1 ∉ X.fs ∧ ∀ v, p.2.data ≠ .cell v) : Inv X pins' σ H s :=
  ⟨I.ok, I.os, I.bare, I.base, I.loc, I.cell, I.free, I.freeC, fun p hp => (List.mem_append.mp hp).elim (fun z => I.pin p (List.mem_append_left _ z)) (h p), I.hok, I.len⟩
theorem nodup_ix {N : List Str} (hN : N.Nodup) {i j : Nat} {x : Str} (a : N[i]? = some x) (b : N[j]? = some x) : i = j := by
  obtain ⟨h1, e1⟩ := List.getElem?_eq_some_iff.mp a
  obtain ⟨h2, e2⟩ := List.getElem?_eq_some_iff.mp b
  exact (List.getElem_inj hN).mp (e1.trans e2.symm)
theorem store_ok2 {M : Model} {A : Around} {E : Value → Shared → Prop} {i : Nat} {x : Str} {v : V} {u : Value} {Q : Unit → Shared → Prop} (I : Inv X pins σ H s) (hN : X.N.Nodup) (hi : X.N[i]? = some x) (hx : Loc X.env.scope x) (r : RelV v u)
    (h : ∀ s', Inv X pins (σ.set i (some v)) H s' → (∃ a, Heap.SameBut a s.heap s'.heap ∧ (a = X.env.locals ∨ X.env.cells.lookup x = some a)) → Q () s') (hf : X.fn x = true ∨ X.env.scope.names.lookup x = some .local := by first | exact .inl rfl | exact .inr rfl | assumption) : wpAny M A (storeName X.env x u) Q E s := by
  obtain ⟨m, hn, hl⟩ := id I.loc
  have hcls : (X.env.scope.kind == .class || (X.env.scope.kind == .module && X.env.locals != X.env.globals)) = false := by rw [I.ok.kind]; rfl
  have hiσ : i < σ.length := by rw [I.len]; exact (List.getElem?_eq_some_iff.mp hi).1
  have cne := I.cne
  have tracked : ∀ {a : Addr} {h' : Heap}, (∃ o, s.heap.get? a = some o ∧ H a = none) → Heap.SameBut a s.heap h' → HOk X.prog X.w H h' := fun {a h'} ha hs b ob e => by
    obtain ⟨_, _, hfree⟩ := ha
    refine (I.hok b ob e).stay (fun c w' hc q => (hs.2 c ?_).trans q) (fun _ q => q) fun _ _ q => q
    rintro rfl
    rcases hc with rfl | hc
    · rw [hfree] at e; cases e
    · rw [hfree] at hc; cases hc
  rcases hx with hk | hk
  · refine wpAny_storeName_local hk hn (fun h' hn' hs => ?_) hcls
    obtain ⟨oL, _, _, hoL, _⟩ := id hn
    refine h _ ⟨I.ok, I.os, I.bare, ⟨fun b o e n hb hx => ?_, fun b o e n hb hx => ?_, I.base.free, fun b o e hx => ?_, I.base.tups, I.base.frzs, I.base.tbls⟩, ⟨_, hn', fun j y v' e1 e2 e3 => ?_⟩, fun y c e => ?_, I.free, I.freeC, fun p hp => ?_, tracked ⟨oL, hoL, I.free⟩ hs, by simpa using I.len⟩ ⟨_, hs, .inl rfl⟩
    · exact (hs.2 b (Nat.ne_of_lt (Nat.lt_of_lt_of_le (Heap.lt_size e) I.ok.above))).trans (I.base.keep b o e n hb hx)
    · obtain ⟨sl, e1⟩ := I.base.slot b o e n hb hx
      exact ⟨sl, (hs.2 b (Nat.ne_of_lt (Nat.lt_of_lt_of_le (Heap.lt_size e) I.ok.above))).trans e1⟩
    · obtain ⟨o', e1⟩ := I.base.there b o e hx
      exact ⟨o', (hs.2 b (Nat.ne_of_lt (Nat.lt_of_lt_of_le (Heap.lt_size e) I.ok.above))).trans e1⟩
    · by_cases hj : j = i
      · subst hj
        rw [hi] at e1; cases e1
        rw [List.getElem?_set_self hiσ] at e2
        cases e2
        exact ⟨u, r, .inl ⟨hk, by simp⟩⟩
      · rw [List.getElem?_set_ne (Ne.symm hj)] at e2
        obtain ⟨u', r', q⟩ := hl j y v' e1 e2 e3
        refine ⟨u', r', ?_⟩
        rcases q with ⟨k, e⟩ | ⟨k, c, e, z⟩
        · refine .inl ⟨k, ?_⟩
          have : y ≠ x := fun e => hj (nodup_ix hN e1 (e ▸ hi))
          simp [this, e]
        · exact .inr ⟨k, c, e, z.sameBut hs (cne y c e)⟩
    · obtain ⟨w', z⟩ := I.cell y c e
      exact ⟨w', z.sameBut hs (cne y c e)⟩
    · obtain ⟨e, n, ne, nf, d⟩ := I.pin p hp
      exact ⟨(hs.2 p.1 ne).trans e, n, ne, nf, d⟩
  · have hfn : X.fn x = true := by
      rcases hf with z | z
      · exact z
      · rw [z] at hk; cases hk
    obtain ⟨c, hc⟩ := I.ok.has x (.inl hk)
    obtain ⟨w', z⟩ := I.cell x c hc
    refine wpAny_storeName_cell I.ok.kind hk hc z (fun h' hc' hs => ?_)
    obtain ⟨oc, hoc, hocd⟩ := id z
    refine h { s with heap := h' } ⟨I.ok, I.os, I.bare, ⟨fun b o e n hb hx => ?_, fun b o e n hb hx => ?_, I.base.free, fun b o e hx => ?_, I.base.tups, I.base.frzs, I.base.tbls⟩, ⟨m, hn.sameBut hs (Ne.symm (cne x c hc)), fun j y v' e1 e2 e3 => ?_⟩, fun y c' e => ?_, I.free, I.freeC, fun p hp => ?_, tracked ⟨oc, hoc, I.freeC x c hc⟩ hs, by simpa using I.len⟩ ⟨c, hs, .inr hc⟩
    · exact (hs.2 b (Nat.ne_of_lt (Nat.lt_of_lt_of_le (Heap.lt_size e) (I.ok.cab x c hfn hc)))).trans (I.base.keep b o e n hb hx)
    · obtain ⟨sl, e1⟩ := I.base.slot b o e n hb hx
      exact ⟨sl, (hs.2 b (Nat.ne_of_lt (Nat.lt_of_lt_of_le (Heap.lt_size e) (I.ok.cab x c hfn hc)))).trans e1⟩
    · obtain ⟨o', e1⟩ := I.base.there b o e hx
      exact ⟨o', (hs.2 b (Nat.ne_of_lt (Nat.lt_of_lt_of_le (Heap.lt_size e) (I.ok.cab x c hfn hc)))).trans e1⟩
    · by_cases hj : j = i
      · subst hj
        rw [hi] at e1; cases e1
        rw [List.getElem?_set_self hiσ] at e2
        cases e2
        exact ⟨u, r, .inr ⟨.inl hk, c, hc, hc'⟩⟩
      · rw [List.getElem?_set_ne (Ne.symm hj)] at e2
        obtain ⟨u', r', q⟩ := hl j y v' e1 e2 e3
        refine ⟨u', r', ?_⟩
        rcases q with q | ⟨k, c', e, z'⟩
        · exact .inl q
        · refine .inr ⟨k, c', e, z'.sameBut hs ?_⟩
          rintro rfl
          exact hj (nodup_ix hN e1 (I.ok.inj _ _ _ e hc ▸ hi))
    · by_cases hcc : c' = c
      · subst hcc; exact ⟨_, hc'⟩
      · obtain ⟨w2, z2⟩ := I.cell y c' e
        exact ⟨w2, z2.sameBut hs hcc⟩
    · obtain ⟨e, n, ne, nf, d⟩ := I.pin p hp
      refine ⟨(hs.2 p.1 ?_).trans e, n, ne, nf, d⟩
      intro q
      rw [q, hoc] at e
      have q' : oc = p.2 := Option.some.inj e
      exact d w' (by rw [← q']; exact hocd)
theorem store_ok {M : Model} {A : Around} {E : Value → Shared → Prop} {i : Nat} {x : Str} {v : V} {u : Value} {Q : Unit → Shared → Prop} (I : Inv X pins σ H s) (hN : X.N.Nodup) (hi : X.N[i]? = some x) (hx : Loc X.env.scope x) (r : RelV v u)
    (h : ∀ s', Inv X pins (σ.set i (some v)) H s' → Q () s') (hf : X.fn x = true ∨ X.env.scope.names.lookup x = some .local := by first | exact .inl rfl | exact .inr rfl | assumption) : wpAny M A (storeName X.env x u) Q E s :=
  store_ok2 I hN hi hx r (fun s' I' _ => h s' I') hf
theorem Inv.call' {s' : Shared} {ch : List Addr} (I : Inv X pins σ H s) (ho : s'.os = s.os) (u : Un (frs X.stack) ch H H' s.heap s'.heap) (hok : HOk X.prog X.w H' s'.heap) (hg : AllBare s'.gens)
    (hch : ∀ b ∈ ch, (b ∈ X.ex ∨ X.s₀.heap.objs.size ≤ b) ∧ b ≠ X.env.locals ∧ (∀ x c, X.env.cells.lookup x = some c → c ≠ b) ∧ ∀ p ∈ X.pn ++ pins, p.1 ≠ b) : Inv X pins σ H' s' := by
  obtain ⟨h', g', d', t', o'⟩ := s'
  have e : o' = s.os := ho
  subst e
  exact I.call (g' := g') (t' := t') (d' := d') u hok hg hch
end
abbrev XK := Value → Option Addr → Hp → Prop
abbrev St := List (Option V)
abbrev VK := V → Hp → Prop
abbrev TE := St → Hp → VK → Prop
abbrev TT := St → Hp → (Bool → Hp → Prop) → Prop
abbrev TA := St → Hp → (List V → Hp → Prop) → Prop
structure Ends where
  nx : St → Hp → Prop
  rt : VK
  bk : St → Hp → Prop := fun _ _ => False
  ct : St → Hp → Prop := fun _ _ => False
abbrev TS := Ends → St → Hp → Prop
def EP (X : Cx) (pins : List (Addr × Obj)) (σ : St) (Q : VK) (u : Value) (s' : Shared) : Prop := ∃ v H', Inv X pins σ H' s' ∧ RelV v u ∧ Q v H'
def TP (X : Cx) (pins : List (Addr × Obj)) (σ : St) (Q : Bool → Hp → Prop) (b : Bool) (s' : Shared) : Prop := ∃ H', Inv X pins σ H' s' ∧ Q b H'
def AP (X : Cx) (pins : List (Addr × Obj)) (σ : St) (Q : List V → Hp → Prop) (us : List Value) (s' : Shared) : Prop := ∃ vs H', Inv X pins σ H' s' ∧ Vals vs us ∧ Q vs H'
def SP (X : Cx) (pins : List (Addr × Obj)) (D : Ends) (f : Flow) (s' : Shared) : Prop :=
  match f with
  | .next => ∃ σ' H', Inv X pins σ' H' s' ∧ D.nx σ' H'
  | .brk => ∃ σ' H', Inv X pins σ' H' s' ∧ D.bk σ' H'
  | .cont => ∃ σ' H', Inv X pins σ' H' s' ∧ D.ct σ' H'
  | .ret u => ∃ v σ' H', Inv X pins σ' H' s' ∧ RelV v u ∧ D.rt v H'
def PE (X : Cx) (e : Expr) (t : TE) : Prop :=
  ∀ (pins : List (Addr × Obj)) (s : Shared) (σ : St) (H : Hp) (Q : VK), Inv X pins σ H s → t σ H Q → wpAny (model X.prog X.w) X.A (eval e X.env) (EP X pins σ Q) X.xe s
def PT (X : Cx) (e : Expr) (t : TT) : Prop :=
  ∀ (pins : List (Addr × Obj)) (s : Shared) (σ : St) (H : Hp) (Q : Bool → Hp → Prop), Inv X pins σ H s → t σ H Q → wpAny (model X.prog X.w) X.A (isTrue e X.env (eval e X.env)) (TP X pins σ Q) X.xe s
def PW (X : Cx) (e : Expr) (t : TT) : Prop :=
  ∀ (whole : Sem Value) (pins : List (Addr × Obj)) (s : Shared) (σ : St) (H : Hp) (Q : Bool → Hp → Prop), Inv X pins σ H s → t σ H Q → wpAny (model X.prog X.w) X.A (isTrue e X.env whole) (TP X pins σ Q) X.xe s
theorem PW.pt {X : Cx} {e : Expr} {t : TT} (h : PW X e t) : PT X e t := h _
def PA (X : Cx) (es : List Expr) (t : TA) : Prop :=
  ∀ (pos : Pos) (pins : List (Addr × Obj)) (s : Shared) (σ : St) (H : Hp) (Q : List V → Hp → Prop), Inv X pins σ H s → t σ H Q → wpAny (model X.prog X.w) X.A (spliced (backTo pos (starEach es X.env))) (AP X pins σ Q) X.xe s
def PS (X : Cx) (st : Stmt) (t : TS) : Prop :=
  ∀ (pins : List (Addr × Obj)) (s : Shared) (σ : St) (H : Hp) (D : Ends), Inv X pins σ H s → t D σ H → wpAny (model X.prog X.w) X.A (exec st X.env) (SP X pins D) X.xe s
def PSs (X : Cx) (st : List Stmt) (t : TS) : Prop :=
  ∀ (pins : List (Addr × Obj)) (s : Shared) (σ : St) (H : Hp) (D : Ends), Inv X pins σ H s → t D σ H → wpAny (model X.prog X.w) X.A (execs st X.env) (SP X pins D) X.xe s
theorem thn {α : Type} {t : Sem α} {Q Q' : α → Shared → Prop} {M : Model} {A : Around} {E : Value → Shared → Prop} {s : Shared} (h : wpAny M A t Q E s) (hQ : ∀ a s, Q a s → Q' a s) : wpAny M A t Q' E s := wpAny_mono h hQ fun _ _ x => x
end L2
namespace L2
open PySem PySem.Spec PyProof.Rows
section
variable {X : Cx}
def tVar (i : Nat) : TE := fun σ H Q => ∃ v, σ[i]? = some (some v) ∧ Q v H
def tC (v : V) : TE := fun _ H Q => Q v H
theorem pe_var {i : Nat} {x : Str} {pos : Pos} (hN : X.N[i]? = some x) (hv : Vis X.env.scope x) (hd : (x == ("__debug__" : Str)) = false := by decide) (hcd : (x == ("__classdict__" : Str)) = false := by decide) : PE X (.Name x pos) (tVar i) := by
  intro pins s σ H Q I h
  obtain ⟨v, e, h⟩ := h
  obtain ⟨m, hn, hl⟩ := I.loc
  obtain ⟨u, r, l⟩ := hl i x v hN e hv
  have fin : EP X pins σ Q u s := ⟨v, H, I, r, h⟩
  rcases l with ⟨hk, hm⟩ | ⟨hk, c, hc, hcell⟩
  · exact wpAny_Name (wpAny_loadName_local I.ok.kind hk hn hm fin) hd
  · rcases hk with hk | hk
    · exact wpAny_Name (wpAny_loadName_cell I.ok.kind hk hc hcell fin) hd
    · exact wpAny_Name (wpAny_loadName_free I.ok.kind hk hc hcell fin hcd) hd
theorem pe_int {i j pos} : PE X (.Constant (.int i) j pos) (tC (.int i)) := fun _ _ _ H _ I h => wpAny_Constant_int ⟨.int i, H, I.tok _, ⟨_, rfl⟩, h⟩
theorem pe_bl {b j pos} : PE X (.Constant (.bool b) j pos) (tC (.bl b)) := fun _ _ _ H _ I h => Constant_bool ⟨.bl b, H, I, rfl, h⟩
theorem pe_str {x j pos} : PE X (.Constant (.str x) j pos) (tC (.str x)) := fun _ _ _ H _ I h => Calls.Constant_str ⟨.str x, H, I.tok _, ⟨_, rfl⟩, h⟩
def Gl (X : Cx) (x : Str) : Prop := X.env.kindOf x = some .globalImplicit
theorem ld_glob {E : Value → Shared → Prop} {pins : List (Addr × Obj)} {s : Shared} {σ : St} {H : Hp} {x : Str} {u : Value} {pos : Pos} {Q : Value → Shared → Prop} (I : Inv X pins σ H s) (hg : Gl X x) (hm : X.mg x = some u) (h : Q u s)
    (hd : (x == ("__debug__" : Str)) = false := by decide) : wpAny (model X.prog X.w) X.A (eval (.Name x pos) X.env) Q E s :=
  Calls.Name_function_global I.ok.kind hg (Calls.loadGlobal_global (by rw [I.ok.glob]; exact I.mod.glob.keeps I.bk) hm h) hd
theorem ld_blt {E : Value → Shared → Prop} {pins : List (Addr × Obj)} {s : Shared} {σ : St} {H : Hp} {x : Str} {u : Value} {pos : Pos} {Q : Value → Shared → Prop} (I : Inv X pins σ H s) (hg : Gl X x) (hm : X.mg x = none) (hv : bootBuiltins x = some u) (h : Q u s)
    (hn : x ≠ "__name__" := by decide) (hd : (x == ("__debug__" : Str)) = false := by decide) : wpAny (model X.prog X.w) X.A (eval (.Name x pos) X.env) Q E s := by
  obtain ⟨mb, h1, h2⟩ := I.mod.blt
  exact Calls.Name_function_global I.ok.kind hg (Calls.loadGlobal_builtin (by rw [I.ok.glob]; exact I.mod.glob.keeps I.bk) hm (by rw [I.ok.blt]; exact h1.keeps I.bk) ((h2 x hn).trans hv) h) hd
theorem pe_glob {x : Str} {v : V} {u : Value} {pos : Pos} (hg : Gl X x) (hm : X.mg x = some u) (r : RelV v u) (hd : (x == ("__debug__" : Str)) = false := by decide) : PE X (.Name x pos) (tC v) :=
  fun _ _ _ H _ I h => ld_glob I hg hm ⟨v, H, I, r, h⟩ hd
theorem pe_bltn {x : Str} {v : V} {u : Value} {pos : Pos} (hg : Gl X x) (hm : X.mg x = none) (hv : bootBuiltins x = some u) (r : RelV v u) (hn : x ≠ "__name__" := by decide) (hd : (x == ("__debug__" : Str)) = false := by decide) : PE X (.Name x pos) (tC v) :=
  fun _ _ _ H _ I h => ld_blt I hg hm hv ⟨v, H, I, r, h⟩ hn hd
variable {a b : Expr} {ta tb : TE} {pos : Pos}
def PC (X : Cx) (op : CmpOp) (a b : Expr) (t : TE) : Prop :=
  ∀ (pins : List (Addr × Obj)) (s : Shared) (σ : St) (H : Hp) (Q : VK), Inv X pins σ H s → t σ H Q →
    wpAny (model X.prog X.w) X.A (eval a X.env) (fun v s₁ => wpAny (model X.prog X.w) X.A (eval b X.env) (fun u s₂ => wpAny (model X.prog X.w) X.A (compareOp op v u) (EP X pins σ Q) X.xe s₂) X.xe s₁) X.xe s
theorem nobehind (b : Expr) {op : CmpOp} (h : op ≠ .In) (h2 : op ≠ .NotIn) : behindInMarks op b = false := by
  have e1 : (op == CmpOp.In) = false := by cases op <;> first | rfl | exact absurd rfl h
  have e2 : (op == CmpOp.NotIn) = false := by cases op <;> first | rfl | exact absurd rfl h2
  cases b <;> simp [behindInMarks, e1, e2]
def tIsN (ta : TE) : TE := fun σ H Q => ta σ H fun x H1 => Q (.bl (decide (x = .non))) H1
theorem RelV.none_iff {x : V} {v : Value} (r : RelV x v) : (v == Value.none) = decide (x = .non) := by
  cases x with
  | non => cases r; rfl
  | bl _ => cases r; rfl
  | int _ => obtain ⟨t, rfl⟩ := r; rfl
  | str _ => obtain ⟨t, rfl⟩ := r; rfl
  | byt _ => obtain ⟨t, rfl⟩ := r; rfl
  | flt _ => obtain ⟨t, rfl⟩ := r; rfl
  | ref _ => cases r; rfl
  | ty _ => cases r; rfl
theorem pc_isN {j pos'} (ha : PE X a ta) : PC X .Is a (.Constant .none j pos') (tIsN ta) := by
  intro pins s σ H Q I h
  refine thn (ha pins s σ H _ I h) fun v s1 ⟨x, H1, I1, r1, q1⟩ => ?_
  exact Constant_none (is_none_gen ⟨.bl _, H1, I1, by rw [r1.none_iff]; rfl, q1⟩)
def tB (t : TE) : TT := fun σ H Q => t σ H fun x H1 => ∃ c, x = .bl c ∧ Q c H1
theorem pt_cmp {op : CmpOp} {t : TE} (h : PC X op a b t) (h1 : behindInMarks op b = false := by first | exact nobehind _ (by decide) (by decide) | rfl) : PT X (.Compare a [op] [b] pos) (tB t) := by
  intro pins s σ H Q I hw
  refine wpAny_isTrue_Compare1 (thn (h pins s σ H _ I hw) fun v s1 h1 => thn h1 fun u s2 h2 => thn h2 fun c s3 ⟨x, H1, I1, r1, q1⟩ => ?_) h1
  obtain ⟨d, rfl, q⟩ := q1
  cases r1
  exact wpAny_truthy_bool ⟨H1, I1, q⟩
theorem pt_val {e : Expr} {t : TE} (h : PE X e t) (he : ∀ whole, isTrue e X.env whole = (do let v ← whole; standAt e.pos; holding [v] (truthy v)) := by intro _; rfl) : PT X e (tB t) := by
  intro pins s σ H Q I hw
  refine isTrue_plain (thn (h pins s σ H _ I hw) fun v s1 ⟨x, H1, I1, r1, q1⟩ => ?_) (he _)
  obtain ⟨d, rfl, q⟩ := q1
  cases r1
  exact wpAny_truthy_bool ⟨H1, I1, q⟩
variable {tA tB' : TT} {rest : List Expr}
def tOr (t u : TT) : TT := fun σ H Q => t σ H fun c H1 => if c = true then Q true H1 else u σ H1 Q
def tNot (t : TT) : TT := fun σ H Q => t σ H fun c H1 => Q (!c) H1
theorem pw_or1 (ha : PT X a tA) : PW X (.BoolOp .Or [a] pos) tA := by
  intro wh pins s σ H Q I h
  refine isTrue_or (thn (ha pins s σ H Q I h) fun c s1 e => ?_)
  cases c with
  | false => exact isTrue_or_nil e
  | true => exact e
theorem pw_or (ha : PT X a tA) (hb : PW X (.BoolOp .Or (b :: rest) pos) tB') : PW X (.BoolOp .Or (a :: b :: rest) pos) (tOr tA tB') := by
  intro wh pins s σ H Q I h
  refine isTrue_or (thn (ha pins s σ H _ I h) fun c s1 ⟨H1, I1, q1⟩ => ?_)
  cases c with
  | true => exact ⟨H1, I1, q1⟩
  | false => exact hb wh pins s1 σ H1 Q I1 q1
theorem pt_not (ha : PT X a tA) : PT X (.UnaryOp .Not a pos) (tNot tA) := by
  intro pins s σ H Q I h
  exact isTrue_not (ha pins s σ H (fun c H1 => Q (!c) H1) I h)
def tAndV (ta tb : TE) : TE := fun σ H Q => ta σ H fun x H1 => ∃ c, x = .bl c ∧ if c = true then tb σ H1 Q else Q (.bl false) H1
def tNotV (ta : TE) : TE := fun σ H Q => ta σ H fun x H1 => ∃ c, x = .bl c ∧ Q (.bl (!c)) H1
theorem pe_one {op} {t : TE} (h : PE X a t) : PE X (.BoolOp op [a] pos) t := fun pins s σ H Q I hw => BoolOp_one (h pins s σ H Q I hw)
theorem pe_and (ha : PE X a ta) (hb : PE X (.BoolOp .And (b :: rest) pos) tb) : PE X (.BoolOp .And (a :: b :: rest) pos) (tAndV ta tb) := by
  intro pins s σ H Q I h
  refine BoolOp_and (thn (ha pins s σ H _ I h) fun v s1 ⟨x, H1, I1, r1, q1⟩ => ?_)
  obtain ⟨c, rfl, q1⟩ := q1
  cases r1
  refine wpAny_truthy_bool ?_
  cases c with
  | true => exact hb pins s1 σ H1 Q I1 q1
  | false => exact ⟨.bl false, H1, I1, rfl, q1⟩
theorem pe_not (ha : PE X a ta) : PE X (.UnaryOp .Not a pos) (tNotV ta) := by
  intro pins s σ H Q I h
  refine UnaryOp_ (thn (ha pins s σ H _ I h) fun v s1 ⟨x, H1, I1, r1, q1⟩ => ?_)
  obtain ⟨c, rfl, q1⟩ := q1
  cases r1
  exact not_of (wpAny_truthy_bool ⟨.bl (!c), H1, I1, rfl, q1⟩)
end
end L2
namespace L2
open PySem PySem.Spec PyProof.Rows
def SqL (K : PySem.W.Frag) (H : Hp) (a : Addr) (xs : List V) : Prop :=
  Rd H a (.lst xs) ∨
    ∃ (o : Obj) (its : Array Value) (n : Nat), K.lookup a = some o ∧ o.cls = .type "list" ∧ o.dict = none ∧ o.data = .seq its n ∧ its.size ≤ sizeLine ∧ Vals xs its.toList
def SqT (K : PySem.W.Frag) (H : Hp) (a : Addr) (xs : List V) : Prop :=
  Rd H a (.tup xs) ∨
    ∃ (o : Obj) (its : Array Value) (n : Nat), K.lookup a = some o ∧ o.cls = .type "tuple" ∧ o.data = .seq its n ∧ its.size ≤ sizeLine ∧ Vals xs its.toList
def absV : Value → Option V
  | .none => some .non
  | .bool b => some (.bl b)
  | .int i _ => some (.int i)
  | .str x _ => some (.str x)
  | .bytes b _ => some (.byt b)
  | .float b _ => some (.flt b)
  | .ref a => some (.ref a)
  | .type n => some (.ty n)
  | _ => none
theorem RelV.abs {x : V} {u : Value} (r : RelV x u) : absV u = some x := by
  cases x with
  | non => cases r; rfl
  | bl _ => cases r; rfl
  | int _ => obtain ⟨t, rfl⟩ := r; rfl
  | str _ => obtain ⟨t, rfl⟩ := r; rfl
  | byt _ => obtain ⟨t, rfl⟩ := r; rfl
  | flt _ => obtain ⟨t, rfl⟩ := r; rfl
  | ref _ => cases r; rfl
  | ty _ => cases r; rfl
theorem RelV.inj {x y : V} {u : Value} (r : RelV x u) (q : RelV y u) : x = y := Option.some.inj (r.abs.symm.trans q.abs)
theorem Vals.inj : ∀ {xs ys : List V} {us : List Value}, Vals xs us → Vals ys us → xs = ys
  | _, _, _, .nil, .nil => rfl
  | _, _, _, .cons r t, .cons r' t' => by rw [r.inj r', Vals.inj t t']
section
variable {X : Cx} {pins : List (Addr × Obj)} {σ : St} {H : Hp} {s : Shared} {a : Addr} {xs ys : List V}
theorem SqL.of {K : PySem.W.Frag} (h : H a = some (.lst xs)) : SqL K H a xs := .inl (.inl h)
theorem SqT.of {K : PySem.W.Frag} (h : H a = some (.tup xs)) : SqT K H a xs := .inl (.inl h)
theorem Inv.list (I : Inv X pins σ H s) (h : SqL X.K H a xs) : ∃ its : List Value, Vals xs its ∧ PlainL s.heap a its.toArray ∧ xs.length ≤ sizeLine := by
  rcases h with h | ⟨o, its, n, hk, hc, hd, hs, hz, r⟩
  · obtain ⟨z, its, n, r, e⟩ := h.ok I.hok
    exact ⟨its, r, ⟨_, n, e, rfl, rfl, rfl⟩, z⟩
  · refine ⟨its.toList, r, ⟨o, n, I.kIn a o hk, hc, hd, by simpa using hs⟩, ?_⟩
    have e := r.length
    simp only [Array.length_toList] at e
    omega
theorem Inv.tuple (I : Inv X pins σ H s) (h : SqT X.K H a xs) : ∃ its : List Value, Vals xs its ∧ IsTup s.heap a its.toArray ∧ xs.length ≤ sizeLine := by
  rcases h with h | ⟨o, its, n, hk, hc, hs, hz, r⟩
  · obtain ⟨z, its, r, p⟩ := h.ok I.hok
    exact ⟨its, r, p, z⟩
  · refine ⟨its.toList, r, ⟨o, I.kIn a o hk, hc, n, by simpa using hs⟩, ?_⟩
    have e := r.length
    simp only [Array.length_toList] at e
    omega
theorem Inv.list_inj (I : Inv X pins σ H s) (h : SqL X.K H a xs) (h' : SqL X.K H a ys) : xs = ys := by
  obtain ⟨its, r, ⟨o, n, e, _, _, d⟩, _⟩ := I.list h
  obtain ⟨its', r', ⟨o', n', e', _, _, d'⟩, _⟩ := I.list h'
  rw [e] at e'; cases e'
  rw [d] at d'
  injection d' with d1 _
  have : its = its' := by simpa using congrArg Array.toList d1
  subst this
  exact r.inj r'
end
abbrev Cx.wish (X : Cx) (E : Value → Shared → Prop) : Cx := { X with xe := E }
abbrev Cx.nox (X : Cx) : Cx := X.wish fun _ _ => False
theorem Cx.Ok.wish {X : Cx} (ok : X.Ok) (E : Value → Shared → Prop) : (X.wish E).Ok :=
  ⟨ok.mod, ok.kind, ok.glob, ok.blt, ok.above, ok.inj, ok.has, ok.cab, ok.hd, ok.frames, ok.stk, ok.exf, ok.bs, ok.bsz, ok.noex, ok.exfs, ok.funs, ok.frf⟩
theorem Cx.Ok.unwish {X : Cx} {E : Value → Shared → Prop} (ok : (X.wish E).Ok) : X.Ok :=
  ⟨ok.mod, ok.kind, ok.glob, ok.blt, ok.above, ok.inj, ok.has, ok.cab, ok.hd, ok.frames, ok.stk, ok.exf, ok.bs, ok.bsz, ok.noex, ok.exfs, ok.funs, ok.frf⟩
section
variable {X : Cx} {pins : List (Addr × Obj)} {σ : St} {H : Hp} {s : Shared} {E : Value → Shared → Prop}
theorem Inv.wish (I : Inv X pins σ H s) (E : Value → Shared → Prop) : Inv (X.wish E) pins σ H s := ⟨I.ok.wish E, I.os, I.bare, I.base, I.loc, I.cell, I.free, I.freeC, I.pin, I.hok, I.len⟩
theorem Inv.unwish (I : Inv (X.wish E) pins σ H s) : Inv X pins σ H s := ⟨I.ok.unwish, I.os, I.bare, I.base, I.loc, I.cell, I.free, I.freeC, I.pin, I.hok, I.len⟩
theorem SP.unwish {D : Ends} {f : Flow} {s' : Shared} (h : SP (X.wish E) pins D f s') : SP X pins D f s' := by
  cases f with
  | next => obtain ⟨σ', H', I, q⟩ := h; exact ⟨σ', H', I.unwish, q⟩
  | brk => obtain ⟨σ', H', I, q⟩ := h; exact ⟨σ', H', I.unwish, q⟩
  | cont => obtain ⟨σ', H', I, q⟩ := h; exact ⟨σ', H', I.unwish, q⟩
  | ret u => obtain ⟨v, σ', H', I, r, q⟩ := h; exact ⟨v, σ', H', I.unwish, r, q⟩
theorem PE.nox {e : Expr} {t : TE} (h : PE X.nox e t) : PE X e t := fun pins s σ H Q I hw =>
  wpAny_mono (h pins s σ H Q (I.wish _) hw) (fun _ _ ⟨v, H', I', r, q⟩ => ⟨v, H', I'.unwish, r, q⟩) fun _ _ z => False.elim z
theorem PT.nox {e : Expr} {t : TT} (h : PT X.nox e t) : PT X e t := fun pins s σ H Q I hw =>
  wpAny_mono (h pins s σ H Q (I.wish _) hw) (fun _ _ ⟨H', I', q⟩ => ⟨H', I'.unwish, q⟩) fun _ _ z => False.elim z
theorem PSs.nox {st : List Stmt} {t : TS} (h : PSs X.nox st t) : PSs X st t := fun pins s σ H D I hw =>
  wpAny_mono (h pins s σ H D (I.wish _) hw) (fun _ _ q => q.unwish) fun _ _ z => False.elim z
end
section
variable {X : Cx} {st : Stmt} {rest : List Stmt} {t u : TS} {e : Expr} {te : TE} {pos : Pos}
def tNext : TS := fun D σ H => D.nx σ H
def tSeq (t u : TS) : TS := fun D σ H => t { D with nx := u D } σ H
theorem pss_nil : PSs X [] tNext := fun _ _ σ H _ I h => wpAny_execs_nil ⟨σ, H, I, h⟩
theorem pss_cons (h1 : PS X st t) (h2 : PSs X rest u) : PSs X (st :: rest) (tSeq t u) := by
  intro pins s σ H D I h
  refine wpAny_execs_cons (thn (h1 pins s σ H { D with nx := u D } I h) fun f s1 q => ?_)
  cases f with
  | next =>
    obtain ⟨σ', H', I', q⟩ := q
    exact h2 pins s1 σ' H' D I' q
  | ret v => exact q
  | brk => exact q
  | cont => exact q
theorem pss_one (h1 : PS X st t) : PSs X [st] t := by
  intro pins s σ H D I h
  refine wpAny_execs_cons (thn (h1 pins s σ H D I h) fun f s1 q => ?_)
  cases f with
  | next => exact wpAny_execs_nil q
  | ret v => exact q
  | brk => exact q
  | cont => exact q
theorem Inv.quiet {pins : List (Addr × Obj)} {σ : St} {H : Hp} {s : Shared} (I : Inv X pins σ H s) : interactive X.env = false := by simp [interactive, I.ok.kind]
def tDrop (te : TE) : TS := fun D σ H => te σ H fun _ H1 => D.nx σ H1
theorem ps_expr (he : PE X e te) (hs : swapsWith e none pos.line X.env = pure false := by rfl) : PS X (.Expr e pos) (tDrop te) := by
  intro pins s σ H D I h
  exact wpAny_Expr_any (thn (he pins s σ H _ I h) fun v s1 ⟨x, H1, I1, r1, q1⟩ => ⟨σ, H1, I1, q1⟩) I.quiet hs
def tRet (te : TE) : TS := fun D σ H => te σ H D.rt
theorem ps_ret (he : PE X e te) : PS X (.Return (some e) pos) (tRet te) := by
  intro pins s σ H D I h
  exact wpAny_Return_some (thn (he pins s σ H _ I h) fun v s1 ⟨x, H1, I1, r1, q1⟩ => ⟨x, σ, H1, I1, r1, q1⟩)
def tIfS (c : TT) (t u : TS) : TS := fun D σ H => c σ H fun b H1 => if b = true then t D σ H1 else u D σ H1
theorem ps_if {c : Expr} {a b : List Stmt} {tc : TT} (hc : PT X c tc) (ha : PSs X a t) (hb : PSs X b u) : PS X (.If c a b pos) (tIfS tc t u) := by
  intro pins s σ H D I h
  refine wpAny_If (thn (hc pins s σ H _ I h) fun d s1 ⟨H1, I1, q1⟩ => ?_)
  cases d with
  | true => exact ha pins s1 σ H1 D I1 q1
  | false => exact hb pins s1 σ H1 D I1 q1
end
abbrev TG := V → St → Hp → (St → Hp → Prop) → Prop
abbrev TGs := List V → St → Hp → (St → Hp → Prop) → Prop
def PG (X : Cx) (target : Expr) (t : TG) : Prop :=
  ∀ (pins : List (Addr × Obj)) (s : Shared) (σ : St) (H : Hp) (v : V) (u : Value) (Q : St → Hp → Prop), Inv X pins σ H s → RelV v u → t v σ H Q →
    wpAny (model X.prog X.w) X.A (assign target X.env u) (fun _ s' => ∃ σ' H', Inv X pins σ' H' s' ∧ Q σ' H') X.xe s
def PGs (X : Cx) (ts : List Expr) (t : TGs) : Prop :=
  ∀ (pins : List (Addr × Obj)) (s : Shared) (σ : St) (H : Hp) (vs : List V) (us : List Value) (Q : St → Hp → Prop), Inv X pins σ H s → Vals vs us → t vs σ H Q →
    wpAny (model X.prog X.w) X.A (assignInOrder ((assignEach ts X.env).map (·.2)) us) (fun _ s' => ∃ σ' H', Inv X pins σ' H' s' ∧ Q σ' H') X.xe s
abbrev TSet := V → V → V → Hp → (Hp → Prop) → Prop
def PSet (X : Cx) (t : TSet) : Prop :=
  ∀ (pins : List (Addr × Obj)) (s : Shared) (σ : St) (H : Hp) (o i v : V) (ov iv u : Value) (Q : Hp → Prop), Inv X pins σ H s → RelV o ov → RelV i iv → RelV v u → t o i v H Q →
    wpAny (model X.prog X.w) X.A (setItem ov iv u) (fun _ s' => ∃ H', Inv X pins σ H' s' ∧ Q H') X.xe s
section
variable {X : Cx} {pos : Pos}
def gName (i : Nat) : TG := fun v σ H Q => Q (σ.set i (some v)) H
theorem pg_name {i : Nat} {x : Str} (hN : X.N.Nodup) (hi : X.N[i]? = some x) (hx : Loc X.env.scope x) (hf : X.fn x = true ∨ X.env.scope.names.lookup x = some .local := by first | exact .inl rfl | exact .inr rfl | assumption) : PG X (.Name x pos) (gName i) := by
  intro pins s σ H v u Q I r h
  exact wpAny_assign_Name (store_ok I hN hi hx r (fun s' I' => ⟨_, H, I', h⟩) hf)
def gNil : TGs := fun vs σ H Q => vs = [] ∧ Q σ H
def gCons (t : TG) (u : TGs) : TGs := fun vs σ H Q => ∃ v r, vs = v :: r ∧ t v σ H fun σ' H' => u r σ' H' Q
theorem pgs_nil : PGs X [] gNil := by
  intro pins s σ H vs us Q I r h
  obtain ⟨e, h⟩ := h
  subst e
  cases r
  exact assignInOrder_nil ⟨σ, H, I, h⟩
theorem pgs_cons {e : Expr} {es : List Expr} {t : TG} {u : TGs} (h1 : PG X e t) (h2 : PGs X es u)
    (hs : (assignEach (e :: es) X.env).map (·.2) = assign e X.env :: (assignEach es X.env).map (·.2) := by rfl) : PGs X (e :: es) (gCons t u) := by
  intro pins s σ H vs us Q I r h
  obtain ⟨v, vr, e1, h⟩ := h
  subst e1
  cases r with
  | cons r rr =>
    rw [hs]
    refine assignInOrder_cons (thn (h1 pins s σ H _ _ _ I r h) fun _ s1 ⟨σ1, H1, I1, q1⟩ => ?_)
    exact h2 pins s1 σ1 H1 _ _ Q I1 rr q1
def gTup (K : PySem.W.Frag) (n : Nat) (t : TGs) : TG := fun v σ H Q => ∃ a xs, v = .ref a ∧ SqT K H a xs ∧ xs.length = n ∧ t xs σ H Q
theorem pg_tup {es : List Expr} {k : Nat} {t : TGs} {n : Nat} (hc : X.calm = true) (h : PGs X es t)
    (hn : (assignEach es X.env).length = n := by rfl) (hst : (assignEach es X.env).findIdx? (·.1) = none := by rfl) : PG X (.Tuple es k pos) (gTup X.K n t) := by
  intro pins s σ H v u Q I r hw
  obtain ⟨a, xs, e1, hq, hl, hw⟩ := hw
  subst e1
  cases r
  obtain ⟨its, rv, ht, hz⟩ := I.tuple hq
  refine assign_Tuple_tuple (I.ok.hd hc) ht (by simp [hn, ← hl, rv.length]) hst fun h' hx => ?_
  have I1 : Inv X pins σ H { s with heap := h' } := I.kept (t' := s.toks) fun b o e => hx b o (Nat.ne_of_lt (Heap.lt_size e)) e
  exact h pins _ σ H xs _ Q I1 (by simpa using rv) hw
def gSub (to ti : TE) (t : TSet) : TG := fun v σ H Q => to σ H fun o H1 => ti σ H1 fun i H2 => t o i v H2 fun H3 => Q σ H3
theorem pg_sub {o i : Expr} {to ti : TE} {t : TSet} (ho : PE X o to) (hi : PE X i ti) (hs : PSet X t)
    (ha : ∀ v, assign (.Subscript o i pos) X.env v = (do
      let ov ← holding [v] (eval o X.env)
      let iv ← holding [v, ov] (eval i X.env)
      standAt pos
      holding [v, ov, iv] (setItem ov iv v)
      release [v, ov, iv] []) := by intro _; rfl) : PG X (.Subscript o i pos) (gSub to ti t) := by
  intro pins s σ H v u Q I r h
  rw [ha]
  refine wpAny_bind (wpAny_holding (thn (ho pins s σ H _ I h) fun ov s1 ⟨x, H1, I1, r1, q1⟩ => ?_))
  refine wpAny_bind (wpAny_holding (thn (hi pins s1 σ H1 _ I1 q1) fun iv s2 ⟨y, H2, I2, r2, q2⟩ => ?_))
  refine wpAny_bind (wpAny_standAt (wpAny_bind (wpAny_holding (thn (hs pins s2 σ H2 x y v ov iv u _ I2 r1 r2 r q2) fun _ s3 ⟨H3, I3, q3⟩ => ?_))))
  exact wpAny_release ⟨σ, H3, I3, q3⟩
def tAsg (te : TE) (g : TG) : TS := fun D σ H => te σ H fun x H1 => g x σ H1 D.nx
theorem ps_asg {tg e : Expr} {te : TE} {g : TG} (he : PE X e te) (hg : PG X tg g) (hs : swapsWithSole [tg] e pos.line X.env = pure false := by rfl) (hw : swappedStores [tg] e X.env = pure none := by rfl)
    (h1 : (assignEach [tg] X.env).map (·.2) = [assign tg X.env] := by rfl) : PS X (.Assign [tg] e pos) (tAsg te g) := by
  intro pins s σ H D I h
  refine wpAny_Assign_stores (thn (he pins s σ H _ I h) fun v s1 ⟨x, H1, I1, r1, q1⟩ => ?_) hs hw
  rw [h1]
  exact thn (hg pins s1 σ H1 x v _ I1 r1 q1) fun _ s2 q => q
theorem ps_set {i : Nat} {x : Str} {e : Expr} {te : TE} {pos' : Pos} (hN : X.N.Nodup) (hi : X.N[i]? = some x) (hx : Loc X.env.scope x) (he : PE X e te) (hs : swapsWith e (some (.Name x pos')) pos.line X.env = pure false := by rfl) (hf : X.fn x = true ∨ X.env.scope.names.lookup x = some .local := by first | exact .inl rfl | exact .inr rfl | assumption) :
    PS X (.Assign [.Name x pos'] e pos) (tAsg te (gName i)) := by
  intro pins s σ H D I h
  refine wpAny_Assign_Name (thn (he pins s σ H _ I h) fun v s1 ⟨y, H1, I1, r1, q1⟩ => ?_) hs
  exact store_ok I1 hN hi hx r1 (fun s2 I2 => ⟨_, H1, I2, q1⟩) hf
end
section
variable {X : Cx} {pos : Pos}
end
structure It where
  go : Nat → Hp → Prop
  yld : Nat → Hp → V → Hp → Prop
  stop : Nat → Hp → Prop
def FpOk (X : Cx) (pins : List (Addr × Obj)) (H : Hp) (b : Addr) : Prop :=
  H b = none ∧ b ≠ X.env.locals ∧ b ∉ X.fs ∧ (b ∈ X.ex ∨ X.s₀.heap.objs.size ≤ b) ∧ (∀ x c, X.env.cells.lookup x = some c → c ≠ b) ∧ ∀ p ∈ X.pn ++ pins, p.1 ≠ b
theorem Inv.fpOk {X : Cx} {pins : List (Addr × Obj)} {σ : St} {H H' : Hp} {s : Shared} {b : Addr} (I : Inv X pins σ H s) (hb : s.heap.objs.size ≤ b) (hn : H' b = none) : FpOk X pins H' b := by
  refine ⟨hn, Nat.ne_of_gt (Nat.lt_of_lt_of_le I.lt hb), I.nofs hb, .inr (Nat.le_trans I.sz hb), fun x c e z => ?_, fun p hp z => ?_⟩
  · obtain ⟨v, q⟩ := I.cell x c e
    exact absurd (Nat.lt_of_lt_of_le q.lt (by rw [z]; exact hb)) (Nat.lt_irrefl _)
  · exact absurd (Nat.lt_of_lt_of_le (Heap.lt_size (I.pin p hp).1) (by rw [z]; exact hb)) (Nat.lt_irrefl _)
structure Turn (P : Program) (w : World) (K : PySem.W.Frag) (tg : Expr) (J : It) (fp : List Addr) (it : Addr) (tn : Nat → Heap → Prop) : Prop where
  mem : it ∈ fp
  obj : ∀ i h, tn i h → ∀ b ∈ fp, ∃ o, h.get? b = some o ∧ ∀ v, o.data ≠ .cell v
  keep : ∀ i h h', tn i h → (∀ b ∈ fp, ∀ o, h.get? b = some o → h'.get? b = some o) → tn i h'
  item : ∀ (X : Cx), X.prog = P → X.w = w → X.K = K → X.calm = true → ∀ (i : Nat) (pins : List (Addr × Obj)) (s : Shared) (σ : St) (H : Hp) (E : Value → Shared → Prop), Inv X pins σ H s → (∀ b ∈ fp, FpOk X pins H b) → tn i s.heap → J.go i H →
    wpAny (model P w) X.A (pyNext (.ref it)) (fun r s1 => ∃ u, r = some u ∧
      wpAny (model P w) X.A (letOwnedTupleGo tg (.ref it) u) (fun _ s2 => ∃ x H', Inv X pins σ H' s2 ∧ RelV x u ∧ J.yld i H x H' ∧ tn (i + 1) s2.heap ∧ ∀ b ∈ fp, H' b = none) E s1) E s
  done : ∀ (X : Cx), X.prog = P → X.w = w → X.K = K → X.calm = true → ∀ (i : Nat) (pins : List (Addr × Obj)) (s : Shared) (σ : St) (H : Hp) (E : Value → Shared → Prop), Inv X pins σ H s → (∀ b ∈ fp, FpOk X pins H b) → tn i s.heap → J.stop i H →
    wpAny (model P w) X.A (pyNext (.ref it)) (fun r s1 => r = none ∧ Inv X pins σ H s1) E s
  self : ∀ (A : Around) (i : Nat) (s : Shared) (Q : Value → Shared → Prop) (E : Value → Shared → Prop), tn i s.heap → Q (.ref it) s → wpAny (model P w) A (pyIter (.ref it)) Q E s
abbrev TI := St → Hp → (It → Hp → Prop) → Prop
def PIE (X : Cx) (pins : List (Addr × Obj)) (σ : St) (tg : Expr) (R : It → Hp → Prop) (itv : Value) (s2 : Shared) : Prop :=
  ∃ (it : Addr) (fp : List Addr) (tn : Nat → Heap → Prop) (J : It) (H' : Hp), itv = .ref it ∧ Inv X pins σ H' s2 ∧ Turn X.prog X.w X.K tg J fp it tn ∧ tn 0 s2.heap ∧ (∀ b ∈ fp, FpOk X pins H' b) ∧ R J H'
def PI (X : Cx) (tg iter : Expr) (wi : TI) : Prop :=
  ∀ (pins : List (Addr × Obj)) (s : Shared) (σ : St) (H : Hp) (R : It → Hp → Prop), Inv X pins σ H s → wi σ H R →
    wpAny (model X.prog X.w) X.A (eval iter X.env) (fun v s1 => wpAny (model X.prog X.w) X.A (pyIter v) (PIE X pins σ tg R) X.xe s1) X.xe s
theorem go_of {M : Model} {A : Around} {E : Value → Shared → Prop} {s : Shared} {tg : Expr} {it : Addr} {u : Value} {o : Obj} {n : String} {vs : Array Value} {Q : Unit → Shared → Prop} (ho : s.heap.get? it = some o) (hc : o.cls = .type n) (hd : o.data = .fields vs)
    (hn : ["enumerate", "zip", "dict_itemiterator", "dict_reverseitemiterator", "odict_iterator", "itertools.zip_longest", "itertools.pairwise"].contains n = false) (hQ : Q () s) : wpAny M A (letOwnedTupleGo tg (.ref it) u) Q E s := by
  unfold letOwnedTupleGo
  cases tg <;> first
    | exact wpAny_pure hQ
    | (cases u <;> first
        | exact wpAny_pure hQ
        | (refine wpAny_bind (wpAny_load ho ?_)
           rw [hc, hd]
           show wpAny M A (if (["enumerate", "zip", "dict_itemiterator", "dict_reverseitemiterator", "odict_iterator", "itertools.zip_longest", "itertools.pairwise"].contains n && vs[0]? == some (rawInt _)) = true then _ else _) Q E s
           rw [if_neg (by intro h; rw [hn, Bool.false_and] at h; cases h)]
           exact wpAny_pure hQ))
def Itl (K : PySem.W.Frag) (a : Addr) : It :=
  ⟨fun i H => ∃ xs x, SqL K H a xs ∧ xs[i]? = some x, fun i H x H' => H' = H ∧ ∀ xs, SqL K H a xs → xs[i]? = some x, fun i H => ∃ xs, SqL K H a xs ∧ xs.length ≤ i⟩
def Itr (lo : Int) (n : Nat) : It := ⟨fun i _ => i < n, fun i H x H' => H' = H ∧ x = .int (lo + i), fun i _ => n ≤ i⟩
theorem turn_list {P : Program} {w : World} {K : PySem.W.Frag} {tg : Expr} (a it : Addr) : Turn P w K tg (Itl K a) [it] it (fun i h => h.IsListIter it a i) where
  mem := by simp
  obj := fun i h st b hb => by
    have e : b = it := by simpa using hb
    subst e
    obtain ⟨o, e, c, d⟩ := st
    exact ⟨o, e, fun v z => by rw [d] at z; cases z⟩
  keep := fun i h h' st k => st.at fun o e => k it (by simp) o e
  item := by
    intro X hP hw hK hc i pins s σ H E I hf st hg
    subst hP hw hK
    obtain ⟨xs, x, hq, hx⟩ := hg
    obtain ⟨its, rv, p, hz⟩ := I.list hq
    obtain ⟨u, hu, ru⟩ := rv.get hx
    obtain ⟨f0, f1, f2, f3, f4, f5⟩ := hf it (by simp)
    refine wpAny_pyNext_list_item st p.isList (x := u) (by simpa using hu) fun h' st' sb => ?_
    have I1 : Inv X pins σ H { s with heap := h' } := I.turned (t' := s.toks) (fun b o hb e => (sb.2 b hb).trans e) f0 f1 f3 f4 f5
    obtain ⟨o, e, c, d⟩ := id st'
    exact ⟨u, rfl, go_of (s := { s with heap := h' }) e c d (by decide) ⟨x, H, I1, ru, ⟨rfl, fun ys hy => by rw [I.list_inj hy hq]; exact hx⟩, st', fun b hb => (hf b hb).1⟩⟩
  done := by
    intro X hP hw hK hc i pins s σ H E I hf st hg
    subst hP hw hK
    obtain ⟨xs, hq, hx⟩ := hg
    obtain ⟨its, rv, p, hz⟩ := I.list hq
    obtain ⟨f0, f1, f2, f3, f4, f5⟩ := hf it (by simp)
    have hl := rv.length
    exact wpAny_pyNext_list_end (I.ok.hd hc) st p.isList (by simp; omega) fun h' eb => ⟨rfl, I.turned (t' := s.toks) (fun b o hb e => eb b o hb e) f0 f1 f3 f4 f5⟩
  self := fun _ _ _ _ _ st h => wpAny_pyIter_listiter st h
theorem turn_range {P : Program} {w : World} {K : PySem.W.Frag} {tg : Expr} (it : Addr) (lo : Int) (n : Nat) : Turn P w K tg (Itr lo n) [it] it (fun i h => IsRangeIter h it (lo + (i : Nat) * 1) ((n : Int) - (i : Nat)) 1) where
  mem := by simp
  obj := fun i h st b hb => by
    have e : b = it := by simpa using hb
    subst e
    exact ⟨_, st, fun v z => by
      have z' : Data.fields _ = Data.cell v := z
      cases z'⟩
  keep := fun i h h' st k => k it (by simp) _ st
  item := by
    intro X hP hw hK hc i pins s σ H E I hf st hg
    subst hP hw hK
    obtain ⟨f0, f1, f2, f3, f4, f5⟩ := hf it (by simp)
    have W := Walks.range (prog := X.prog) (w := X.w) (I.ok.hd hc) it lo 1 n
    refine W.item i s _ _ hg st fun v h' tk hv st' kk => ?_
    obtain ⟨t, rfl⟩ := hv
    have I1 : Inv X pins σ H { s with heap := h', toks := tk } := I.turned (fun b o hb e => kk b o (by simpa using hb) e) f0 f1 f3 f4 f5
    refine ⟨_, rfl, go_of (s := { s with heap := h', toks := tk }) (n := "range_iterator") st' rfl rfl (by decide) ⟨.int (lo + i), H, I1, ⟨t, ?_⟩, ⟨rfl, rfl⟩, st', fun b hb => (hf b hb).1⟩⟩
    rw [Int.mul_one]
  done := by
    intro X hP hw hK hc i pins s σ H E I hf st hg
    subst hP hw hK
    obtain ⟨f0, f1, f2, f3, f4, f5⟩ := hf it (by simp)
    exact wpAny_pyNext_range_end (I.ok.hd hc) st (by have : n ≤ i := hg; omega) fun h' eb => ⟨rfl, I.turned (t' := s.toks) (fun b o hb e => eb b o hb e) f0 f1 f3 f4 f5⟩
  self := fun _ _ _ _ _ st h => wpAny_pyIter_rangeiter st h
end L2
namespace L2
open PySem PySem.Spec PyProof.Rows
section
variable {X : Cx} {tg : Expr}
def iList (K : PySem.W.Frag) (tl : TE) : TI := fun σ H R => tl σ H fun x H1 => ∃ a, x = .ref a ∧ (∃ xs, SqL K H1 a xs) ∧ R (Itl K a) H1
theorem pi_list {l : Expr} {tl : TE} (hl : PE X l tl) : PI X tg l (iList X.K tl) := by
  intro pins s σ H R I h
  refine thn (hl pins s σ H _ I h) fun v s1 ⟨x, H1, I1, r1, q1⟩ => ?_
  obtain ⟨a, e, ⟨xs, hq⟩, q⟩ := q1
  subst e
  cases r1
  obtain ⟨its, rv, p, hz⟩ := I1.list hq
  refine wpAny_pyIter_list p.isList ?_
  refine ⟨s1.heap.objs.size, [s1.heap.objs.size], _, _, H1, rfl, I1.kept (t' := s1.toks) fun b o e => Heap.get?_push_of_some _ e, turn_list a _, ⟨_, Heap.get?_push_size _ rfl, rfl, rfl⟩, fun b hb => ?_, q⟩
  have e : b = s1.heap.objs.size := by simpa using hb
  subst e
  exact I1.fpOk (Nat.le_refl _) (I1.hok.fresh (Nat.le_refl _))
theorem range_it {pins : List (Addr × Obj)} {σ : St} {H : Hp} {s : Shared} {R : It → Hp → Prop} {E : Value → Shared → Prop} {lo hi : Int} {t u v : Tok} {tk : Nat} (I : Inv X pins σ H s) (h1 : -(2 ^ 62) ≤ lo) (h2 : lo < 2 ^ 62) (h3 : -(2 ^ 62) ≤ hi) (h4 : hi < 2 ^ 62)
    (q : R (Itr lo (hi - lo).toNat) H) : wpAny (model X.prog X.w) X.A (pyIter (.ref s.heap.objs.size)) (PIE X pins σ tg R) E { s with heap := s.heap.push { cls := .type "range", data := .fields #[.int lo t, .int hi u, .int 1 v] }, toks := tk } := by
  refine wpAny_pyIter_range (IsRange.new ..) (small_one h1 h2 h3 h4) ?_
  have I1 : Inv X pins σ H { s with heap := s.heap.push { cls := .type "range", data := .fields #[.int lo t, .int hi u, .int 1 v] }, toks := tk } := I.kept fun b o e => Heap.get?_push_of_some _ e
  refine ⟨(s.heap.push { cls := .type "range", data := .fields #[.int lo t, .int hi u, .int 1 v] }).objs.size, [(s.heap.push { cls := .type "range", data := .fields #[.int lo t, .int hi u, .int 1 v] }).objs.size], _, _, H, rfl,
    I1.kept (t' := tk) fun b o e => Heap.get?_push_of_some _ e, turn_range _ lo (hi - lo).toNat, ?_, fun b hb => ?_, q⟩
  · have e1 : lo + ((0 : Nat) : Int) * 1 = lo := by simp
    have e2 : (((hi - lo).toNat : Nat) : Int) - ((0 : Nat) : Int) = Builtin.Range.rangeSize lo hi 1 := by rw [rangeSize_one]; split <;> omega
    show IsRangeIter _ _ (lo + ((0 : Nat) : Int) * 1) ((((hi - lo).toNat : Nat) : Int) - ((0 : Nat) : Int)) 1
    rw [e1, e2]
    exact Heap.get?_push_size _ rfl
  · have e : b = (s.heap.push { cls := .type "range", data := .fields #[.int lo t, .int hi u, .int 1 v] }).objs.size := by simpa using hb
    subst e
    exact I1.fpOk (Nat.le_refl _) (I1.hok.fresh (Nat.le_refl _))
def iRng1 (ta : TA) : TI := fun σ H R => ta σ H fun vs H1 => ∃ j : Int, vs = [.int j] ∧ -(2 ^ 62) ≤ j ∧ j < 2 ^ 62 ∧ R (Itr 0 j.toNat) H1
def iRng2 (ta : TA) : TI := fun σ H R => ta σ H fun vs H1 => ∃ i j : Int, vs = [.int i, .int j] ∧ (-(2 ^ 62) ≤ i ∧ i < 2 ^ 62 ∧ -(2 ^ 62) ≤ j ∧ j < 2 ^ 62) ∧ R (Itr i (j - i).toNat) H1
theorem pi_range1 {a : Expr} {ta : TA} {p pos : Pos} (hg : Gl X "range") (hm : X.mg "range" = none) (ha : PA X [a] ta) (hs : starEach [a] X.env = [(false, eval a X.env)] := by rfl) : PI X tg (.Call (.Name "range" p) [a] [] pos) (iRng1 ta) := by
  intro pins s σ H R I h
  refine Call_ (ld_blt I hg hm boot_range (PyProof.Rows.callWith_type1 (thn (ha pos pins s σ H _ I h) fun us s1 ⟨vs, H1, I1, r1, q1⟩ => ?_) hs rfl))
  obtain ⟨j, e, q1, q2, q⟩ := q1
  subst e
  cases r1 with
  | cons r rr =>
    cases rr
    obtain ⟨t, rfl⟩ := r
    exact call_range_1 (range_it I1 (by omega) (by omega) q1 q2 (by simpa using q))
theorem pi_range2 {a b : Expr} {ta : TA} {p pos : Pos} (hg : Gl X "range") (hm : X.mg "range" = none) (ha : PA X [a, b] ta) (hs : starEach [a, b] X.env = [(false, eval a X.env), (false, eval b X.env)] := by rfl) (hs2 : starEach [b] X.env = [(false, eval b X.env)] := by rfl) :
    PI X tg (.Call (.Name "range" p) [a, b] [] pos) (iRng2 ta) := by
  intro pins s σ H R I h
  refine Call_ (ld_blt I hg hm boot_range (PyProof.Rows.callWith_type1 (thn (ha pos pins s σ H _ I h) fun us s1 ⟨vs, H1, I1, r1, q1⟩ => ?_) (by rw [hs, hs2]) (by rw [hs2]; rfl)))
  obtain ⟨i, j, e, ⟨q1, q2, q3, q4⟩, q⟩ := q1
  subst e
  cases r1 with
  | cons r rr =>
    cases rr with
    | cons r' rr =>
      cases rr
      obtain ⟨t, rfl⟩ := r
      obtain ⟨t', rfl⟩ := r'
      exact call_range_2 (range_it I1 q1 q2 q3 q4 q)
def tFor (wi : TI) (g : TG) (tb : TS) : TS := fun D σ H => wi σ H fun J H1 => ∃ W : Nat → Nat → St → Hp → Prop, (∃ m, W 0 m σ H1) ∧ ∀ i m σ H, W i m σ H →
  (J.stop i H ∧ D.nx σ H) ∨ (J.go i H ∧ ∃ N : St → Hp → Prop, (∀ σ' H', N σ' H' → ∃ m', m' < m ∧ W (i + 1) m' σ' H') ∧ ∀ x H', J.yld i H x H' → g x σ H' fun σ2 H2 => tb { D with nx := N, ct := N, bk := D.nx } σ2 H2)
def pinsAt (fp : List Addr) (h : Heap) : List (Addr × Obj) := fp.filterMap fun b => (h.get? b).map fun o => (b, o)
theorem mem_pinsAt {fp : List Addr} {h : Heap} {b : Addr} {o : Obj} (hb : b ∈ fp) (e : h.get? b = some o) : (b, o) ∈ pinsAt fp h := List.mem_filterMap.mpr ⟨b, hb, by rw [e]; rfl⟩
theorem of_pinsAt {fp : List Addr} {h : Heap} {p : Addr × Obj} (hp : p ∈ pinsAt fp h) : p.1 ∈ fp ∧ h.get? p.1 = some p.2 := by
  obtain ⟨b, hb, e⟩ := List.mem_filterMap.mp hp
  cases q : h.get? b with
  | none => rw [q] at e; cases e
  | some o =>
    rw [q] at e
    have e' : (b, o) = p := Option.some.inj e
    subst e'
    exact ⟨hb, q⟩
theorem Inv.pinned {pins : List (Addr × Obj)} {σ : St} {H : Hp} {s : Shared} {fp : List Addr} (I : Inv X pins σ H s) (hf : ∀ b ∈ fp, FpOk X pins H b) (ho : ∀ b ∈ fp, ∃ o, s.heap.get? b = some o ∧ ∀ v, o.data ≠ .cell v) : Inv X (pins ++ pinsAt fp s.heap) σ H s :=
  I.pins_of fun p hp => (List.mem_append.mp hp).elim (fun z => I.pin p (List.mem_append_right _ z)) fun z => by
    obtain ⟨hb, e⟩ := of_pinsAt z
    obtain ⟨f0, f1, f2, _⟩ := hf p.1 hb
    obtain ⟨o, e', d⟩ := ho p.1 hb
    rw [e] at e'; cases e'
    exact ⟨e, f0, f1, f2, d⟩
theorem Inv.unpinned {pins pl : List (Addr × Obj)} {σ : St} {H : Hp} {s : Shared} (I : Inv X (pins ++ pl) σ H s) : Inv X pins σ H s := I.pins_of fun p hp => I.pin p (List.mem_append_right _ (List.mem_append_left _ hp))
theorem ps_for {iter : Expr} {body : List Stmt} {wi : TI} {g : TG} {tb : TS} {pos : Pos} (hp : PassesOwn (model X.prog X.w) X.A X.env X.xe) (hc : X.calm = true) (hi : PI X tg iter wi) (hg : PG X tg g) (hb : PSs X body tb)
    (hs : ∀ x, foldedSetIterable iter X.env x = pure x := by intro _; rfl) : PS X (.For tg iter body [] pos) (tFor wi g tb) := by
  intro pins s σ H D I h
  refine wpAny_For (thn (hi pins s σ H _ I h) fun v s1 h1 => thn h1 fun itv s2 h2 => ?_) hs
  obtain ⟨it, fp, tn, J, H2, e, I2, T, st2, f2, W, ⟨m0, w0⟩, turn⟩ := h2
  subst e
  have stat : ∀ {H' : Hp}, (∀ b ∈ fp, H' b = none) → ∀ b ∈ fp, FpOk X pins H' b := fun hn b hb => ⟨hn b hb, (f2 b hb).2⟩
  refine codeAny_forLoop_any (fun n s' => ∃ i σ' H', Inv X pins σ' H' s' ∧ tn i s'.heap ∧ (∀ b ∈ fp, H' b = none) ∧ W i n σ' H') ?_ m0 ⟨0, σ, H2, I2, st2, fun b hb => (f2 b hb).1, w0⟩
  rintro n s3 ⟨i, σ3, H3, I3, st3, fr3, w3⟩
  rcases turn i n σ3 H3 w3 with ⟨stop, qn⟩ | ⟨go, N, hN, step⟩
  · refine wpAny_passesOwn hp (thn (T.done X rfl rfl rfl hc i pins s3 σ3 H3 X.xe I3 (stat fr3) st3 stop) fun r s4 ⟨hr, I4⟩ => ?_)
    subst hr
    exact wpAny_execs_nil ⟨σ3, H3, I4, qn⟩
  · refine wpAny_passesOwn hp (thn (T.item X rfl rfl rfl hc i pins s3 σ3 H3 X.xe I3 (stat fr3) st3 go) fun r s4 ⟨u, hr, h4⟩ => ?_)
    subst hr
    refine wpAny_passesOwn hp (thn h4 fun _ s5 ⟨x, H5, I5, r5, y5, st5, fr5⟩ => ?_)
    have I5' := I5.pinned (stat fr5) (T.obj _ _ st5)
    refine wpAny_passesOwn hp (thn (hg _ s5 σ3 H5 x u _ I5' r5 (step x H5 y5)) fun _ s6 ⟨σ6, H6, I6, q6⟩ => ?_)
    refine wpAny_passesOwn hp (thn (hb _ s6 σ6 H6 _ I6 q6) fun f s7 q7 => ?_)
    have again : ∀ {σ7 : St} {H7 : Hp}, Inv X (pins ++ pinsAt fp s5.heap) σ7 H7 s7 → N σ7 H7 → ∃ m, m < n ∧ ∃ i σ' H', Inv X pins σ' H' s7 ∧ tn i s7.heap ∧ (∀ b ∈ fp, H' b = none) ∧ W i m σ' H' := fun {σ7 H7} I7 n7 => by
      obtain ⟨m', hm, w7⟩ := hN σ7 H7 n7
      refine ⟨m', hm, i + 1, σ7, H7, I7.unpinned, T.keep _ _ _ st5 fun b hb o e => (I7.pin (b, o) (List.mem_append_right _ (List.mem_append_right _ (mem_pinsAt hb e)))).1, fun b hb => ?_, w7⟩
      obtain ⟨o, e, d⟩ := T.obj _ _ st5 b hb
      exact (I7.pin (b, o) (List.mem_append_right _ (List.mem_append_right _ (mem_pinsAt hb e)))).2.1
    cases f with
    | next => obtain ⟨σ7, H7, I7, n7⟩ := q7; exact again I7 n7
    | cont => obtain ⟨σ7, H7, I7, n7⟩ := q7; exact again I7 n7
    | brk => obtain ⟨σ7, H7, I7, q7⟩ := q7; exact ⟨σ7, H7, I7.unpinned, q7⟩
    | ret v => obtain ⟨x7, σ7, H7, I7, r7, q7⟩ := q7; exact ⟨x7, σ7, H7, I7.unpinned, r7, q7⟩
end
end L2
namespace L2
open PySem PySem.Spec PyProof.Rows
abbrev R2 := V → V → Hp → VK → Prop
def OpR (X : Cx) (f : Value → Value → Sem Value) (r : R2) : Prop :=
  ∀ (pins : List (Addr × Obj)) (s : Shared) (σ : St) (H : Hp) (x y : V) (v u : Value) (Q : VK), Inv X pins σ H s → RelV x v → RelV y u → r x y H Q →
    wpAny (model X.prog X.w) X.A (f v u) (EP X pins σ Q) X.xe s
def CallR (X : Cx) (f : Value) (r : List V → Hp → VK → Prop) : Prop :=
  ∀ (pins : List (Addr × Obj)) (s : Shared) (σ : St) (H : Hp) (xs : List V) (us : List Value) (Q : VK), Inv X pins σ H s → Vals xs us → r xs H Q →
    wpAny (model X.prog X.w) X.A (call f us) (EP X pins σ Q) X.xe s
def tOp (r : R2) (ta tb : TE) : TE := fun σ H Q => ta σ H fun x H1 => tb σ H1 fun y H2 => r x y H2 Q
def rI (C : Int → Int → Prop) (g : Int → Int → V) : R2 := fun x y H Q => ∃ i j, x = .int i ∧ y = .int j ∧ C i j ∧ Q (g i j) H
def rI0 (g : Int → Int → V) : R2 := fun x y H Q => ∃ i j, x = .int i ∧ y = .int j ∧ Q (g i j) H
section
variable {X : Cx} {a b c : Expr} {ta tb tc : TE} {pos : Pos}
theorem binT (ha : PE X a ta) (hb : PE X b tb) {pins : List (Addr × Obj)} {s : Shared} {σ : St} {H : Hp} {R : V → V → Hp → Prop} (I : Inv X pins σ H s)
    (h : ta σ H fun x H1 => tb σ H1 fun y H2 => R x y H2) {Q : Value → Shared → Prop} {f : Value → Value → Sem Value}
    (hf : ∀ v u s2 x y H2, Inv X pins σ H2 s2 → RelV x v → RelV y u → R x y H2 → wpAny (model X.prog X.w) X.A (f v u) Q X.xe s2) :
    wpAny (model X.prog X.w) X.A (eval a X.env) (fun v s₁ => wpAny (model X.prog X.w) X.A (eval b X.env) (fun u s₂ => wpAny (model X.prog X.w) X.A (f v u) Q X.xe s₂) X.xe s₁) X.xe s := by
  refine thn (ha pins s σ H _ I h) fun v s1 ⟨x, H1, I1, r1, q1⟩ => ?_
  refine thn (hb pins s1 σ H1 _ I1 q1) fun u s2 ⟨y, H2, I2, r2, q2⟩ => ?_
  exact hf v u s2 x y H2 I2 r1 r2 q2
theorem pe_op {op : Operator} {r : R2} (ho : OpR X (binaryOp op) r) (ha : PE X a ta) (hb : PE X b tb) : PE X (.BinOp a op b pos) (tOp r ta tb) := by
  intro pins s σ H Q I h
  exact wpAny_BinOp (binT ha hb I h fun v u s2 x y H2 I2 rx ry q => ho pins s2 σ H2 x y v u Q I2 rx ry q)
theorem opI {f : Value → Value → Sem Value} {C : Int → Int → Prop} {g : Int → Int → Int}
    (rule : ∀ (i j : Int) (t u : Tok) (s : Shared) (Q : Value → Shared → Prop) (E : Value → Shared → Prop), C i j → Q (.int (g i j) s.toks) { s with toks := s.toks + 1 } → wpAny (model X.prog X.w) X.A (f (.int i t) (.int j u)) Q E s) :
    OpR X f (rI C fun i j => .int (g i j)) := by
  intro pins s σ H x y v u Q I rx ry h
  obtain ⟨i, j, rfl, rfl, hc, q⟩ := h
  obtain ⟨t, rfl⟩ := rx
  obtain ⟨t', rfl⟩ := ry
  exact rule i j t t' s _ _ hc ⟨.int (g i j), H, I.tok _, ⟨_, rfl⟩, q⟩
theorem opI0 {f : Value → Value → Sem Value} {g : Int → Int → Int}
    (rule : ∀ (i j : Int) (t u : Tok) (s : Shared) (Q : Value → Shared → Prop) (E : Value → Shared → Prop), Q (.int (g i j) s.toks) { s with toks := s.toks + 1 } → wpAny (model X.prog X.w) X.A (f (.int i t) (.int j u)) Q E s) :
    OpR X f (rI0 fun i j => .int (g i j)) := by
  intro pins s σ H x y v u Q I rx ry h
  obtain ⟨i, j, rfl, rfl, q⟩ := h
  obtain ⟨t, rfl⟩ := rx
  obtain ⟨t', rfl⟩ := ry
  exact rule i j t t' s _ _ ⟨.int (g i j), H, I.tok _, ⟨_, rfl⟩, q⟩
theorem opB0 {f : Value → Value → Sem Value} {g : Int → Int → Bool}
    (rule : ∀ (i j : Int) (t u : Tok) (s : Shared) (Q : Value → Shared → Prop) (E : Value → Shared → Prop), Q (.bool (g i j)) s → wpAny (model X.prog X.w) X.A (f (.int i t) (.int j u)) Q E s) :
    OpR X f (rI0 fun i j => .bl (g i j)) := by
  intro pins s σ H x y v u Q I rx ry h
  obtain ⟨i, j, rfl, rfl, q⟩ := h
  obtain ⟨t, rfl⟩ := rx
  obtain ⟨t', rfl⟩ := ry
  exact rule i j t t' s _ _ ⟨.bl (g i j), H, I, rfl, q⟩
def CDiv (i j : Int) : Prop := 0 < j ∧ j < 1073741824
def CMul (i j : Int) : Prop := (-(2 ^ 64) < i ∧ i < 2 ^ 64) ∨ (-(2 ^ 64) < j ∧ j < 2 ^ 64)
theorem CMul.ok {i j : Int} (h : CMul i j) : IntMulOk i j := by
  rcases h with ⟨h1, h2⟩ | ⟨h1, h2⟩
  · exact .of_left (intBits_le_64 h1 h2)
  · exact .of_right (intBits_le_64 h1 h2)
theorem op_add : OpR X (binaryOp .Add) (rI0 fun i j => .int (i + j)) := opI0 fun _ _ _ _ _ _ _ q => add_int q
theorem op_sub : OpR X (binaryOp .Sub) (rI0 fun i j => .int (i - j)) := opI0 fun _ _ _ _ _ _ _ q => sub_int q
theorem op_mul : OpR X (binaryOp .Mult) (rI CMul fun i j => .int (i * j)) := opI fun _ _ _ _ _ _ _ hc q => mul_int q hc.ok
theorem op_fdiv : OpR X (binaryOp .FloorDiv) (rI CDiv fun i j => .int (i / j)) := opI fun i j _ _ _ _ _ hc q => by
  have h1 : (0 : Int) < j := hc.1
  have h2 : j < 1073741824 := hc.2
  exact floordiv_int (by omega) (by rw [Int.fdiv_eq_ediv_of_nonneg i (by omega)]; exact q) (.inl (PyProof.noPylong_small (by omega)))
theorem op_mod : OpR X (binaryOp .Mod) (rI (fun _ j => 0 < j) fun i j => .int (i % j)) := opI fun i j _ _ _ _ _ hc q => by
  have h1 : (0 : Int) < j := hc
  exact mod_int' (by omega) (by rw [Int.fmod_eq_emod_of_nonneg i (by omega)]; exact q)
end
def scal : V → V → Bool
  | .non, .non => true | .non, .int _ => true | .int _, .non => true | .non, .bl _ => true | .bl _, .non => true | .non, .str _ => true | .str _, .non => true
  | .int _, .int _ => true | .bl _, .bl _ => true | .str _, .str _ => true | .byt _, .byt _ => true
  | .int _, .str _ => true | .str _, .int _ => true | .bl _, .str _ => true | .str _, .bl _ => true
  | _, _ => false
def rEq : R2 := fun x y H Q => scal x y = true ∧ Q (.bl (decide (x = y))) H
def rNe : R2 := fun x y H Q => scal x y = true ∧ Q (.bl (!decide (x = y))) H
theorem dec_int {i j : Int} : decide (V.int i = V.int j) = (i == j) := by
  rw [Bool.eq_iff_iff]
  simp
theorem dec_bl {i j : Bool} : decide (V.bl i = V.bl j) = (i == j) := by
  rw [Bool.eq_iff_iff]
  simp
theorem dec_str {i j : Str} : decide (V.str i = V.str j) = (i == j) := by
  rw [Bool.eq_iff_iff]
  simp
theorem dec_byt {i j : Array UInt8} : decide (V.byt i = V.byt j) = (i.toList == j.toList) := by
  rw [Bool.eq_iff_iff]
  cases i
  cases j
  simp
section
variable {X : Cx} {a b c : Expr} {ta tb tc : TE} {pos : Pos}
theorem fin_bl {pins : List (Addr × Obj)} {σ : St} {H : Hp} {s : Shared} {Q : VK} {k k' : Bool} (I : Inv X pins σ H s) (q : Q (.bl k) H) (e : k = k') : EP X pins σ Q (.bool k') s := by
  subst e
  exact ⟨.bl k, H, I, rfl, q⟩
theorem op_eq : OpR X (compareOp .Eq) rEq := by
  intro pins s σ H x y v u Q I rx ry h
  obtain ⟨hs, q⟩ := h
  cases x with
  | non =>
    cases rx
    cases y with
    | non => cases ry; exact PySem.EqNone.eq_none_none (fin_bl I q (by simp))
    | bl j => cases ry; exact PySem.EqNone.eq_none_bool (fin_bl I q (by simp))
    | int j => obtain ⟨t', rfl⟩ := ry; exact PySem.EqNone.eq_none_int (fin_bl I q (by simp))
    | str j => obtain ⟨t', rfl⟩ := ry; exact PySem.EqNone.eq_none_str (fin_bl I q (by simp))
    | _ => exact absurd (show false = true from hs) Bool.false_ne_true
  | bl i =>
    cases rx
    cases y with
    | non => cases ry; exact PySem.EqNone.eq_bool_none (fin_bl I q (by simp))
    | bl j => cases ry; exact eq_bool (fin_bl I q dec_bl)
    | str j => obtain ⟨t', rfl⟩ := ry; exact PySem.EqMixed.eq_bool_str (fin_bl I q (by simp))
    | _ => exact absurd (show false = true from hs) Bool.false_ne_true
  | int i =>
    obtain ⟨t, rfl⟩ := rx
    cases y with
    | non => cases ry; exact PySem.EqNone.eq_int_none (fin_bl I q (by simp))
    | int j => obtain ⟨t', rfl⟩ := ry; exact eq_int (fin_bl I q dec_int)
    | str j => obtain ⟨t', rfl⟩ := ry; exact PySem.EqMixed.eq_int_str (fin_bl I q (by simp))
    | _ => exact absurd (show false = true from hs) Bool.false_ne_true
  | str i =>
    obtain ⟨t, rfl⟩ := rx
    cases y with
    | non => cases ry; exact PySem.EqNone.eq_str_none (fin_bl I q (by simp))
    | bl j => cases ry; exact PySem.EqMixed.eq_str_bool (fin_bl I q (by simp))
    | int j => obtain ⟨t', rfl⟩ := ry; exact PySem.EqMixed.eq_str_int (fin_bl I q (by simp))
    | str j => obtain ⟨t', rfl⟩ := ry; exact eq_str (fin_bl I q dec_str)
    | _ => exact absurd (show false = true from hs) Bool.false_ne_true
  | byt i =>
    obtain ⟨t, rfl⟩ := rx
    cases y with
    | byt j => obtain ⟨t', rfl⟩ := ry; exact PySem.W.eq_bytes (fin_bl I q dec_byt)
    | _ => exact absurd (show false = true from hs) Bool.false_ne_true
  | _ => cases y <;> exact absurd (show false = true from hs) Bool.false_ne_true
theorem op_ne : OpR X (compareOp .NotEq) rNe := by
  intro pins s σ H x y v u Q I rx ry h
  obtain ⟨hs, q⟩ := h
  cases x with
  | non =>
    cases rx
    cases y with
    | non => cases ry; exact PySem.EqNone.ne_none_none (fin_bl I q (by simp))
    | bl j => cases ry; exact PySem.EqNone.ne_none_bool (fin_bl I q (by simp))
    | int j => obtain ⟨t', rfl⟩ := ry; exact PySem.EqNone.ne_none_int (fin_bl I q (by simp))
    | str j => obtain ⟨t', rfl⟩ := ry; exact PySem.EqNone.ne_none_str (fin_bl I q (by simp))
    | _ => exact absurd (show false = true from hs) Bool.false_ne_true
  | bl i =>
    cases rx
    cases y with
    | non => cases ry; exact PySem.EqNone.ne_bool_none (fin_bl I q (by simp))
    | bl j => cases ry; exact ne_bool (fin_bl I q (congrArg not dec_bl))
    | str j => obtain ⟨t', rfl⟩ := ry; exact PySem.EqMixed.ne_bool_str (fin_bl I q (by simp))
    | _ => exact absurd (show false = true from hs) Bool.false_ne_true
  | int i =>
    obtain ⟨t, rfl⟩ := rx
    cases y with
    | non => cases ry; exact PySem.EqNone.ne_int_none (fin_bl I q (by simp))
    | int j => obtain ⟨t', rfl⟩ := ry; exact ne_int (fin_bl I q (congrArg not dec_int))
    | str j => obtain ⟨t', rfl⟩ := ry; exact PySem.EqMixed.ne_int_str (fin_bl I q (by simp))
    | _ => exact absurd (show false = true from hs) Bool.false_ne_true
  | str i =>
    obtain ⟨t, rfl⟩ := rx
    cases y with
    | non => cases ry; exact PySem.EqNone.ne_str_none (fin_bl I q (by simp))
    | bl j => cases ry; exact PySem.EqMixed.ne_str_bool (fin_bl I q (by simp))
    | int j => obtain ⟨t', rfl⟩ := ry; exact PySem.EqMixed.ne_str_int (fin_bl I q (by simp))
    | str j => obtain ⟨t', rfl⟩ := ry; exact ne_str (fin_bl I q (congrArg not dec_str))
    | _ => exact absurd (show false = true from hs) Bool.false_ne_true
  | byt i =>
    obtain ⟨t, rfl⟩ := rx
    cases y with
    | byt j => obtain ⟨t', rfl⟩ := ry; exact PySem.W.ne_bytes (fin_bl I q (congrArg not dec_byt))
    | _ => exact absurd (show false = true from hs) Bool.false_ne_true
  | _ => cases y <;> exact absurd (show false = true from hs) Bool.false_ne_true
theorem op_lt : OpR X (compareOp .Lt) (rI0 fun i j => .bl (decide (i < j))) := opB0 fun _ _ _ _ _ _ _ q => lt_int q
theorem op_le : OpR X (compareOp .LtE) (rI0 fun i j => .bl (decide (i ≤ j))) := opB0 fun _ _ _ _ _ _ _ q => le_int q
theorem op_gt : OpR X (compareOp .Gt) (rI0 fun i j => .bl (decide (j < i))) := opB0 fun _ _ _ _ _ _ _ q => gt_int q
theorem op_in_str : OpR X (compareOp .In) (fun x y H Q => ∃ i j, x = .str i ∧ y = .str j ∧ Q (.bl (!(Builtin.Str.occurrences j i 0 j.length 1).isEmpty)) H) := by
  intro pins s σ H x y v u Q I rx ry h
  obtain ⟨i, j, rfl, rfl, q⟩ := h
  obtain ⟨t, rfl⟩ := rx
  obtain ⟨t', rfl⟩ := ry
  exact in_str (fin_bl I q rfl)
theorem OpR.or {f : Value → Value → Sem Value} {r r' : R2} (h : OpR X f r) (h' : OpR X f r') : OpR X f (fun x y H Q => r x y H Q ∨ r' x y H Q) := by
  intro pins s σ H x y v u Q I rx ry q
  rcases q with q | q
  · exact h pins s σ H x y v u Q I rx ry q
  · exact h' pins s σ H x y v u Q I rx ry q
theorem nomark (b : Expr) {op : CmpOp} (h : op ≠ .In := by decide) (h2 : op ≠ .NotIn := by decide) : behindInMarks op b = false := by
  have e1 : (op == CmpOp.In) = false := by cases op <;> first | rfl | exact absurd rfl h
  have e2 : (op == CmpOp.NotIn) = false := by cases op <;> first | rfl | exact absurd rfl h2
  cases b <;> simp [behindInMarks, e1, e2]
theorem pe_cmpR {op : CmpOp} {r : R2} (ho : OpR X (compareOp op) r) (ha : PE X a ta) (hb : PE X b tb) (hm : behindInMarks op b = false) : PE X (.Compare a [op] [b] pos) (tOp r ta tb) := by
  intro pins s σ H Q I h
  exact wpAny_Compare1 (binT ha hb I h fun v u s2 x y H2 I2 rx ry q => ho pins s2 σ H2 x y v u Q I2 rx ry q) hm
def tTest (t : TE) : TT := fun σ H Q => t σ H fun x H' => ∃ k, x = .bl k ∧ Q k H'
theorem pt_cmpR {op : CmpOp} {r : R2} (ho : OpR X (compareOp op) r) (ha : PE X a ta) (hb : PE X b tb) (hm : behindInMarks op b = false) : PT X (.Compare a [op] [b] pos) (tTest (tOp r ta tb)) := by
  intro pins s σ H Q I h
  refine wpAny_isTrue_Compare1 (thn (ha pins s σ H _ I h) fun v s1 ⟨x, H1, I1, r1, q1⟩ => thn (hb pins s1 σ H1 _ I1 q1) fun u s2 ⟨y, H2, I2, r2, q2⟩ =>
    thn (ho pins s2 σ H2 x y v u _ I2 r1 r2 q2) fun c s3 ⟨z, H3, I3, r3, k, e, q3⟩ => ?_) hm
  subst e
  cases r3
  exact wpAny_truthy_bool ⟨H3, I3, q3⟩
def tChain (r r' : R2) (ta tb tc : TE) : TE := fun σ H Q => ta σ H fun x H1 => tb σ H1 fun y H2 => r x y H2 fun z H3 => ∃ k, z = .bl k ∧
  (if k = true then tc σ H3 fun w' H4 => r' y w' H4 Q else Q (.bl false) H3)
theorem pe_chain {op op' : CmpOp} {r r' : R2} (ho : OpR X (compareOp op) r) (ho' : OpR X (compareOp op') r') (ha : PE X a ta) (hb : PE X b tb) (hc : PE X c tc)
    (hm : lastMarks [op, op'] [b, c] = false := by with_unfolding_all rfl) : PE X (.Compare a [op, op'] [b, c] pos) (tChain r r' ta tb tc) := by
  intro pins s σ H Q I h
  refine Compare_chain (thn (ha pins s σ H _ I h) fun v s1 ⟨x, H1, I1, r1, q1⟩ => chain_link (thn (hb pins s1 σ H1 _ I1 q1) fun u s2 ⟨y, H2, I2, r2, q2⟩ =>
    thn (ho pins s2 σ H2 x y v u _ I2 r1 r2 q2) fun d s3 ⟨z, H3, I3, r3, k, e, q3⟩ => ?_)) hm
  subst e
  cases r3
  refine wpAny_truthy_bool ?_
  cases k with
  | false => exact ite_ff ⟨.bl false, H3, I3, rfl, q3⟩
  | true => exact ite_tt (chain_last (thn (hc pins s3 σ H3 _ I3 q3) fun w' s4 ⟨z', H4, I4, r4, q4⟩ => ho' pins s4 σ H4 y z' u w' Q I4 r2 r4 q4))
theorem pt_chain {op op' : CmpOp} {r r' : R2} (ho : OpR X (compareOp op) r) (ho' : OpR X (compareOp op') r') (ha : PE X a ta) (hb : PE X b tb) (hc : PE X c tc)
    (hm : lastMarks [op, op'] [b, c] = false := by with_unfolding_all rfl) : PT X (.Compare a [op, op'] [b, c] pos) (tTest (tChain r r' ta tb tc)) := by
  intro pins s σ H Q I h
  refine isTrue_chain (thn (ha pins s σ H _ I h) fun v s1 ⟨x, H1, I1, r1, q1⟩ => test_link (thn (hb pins s1 σ H1 _ I1 q1) fun u s2 ⟨y, H2, I2, r2, q2⟩ =>
    thn (ho pins s2 σ H2 x y v u _ I2 r1 r2 q2) fun d s3 ⟨z, H3, I3, r3, k, e, q3⟩ => ?_)) hm
  subst e
  cases r3
  refine wpAny_truthy_bool ?_
  cases k with
  | false =>
    obtain ⟨k', e', q'⟩ := q3
    cases e'
    exact ite_ff ⟨H3, I3, q'⟩
  | true =>
    refine ite_tt (test_last (thn (hc pins s3 σ H3 _ I3 q3) fun w' s4 ⟨z', H4, I4, r4, q4⟩ => thn (ho' pins s4 σ H4 y z' u w' _ I4 r2 r4 q4) fun d' s5 ⟨z2, H5, I5, r5, k2, e2, q5⟩ => ?_))
    subst e2
    cases r5
    exact wpAny_truthy_bool ⟨H5, I5, q5⟩
theorem line63 : (sizeLine : Nat) < 2 ^ 63 := by rw [sizeLine_eq]; decide
theorem op_add_str : OpR X (binaryOp .Add) (fun x y H Q => ∃ i j, x = .str i ∧ y = .str j ∧ i.length + j.length ≤ sizeLine ∧ Q (.str (i ++ j)) H) := by
  intro pins s σ H x y v u Q I rx ry h
  obtain ⟨i, j, rfl, rfl, hz, q⟩ := h
  obtain ⟨t, rfl⟩ := rx
  obtain ⟨t', rfl⟩ := ry
  exact add_str (fun t' tk => ⟨.str (i ++ j), H, I.tok _, ⟨_, rfl⟩, q⟩) hz
theorem vals1 {x : V} {us : List Value} (r : Vals [x] us) : ∃ u, us = [u] ∧ RelV x u := by
  cases r with
  | cons r1 r2 => cases r2; exact ⟨_, rfl, r1⟩
theorem vals2 {x y : V} {us : List Value} (r : Vals [x, y] us) : ∃ u w', us = [u, w'] ∧ RelV x u ∧ RelV y w' := by
  cases r with
  | cons r1 r2 =>
    cases r2 with
    | cons r3 r4 => cases r4; exact ⟨_, _, rfl, r1, r3⟩
theorem call_min2 (hc : X.calm = true) : CallR X (.builtin "min") (fun xs H Q => ∃ i j, xs = [.int i, .int j] ∧ Q (.int (if j < i then j else i)) H) := by
  intro pins s σ H xs us Q I r h
  obtain ⟨i, j, rfl, q⟩ := h
  obtain ⟨u, w', rfl, ⟨t, rfl⟩, ⟨t', rfl⟩⟩ := vals2 r
  refine min_two_ints (I.ok.hd hc) fun h' tk k => ⟨_, H, I.kept k, ?_, q⟩
  by_cases hj : j < i
  · rw [if_pos hj, if_pos hj]; exact ⟨_, rfl⟩
  · rw [if_neg hj, if_neg hj]; exact ⟨_, rfl⟩
theorem call_int1 : CallR X (.type "int") (fun xs H Q => (∃ i, xs = [.int i] ∧ Q (.int i) H) ∨ ∃ k, xs = [.bl k] ∧ Q (.int (if k then 1 else 0)) H) := by
  intro pins s σ H xs us Q I r h
  rcases h with ⟨i, rfl, q⟩ | ⟨k, rfl, q⟩
  · obtain ⟨u, rfl, t, rfl⟩ := vals1 r
    exact call_int_int ⟨.int i, H, I, ⟨_, rfl⟩, q⟩
  · obtain ⟨u, rfl, r1⟩ := vals1 r
    cases r1
    exact call_int_bool ⟨.int (if k then 1 else 0), H, I.tok _, ⟨_, rfl⟩, q⟩
theorem call_str_int : CallR X (.type "str") (fun xs H Q => ∃ i, xs = [.int i] ∧ i.natAbs.log2 < 1920 ∧ Q (.str (toString i)) H) := by
  intro pins s σ H xs us Q I r h
  obtain ⟨i, rfl, hz, q⟩ := h
  obtain ⟨u, rfl, t, rfl⟩ := vals1 r
  exact PySem.P.str_of_int hz ⟨.str _, H, I.tok _, ⟨_, rfl⟩, q⟩
end
end L2
namespace L2
open PySem PySem.Spec PyProof.Rows
structure ObjM (h : Heap) (x dx C : Addr) (mA : Str → Option Value) : Prop where
  obj : h.get? x = some (PySem.W.instObj C dx)
  ns : h.Ns1 dx mA
  ne : dx ≠ x
theorem lookIn_ns {h : Heap} {dx : Addr} {mA : Str → Option Value} (n : h.Ns1 dx mA) : ∃ od, h.get? dx = some od ∧ ∀ name, PySem.W.lookIn name od = some (mA name) := by
  obtain ⟨o, es, ep, ho, hd, hk, _, hm⟩ := n
  refine ⟨o, ho, fun name => ?_⟩
  have e := hm name
  unfold nsFind findBy at e
  rw [← Array.find?_toList] at e
  unfold PySem.W.lookIn
  rw [hd]
  dsimp only
  split
  · rename_i y q
    rw [q] at e
    exact congrArg some e
  · rename_i q
    rw [q] at e
    have a : es.toList.any (·.refKey) = false := by
      rw [List.any_eq_false]
      intro y hy
      obtain ⟨z, t, hkey⟩ := hk y (Array.mem_toList_iff.mp hy)
      simp [DictEntry.refKey, hkey]
    have a' : ¬ es.toList.any (·.refKey) = true := by rw [a]; exact Bool.false_ne_true
    rw [if_neg a']
    exact congrArg some e
theorem ObjM.look {h : Heap} {x dx C : Addr} {mA : Str → Option Value} (I : ObjM h x dx C mA) : ∃ od, PySem.W.InstAt h x (PySem.W.instObj C dx) C (some od) ∧ ∀ name, PySem.W.lookIn name od = some (mA name) :=
  let ⟨od, ho, hl⟩ := lookIn_ns I.ns
  ⟨od, ⟨I.obj, rfl, rfl, ho⟩, hl⟩
section
variable {prog : Program} {w : World} {A : Around} {E : Value → Shared → Prop} {s : Shared} {K : PySem.W.Frag} {x dx C f : Addr} {mA : Str → Option Value} {name : Str} {v : Value}
theorem get_map {expr : Bool} {Q : Value → Shared → Prop} (X : K.In s.heap) (I : ObjM s.heap x dx C mA) (hg : PySem.W.plainGet K C name = true) (hh : PySem.W.hasDictIn K C = true)
    (ha : PySem.W.findIn K (.ref C) name = some none) (hv : mA name = some v) (hv' : PySem.W.handedIn v = true) (h : Q v { s with toks := s.toks + 1 }) :
    wpAny (model prog w) A (getAttr (.ref x) name expr) Q E s := by
  obtain ⟨od, J, hl⟩ := I.look
  exact PySem.W.get_value X J (PySem.W.plainGet_of hg).1 (PySem.W.findObj_own hh ha rfl (by rw [hl, hv])) hv' h
theorem get_meth {pl : Sem Bool} {Q : Value × List Value → Shared → Prop} (X : K.In s.heap) (I : ObjM s.heap x dx C mA) (hg : PySem.W.plainGet K C name = true)
    (hf : PySem.W.findIn K (.ref C) name = some (some (.ref f))) (ht : PySem.W.isFn K (.ref f) = true) (hv : mA name = none) (h : Q (.ref f, [.ref x]) s) :
    wpAny (model prog w) A (getMethod (.ref x) name pl) Q E s := by
  obtain ⟨od, J, hl⟩ := I.look
  exact PySem.W.method_fn X J (PySem.W.plainGet_of hg).1 (PySem.W.plainGet_of hg).2 hf (beq_iff_eq.mp ht) (by show (PySem.W.lookIn name od).map (·.isSome) = some false; rw [hl, hv]; rfl) h
theorem set_map {ns : List Str} {Q : Unit → Shared → Prop} (X : K.In s.heap) (I : ObjM s.heap x dx C mA)
    (hs : PySem.W.findIn K (.ref C) "__setattr__" = some (some (.builtin "object.__setattr__"))) (hp : PySem.W.plainOver K C = true) (ht : PySem.W.takerIn K C name = some none) (hh : PySem.W.hasDictIn K C = true)
    (hw : PySem.Within mA ns) (hsz : ns.length ≤ sizeLine)
    (h : ∀ h', ObjM h' x dx C (fun y => if y = name then some v else mA y) → Heap.SameBut dx s.heap h' → Q () { s with heap := h', toks := s.toks + 2 }) :
    wpAny (model prog w) A (setAttr (.ref x) name v) Q E s := by
  obtain ⟨od, J, hl⟩ := I.look
  refine PySem.W.set_plain X J hs (PySem.W.osa_open (s := { s with toks := s.toks + 1 }) (r := none) X J hp ht fun b => ?_)
  obtain ⟨cd, hc, hd'⟩ := PySem.W.any_some hh
  have hx : s.heap.get? x = some ⟨.ref C, some dx, .plain, #[]⟩ := I.obj
  refine wpAny_bind (wpAny_pure (wpAny_bind (wpAny_bind (wpAny_loadPart hx (wpAny_bind (PySem.W.Looks.here (s := { s with toks := s.toks + 1 }) (PySem.W.looks_clsIn X hc) ?_))))))
  rw [hd']
  refine wpAny_pure (a := some dx) (wpAny_bind (wpAny_pure (wpAny_bind ?_)))
  refine wpAny_nsSet1 (s := { s with toks := s.toks + 1 }) I.ns fun h' hn2 hs2 => ?_
  obtain ⟨oD, esD, epD, hoD, hdD, hcD⟩ := hn2.count (PySem.Within.cons name v hw)
  refine wpAny_bind (wpAny_lookBehind hoD (by rw [hdD]; exact pastItsLine_dict (Nat.le_trans hcD (by rw [List.length_cons]; omega))) ?_)
  exact wpAny_pure (h _ ⟨(hs2.2 _ (Ne.symm I.ne)).trans I.obj, hn2, I.ne⟩ hs2)
theorem make_map {R : Result → Shared → Prop} {vs : List Value} {kw : List (Str × Value)} (X : K.In s.heap) (hm : PySem.W.makesIn K C = true)
    (hi : PySem.W.findIn K (.ref C) "__init__" = some (some (.ref f))) (hf : PySem.W.typeIn K (.ref f) = some (.type "function"))
    (h : codeAny (model prog w) (A.under (.builtin "type.__call__" ⟨.ref C :: vs, kw⟩)) (.call (.ref f) ⟨.ref (s.heap.objs.size + 1) :: vs, kw⟩) (PySem.W.InitBack (s.heap.objs.size + 1) R)
      { s with heap := (s.heap.push PySem.W.emptyDict).push (PySem.W.instObj C s.heap.objs.size) }) :
    codeAny (model prog w) A (.call (.ref C) ⟨vs, kw⟩) R s := by
  obtain ⟨hh, g, d, t, os⟩ := s
  exact PySem.W.make_core (PySem.W.makes_of X hm) (PySem.W.looks_findIn X hi) (fun self => PySem.W.bind_fn X self hf) (.inl rfl) h
end
def putF (f : Str) (v : V) : List (Str × V) → List (Str × V)
  | [] => [(f, v)]
  | (g, x) :: r => if g = f then (g, v) :: r else (g, x) :: putF f v r
theorem lookup_putF (f g : Str) (v : V) : ∀ fs : List (Str × V), (putF f v fs).lookup g = if g = f then some v else fs.lookup g
  | [] => by
    show List.lookup g [(f, v)] = _
    by_cases h : g = f
    · have hb : (g == f) = true := beq_iff_eq.mpr h
      simp only [List.lookup, hb, if_pos h]
    · have hb : (g == f) = false := beq_eq_false_iff_ne.mpr h
      simp only [List.lookup, hb, if_neg h]
  | (k, x) :: r => by
    have ih := lookup_putF f g v r
    rw [show putF f v ((k, x) :: r) = (if k = f then (k, v) :: r else (k, x) :: putF f v r) from rfl]
    by_cases hk : k = f
    · rw [if_pos hk]
      by_cases h : g = k
      · have hb : (g == k) = true := beq_iff_eq.mpr h
        simp only [List.lookup, hb, if_pos (h.trans hk)]
      · have hb : (g == k) = false := beq_eq_false_iff_ne.mpr h
        simp only [List.lookup, hb, if_neg (fun e : g = f => h (e.trans hk.symm))]
    · rw [if_neg hk]
      by_cases h : g = k
      · have hb : (g == k) = true := beq_iff_eq.mpr h
        simp only [List.lookup, hb, if_neg (fun e : g = f => hk (h.symm.trans e))]
      · have hb : (g == k) = false := beq_eq_false_iff_ne.mpr h
        simp only [List.lookup, hb]
        exact ih
theorem keys_putF (f : Str) (v : V) : ∀ fs : List (Str × V), f ∈ (putF f v fs).map (·.1) ∧ ∀ g, g ∈ fs.map (·.1) → g ∈ (putF f v fs).map (·.1)
  | [] => ⟨by simp [putF], fun g h => by simp at h⟩
  | (k, x) :: r => by
    obtain ⟨i1, i2⟩ := keys_putF f v r
    rw [show putF f v ((k, x) :: r) = (if k = f then (k, v) :: r else (k, x) :: putF f v r) from rfl]
    by_cases hk : k = f
    · rw [if_pos hk]
      subst hk
      exact ⟨by simp, fun g h => by simpa using h⟩
    · rw [if_neg hk]
      refine ⟨?_, fun g h => ?_⟩
      · rw [List.map_cons]
        exact List.mem_cons_of_mem _ i1
      · rw [List.map_cons] at h ⊢
        rcases List.mem_cons.mp h with e | e
        · exact List.mem_cons.mpr (.inl e)
        · exact List.mem_cons_of_mem _ (i2 g e)
theorem length_putF (f : Str) (v : V) : ∀ fs : List (Str × V), (putF f v fs).length ≤ fs.length + 1
  | [] => by simp [putF]
  | (k, x) :: r => by
    have ih := length_putF f v r
    rw [show putF f v ((k, x) :: r) = (if k = f then (k, v) :: r else (k, x) :: putF f v r) from rfl]
    by_cases hk : k = f
    · rw [if_pos hk, List.length_cons, List.length_cons]; omega
    · rw [if_neg hk, List.length_cons, List.length_cons]; omega
theorem RelO.some_of {v : V} {o : Option Value} (r : RelO (some v) o) : ∃ u, o = some u ∧ RelV v u := by
  cases o with
  | none => exact (show False from r).elim
  | some u => exact ⟨u, rfl, r⟩
theorem RelO.none_of {o : Option Value} (r : RelO none o) : o = none := by
  cases o with
  | none => rfl
  | some u => exact (show False from r).elim
theorem handed_of {v : V} {u : Value} (r : RelV v u) : PySem.W.handedIn u = true := by
  cases v with
  | non => cases (show u = Value.none from r); rfl
  | bl b => cases (show u = Value.bool b from r); rfl
  | int i => obtain ⟨t, e⟩ := (show ∃ t, u = Value.int i t from r); cases e; rfl
  | str x => obtain ⟨t, e⟩ := (show ∃ t, u = Value.str x t from r); cases e; rfl
  | byt b => obtain ⟨t, e⟩ := (show ∃ t, u = Value.bytes b t from r); cases e; rfl
  | flt b => obtain ⟨t, e⟩ := (show ∃ t, u = Value.float b t from r); cases e; rfl
  | ref a => cases (show u = Value.ref a from r); rfl
  | ty n => cases (show u = Value.type n from r); rfl
section
variable {P : Program} {w : World} {H H' : Hp} {h h' : Heap} {a C dx : Addr} {fs fs' : List (Str × V)}
theorem ins_get (hok : HOk P w H h) (e : H a = some (.ins C dx fs)) : ∃ mA, ObjM h a dx C mA ∧ (∀ f, RelO (fs.lookup f) (mA f)) ∧ PySem.Within mA (fs.map (·.1)) ∧ fs.length ≤ 1000 ∧ H dx = some (.own a) := by
  obtain ⟨d, z, ne, ob, mA, n, r, q⟩ := (show ObjOk P w H h a (.ins C dx fs) from hok a _ e)
  exact ⟨mA, ⟨ob, n, ne⟩, r, q, z, d⟩
end
structure Cls (K : PySem.W.Frag) (C : Addr) : Prop where
  pg : PySem.W.plainGet K C Str.empty = true
  hd : PySem.W.hasDictIn K C = true
  po : PySem.W.plainOver K C = true
  sa : PySem.W.findIn K (.ref C) "__setattr__" = some (some (.builtin "object.__setattr__"))
theorem Cls.get {K : PySem.W.Frag} {C : Addr} (c : Cls K C) (f : Str) : PySem.W.plainGet K C f = true := c.pg
def NoAttr (K : PySem.W.Frag) (C : Addr) (f : Str) : Prop := PySem.W.findIn K (.ref C) f = some none
theorem NoAttr.taker {K : PySem.W.Frag} {C : Addr} {f : Str} (n : NoAttr K C f) : PySem.W.takerIn K C f = some none := by
  unfold PySem.W.takerIn
  rw [show PySem.W.findIn K (.ref C) f = some none from n]
  rfl
structure Con (K : PySem.W.Frag) (C : Addr) (f : Str) (v : V) (u : Value) : Prop where
  at_ : PySem.W.findIn K (.ref C) f = some (some u)
  rel : RelV v u
  get : PySem.W.specialIn K u "__get__" = some none
  cp : PySem.W.copiedNames.contains f = false
structure Meth (K : PySem.W.Frag) (C : Addr) (m : Str) (f : Addr) : Prop where
  at_ : PySem.W.findIn K (.ref C) m = some (some (.ref f))
  fn : PySem.W.isFn K (.ref f) = true
  kp : PySem.W.keepIn K (.ref f) = true
section
variable {X : Cx} {pins : List (Addr × Obj)} {σ : St} {H : Hp} {s : Shared} {a C dx : Addr} {fs : List (Str × V)} {f : Str} {v : V} {A : Around} {E : Value → Shared → Prop}
theorem getattr_ok {b : Bool} {Q : Value → Shared → Prop} (I : Inv X pins σ H s) (e : H a = some (.ins C dx fs)) (c : Cls X.K C) (n : NoAttr X.K C f) (l : fs.lookup f = some v)
    (h : ∀ u s', Inv X pins σ H s' → RelV v u → Q u s') : wpAny (model X.prog X.w) A (getAttr (.ref a) f b) Q E s := by
  obtain ⟨mA, O, r, _, _, _⟩ := ins_get I.hok e
  obtain ⟨u, hu, ru⟩ := RelO.some_of (v := v) (o := mA f) (by rw [← l]; exact r f)
  exact get_map I.kIn O (c.get f) c.hd n hu (handed_of ru) (h u _ (I.tok _) ru)
theorem getmeth_ok {m : Str} {g : Addr} {pl : Sem Bool} {Q : Value × List Value → Shared → Prop} (I : Inv X pins σ H s) (e : H a = some (.ins C dx fs)) (c : Cls X.K C) (k : Meth X.K C m g) (l : fs.lookup m = none)
    (h : Q (.ref g, [.ref a]) s) : wpAny (model X.prog X.w) A (getMethod (.ref a) m pl) Q E s := by
  obtain ⟨mA, O, r, _, _, _⟩ := ins_get I.hok e
  have hn : mA m = none := RelO.none_of (by rw [← l]; exact r m)
  exact get_meth I.kIn O (c.get m) k.at_ k.fn hn h
theorem setattr_ok {y : V} {u : Value} {Q : Unit → Shared → Prop} (I : Inv X pins σ H s) (e : H a = some (.ins C dx fs)) (c : Cls X.K C) (n : NoAttr X.K C f) (hl : fs.length < 1000) (ry : RelV y u)
    (h : ∀ s', Inv X pins σ (upd H a (.ins C dx (putF f y fs))) s' → Q () s') : wpAny (model X.prog X.w) A (setAttr (.ref a) f u) Q E s := by
  obtain ⟨mA, O, r, wi, _, ho⟩ := ins_get I.hok e
  have hz : (fs.map (·.1)).length ≤ sizeLine := by rw [List.length_map, sizeLine_eq]; omega
  refine set_map I.kIn O c.sa c.po n.taker c.hd wi hz fun h' O' sb => h _ ?_
  have hd : ∃ o, h'.get? dx = some o := let ⟨o, _, _, e', _⟩ := O'.ns; ⟨o, e'⟩
  refine I.write (x := a) (e := dx) (by rw [e]; exact True.intro) (.inr ho) (fun b q hb z => (sb.2 b hb).trans z) hd ?_
  refine ⟨by rw [upd_ne O.ne]; exact ho, ?_, O.ne, O'.obj, _, O'.ns, fun g => ?_, fun g hg => ?_⟩
  · have := length_putF f y fs; omega
  · show RelO ((putF f y fs).lookup g) (if g = f then some u else mA g)
    rw [lookup_putF]
    by_cases q : g = f
    · rw [if_pos q, if_pos q]; exact ry
    · rw [if_neg q, if_neg q]; exact r g
  · by_cases q : g = f
    · rw [q]; exact (keys_putF f y fs).1
    · refine (keys_putF f y fs).2 g (wi g fun z => hg ?_)
      show (if g = f then some u else mA g) = none
      rw [if_neg q]; exact z
theorem Inv.made (I : Inv X pins σ H s) : Inv X pins σ (upd (upd H s.heap.objs.size (.own (s.heap.objs.size + 1))) (s.heap.objs.size + 1) (.ins C s.heap.objs.size []))
    { s with heap := (s.heap.push PySem.W.emptyDict).push (PySem.W.instObj C s.heap.objs.size) } := by
  have e1 : (s.heap.push PySem.W.emptyDict).get? s.heap.objs.size = some PySem.W.emptyDict := Heap.get?_push_size s.heap rfl
  have e2 : ((s.heap.push PySem.W.emptyDict).push (PySem.W.instObj C s.heap.objs.size)).get? (s.heap.objs.size + 1) = some (PySem.W.instObj C s.heap.objs.size) := by
    have := Heap.get?_push_size (s.heap.push PySem.W.emptyDict) (o := PySem.W.instObj C s.heap.objs.size) rfl
    rwa [Heap.size_push] at this
  have e3 : (s.heap.push PySem.W.emptyDict).Ns s.heap.objs.size (fun _ => none) := ⟨PySem.W.emptyDict, #[], _, e1, rfl, (fun e he => absurd he (by simp)), fun _ => rfl⟩
  have I1 := I.laid (a := s.heap.objs.size) (o := .own (s.heap.objs.size + 1)) (h' := s.heap.push PySem.W.emptyDict) (t' := s.toks) (fun b u q => Heap.get?_push_of_some _ q) (Nat.le_refl _) ⟨_, e1⟩
  refine I1.laid (a := s.heap.objs.size + 1) (o := .ins C s.heap.objs.size []) (t' := s.toks) (fun b u q => Heap.get?_push_of_some _ q) (Nat.le_of_eq (Heap.size_push _ _)) ?_
  have ne : s.heap.objs.size ≠ s.heap.objs.size + 1 := Nat.ne_of_lt (Nat.lt_succ_self _)
  refine ⟨by rw [upd_ne ne, upd_same], Nat.zero_le _, ne, e2, fun _ => none, (Heap.Ns1.of_empty e3).at fun o q => Heap.get?_push_of_some _ q, fun _ => True.intro, fun y hy => absurd rfl hy⟩
theorem attr_of {prog : Program} {w : World} {env : Env} {e : Expr} {f : Str} {pos : Pos} {s : Shared} {Q : Value → Shared → Prop} (hb : attributeBase e f env (eval e env) = eval e env)
    (h : wpAny (model prog w) A (eval e env) (fun o s₁ => wpAny (model prog w) A (getAttr o f true) Q E s₁) E s) : wpAny (model prog w) A (eval (.Attribute e f pos) env) Q E s :=
  Attribute_any_ h (by rw [arm_eval_Attribute, hb])
end
def tFld (K : PySem.W.Frag) (ta : TE) (f : Str) : TE := fun σ H Q => ta σ H fun x H1 => ∃ a C dx fs v, x = .ref a ∧ H1 a = some (.ins C dx fs) ∧ Cls K C ∧ NoAttr K C f ∧ fs.lookup f = some v ∧ Q v H1
def sFld (K : PySem.W.Frag) (ta tv : TE) (f : Str) : TS := fun D σ H => tv σ H fun y H1 => ta σ H1 fun x H2 => ∃ a C dx fs, x = .ref a ∧ H2 a = some (.ins C dx fs) ∧ Cls K C ∧ NoAttr K C f ∧ fs.length < 1000 ∧
  D.nx σ (upd H2 a (.ins C dx (putF f y fs)))
def InOp (X : Cx) (op : Operator) (rd : V → V → Hp → VK → Prop) : Prop :=
  ∀ (pins : List (Addr × Obj)) (s : Shared) (σ : St) (H : Hp) (x y : V) (u v : Value) (Q : VK), Inv X pins σ H s → RelV x u → RelV y v → rd x y H Q → wpAny (model X.prog X.w) X.A (inplaceOp op u v) (EP X pins σ Q) X.xe s
def sFldAug (K : PySem.W.Frag) (ta tv : TE) (rd : V → V → Hp → VK → Prop) (f : Str) : TS := fun D σ H => ta σ H fun x H1 => ∃ a C dx fs v, x = .ref a ∧ H1 a = some (.ins C dx fs) ∧ Cls K C ∧ NoAttr K C f ∧ fs.lookup f = some v ∧
  tv σ H1 fun y H2 => rd v y H2 fun z H3 => ∃ dx' fs', H3 a = some (.ins C dx' fs') ∧ fs'.length < 1000 ∧ D.nx σ (upd H3 a (.ins C dx' (putF f z fs')))
section
variable {X : Cx} {o e value : Expr} {f : Str} {pos pos' tpos : Pos} {ta tv : TE}
theorem pe_fld (he : PE X e ta) (hb : attributeBase e f X.env (eval e X.env) = eval e X.env) : PE X (.Attribute e f pos) (tFld X.K ta f) := by
  intro pins s σ H Q I h
  refine attr_of hb (thn (he pins s σ H _ I h) fun u s1 ⟨x, H1, I1, rx, a, C, dx, fs, v, ex, ea, c, n, l, q⟩ => ?_)
  subst ex
  obtain rfl : u = Value.ref a := rx
  exact getattr_ok I1 ea c n l fun u' s2 I2 ru => ⟨v, H1, I2, ru, q⟩
theorem ps_fld (ha : PE X o ta) (hv : PE X value tv) (hs : swapsWith value (some (.Attribute o f pos')) pos.line X.env = pure false) : PS X (.Assign [.Attribute o f pos'] value pos) (sFld X.K ta tv f) := by
  intro pins s σ H D I h
  refine plainObj_wpAny_Assign_Attribute (thn (hv pins s σ H _ I h) fun u s1 ⟨y, H1, I1, ry, q⟩ => thn (ha pins s1 σ H1 _ I1 q) fun ov s2 ⟨x, H2, I2, rx, a, C, dx, fs, ex, ea, c, n, l, q2⟩ => ?_) hs
  subst ex
  obtain rfl : ov = Value.ref a := rx
  exact setattr_ok I2 ea c n l ry fun s3 I3 => ⟨σ, _, I3, q2⟩
theorem ps_fldaug {op : Operator} {rd : V → V → Hp → VK → Prop} (ha : PE X o ta) (hv : PE X value tv) (hop : InOp X op rd) : PS X (.AugAssign (.Attribute o f tpos) op value pos) (sFldAug X.K ta tv rd f) := by
  intro pins s σ H D I h
  refine wpAny_AugAssign_AttributeAny (thn (ha pins s σ H _ I h) fun ov s1 ⟨x, H1, I1, rx, a, C, dx, fs, v, ex, ea, c, n, l, q⟩ => ?_)
  subst ex
  obtain rfl : ov = Value.ref a := rx
  refine getattr_ok I1 ea c n l fun u s2 I2 ru => thn (hv pins s2 σ H1 _ I2 q) fun w3 s3 ⟨y, H2, I3, ry, q3⟩ => thn (hop pins s3 σ H2 v y u w3 _ I3 ru ry q3) fun w4 s4 ⟨z, H3, I4, rz, dx', fs', ea', l', q4⟩ => ?_
  exact setattr_ok I4 ea' c n l' rz fun s5 I5 => ⟨σ, _, I5, q4⟩
def rAdd : V → V → Hp → VK → Prop := fun x y H Q => ∃ i j, x = .int i ∧ y = .int j ∧ Q (.int (i + j)) H
def rSub : V → V → Hp → VK → Prop := fun x y H Q => ∃ i j, x = .int i ∧ y = .int j ∧ Q (.int (i - j)) H
theorem in_add : InOp X .Add rAdd := by
  rintro pins s σ H x y u v Q I rx ry ⟨i, j, rfl, rfl, q⟩
  obtain ⟨t, rfl⟩ := (show ∃ t, u = Value.int i t from rx)
  obtain ⟨t', rfl⟩ := (show ∃ t', v = Value.int j t' from ry)
  exact PyProof.Rows.iadd_int ⟨.int (i + j), H, I.tok _, ⟨_, rfl⟩, q⟩
theorem in_sub : InOp X .Sub rSub := by
  rintro pins s σ H x y u v Q I rx ry ⟨i, j, rfl, rfl, q⟩
  obtain ⟨t, rfl⟩ := (show ∃ t, u = Value.int i t from rx)
  obtain ⟨t', rfl⟩ := (show ∃ t', v = Value.int j t' from ry)
  exact PyProof.Rows.isub_int ⟨.int (i - j), H, I.tok _, ⟨_, rfl⟩, q⟩
end
section
variable {X : Cx} {pins : List (Addr × Obj)} {σ : St} {H : Hp} {s : Shared} {A : Around} {E : Value → Shared → Prop} {Q : Value → Shared → Prop} {c : Value} {b : Bool}
inductive TyOf (K : PySem.W.Frag) (H : Hp) : V → Value → Prop where
  | non : TyOf K H .non (.type "NoneType")
  | bl (x : Bool) : TyOf K H (.bl x) (.type "bool")
  | int (i : Int) : TyOf K H (.int i) (.type "int")
  | str (x : Str) : TyOf K H (.str x) (.type "str")
  | flt (x : UInt64) : TyOf K H (.flt x) (.type "float")
  | lst {a : Addr} {xs : List V} (e : H a = some (.lst xs)) : TyOf K H (.ref a) (.type "list")
  | frz {a : Addr} {o : Obj} {xs : List V} (e : H a = some (.frz o (.lst xs))) : TyOf K H (.ref a) (.type "list")
  | tup {a : Addr} {xs : List V} (e : H a = some (.tup xs)) : TyOf K H (.ref a) (.type "tuple")
  | dK {a : Addr} {kvs : List (Key × V)} (e : H a = some (.dK kvs)) : TyOf K H (.ref a) (.type "dict")
  | dT {a : Addr} {kvs : List (List Key × V)} (e : H a = some (.dT kvs)) : TyOf K H (.ref a) (.type "dict")
  | ins {a C dx : Addr} {fs : List (Str × V)} (e : H a = some (.ins C dx fs)) (cl : Cls K C) (ha : PySem.W.findIn K (.ref C) "__class__" = some (some (.builtin "object.__class__")))
      (hn : PySem.W.specialIn K (.builtin "object.__class__") "__get__" = some (some (.builtin "getset_descriptor.__get__"))) (htk : PySem.W.takesIn K (.builtin "object.__class__") = some true)
      (hm : PySem.W.mroIn K C (.type "object") = some true) : TyOf K H (.ref a) (.ref C)
end
end L2
namespace L2
open PySem PySem.Spec PyProof.Rows
structure Room (k : Nat) (A : Around) : Prop where
  hd : A.handled = none
  dp : A.depth + 3 * k + 5 < recursionLimit
  un : A.units + 16 * k + 200 < cLine
theorem Room.mono {j k : Nat} {A : Around} (r : Room k A) (h : j ≤ k) : Room j A := ⟨r.hd, by have := r.dp; omega, by have := r.un; omega⟩
theorem Room.deeper {k : Nat} {A : Around} (r : Room (k + 1) A) (env : Env) : Room k (A.deeper env) :=
  ⟨r.hd, by have := r.dp; show A.depth + 1 + 3 * k + 5 < _; omega, by have := r.un; show A.units + 3 + 16 * k + 200 < _; omega⟩
theorem Room.in1 {k : Nat} {A : Around} (r : Room (k + 1) A) : Room k A.in1 :=
  ⟨r.hd, by have := r.dp; show A.depth + 3 * k + 5 < _; omega, by have := r.un; show A.units + 1 + 16 * k + 200 < _; omega⟩
theorem make_depth {A : Around} {C : Addr} {us : List Value} {kw : List (Str × Value)} : (A.under (.builtin "type.__call__" ⟨.ref C :: us, kw⟩)).depth = A.depth + 1 := by
  first | rfl | simp [Around.under, Code.weight, Code.isCreation, Code.isGuard, Code.isCaller, Code.frames, Code.isFrame, guardIds]
theorem make_units {A : Around} {C : Addr} {us : List Value} {kw : List (Str × Value)} : (A.under (.builtin "type.__call__" ⟨.ref C :: us, kw⟩)).units = A.units + 1 := by
  first | rfl | simp [Around.under, Code.cUnits, Code.frames, Code.isFrame]
theorem Room.make {k : Nat} {A : Around} (r : Room (k + 1) A) (C : Addr) (us : List Value) (kw : List (Str × Value)) : Room k (A.under (.builtin "type.__call__" ⟨.ref C :: us, kw⟩)) :=
  ⟨r.hd, by have := r.dp; rw [make_depth]; omega, by have := r.un; rw [make_units]; omega⟩
theorem Room.depth {k : Nat} {A : Around} (r : Room k A) : A.depth < recursionLimit := by have := r.dp; omega
theorem Room.units {k : Nat} {A : Around} (r : Room k A) : A.units + 64 < cLine := by have := r.un; omega
def tNil : TA := fun _ H Q => Q [] H
def tCons (ta : TE) (tr : TA) : TA := fun σ H Q => ta σ H fun x H1 => tr σ H1 fun xs H2 => Q (x :: xs) H2
section
variable {X : Cx} {e : Expr} {es : List Expr} {te : TE} {t : TA} {pos : Pos}
theorem pa_nil : PA X [] tNil := fun _ _ _ _ H Q I h => Calls.spliced_nil ⟨[], H, I, .nil, h⟩
theorem pa_cons (ha : PE X e te) (hr : PA X es t) (hs : starEach (e :: es) X.env = (false, eval e X.env) :: starEach es X.env := by rfl) : PA X (e :: es) (tCons te t) := by
  intro pos pins s σ H Q I h
  rw [hs]
  show wpAny _ _ (spliced ((false, eval e X.env) :: backTo pos (starEach es X.env))) _ _ s
  refine Calls.spliced_cons (thn (ha pins s σ H _ I h) fun u s1 ⟨x, H1, I1, r1, q1⟩ => ?_)
  exact thn (hr pos pins s1 σ H1 _ I1 q1) fun us s2 ⟨xs, H2, I2, r2, q2⟩ => ⟨x :: xs, H2, I2, .cons r1 r2, q2⟩
def tTup (t : TA) : TE := fun σ H Q => t σ H fun xs H1 => xs.length ≤ sizeLine ∧ ∀ p, H1 p = none → Q (.ref p) (upd H1 p (.tup xs))
def tLst (t : TA) : TE := fun σ H Q => t σ H fun xs H1 => xs.length ≤ sizeLine ∧ ∀ p, H1 p = none → Q (.ref p) (upd H1 p (.lst xs))
theorem pe_tup {x1} (h : PA X es t) : PE X (.Tuple es x1 pos) (tTup t) := by
  intro pins s σ H Q I hq
  refine wpAny_Tuple_spliced (thn (h pos pins s σ H _ I hq) fun us s1 ⟨xs, H1, I1, r, z, q⟩ => ⟨by rw [← r.length]; exact z, ?_⟩)
  have hf : H1 s1.heap.objs.size = none := I1.hok.fresh (Nat.le_refl _)
  refine ⟨.ref s1.heap.objs.size, upd H1 s1.heap.objs.size (.tup xs), I1.laid (t' := s1.toks) (fun b u e => Heap.get?_push_of_some _ e) (Nat.le_refl _) ?_, rfl, q _ hf⟩
  exact ⟨z, us, r, ⟨_, Heap.get?_push_size _ rfl, rfl, _, rfl⟩⟩
theorem pe_lst (h : PA X es t) : PE X (.List es pos) (tLst t) := by
  intro pins s σ H Q I hq
  refine wpAny_List_spliced (thn (h pos pins s σ H _ I hq) fun us s1 ⟨xs, H1, I1, r, z, q⟩ => ⟨by rw [← r.length]; exact z, ?_⟩)
  have hf : H1 s1.heap.objs.size = none := I1.hok.fresh (Nat.le_refl _)
  refine ⟨.ref s1.heap.objs.size, upd H1 s1.heap.objs.size (.lst xs), I1.laid (t' := s1.toks) (fun b u e => Heap.get?_push_of_some _ e) (Nat.le_refl _) ?_, rfl, q _ hf⟩
  exact ⟨z, us, 0, r, Heap.get?_push_size _ rfl⟩
end
abbrev Sp := List V → Hp → VK → XK → Prop
abbrev CXT := List Env → Hp → Shared → XK → Value → Shared → Prop
structure Env0 (P : Program) (w : World) (K : PySem.W.Frag) (mg : Str → Option Value) (base : Heap) (A : Around) (outer : List Env) (s : Shared) (H : Hp) : Prop where
  frames : A.frames = some outer
  mod : Mod K mg base
  bs : ∀ b o, base.get? b = some o → s.heap.get? b = some o ∧ H b = none
  bsz : base.objs.size ≤ s.heap.objs.size
  funs : s.heap.FunFrames base outer
  frf : ∀ b ∈ frs outer, H b = none
  hok : HOk P w H s.heap
  bare : AllBare s.gens
def CE (outer : List Env) (P : Program) (w : World) (H : Hp) (s : Shared) (Q : VK) (u : Value) (s' : Shared) : Prop :=
  ∃ v H', s'.os = s.os ∧ AllBare s'.gens ∧ Un (frs outer) [] H H' s.heap s'.heap ∧ HOk P w H' s'.heap ∧ RelV v u ∧ Q v H'
def CR (CX : CXT) (outer : List Env) (P : Program) (w : World) (H : Hp) (s : Shared) (Q : VK) (E : XK) (r : Result) (s' : Shared) : Prop :=
  match r with
  | .ok (.ret u) => CE outer P w H s Q u s'
  | .ok _ => False
  | .error e => CX outer H s E e s'
structure FnOk (P : Program) (w : World) (K : PySem.W.Frag) (mg : Str → Option Value) (base : Heap) (CX : CXT) (k : Nat) (f : Addr) (fd : FuncData) (ps : List Str) (sp : Sp) : Prop where
  len : ∀ vs H Q E, sp vs H Q E → vs.length = ps.length
  run : ∀ (A : Around) (outer : List Env) (s : Shared) (H : Hp) (args : Args) (us : List Value) (vs : List V) (Q : VK) (E : XK), Room k A → Env0 P w K mg base A outer s H → BindsTo s fd args (ps.zip us) → Vals vs us → sp vs H Q E →
    codeAny (model P w) A (.call (.ref f) args) (CR CX outer P w H s Q E) s
theorem FnOk.mono {P : Program} {w : World} {K : PySem.W.Frag} {mg : Str → Option Value} {base : Heap} {CX : CXT} {j k : Nat} {f : Addr} {fd : FuncData} {ps : List Str} {sp : Sp} (F : FnOk P w K mg base CX j f fd ps sp) (h : j ≤ k) :
    FnOk P w K mg base CX k f fd ps sp := ⟨F.len, fun A outer s H args us vs Q E hr => F.run A outer s H args us vs Q E (hr.mono h)⟩
theorem Env0.make {P : Program} {w : World} {K : PySem.W.Frag} {mg : Str → Option Value} {base : Heap} {A : Around} {outer : List Env} {s : Shared} {H : Hp} (e : Env0 P w K mg base A outer s H) (C : Addr) (us : List Value) (kw : List (Str × Value)) :
    Env0 P w K mg base (A.under (.builtin "type.__call__" ⟨.ref C :: us, kw⟩)) outer s H := ⟨by first | exact e.frames | (simpa [Around.under, Code.envs, Code.isFrame, pushEnvs] using e.frames), e.mod, e.bs, e.bsz, e.funs, e.frf, e.hok, e.bare⟩
theorem Env0.in1 {P : Program} {w : World} {K : PySem.W.Frag} {mg : Str → Option Value} {base : Heap} {A : Around} {outer : List Env} {s : Shared} {H : Hp} (e : Env0 P w K mg base A outer s H) :
    Env0 P w K mg base A.in1 outer s H := ⟨e.frames, e.mod, e.bs, e.bsz, e.funs, e.frf, e.hok, e.bare⟩
section
variable {X : Cx} {pins : List (Addr × Obj)} {σ : St} {H : Hp} {s s' : Shared}
theorem Inv.env0 (I : Inv X pins σ H s) : Env0 X.prog X.w X.K X.mg X.base X.A X.stack s H :=
  ⟨I.ok.frames, I.ok.mod, I.bs, Nat.le_trans I.ok.bsz I.sz, I.stack, I.stkFree, I.hok, I.bare⟩
theorem Inv.after {Q : VK} {u : Value} (I : Inv X pins σ H s) (h : CE X.stack X.prog X.w H s Q u s') : EP X pins σ Q u s' := by
  obtain ⟨v, H', os, bare, un, hok, r, q⟩ := h
  obtain ⟨hh, g, d, t, os'⟩ := s'
  obtain rfl : os' = s.os := os
  exact ⟨v, H', I.call (h' := hh) (g' := g) (d' := d) (t' := t) (ch := []) un hok bare (fun b z => absurd z (by simp)), r, q⟩
end
def tCall (sp : Sp) (dvs : List V) (E : XK) (t : TA) : TE := fun σ H Q => t σ H fun vs H1 => sp (vs ++ dvs) H1 Q E
def tMeth (C : Addr) (m : Str) (sp : Sp) (dvs : List V) (E : XK) (ta : TE) (t : TA) : TE := fun σ H Q => ta σ H fun x H1 => ∃ a dx fs, x = .ref a ∧ H1 a = some (.ins C dx fs) ∧ fs.lookup m = none ∧
  t σ H1 fun vs H2 => sp (x :: (vs ++ dvs)) H2 Q E
def tMake (C : Addr) (sp : Sp) (dvs : List V) (E : XK) (t : TA) : TE := fun σ H Q => t σ H fun vs H1 => ∀ x dx, H1 x = none → H1 dx = none → dx ≠ x →
  sp (.ref x :: (vs ++ dvs)) (upd (upd H1 dx (.own x)) x (.ins C dx [])) (fun v H2 => v = .non ∧ Q (.ref x) H2) E
def Binds (K : PySem.W.Frag) (fd : FuncData) (ps : List Str) (ds : List Value) : Prop :=
  ∀ (s : Shared) (us : List Value), K.In s.heap → (us ++ ds).length = ps.length → BindsTo s fd ⟨us, []⟩ (ps.zip (us ++ ds))
theorem Binds.all {K : PySem.W.Frag} {fd : FuncData} {ps : List Str} (h : ∀ us : List Value, us.length = ps.length → bindArgs fd ⟨us, []⟩ = pure (ps.zip us)) : Binds K fd ps [] := fun s us _ hl => by
  rw [List.append_nil] at hl ⊢
  exact .of_eq (h us hl)
def Passes (CX : CXT) (X : Cx) (E : XK) : Prop := ∀ (pins : List (Addr × Obj)) (σ : St) (H : Hp) (s : Shared) (e : Value) (s' : Shared), Inv X pins σ H s → CX X.stack H s E e s' → X.xe e s'
section
variable {X : Cx} {CX : CXT} {k : Nat} {f C : Addr} {fd : FuncData} {ps : List Str} {sp : Sp} {dvs : List V} {ds : List Value} {E : XK} {x m : Str} {p pos apos : Pos} {e o : Expr} {es : List Expr} {ta : TE} {t : TA}
theorem run_fn {pins : List (Addr × Obj)} {σ : St} {H : Hp} {s : Shared} {Q : VK} {us : List Value} {vs : List V} (F : FnOk X.prog X.w X.K X.mg X.base CX k f fd ps sp) (hr : Room k X.A) (hb : Binds X.K fd ps ds) (hd : Vals dvs ds) (hx : Passes CX X E)
    (I : Inv X pins σ H s) (r : Vals vs us) (h : sp (vs ++ dvs) H Q E) : wpAny (model X.prog X.w) X.A (call (.ref f) us) (EP X pins σ Q) X.xe s := by
  have r2 : Vals (vs ++ dvs) (us ++ ds) := r.append hd
  have hl : (us ++ ds).length = ps.length := by rw [← r2.length]; exact F.len _ _ _ _ h
  refine wpAny_call (codeAny_mono (F.run X.A X.stack s H ⟨us, []⟩ (us ++ ds) (vs ++ dvs) Q E hr I.env0 (hb s us I.kIn hl) r2 h) fun r s' hq => ?_)
  cases r with
  | error e => exact hx pins σ H s e s' I hq
  | ok fl =>
    cases fl with
    | ret u => exact I.after hq
    | next => exact False.elim hq
    | brk => exact False.elim hq
    | cont => exact False.elim hq
theorem pe_call (F : FnOk X.prog X.w X.K X.mg X.base CX k f fd ps sp) (hr : Room k X.A) (hg : Gl X x) (hm : X.mg x = some (.ref f)) (hk : PySem.W.keepIn X.K (.ref f) = true) (hb : Binds X.K fd ps ds) (hd : Vals dvs ds) (hx : Passes CX X E)
    (ha : PA X (e :: es) t) (hdb : (x == ("__debug__" : Str)) = false := by decide) (he : starEach (e :: es) X.env = (false, eval e X.env) :: starEach es X.env := by rfl) (hpl : (backTo pos (starEach es X.env)).any (·.1) = false := by rfl) :
    PE X (.Call (.Name x p) (e :: es) [] pos) (tCall sp dvs E t) := by
  intro pins s σ H Q I h
  refine wpAny_Call_Name_kw (ld_glob I hg hm ?_ hdb)
  refine PySem.W.callWith_K (h₀ := X.base) I.ok.mod.kin hk (thn (ha pos pins s σ H _ I h) fun us s1 ⟨vs, H1, I1, r, q⟩ => ⟨I1.kIn, ?_⟩) he hpl
  exact run_fn F hr hb hd hx I1 r q
theorem pe_meth {pl : Sem Bool} (he : PE X o ta) (c : Cls X.K C) (hm : Meth X.K C m f) (F : FnOk X.prog X.w X.K X.mg X.base CX k f fd ps sp) (hr : Room k X.A) (hb : Binds X.K fd ps ds) (hd : Vals dvs ds) (hx : Passes CX X E) (ha : PA X (e :: es) t)
    (hst : starEach (e :: es) X.env = (false, eval e X.env) :: starEach es X.env := by rfl) (hpl : (backTo pos (starEach es X.env)).any (·.1) = false := by rfl)
    (ht : eval (.Call (.Attribute o m apos) (e :: es) [] pos) X.env = (do
      let ov ← eval o X.env
      standAt apos.atName
      let (f, first) ← holding [ov] (getMethod ov m pl)
      callWith pos f first (backTo pos (starEach (e :: es) X.env)) (backToKw pos (keywordEach [] X.env))) := by rfl) :
    PE X (.Call (.Attribute o m apos) (e :: es) [] pos) (tMeth C m sp dvs E ta t) := by
  intro pins s σ H Q I h
  refine PySem.W.methodCall_KW (pl := pl) (thn (he pins s σ H _ I h) fun u s1 ⟨x, H1, I1, rx, a, dx, fs, ex, ea, l, q⟩ => ?_) ht
  subst ex
  obtain rfl : u = Value.ref a := rx
  refine getmeth_ok I1 ea c hm l ?_
  refine PySem.W.callWith_K (first := [.ref a]) (h₀ := X.base) I.ok.mod.kin hm.kp (thn (ha pos pins s1 σ H1 _ I1 q) fun us s2 ⟨vs, H2, I2, r, q2⟩ => ⟨I2.kIn, ?_⟩) hst hpl
  exact run_fn (us := .ref a :: us) (vs := .ref a :: vs) F hr hb hd hx I2 (.cons rfl r) q2
theorem pe_meth0 {pl : Sem Bool} (he : PE X o ta) (c : Cls X.K C) (hm : Meth X.K C m f) (F : FnOk X.prog X.w X.K X.mg X.base CX k f fd ps sp) (hr : Room k X.A) (hb : Binds X.K fd ps ds) (hd : Vals dvs ds) (hx : Passes CX X E)
    (ht : eval (.Call (.Attribute o m apos) [] [] pos) X.env = (do
      let ov ← eval o X.env
      standAt apos.atName
      let (f, first) ← holding [ov] (getMethod ov m pl)
      callWith pos f first (backTo pos (starEach [] X.env)) (backToKw pos (keywordEach [] X.env))) := by rfl) :
    PE X (.Call (.Attribute o m apos) [] [] pos) (tMeth C m sp dvs E ta tNil) := by
  intro pins s σ H Q I h
  refine PySem.W.methodCall_KW (pl := pl) (thn (he pins s σ H _ I h) fun u s1 ⟨x, H1, I1, rx, a, dx, fs, ex, ea, l, q⟩ => ?_) ht
  subst ex
  obtain rfl : u = Value.ref a := rx
  refine getmeth_ok I1 ea c hm l ?_
  exact PySem.W.callWith_K0 (first := [.ref a]) I1.kIn hm.kp (run_fn (us := [.ref a]) (vs := [.ref a]) F hr hb hd hx I1 (.cons rfl .nil) q)
structure Mk (K : PySem.W.Frag) (C f : Addr) : Prop where
  makes : PySem.W.makesIn K C = true
  init : PySem.W.findIn K (.ref C) "__init__" = some (some (.ref f))
  fn : PySem.W.isFn K (.ref f) = true
  kp : PySem.W.keepIn K (.ref C) = true
theorem run_make {pins : List (Addr × Obj)} {σ : St} {H : Hp} {s : Shared} {Q : VK} {us : List Value} {vs : List V} (M : Mk X.K C f) (F : FnOk X.prog X.w X.K X.mg X.base CX k f fd ps sp) (hr : Room (k + 1) X.A) (hb : Binds X.K fd ps ds) (hd : Vals dvs ds)
    (hx : Passes CX X E) (I : Inv X pins σ H s) (r : Vals vs us)
    (h : ∀ x dx, H x = none → H dx = none → dx ≠ x → sp (.ref x :: (vs ++ dvs)) (upd (upd H dx (.own x)) x (.ins C dx [])) (fun v H2 => v = .non ∧ Q (.ref x) H2) E) :
    wpAny (model X.prog X.w) X.A (call (.ref C) us) (EP X pins σ Q) X.xe s := by
  have hq := h (s.heap.objs.size + 1) s.heap.objs.size (I.hok.fresh (Nat.le_succ _)) (I.hok.fresh (Nat.le_refl _)) (Nat.ne_of_lt (Nat.lt_succ_self _))
  have I2 := Inv.made (C := C) I
  have r2 : Vals (V.ref (s.heap.objs.size + 1) :: (vs ++ dvs)) (Value.ref (s.heap.objs.size + 1) :: (us ++ ds)) := .cons rfl (r.append hd)
  have hl : (Value.ref (s.heap.objs.size + 1) :: us ++ ds).length = ps.length := by
    have e := r2.length
    rw [F.len _ _ _ _ hq] at e
    exact e.symm
  refine wpAny_call (make_map (f := f) I.kIn M.makes M.init (beq_iff_eq.mp M.fn) (codeAny_mono (F.run _ X.stack _ _ ⟨Value.ref (s.heap.objs.size + 1) :: us, []⟩ (Value.ref (s.heap.objs.size + 1) :: (us ++ ds)) _ _ E (hr.make C us [])
    (I2.env0.make C us []) (hb _ (Value.ref (s.heap.objs.size + 1) :: us) I2.kIn hl) r2 hq) fun r s' hq' => ?_))
  cases r with
  | error e => exact hx pins σ _ _ e s' I2 hq'
  | ok fl =>
    cases fl with
    | ret u =>
      obtain ⟨v, H', I3, rv, ev, q3⟩ := I2.after hq'
      subst ev
      exact ⟨rv, ⟨V.ref (s.heap.objs.size + 1), H', I3, rfl, q3⟩⟩
    | next => exact False.elim hq'
    | brk => exact False.elim hq'
    | cont => exact False.elim hq'
theorem pe_make (M : Mk X.K C f) (F : FnOk X.prog X.w X.K X.mg X.base CX k f fd ps sp) (hr : Room (k + 1) X.A) (hg : Gl X x) (hm : X.mg x = some (.ref C)) (hb : Binds X.K fd ps ds) (hd : Vals dvs ds) (hx : Passes CX X E)
    (ha : PA X (e :: es) t) (hdb : (x == ("__debug__" : Str)) = false := by decide) (he : starEach (e :: es) X.env = (false, eval e X.env) :: starEach es X.env := by rfl) (hpl : (backTo pos (starEach es X.env)).any (·.1) = false := by rfl) :
    PE X (.Call (.Name x p) (e :: es) [] pos) (tMake C sp dvs E t) := by
  intro pins s σ H Q I h
  refine wpAny_Call_Name_kw (ld_glob I hg hm ?_ hdb)
  refine PySem.W.callWith_K (h₀ := X.base) I.ok.mod.kin M.kp (thn (ha pos pins s σ H _ I h) fun us s1 ⟨vs, H1, I1, r, q⟩ => ⟨I1.kIn, ?_⟩) he hpl
  exact run_make M F hr hb hd hx I1 r q
theorem pe_make0 (M : Mk X.K C f) (F : FnOk X.prog X.w X.K X.mg X.base CX k f fd ps sp) (hr : Room (k + 1) X.A) (hg : Gl X x) (hm : X.mg x = some (.ref C)) (hb : Binds X.K fd ps ds) (hd : Vals dvs ds) (hx : Passes CX X E)
    (hdb : (x == ("__debug__" : Str)) = false := by decide) : PE X (.Call (.Name x p) [] [] pos) (tMake C sp dvs E tNil) := by
  intro pins s σ H Q I h
  refine wpAny_Call_Name_kw (ld_glob I hg hm ?_ hdb)
  exact PySem.W.callWith_K0 I.kIn M.kp (run_make (us := []) M F hr hb hd hx I .nil h)
end
section
variable {X : Cx} {CX : CXT} {k : Nat} {f C : Addr} {fd : FuncData} {ps ks : List Str} {sp : Sp} {E : XK} {x m : Str} {p pos apos kpos : Pos} {e o : Expr} {es : List Expr} {kws : List Keyword} {te ta : TE} {t tk : TA} {nm : Option Str}
structure KBinds (K : PySem.W.Frag) (fd : FuncData) (ps ks : List Str) (g : List Value → List Value → List Value) (gV : List V → List V → List V) : Prop where
  to : ∀ (s : Shared) (us ws : List Value), K.In s.heap → (g us ws).length = ps.length → BindsTo s fd ⟨us, ks.zip ws⟩ (ps.zip (g us ws))
  rel : ∀ {vs : List V} {us : List Value} {zs : List V} {ws : List Value}, Vals vs us → Vals zs ws → Vals (gV vs zs) (g us ws)
variable {g : List Value → List Value → List Value} {gV : List V → List V → List V}
end
structure FnScope (N P : List Str) (sc : Scope) : Prop where
  kind : sc.kind = .function
  co : sc.isCoroutine = false
  gen : sc.isGenerator = false
  nd : N.Nodup
  pre : N.take P.length = P
  par : ∀ x ∈ P, sc.names.lookup x = some .local ∨ sc.names.lookup x = some .cell
  nofree : ∀ y ∈ sc.names, y.2 ≠ .free
theorem bindL_out {kindOf : Str → Option NameKind} {x : Str} : ∀ {binds : List (Str × Value)} {m : Str → Option Value}, (∀ v, (x, v) ∉ binds) → bindL kindOf binds m x = m x
  | [], _, _ => rfl
  | (n, v) :: r, m, h => by
    unfold bindL
    rw [bindL_out fun w hw => h w (List.mem_cons_of_mem _ hw)]
    split
    · have : x ≠ n := by rintro rfl; exact h v List.mem_cons_self
      simp [this]
    · rfl
theorem bindC_out {kindOf : Str → Option NameKind} {x : Str} : ∀ {binds : List (Str × Value)} {m : Str → Option Value}, (∀ v, (x, v) ∉ binds) → bindC kindOf binds m x = m x
  | [], _, _ => rfl
  | (n, v) :: r, m, h => by
    unfold bindC
    rw [bindC_out fun w hw => h w (List.mem_cons_of_mem _ hw)]
    split
    · rfl
    · have : x ≠ n := by rintro rfl; exact h v List.mem_cons_self
      simp [this]
theorem bindL_get {kindOf : Str → Option NameKind} {x : Str} {v : Value} : ∀ {P : List Str} {vs : List Value} {i : Nat} {m : Str → Option Value}, P.Nodup → P[i]? = some x → vs[i]? = some v → kindOf x = some .local →
    bindL kindOf (P.zip vs) m x = some v
  | [], _, _, _, _, h, _, _ => by simp at h
  | _ :: _, [], _, _, _, _, h, _ => by simp at h
  | p :: P, w :: vs, 0, m, nd, h1, h2, hk => by
    simp at h1 h2; subst h1; subst h2
    show bindL kindOf ((p, w) :: P.zip vs) m p = _
    unfold bindL
    rw [bindL_out fun v hv => (List.nodup_cons.mp nd).1 (List.of_mem_zip hv).1, if_pos hk]
    simp
  | p :: P, w :: vs, i + 1, m, nd, h1, h2, hk => by
    show bindL kindOf ((p, w) :: P.zip vs) m x = _
    unfold bindL
    exact bindL_get (i := i) (List.nodup_cons.mp nd).2 (by simpa using h1) (by simpa using h2) hk
theorem bindC_get {kindOf : Str → Option NameKind} {x : Str} {v : Value} : ∀ {P : List Str} {vs : List Value} {i : Nat} {m : Str → Option Value}, P.Nodup → P[i]? = some x → vs[i]? = some v → kindOf x ≠ some .local →
    bindC kindOf (P.zip vs) m x = some v
  | [], _, _, _, _, h, _, _ => by simp at h
  | _ :: _, [], _, _, _, _, h, _ => by simp at h
  | p :: P, w :: vs, 0, m, nd, h1, h2, hk => by
    simp at h1 h2; subst h1; subst h2
    show bindC kindOf ((p, w) :: P.zip vs) m p = _
    unfold bindC
    rw [bindC_out fun v hv => (List.nodup_cons.mp nd).1 (List.of_mem_zip hv).1, if_neg hk]
    simp
  | p :: P, w :: vs, i + 1, m, nd, h1, h2, hk => by
    show bindC kindOf ((p, w) :: P.zip vs) m x = _
    unfold bindC
    exact bindC_get (i := i) (List.nodup_cons.mp nd).2 (by simpa using h1) (by simpa using h2) hk
def start (N : List Str) (vs : List V) : St := vs.map some ++ List.replicate (N.length - vs.length) none
def cxOf (CX : CXT) (P : Program) (w : World) (K : PySem.W.Frag) (mg : Str → Option Value) (base : Heap) (N : List Str) (qual : Str) (scope : Scope) (f : Addr) (cd : Value) (A : Around) (outer : List Env) (s : Shared) (H : Hp) (E : XK) : Cx where
  prog := P
  w := w
  K := K
  mg := mg
  base := base
  A := A.deeper (envOfC qual scope s.heap.objs.size f cd)
  N := N
  s₀ := s
  H₀ := H
  env := envOfC qual scope s.heap.objs.size f cd
  outer := outer
  stack := envOfC qual scope s.heap.objs.size f cd :: outer
  ex := []
  calm := true
  fn := fun _ => true
  pn := []
  xe := fun e s' => wpAny (model P w) (A.deeper (envOfC qual scope s.heap.objs.size f cd)) (leaving (envOfC qual scope s.heap.objs.size f cd) e) (fun _ s'' => CX outer H s E e s'') (fun e' s'' => CX outer H s E e' s'') s'
theorem cell_has {sc : Scope} {n : Nat} {x : Str} (h : sc.names.lookup x = some .cell) : ∃ c, (cellsFrom n sc.names []).lookup x = some c := by
  have q := PySem.W.cellsFrom_some sc.names n [] (.inl h)
  exact Option.isSome_iff_exists.mp q
theorem inv_start {CX : CXT} {P : Program} {w : World} {K : PySem.W.Frag} {mg : Str → Option Value} {base : Heap} {N ps : List Str} {qual : Str} {scope : Scope} {f : Addr} {cd : Value} {A : Around} {outer : List Env} {s s1 : Shared} {H : Hp} {E : XK} {us : List Value} {vs : List V}
    (S : FnScope N ps scope) (hd : A.handled = none) (e0 : Env0 P w K mg base A outer s H) (hl : vs.length = ps.length) (r : Vals vs us)
    (x : InCallC s s.heap.objs.size (bindL (envOfC qual scope s.heap.objs.size f cd).kindOf (ps.zip us) fun _ => none) (cellsFrom (s.heap.objs.size + 1) scope.names []) (bindC (envOfC qual scope s.heap.objs.size f cd).kindOf (ps.zip us) fun _ => none) s1) :
    Inv (cxOf CX P w K mg base N qual scope f cd A outer s H E) [] (start N vs) H s1 := by
  have hpl : ps.length ≤ N.length := by have := congrArg List.length S.pre; rw [List.length_take] at this; omega
  obtain ⟨h1, tk, rfl, hk⟩ := x.done
  have noA : ∀ b : Addr, b ∉ (cxOf CX P w K mg base N qual scope f cd A outer s H E).ex := fun b z => absurd (show b ∈ ([] : List Addr) from z) (by simp)
  refine ⟨⟨e0.mod, S.kind, rfl, rfl, Nat.le_refl _, fun y z c h1 h2 => ?_, fun y hy => ?_, fun y c _ h => ?_, fun _ => hd, Around.frames_deeper e0.frames, .inr ⟨rfl, rfl⟩, fun b z => absurd z (noA b), e0.bs, e0.bsz, fun b _ _ => noA b, fun b z => absurd z (noA b), e0.funs, e0.frf⟩,
    rfl, e0.bare, Un.kept hk, ⟨_, x.toInCall.ns, fun i y v h1 h2 h3 => ?_⟩, fun y c h => ⟨_, x.cell y c h⟩, e0.hok.fresh (Nat.le_refl _), fun y c h => ?_, fun p hp => absurd (show p ∈ ([] : List (Addr × Obj)) from hp) (by simp), e0.hok.kept hk, ?_⟩
  · exact name_of_addr x.apart (PySem.mem_of_lookup h1) (PySem.mem_of_lookup h2)
  · have hy : scope.names.lookup y = some .cell ∨ scope.names.lookup y = some .free := hy
    rcases hy with hy | hy
    · exact cell_has hy
    · exact absurd rfl (S.nofree _ (PySem.mem_of_lookup hy))
  · exact Nat.le_of_lt (x.above y c (PySem.mem_of_lookup h))
  · have hi : i < vs.length := by
      unfold start at h2
      by_cases hi : i < vs.length
      · exact hi
      · rw [List.getElem?_append_right (by simpa using hi)] at h2
        rw [List.getElem?_replicate] at h2
        split at h2 <;> cases h2
    have ha : vs[i]? = some v := by
      unfold start at h2
      rw [List.getElem?_append_left (by simpa using hi), List.getElem?_map] at h2
      cases e : vs[i]? with
      | none => rw [e] at h2; cases h2
      | some a => rw [e] at h2; cases h2; rfl
    obtain ⟨u, hu, rv⟩ := r.get ha
    have hp : ps[i]? = some y := by
      rw [← S.pre, List.getElem?_take_of_lt (by omega)]; exact h1
    have ndP : ps.Nodup := by rw [← S.pre]; exact S.nd.sublist (List.take_sublist _ _)
    refine ⟨u, rv, ?_⟩
    rcases S.par y (List.mem_of_getElem? hp) with k | k
    · exact .inl ⟨k, bindL_get ndP hp hu k⟩
    · obtain ⟨c, e⟩ := cell_has (n := s.heap.objs.size + 1) k
      refine .inr ⟨.inl k, c, e, ?_⟩
      have q := x.cell y c e
      rw [bindC_get ndP hp hu (by show scope.names.lookup y ≠ _; rw [k]; decide)] at q
      exact q
  · exact e0.hok.fresh (Nat.le_of_lt (x.above y c (PySem.mem_of_lookup h)))
  · unfold start
    show _ = N.length
    rw [List.length_append, List.length_map, List.length_replicate]
    omega
theorem fn_of {CX : CXT} {P : Program} {w : World} {K : PySem.W.Frag} {mg : Str → Option Value} {base : Heap} {k : Nat} {f : Addr} {name qual : Str} {params : Arguments} {body : List Stmt} {scope : Scope} {dV kV doc pm cdv ct oc : Value} {an od : Option Addr}
    {osl : Array (Option Value)} {N ps : List Str} {sp : Sp} (lk : K.lookup f = some ⟨oc, od, .func (PySem.W.fnOf name qual params body scope dV kV doc pm an cdv ct), osl⟩) (hcd : PySem.W.codeIn K cdv qual = true) (S : FnScope N ps scope)
    (len : ∀ vs H Q E, sp vs H Q E → vs.length = ps.length)
    (hbody : ∀ (A : Around) (outer : List Env) (s : Shared) (H : Hp) (vs : List V) (Q : VK) (E : XK), Room k (A.deeper (envOfC qual scope s.heap.objs.size f cdv)) → sp vs H Q E →
      ∃ t, PSs (cxOf CX P w K mg base N qual scope f cdv A outer s H E) body t ∧ t { nx := fun _ H' => Q .non H', rt := Q } (start N vs) H) :
    FnOk P w K mg base CX (k + 1) f (PySem.W.fnOf name qual params body scope dV kV doc pm an cdv ct) ps sp := by
  refine ⟨len, fun A outer s H args us vs Q E hr e0 hb r hsp => ?_⟩
  have hl := len _ _ _ _ hsp
  have KX : K.In s.heap := e0.mod.kin.keeps fun b o e => (e0.bs b o e).1
  have lim : s.heap.NoLimit := e0.mod.nolimit.keeps fun b o e => (e0.bs b o e).1
  have hkind : ∀ y ∈ ps.zip us, scope.names.lookup y.1 = some .local ∨ (scope.names.lookup y.1 = some .cell ∧ ((cellsFrom (s.heap.objs.size + 1) scope.names []).lookup y.1).isSome = true) := fun ⟨n, v⟩ hy => by
    rcases S.par n (List.of_mem_zip hy).1 with q | q
    · exact .inl q
    · exact .inr ⟨q, PySem.W.cellsFrom_some _ _ _ (.inl q)⟩
  refine codeAny_call_function hr.depth (KX _ _ lk) rfl S.co S.gen rfl (PySem.W.codeRec_of KX hcd) (hb _ _ _ _ ?_)
  refine wpAny_newFunctionEnv_cells S.kind hkind fun env he s1 x => ?_
  subst he
  refine ⟨lim.keeps x.toInCall.keep, codeAny_func ?_⟩
  obtain ⟨t, ht, hq⟩ := hbody A outer s H vs Q E (hr.deeper _) hsp
  have I : Inv (cxOf CX P w K mg base N qual scope f cdv A outer s H E) [] (start N vs) H s1 := inv_start S hr.hd e0 hl r x
  refine wpAny_mono (ht [] s1 (start N vs) H _ I hq) (fun fl s' hs => ?_) fun e s' hs => hs
  have fin : ∀ {σ' : St} {H' : Hp} {v : V} {u : Value}, Inv (cxOf CX P w K mg base N qual scope f cdv A outer s H E) [] σ' H' s' → RelV v u → Q v H' → CE outer P w H s Q u s' :=
    fun {σ' H' v u} J rv q => ⟨v, H', J.os, J.bare, J.base, J.hok, rv, q⟩
  cases fl with
  | ret u =>
    obtain ⟨v, σ', H', J, rv, q⟩ := hs
    exact fin J rv q
  | next =>
    obtain ⟨σ', H', J, q⟩ := hs
    exact fin (v := V.non) (u := Value.none) J rfl q
  | brk =>
    obtain ⟨_, _, _, q⟩ := hs
    exact False.elim q
  | cont =>
    obtain ⟨_, _, _, q⟩ := hs
    exact False.elim q
end L2
namespace L2
open PySem PySem.Spec PyProof.Rows
section
variable {X : Cx} {x : Str} {p pos : Pos} {e : Expr} {es : List Expr} {t : TA} {id T : String} {r : List V → Hp → VK → Prop}
def tCB (r : List V → Hp → VK → Prop) (t : TA) : TE := fun σ H Q => t σ H fun vs H1 => r vs H1 Q
theorem pe_callB (hc : CallR X (.builtin id) r) (hg : Gl X x) (hm : X.mg x = none) (hv : bootBuiltins x = some (.builtin id)) (ha : PA X (e :: es) t) (hn : x ≠ "__name__" := by decide) (hdb : (x == ("__debug__" : Str)) = false := by decide)
    (he : starEach (e :: es) X.env = (false, eval e X.env) :: starEach es X.env := by rfl) (hpl : (backTo pos (starEach es X.env)).any (·.1) = false := by rfl) : PE X (.Call (.Name x p) (e :: es) [] pos) (tCB r t) := by
  intro pins s σ H Q I h
  refine wpAny_Call_Name_kw (ld_blt I hg hm hv ?_ hn hdb)
  exact PyProof.Rows.callWith_builtin1 (thn (ha pos pins s σ H _ I h) fun us s1 ⟨vs, H1, I1, r1, q1⟩ => hc pins s1 σ H1 vs us Q I1 r1 q1) he hpl
theorem pe_callTy (hc : CallR X (.type T) r) (hg : Gl X x) (hm : X.mg x = none) (hv : bootBuiltins x = some (.type T)) (ha : PA X (e :: es) t) (hn : x ≠ "__name__" := by decide) (hdb : (x == ("__debug__" : Str)) = false := by decide)
    (he : starEach (e :: es) X.env = (false, eval e X.env) :: starEach es X.env := by rfl) (hpl : (backTo pos (starEach es X.env)).any (·.1) = false := by rfl) : PE X (.Call (.Name x p) (e :: es) [] pos) (tCB r t) := by
  intro pins s σ H Q I h
  refine wpAny_Call_Name_kw (ld_blt I hg hm hv ?_ hn hdb)
  exact PyProof.Rows.callWith_type1 (thn (ha pos pins s σ H _ I h) fun us s1 ⟨vs, H1, I1, r1, q1⟩ => hc pins s1 σ H1 vs us Q I1 r1 q1) he hpl
end
end L2
namespace HT
open PySem PyProof.Rows
section
open PySem.SeqAt
open PySem.AutoSeq1 (wpAny_loadPart')
open PySem.MeetsSeq PySem.MeetsSeq2 PySem.MeetsSeq3
end
section
variable {prog : Program} {w : World} {A : Around} {E : Value → Shared → Prop} {s : Shared}
def sIx (n d : Nat) : Option Int → Nat
  | none => d
  | some v => if v < 0 then (v + (n : Int)).toNat else min v.toNat n
theorem sIx_nat (n d k : Nat) : sIx n d (some (k : Int)) = min k n := by
  show (if (k : Int) < 0 then ((k : Int) + (n : Int)).toNat else min (k : Int).toNat n) = min k n
  rw [if_neg (by omega), Int.toNat_natCast]
end
end HT
namespace L2
open PySem PySem.Spec PyProof.Rows
abbrev TO := St → Hp → (Option Int → Hp → Prop) → Prop
def PO (X : Cx) (e : Option Expr) (t : TO) : Prop :=
  ∀ (pins : List (Addr × Obj)) (s : Shared) (σ : St) (H : Hp) (Q : Option Int → Hp → Prop), Inv X pins σ H s → t σ H Q →
    wpAny (model X.prog X.w) X.A (evalPart e X.env) (fun u s' => ∃ o H', Inv X pins σ H' s' ∧ IsPart u o ∧ Q o H') X.xe s
def tNoPart : TO := fun _ H Q => Q none H
def tPart (t : TE) : TO := fun σ H Q => t σ H fun x H1 => ∃ i, x = .int i ∧ Q (some i) H1
theorem intsAre_of {ns : List Int} : ∀ {us : List Value}, Vals (ns.map V.int) us → IntsAre us ns := by
  induction ns with
  | nil => intro us r; rw [List.map_nil] at r; cases r; exact .nil
  | cons n ns ih =>
    intro us r
    rw [List.map_cons] at r
    cases r with
    | cons r1 r2 =>
      obtain ⟨t, e⟩ := r1
      subst e
      exact .cons n t (ih r2)
section
variable {X : Cx} {e : Expr} {te : TE} {lo hi : Option Expr} {tl th : TO} {pos p2 : Pos}
theorem po_none : PO X none tNoPart := by
  intro pins s σ H Q I h
  rw [evalPart_none]
  exact wpAny_pure ⟨none, H, I, .none, h⟩
theorem po_some (h : PE X e te) : PO X (some e) (tPart te) := by
  intro pins s σ H Q I hw
  rw [evalPart_some]
  refine thn (h pins s σ H _ I hw) fun u s1 ⟨x, H1, I1, r1, q1⟩ => ?_
  obtain ⟨i, rfl, q⟩ := q1
  obtain ⟨t, rfl⟩ := r1
  exact ⟨some i, H1, I1, .int i t, q⟩
def SlR (X : Cx) (r : V → Option Int → Option Int → Hp → VK → Prop) : Prop :=
  ∀ (pins : List (Addr × Obj)) (s : Shared) (σ : St) (H : Hp) (x : V) (v vl vu : Value) (lo hi : Option Int) (sl : Addr) (Q : VK), Inv X pins σ H s → RelV x v → s.heap.IsSliceOf sl vl vu .none → IsPart vl lo → IsPart vu hi → r x lo hi H Q →
    ∃ T id, typeLookup (.type T) "__getitem__" = pure (some (.builtin id)) ∧ s.TypeIs v T ∧ wpAny (model X.prog X.w) X.A (getItem v (.ref sl)) (EP X pins σ Q) X.xe s
theorem SlR.or {r r' : V → Option Int → Option Int → Hp → VK → Prop} (h : SlR X r) (h' : SlR X r') : SlR X (fun x lo hi H Q => r x lo hi H Q ∨ r' x lo hi H Q) := by
  intro pins s σ H x v vl vu lo hi sl Q I rx hs pl pu q
  rcases q with q | q
  · exact h pins s σ H x v vl vu lo hi sl Q I rx hs pl pu q
  · exact h' pins s σ H x v vl vu lo hi sl Q I rx hs pl pu q
def tSl (r : V → Option Int → Option Int → Hp → VK → Prop) (te : TE) (tl th : TO) : TE := fun σ H Q => te σ H fun x H1 => tl σ H1 fun l H2 => th σ H2 fun u H3 => r x l u H3 Q
theorem pe_slice {r : V → Option Int → Option Int → Hp → VK → Prop} (hr : SlR X r) (he : PE X e te) (hl : PO X lo tl) (hu : PO X hi th) : PE X (.Subscript e (.Slice lo hi none p2) pos) (tSl r te tl th) := by
  intro pins s σ H Q I h
  refine Subscript_ (thn (he pins s σ H _ I h) fun v s1 ⟨x, H1, I1, r1, q1⟩ => ?_)
  refine wpAny_Slice (thn (hl pins s1 σ H1 _ I1 q1) fun vl s2 ⟨l, H2, I2, pl, q2⟩ => thn (hu pins s2 σ H2 _ I2 q2) fun vu s3 ⟨u, H3, I3, pu, q3⟩ => ?_)
  rw [evalPart_none]
  refine wpAny_pure ?_
  have I4 : Inv X pins σ H3 { s3 with heap := s3.heap.push { cls := .type "slice", data := .fields #[vl, vu, .none] } } := I3.kept (t' := s3.toks) fun b ob q => Heap.get?_push_of_some _ q
  obtain ⟨T, id, hT, ht, hg⟩ := hr pins { s3 with heap := s3.heap.push { cls := .type "slice", data := .fields #[vl, vu, .none] } } σ H3 x v vl vu l u s3.heap.objs.size Q I4 r1 (Heap.IsSliceOf.new ..) pl pu q3
  show wpAny (model X.prog X.w) X.A (subscriptTail e (.Slice lo hi none p2) v (.ref s3.heap.objs.size)) (EP X pins σ Q) X.xe { s3 with heap := s3.heap.push { cls := .type "slice", data := .fields #[vl, vu, .none] } }
  exact tail_any (ops := [.ref s3.heap.objs.size, v]) ht hT hg (by with_unfolding_all rfl)
def cutV (xs : List V) (lo hi : Option Int) : List V := (xs.drop (HT.sIx xs.length 0 lo)).take (HT.sIx xs.length xs.length hi - HT.sIx xs.length 0 lo)
theorem cutV_length (xs : List V) (lo hi : Option Int) : (cutV xs lo hi).length ≤ xs.length := by
  unfold cutV
  rw [List.length_take, List.length_drop]
  omega
end
end L2
namespace L2
open PySem PySem.Spec PyProof.Rows
def ixN (n : Nat) (i : Int) : Option Nat := if 0 ≤ i then (if i < n then some i.toNat else none) else if -(n : Int) ≤ i then some (i + n).toNat else none
def atI {α : Type} (xs : List α) (i : Int) : Option α := (ixN xs.length i).bind fun j => xs[j]?
theorem ixN_seq {n : Nat} {i : Int} {j : Nat} (h : ixN n i = some j) : seqIndex? i n = some j ∧ j < n ∧ -(n : Int) ≤ i ∧ i < n := by
  unfold ixN at h
  by_cases h0 : 0 ≤ i
  · rw [if_pos h0] at h
    by_cases h1 : i < n
    · rw [if_pos h1] at h
      have e : i.toNat = j := Option.some.inj h
      exact ⟨by rw [seqIndex_of h0 h1, e], by omega, by omega, h1⟩
    · rw [if_neg h1] at h; cases h
  · rw [if_neg h0] at h
    by_cases h1 : -(n : Int) ≤ i
    · rw [if_pos h1] at h
      have e : (i + n).toNat = j := Option.some.inj h
      exact ⟨by rw [seqIndex_neg (by omega) h1, e], by omega, h1, by omega⟩
    · rw [if_neg h1] at h; cases h
theorem atI_get {α : Type} {xs : List α} {i : Int} {v : α} (h : atI xs i = some v) : ∃ j, seqIndex? i xs.length = some j ∧ xs[j]? = some v ∧ j < xs.length ∧ -(xs.length : Int) ≤ i ∧ i < xs.length := by
  unfold atI at h
  cases e : ixN xs.length i with
  | none => rw [e] at h; cases h
  | some j =>
    rw [e] at h
    obtain ⟨h1, h2, h3, h4⟩ := ixN_seq e
    exact ⟨j, h1, h, h2, h3, h4⟩
theorem atI_nat {α : Type} {xs : List α} {j : Nat} {v : α} (h : xs[j]? = some v) : atI xs (j : Int) = some v := by
  have hj : j < xs.length := (List.getElem?_eq_some_iff.mp h).1
  have e : ixN xs.length (j : Int) = some j := by
    unfold ixN
    rw [if_pos (by omega), if_pos (by omega)]; simp
  unfold atI; rw [e]; exact h
def PlainIx (b : Expr) : Prop := ∀ o i, subscripted b false o i = operate [o, i] (getItem o i)
def IxR (X : Cx) (r : R2) : Prop :=
  ∀ (value slice : Expr) (pins : List (Addr × Obj)) (s : Shared) (σ : St) (H : Hp) (x y : V) (v u : Value) (Q : VK), Inv X pins σ H s → RelV x v → RelV y u → r x y H Q →
    subscripted slice false v u = operate [v, u] (getItem v u) → wpAny (model X.prog X.w) X.A (subscriptTail value slice v u) (EP X pins σ Q) X.xe s
def MtR (X : Cx) (id : String) (r : V → List V → Hp → VK → Prop) : Prop :=
  ∀ (pins : List (Addr × Obj)) (s : Shared) (σ : St) (H : Hp) (x : V) (xs : List V) (v : Value) (us : List Value) (Q : VK), Inv X pins σ H s → RelV x v → Vals xs us → r x xs H Q →
    wpAny (model X.prog X.w) X.A (call (.builtin id) (v :: us)) (EP X pins σ Q) X.xe s
section
variable {X : Cx} {a b : Expr} {ta tb : TE} {pos : Pos}
theorem IxR.or {r r' : R2} (h : IxR X r) (h' : IxR X r') : IxR X (fun x y H Q => r x y H Q ∨ r' x y H Q) := by
  intro value slice pins s σ H x y v u Q I rx ry q hs
  rcases q with q | q
  · exact h value slice pins s σ H x y v u Q I rx ry q hs
  · exact h' value slice pins s σ H x y v u Q I rx ry q hs
theorem MtR.or {id : String} {r r' : V → List V → Hp → VK → Prop} (h : MtR X id r) (h' : MtR X id r') : MtR X id (fun x xs H Q => r x xs H Q ∨ r' x xs H Q) := by
  intro pins s σ H x xs v us Q I rx rs q
  rcases q with q | q
  · exact h pins s σ H x xs v us Q I rx rs q
  · exact h' pins s σ H x xs v us Q I rx rs q
theorem pe_ix {r : R2} (hr : IxR X r) (ha : PE X a ta) (hb : PE X b tb) (hs : PlainIx b) : PE X (.Subscript a b pos) (tOp r ta tb) := by
  intro pins s σ H Q I h
  exact Subscript_ (binT ha hb I h fun v u s2 x y H2 I2 rx ry q => hr a b pins s2 σ H2 x y v u Q I2 rx ry q (hs _ _))
def rIxL (K : PySem.W.Frag) : R2 := fun x y H Q => ∃ p xs i v, x = .ref p ∧ y = .int i ∧ SqL K H p xs ∧ atI xs i = some v ∧ Q v H
def rIxT (K : PySem.W.Frag) : R2 := fun x y H Q => ∃ p xs i v, x = .ref p ∧ y = .int i ∧ SqT K H p xs ∧ atI xs i = some v ∧ Q v H
def rIxS : R2 := fun x y H Q => ∃ z i c, x = .str z ∧ y = .int i ∧ z.length ≤ sizeLine ∧ atI z.cps.toList i = some c ∧ Q (.str ⟨#[c]⟩) H
theorem ix_list : IxR X (rIxL X.K) := by
  intro value slice pins s σ H x y v u Q I rx ry h hs
  obtain ⟨p, xs, i, z, rfl, rfl, hq, he, q⟩ := h
  cases rx
  obtain ⟨t, rfl⟩ := ry
  obtain ⟨its, r, pl, hz⟩ := I.list hq
  obtain ⟨j, h1, h2, h3, h4, h5⟩ := atI_get he
  obtain ⟨w, ew, rw'⟩ := r.get h2
  have hl := r.length
  have hn := line63
  have fin : EP X pins σ Q w s := ⟨z, H, I, rw', q⟩
  by_cases h0 : 0 ≤ i
  · have hj : i.toNat = j := by
      rw [seqIndex_of h0 h5] at h1
      exact Option.some.inj h1
    exact item_listR pl.isList h0 (by omega) (by rw [hj]; simpa using ew) fin hs
  · have hj : (i + (its.toArray.size : Int)).toNat = j := by
      rw [seqIndex_neg (by omega) h4] at h1
      rw [List.size_toArray, ← hl]
      exact Option.some.inj h1
    exact subscriptTail_builtinR (x := w) pl.isList.typeIs slot_list_getitem.lookup
      (wpAny_getItem_list_neg (Q := fun r s' => r = w ∧ EP X pins σ Q r s') pl.isList (by omega) (by rw [List.size_toArray] <;> omega) (by omega) (by rw [hj]; simpa using ew) ⟨rfl, fin⟩) hs
theorem ix_tup : IxR X (rIxT X.K) := by
  intro value slice pins s σ H x y v u Q I rx ry h hs
  obtain ⟨p, xs, i, z, rfl, rfl, hq, he, q⟩ := h
  cases rx
  obtain ⟨t, rfl⟩ := ry
  obtain ⟨its, r, pl, hz⟩ := I.tuple hq
  obtain ⟨j, h1, h2, h3, h4, h5⟩ := atI_get he
  obtain ⟨w, ew, rw'⟩ := r.get h2
  have hl := r.length
  have hn := line63
  have fin : EP X pins σ Q w s := ⟨z, H, I, rw', q⟩
  exact subscriptTail_builtinR (x := w) pl.typeIs slot_tuple_getitem.lookup
    (getItem_tuple (j := j) (Q := fun r s' => r = w ∧ EP X pins σ Q r s') pl (by omega) (by omega) (by rw [List.size_toArray, ← hl]; exact h1) (by simpa using ew) ⟨rfl, fin⟩) hs
theorem ix_str : IxR X rIxS := by
  intro value slice pins s σ H x y v u Q I rx ry h hs
  obtain ⟨z, i, c, rfl, rfl, hz, he, q⟩ := h
  obtain ⟨t, rfl⟩ := rx
  obtain ⟨t', rfl⟩ := ry
  obtain ⟨j, h1, h2, h3, h4, h5⟩ := atI_get he
  have hl : z.cps.toList.length = z.length := by simp [Str.length]
  rw [hl] at h1 h4 h5
  have hn := line63
  exact tail_any (typeIs_str s z t) slot_str_getitem.lookup (getItem_str (c := c) (by
    have e1 : decide (i < -(2 ^ 63 : Int)) = false := decide_eq_false (by omega)
    have e2 : decide (i ≥ 2 ^ 63) = false := decide_eq_false (by omega)
    rw [e1, e2, Bool.or_false]) (by rw [h1]; simpa using h2) ⟨.str ⟨#[c]⟩, H, I.tok _, ⟨_, rfl⟩, q⟩) hs
def rIx (K : PySem.W.Frag) : R2 := fun x y H Q => rIxL K x y H Q ∨ rIxT K x y H Q ∨ rIxS x y H Q
theorem ix_seq : IxR X (rIx X.K) := ix_list.or (ix_tup.or ix_str)
theorem mapSeq_set (its : List Value) (n j : Nat) (u : Value) : Obj.mapSeq (·.setIfInBounds j u) { cls := .type "list", data := .seq its.toArray n } = { cls := .type "list", data := .seq (its.set j u).toArray n } := by
  simp [Obj.mapSeq]
theorem Inv.lst {pins : List (Addr × Obj)} {σ : St} {H : Hp} {s : Shared} {p : Addr} {xs : List V} (I : Inv X pins σ H s) (h : H p = some (.lst xs)) :
    ∃ (its : List Value) (n : Nat), Vals xs its ∧ s.heap.get? p = some { cls := .type "list", data := .seq its.toArray n } ∧ xs.length ≤ sizeLine := by
  obtain ⟨z, its, n, r, e⟩ := I.hok p _ h
  exact ⟨its, n, r, e, z⟩
theorem Inv.lstUpd {pins : List (Addr × Obj)} {σ : St} {H : Hp} {s : Shared} {p : Addr} {xs ys : List V} {its its' : List Value} {n n' : Nat} {f : Obj → Obj} (I : Inv X pins σ H s) (h : H p = some (.lst xs))
    (ho : s.heap.get? p = some { cls := .type "list", data := .seq its.toArray n }) (hf : f { cls := .type "list", data := .seq its.toArray n } = { cls := .type "list", data := .seq its'.toArray n' }) (r : Vals ys its') (hz : ys.length ≤ sizeLine) (t : Nat) :
    Inv X pins σ (upd H p (.lst ys)) { s with heap := s.heap.update p f, toks := t } := by
  have e : (s.heap.update p f).get? p = some { cls := .type "list", data := .seq its'.toArray n' } := by
    rw [Heap.get?_update_self f ho (by rw [hf] <;> rfl), hf]
  refine I.write (x := p) (e := p) (by rw [h]; trivial) (.inl rfl) (fun b u hb q => (Heap.get?_update_other _ _ (Ne.symm hb)).trans q) ⟨_, e⟩ ?_
  exact ⟨hz, its', n', r, e⟩
def rSetL : V → V → V → Hp → (Hp → Prop) → Prop := fun o i v H Q => ∃ p xs k j, o = .ref p ∧ i = .int k ∧ H p = some (.lst xs) ∧ ixN xs.length k = some j ∧ Q (upd H p (.lst (xs.set j v)))
theorem set_list : PSet X rSetL := by
  intro pins s σ H o i v ov iv u Q I ro ri rv h
  obtain ⟨p, xs, k, j, rfl, rfl, hp, hj, q⟩ := h
  cases ro
  obtain ⟨t, rfl⟩ := ri
  obtain ⟨its, n, r, ho, hz⟩ := I.lst hp
  obtain ⟨h1, h2, h3, h4⟩ := ixN_seq hj
  have hl := r.length
  have hn := line63
  have I' : Inv X pins σ (upd H p (.lst (xs.set j v))) { s with heap := s.heap.update p (Obj.mapSeq (·.setIfInBounds j u)) } :=
    I.lstUpd hp ho (mapSeq_set its n j u) (r.set rv j) (by rw [List.length_set]; exact hz) s.toks
  by_cases h0 : 0 ≤ k
  · have hk : k.toNat = j := by
      rw [seqIndex_of h0 h4] at h1
      exact Option.some.inj h1
    exact PySem.W.ki_setAt ho h0 (by omega) (by rw [List.size_toArray, ← hl]; exact h4) (by rw [hk]; exact ⟨_, I', q⟩)
  · have hk : (k + (its.toArray.size : Int)).toNat = j := by
      rw [seqIndex_neg (by omega) h3] at h1
      rw [List.size_toArray, ← hl]
      exact Option.some.inj h1
    exact PySem.W.ki_setBack ho (by omega) (by rw [List.size_toArray, ← hl]; exact h3) (by omega) (by rw [hk]; exact ⟨_, I', q⟩)
theorem slice_bounds (lo hi : Option Int) (n : Nat) : (sliceBounds lo hi none n).1 = ((HT.sIx n 0 lo : Nat) : Int) ∧ (sliceBounds lo hi none n).2.1 = ((HT.sIx n n hi : Nat) : Int) ∧ (sliceBounds lo hi none n).2.2 = 1 := by
  refine ⟨?_, ?_, rfl⟩
  · cases lo with
    | none => simp [sliceBounds, HT.sIx]
    | some i =>
      simp only [sliceBounds, HT.sIx, Option.getD_none, show (1 : Int) > 0 by decide, if_true]
      by_cases h : i < 0
      · simp only [h, if_true] <;> omega
      · simp only [h, if_false] <;> omega
  · cases hi with
    | none => simp [sliceBounds, HT.sIx]
    | some i =>
      simp only [sliceBounds, HT.sIx, Option.getD_none, show (1 : Int) > 0 by decide, if_true]
      by_cases h : i < 0
      · simp only [h, if_true] <;> omega
      · simp only [h, if_false] <;> omega
theorem slicePick_cut (its : List Value) (lo hi : Option Int) : slicePick its.toArray lo hi none = ((its.drop (HT.sIx its.length 0 lo)).take (HT.sIx its.length its.length hi - HT.sIx its.length 0 lo)).toArray := by
  obtain ⟨h1, h2, h3⟩ := slice_bounds lo hi its.toArray.size
  unfold slicePick
  rw [h1, h2, h3]
  simp only [sliceRange_one, pick_run, List.size_toArray] <;> rfl
def rSlL (K : PySem.W.Frag) : V → Option Int → Option Int → Hp → VK → Prop := fun x lo hi H Q => ∃ a xs, x = .ref a ∧ SqL K H a xs ∧ ∀ p, H p = none → Q (.ref p) (upd H p (.lst (cutV xs lo hi)))
theorem sl_list : SlR X (rSlL X.K) := by
  intro pins s σ H x v vl vu lo hi sl Q I rx hs pl pu h
  obtain ⟨a, xs, rfl, hx, q⟩ := h
  cases rx
  obtain ⟨its, r, ht, hz⟩ := I.list hx
  have hlen := r.length
  refine ⟨"list", _, slot_list_getitem.lookup, ht.isList.typeIs, ?_⟩
  refine wpAny_getItem_list_slice ht.isList hs pl pu .none (by simp) ?_ (by rw [List.size_toArray] <;> omega)
  rw [slicePick_cut, ← hlen]
  refine ⟨.ref s.heap.objs.size, _, I.laid (t' := s.toks) (o := .lst (cutV xs lo hi)) (fun b ob q => Heap.get?_push_of_some _ q) (Nat.le_refl _) ?_, rfl, q _ (I.hok.fresh (Nat.le_refl _))⟩
  exact ⟨Nat.le_trans (cutV_length xs lo hi) hz, _, 0, (r.drop (HT.sIx xs.length 0 lo)).take (HT.sIx xs.length xs.length hi - HT.sIx xs.length 0 lo), Heap.get?_push_size _ rfl⟩
def flatV : V → Bool
  | .non => true
  | .bl _ => true
  | .int _ => true
  | .str _ => true
  | _ => false
def eqV : V → V → Bool
  | .non, .non => true
  | .bl a, .bl b => a == b
  | .bl a, .int b => (if a then 1 else 0) == b
  | .int a, .bl b => a == (if b then 1 else 0)
  | .int a, .int b => a == b
  | .str a, .str b => a == b
  | _, _ => false
theorem eqAt_V {A : Around} {s : Shared} {y x : V} {u v : Value} (ry : RelV y u) (rx : RelV x v) (fy : flatV y = true) (fx : flatV x = true) : SeqAt.EqAt A s u v (eqV y x) := by
  cases y with
  | non =>
    cases ry
    cases x with
    | non => cases rx; exact SeqAt.EqAt.same _
    | bl b => cases rx; exact SeqAt.EqAt.none_bool b
    | int b => obtain ⟨t, rfl⟩ := rx; exact SeqAt.EqAt.none_int b t
    | str b => obtain ⟨t, rfl⟩ := rx; exact SeqAt.EqAt.none_str b t
    | _ => exact absurd (show false = true from fx) Bool.false_ne_true
  | bl a =>
    cases ry
    cases x with
    | non => cases rx; exact SeqAt.EqAt.bool_none a
    | bl b => cases rx; exact SeqAt.EqAt.bool_bool a b
    | int b => obtain ⟨t, rfl⟩ := rx; exact SeqAt.EqAt.bool_int a b t
    | str b => obtain ⟨t, rfl⟩ := rx; exact SeqAt.EqAt.bool_str a b t
    | _ => exact absurd (show false = true from fx) Bool.false_ne_true
  | int a =>
    obtain ⟨t', rfl⟩ := ry
    cases x with
    | non => cases rx; exact SeqAt.EqAt.int_none a t'
    | bl b => cases rx; exact SeqAt.EqAt.int_bool a t' b
    | int b => obtain ⟨t, rfl⟩ := rx; exact SeqAt.EqAt.int_int a t' b t
    | str b => obtain ⟨t, rfl⟩ := rx; exact SeqAt.EqAt.int_str a t' b t
    | _ => exact absurd (show false = true from fx) Bool.false_ne_true
  | str a =>
    obtain ⟨t', rfl⟩ := ry
    cases x with
    | non => cases rx; exact SeqAt.EqAt.str_none a t'
    | bl b => cases rx; exact SeqAt.EqAt.str_bool a t' b
    | int b => obtain ⟨t, rfl⟩ := rx; exact SeqAt.EqAt.str_int a t' b t
    | str b => obtain ⟨t, rfl⟩ := rx; exact SeqAt.EqAt.str_str a t' b t
    | _ => exact absurd (show false = true from fx) Bool.false_ne_true
  | _ => exact absurd (show false = true from fy) Bool.false_ne_true
def eqU (x : V) (u : Value) : Bool := match u with
  | .none => eqV .non x
  | .bool b => eqV (.bl b) x
  | .int i _ => eqV (.int i) x
  | .str z _ => eqV (.str z) x
  | _ => false
theorem eqU_of {x y : V} {u : Value} (r : RelV y u) (f : flatV y = true) : eqU x u = eqV y x := by
  cases y with
  | non => cases r; rfl
  | bl b => cases r; rfl
  | int i => obtain ⟨t, rfl⟩ := r; rfl
  | str z => obtain ⟨t, rfl⟩ := r; rfl
  | _ => exact absurd (show false = true from f) Bool.false_ne_true
theorem any_eqU {x : V} : ∀ {xs : List V} {us : List Value}, Vals xs us → xs.all flatV = true → us.any (eqU x) = xs.any fun y => eqV y x
  | _, _, .nil, _ => rfl
  | y :: xs, u :: us, .cons r t, f => by
    rw [List.all_cons, Bool.and_eq_true] at f
    rw [List.any_cons, List.any_cons, eqU_of r f.1, any_eqU t f.2]
theorem mem_eqAt {A : Around} {s : Shared} {x : V} {v : Value} (rx : RelV x v) (fx : flatV x = true) : ∀ {xs : List V} {us : List Value}, Vals xs us → xs.all flatV = true → ∀ u ∈ us, SeqAt.EqAt A s u v (eqU x u)
  | _, _, .nil, _ => fun u hu => by cases hu
  | y :: xs, u :: us, .cons r t, f => fun u' hu => by
    rw [List.all_cons, Bool.and_eq_true] at f
    rcases List.mem_cons.mp hu with rfl | hu
    · rw [eqU_of r f.1]; exact eqAt_V r rx f.1 fx
    · exact mem_eqAt rx fx t f.2 u' hu
def inV (x : V) (xs : List V) : Bool := xs.any fun y => eqV y x
def rIn (K : PySem.W.Frag) (neg : Bool) : R2 := fun x y H Q => ∃ p xs, y = .ref p ∧ (SqL K H p xs ∨ SqT K H p xs) ∧ flatV x = true ∧ xs.all flatV = true ∧ Q (.bl (if neg then !inV x xs else inV x xs)) H
theorem op_in_seq : OpR X (compareOp .In) (rIn X.K false) := by
  intro pins s σ H x y v u Q I rx ry h
  obtain ⟨p, xs, rfl, hq, fx, fs, q⟩ := h
  cases ry
  rcases hq with hq | hq
  · obtain ⟨its, r, pl, hz⟩ := I.list hq
    refine SeqAt.in_listAt (eqU x) pl.isList (fun w hw => mem_eqAt rx fx r fs w (by simpa using hw)) ⟨.bl _, H, I, rfl, ?_⟩
    rw [show its.toArray.any (eqU x) = its.any (eqU x) by simp, any_eqU r fs]
    exact q
  · obtain ⟨its, r, pl, hz⟩ := I.tuple hq
    refine SeqAt.in_tupleAt (eqU x) pl (fun w hw => mem_eqAt rx fx r fs w (by simpa using hw)) ⟨.bl _, H, I, rfl, ?_⟩
    rw [show its.toArray.any (eqU x) = its.any (eqU x) by simp, any_eqU r fs]
    exact q
theorem call_len_seq : CallR X (.builtin "len") (fun xs H Q => ∃ p ys, xs = [.ref p] ∧ (SqL X.K H p ys ∨ SqT X.K H p ys) ∧ Q (.int ys.length) H) := by
  intro pins s σ H xs us Q I r h
  obtain ⟨p, ys, rfl, hq, q⟩ := h
  obtain ⟨u, rfl, rx⟩ := vals1 r
  cases rx
  have hn := line63
  rcases hq with hq | hq
  · obtain ⟨its, r', pl, hz⟩ := I.list hq
    have hlen := r'.length
    exact Calls.call_len_list pl.isList (by simp only [List.size_toArray] <;> omega) ⟨.int ys.length, H, I.tok _, ⟨s.toks + 1, by rw [List.size_toArray, hlen]⟩, q⟩
  · obtain ⟨its, r', pl, hz⟩ := I.tuple hq
    have hlen := r'.length
    exact len_tuple pl (by simp only [List.size_toArray] <;> omega) ⟨.int ys.length, H, I.tok _, ⟨s.toks + 1, by rw [List.size_toArray, hlen]⟩, q⟩
theorem call_len_str : CallR X (.builtin "len") (fun xs H Q => ∃ z, xs = [.str z] ∧ z.length ≤ sizeLine ∧ Q (.int z.length) H) := by
  intro pins s σ H xs us Q I r h
  obtain ⟨z, rfl, hz, q⟩ := h
  obtain ⟨u, rfl, t, rfl⟩ := vals1 r
  have hn := line63
  exact len_str (by omega) ⟨.int z.length, H, I.tok _, ⟨_, rfl⟩, q⟩
theorem CallR.or {f : Value} {r r' : List V → Hp → VK → Prop} (h : CallR X f r) (h' : CallR X f r') : CallR X f (fun xs H Q => r xs H Q ∨ r' xs H Q) := by
  intro pins s σ H xs us Q I rs q
  rcases q with q | q
  · exact h pins s σ H xs us Q I rs q
  · exact h' pins s σ H xs us Q I rs q
theorem call_list_of : CallR X (.type "list") (fun xs H Q => ∃ p ys, xs = [.ref p] ∧ (SqL X.K H p ys ∨ SqT X.K H p ys) ∧ ∀ l, H l = none → Q (.ref l) (upd H l (.lst ys))) := by
  intro pins s σ H xs us Q I r h
  obtain ⟨p, ys, rfl, hq, q⟩ := h
  obtain ⟨u, rfl, rx⟩ := vals1 r
  cases rx
  have fin : ∀ (its : List Value), Vals ys its → ys.length ≤ sizeLine → ∀ (h' : Heap) (c' : Nat), (∀ b o', s.heap.get? b = some o' → h'.get? b = some o') →
      h'.get? s.heap.objs.size = some { cls := .type "list", dict := none, data := .seq its.toArray c', slots := #[] } → EP X pins σ Q (.ref s.heap.objs.size) { s with heap := h' } := fun its r' hz h' c' kp e =>
    ⟨.ref s.heap.objs.size, _, I.laid (t' := s.toks) kp (Nat.le_refl _) (show ObjOk X.prog X.w _ h' _ (.lst ys) from ⟨hz, its, c', r', e⟩), rfl, q _ (I.hok.fresh (Nat.le_refl _))⟩
  rcases hq with hq | hq
  · obtain ⟨its, r', pl, hz⟩ := I.list hq
    have hlen := r'.length
    obtain ⟨o, ho, hc, n, hd⟩ := pl.isList
    exact call_list_seq p (.inl rfl) ho hc hd (fun h' c' kp e => fin its r' hz h' c' kp e) (by simp only [List.size_toArray] <;> omega)
  · obtain ⟨its, r', pl, hz⟩ := I.tuple hq
    have hlen := r'.length
    obtain ⟨o, ho, hc, n, hd⟩ := pl
    exact call_list_seq p (.inr rfl) ho hc hd (fun h' c' kp e => fin its r' hz h' c' kp e) (by simp only [List.size_toArray] <;> omega)
theorem call_tuple_of : CallR X (.type "tuple") (fun xs H Q => ∃ p ys, xs = [.ref p] ∧ ((SqL X.K H p ys ∧ ∀ l, H l = none → Q (.ref l) (upd H l (.tup ys))) ∨ (SqT X.K H p ys ∧ Q (.ref p) H))) := by
  intro pins s σ H xs us Q I r h
  obtain ⟨p, ys, rfl, h⟩ := h
  obtain ⟨u, rfl, rx⟩ := vals1 r
  cases rx
  rcases h with ⟨hq, q⟩ | ⟨hq, q⟩
  · obtain ⟨its, r', pl, hz⟩ := I.list hq
    have hlen := r'.length
    refine call_tuple_list pl.isList (fun h' kp => ?_) (by simp only [List.size_toArray] <;> omega)
    have I1 : Inv X pins σ H { s with heap := h' } := I.kept (t' := s.toks) kp
    have I2 : Inv X pins σ (upd H h'.objs.size (.tup ys)) { s with heap := h'.push { cls := .type "tuple", data := .seq its.toArray } } :=
      I1.laid (t' := s.toks) (fun b o e => Heap.get?_push_of_some _ e) (Nat.le_refl _) (show ObjOk X.prog X.w _ _ _ (.tup ys) from ⟨hz, its, r', IsTup.new _ _⟩)
    exact ⟨.ref h'.objs.size, _, I2, rfl, q _ (I1.hok.fresh (Nat.le_refl _))⟩
  · obtain ⟨its, r', pl, hz⟩ := I.tuple hq
    exact call_tuple_same pl ⟨.ref p, H, I, rfl, q⟩
def tyV (K : PySem.W.Frag) (T : String) (x : V) (H : Hp) : Prop := match x with
  | .str _ => T = "str"
  | .int _ => T = "int"
  | .ref p => (T = "list" ∧ ∃ xs, SqL K H p xs) ∨ (T = "tuple" ∧ ∃ o, K.lookup p = some o ∧ o.cls = .type "tuple" ∧ o.dict = none) ∨
      (T = "dict" ∧ ((∃ kvs, H p = some (.dK kvs)) ∨ ∃ kvs, H p = some (.dT kvs))) ∨ (T = "set" ∧ ∃ S n, H p = some (.set S n))
  | _ => False
theorem tyV_is {pins : List (Addr × Obj)} {σ : St} {H : Hp} {s : Shared} {T : String} {x : V} {v : Value} (I : Inv X pins σ H s) (r : RelV x v) (ty : tyV X.K T x H) :
    s.TypeIs v T ∧ ∀ a, v = .ref a → ∃ ob, s.heap.get? a = some ob ∧ ob.dict = none := by
  cases x with
  | str z =>
    obtain ⟨t, rfl⟩ := r
    cases (show T = "str" from ty)
    exact ⟨typeIs_str s z t, fun _ e => nomatch e⟩
  | int i =>
    obtain ⟨t, rfl⟩ := r
    cases (show T = "int" from ty)
    exact ⟨typeIs_int s i t, fun _ e => nomatch e⟩
  | ref p =>
    cases r
    rcases ty with ⟨rfl, xs, hq⟩ | ⟨rfl, o, hk, hc, hd⟩ | ⟨rfl, hk⟩ | ⟨rfl, S, n, hk⟩
    · obtain ⟨its, _, pl, _⟩ := I.list hq
      refine ⟨pl.isList.typeIs, fun a e => ?_⟩
      cases e
      obtain ⟨o, n, e, c, hd, _⟩ := pl
      exact ⟨o, e, hd⟩
    · refine ⟨⟨o, I.kIn p o hk, hc⟩, fun a e => ?_⟩
      cases e
      exact ⟨o, I.kIn _ o hk, hd⟩
    · have z : ∃ o, s.heap.get? p = some o ∧ o.ExactDict := by
        rcases hk with ⟨kvs, hk⟩ | ⟨kvs, hk⟩
        · obtain ⟨_, _, _, _, o, _, _, e, ex, _⟩ := I.hok p _ hk
          exact ⟨o, e, ex⟩
        · obtain ⟨_, _, _, _, o, _, _, e, ex, _⟩ := I.hok p _ hk
          exact ⟨o, e, ex⟩
      obtain ⟨o, e, ex⟩ := z
      refine ⟨⟨o, e, ex.1⟩, fun a e2 => ?_⟩
      cases e2
      exact ⟨o, e, ex.2.1⟩
    · obtain ⟨o, _, _, _, e, ex, _⟩ := I.hok p _ hk
      refine ⟨⟨o, e, ex.1⟩, fun a e2 => ?_⟩
      cases e2
      exact ⟨o, e, ex.2.1⟩
  | _ => exact False.elim ty
def tBM (K : PySem.W.Frag) (T : String) (r : V → List V → Hp → VK → Prop) (to : TE) (t : TA) : TE := fun σ H Q => to σ H fun x H1 => tyV K T x H1 ∧ t σ H1 fun xs H2 => r x xs H2 Q
variable {o e : Expr} {es : List Expr} {to : TE} {t : TA} {name : Str} {apos cpos : Pos} {T id : String} {r : V → List V → Hp → VK → Prop}
theorem pe_bm (pa : PlainAttrs T) (slot : Slot T name id) (hty : typeOf (.builtin id) = pure (.type "method_descriptor")) (hm : MtR X id r) (ho : PE X o to) (ha : PA X (e :: es) t)
    (hbase : attributeBase o name X.env (eval o X.env) = eval o X.env := by rfl)
    (hfew : ((backTo cpos (starEach (e :: es) X.env)).all (fun x => !x.1) && (backToKw cpos (keywordEach [] X.env)).all (fun x => x.1.isSome)
      && decide ((e :: es).length + ([] : List Keyword).length + (if ([] : List Keyword).isEmpty then 0 else 1) < 30)) = true := by rfl)
    (hline : (apos.endLine == cpos.line) = true := by rfl) (hs : starEach (e :: es) X.env = (false, eval e X.env) :: starEach es X.env := by rfl) (hplain : (backTo cpos (starEach es X.env)).any (·.1) = false := by rfl) :
    PE X (.Call (.Attribute o name apos) (e :: es) [] cpos) (tBM X.K T r to t) := by
  intro pins s σ H Q I h
  refine wpAny_Call_method_late hbase hfew hline rfl (thn (ho pins s σ H _ I h) fun v s1 ⟨x, H1, I1, r1, ty, q1⟩ => ?_)
  obtain ⟨h1, h2⟩ := tyV_is I1 r1 ty
  refine ⟨T, id, pa, slot, hty, h1, h2, ?_⟩
  have hA := ha cpos pins s1 σ H1 _ I1 q1
  rw [hs] at hA ⊢
  refine Calls.callWith_builtin (by show (false || (backTo cpos (starEach es X.env)).any (·.1)) = false; rw [hplain] <;> rfl) (Calls.evalArgs_plain ?_)
  exact thn hA fun us s2 ⟨vs, H2, I2, r2, q2⟩ => hm pins s2 σ H2 x vs v us Q I2 r1 r2 q2
end
end L2
namespace L2
open PySem PySem.Spec PyProof.Rows
def MtM (X : Cx) (id : String) (r : V → List V → Hp → VK → Prop) : Prop :=
  ∀ (pins : List (Addr × Obj)) (s : Shared) (σ : St) (H : Hp) (x : V) (xs : List V) (v : Value) (us : List Value) (Q : VK), Inv X pins σ H s → RelV x v → Vals xs us → r x xs H Q →
    wpAny (model X.prog X.w) X.A (call (.builtin id) (v :: us)) (EP X pins σ Q) X.xe s
theorem Vals.one : ∀ {x : V} {us : List Value}, Vals [x] us → ∃ u, us = [u] ∧ RelV x u
  | _, _, .cons r .nil => ⟨_, rfl, r⟩
theorem Vals.zero : ∀ {us : List Value}, Vals [] us → us = []
  | _, .nil => rfl
theorem Vals.dropLast {xs : List V} {us : List Value} (h : Vals xs us) : Vals xs.dropLast us.dropLast := by
  induction h with
  | nil => exact .nil
  | cons r t ih =>
    cases t with
    | nil => exact .nil
    | cons q t' => exact .cons r ih
section
variable {X : Cx} {pins : List (Addr × Obj)} {σ : St} {H : Hp} {s : Shared} {l b : Addr} {xs ys zs : List V}
theorem Inv.lset {its its' : List Value} {n : Nat} {f : Array Value → Array Value} {t' : Nat} (I : Inv X pins σ H s) (hH : H l = some (.lst xs))
    (e : s.heap.get? l = some { cls := .type "list", data := .seq its.toArray n }) (hf : f its.toArray = its'.toArray) (hv : Vals ys its') (hz : ys.length ≤ sizeLine) :
    Inv X pins σ (upd H l (.lst ys)) { s with heap := s.heap.update l (Obj.mapSeq f), toks := t' } := by
  have q := PySem.IsL.update e f
  rw [hf] at q
  refine I.write (x := l) (e := l) (by rw [hH]; exact trivial) (.inl rfl) (fun b' u hb hu => (Heap.get?_update_other s.heap (Obj.mapSeq f) (Ne.symm hb)).trans hu) ⟨_, q⟩ ?_
  exact ⟨hz, its', _, hv, q⟩
theorem Inv.lnew {its : List Value} {t' : Nat} (I : Inv X pins σ H s) (hv : Vals ys its) (hz : ys.length ≤ sizeLine) :
    Inv X pins σ (upd H s.heap.objs.size (.lst ys)) { s with heap := s.heap.push { cls := .type "list", data := .seq its.toArray }, toks := t' } :=
  I.laid (fun _ _ q => Heap.get?_push_of_some _ q) (Nat.le_refl _) ⟨hz, its, 0, hv, Heap.get?_push_size _ rfl⟩
theorem Inv.fresh (I : Inv X pins σ H s) : H s.heap.objs.size = none := I.hok.fresh (Nat.le_refl _)
theorem Inv.lstM (I : Inv X pins σ H s) (hH : H l = some (.lst xs)) : xs.length ≤ sizeLine ∧ ∃ (its : List Value) (n : Nat), Vals xs its ∧ xs.length = its.length ∧ s.heap.get? l = some { cls := .type "list", data := .seq its.toArray n } := by
  obtain ⟨z, its, n, r, e⟩ := I.hok l _ hH
  exact ⟨z, its, n, r, r.length, e⟩
end
section
variable {X : Cx}
def rAppend : V → List V → Hp → VK → Prop := fun x vs H Q => ∃ l xs y, x = .ref l ∧ vs = [y] ∧ H l = some (.lst xs) ∧ xs.length < sizeLine ∧ Q .non (upd H l (.lst (xs ++ [y])))
theorem mt_append : MtM X "list.append" rAppend := by
  intro pins s σ H x vs v us Q I rx rv h
  obtain ⟨l, xs, y, rfl, rfl, hH, hz, q⟩ := h
  cases rx
  obtain ⟨u, rfl, ru⟩ := rv.one
  obtain ⟨z, its, n, r, hl, e⟩ := I.lstM hH
  refine call_meets F.slot_list_append ⟨_, e, rfl⟩ F.entry_list_append (F.args_list_append_2 _ _) (PySem.list_append l its.toArray n u (by rw [List.size_toArray]; omega)) ⟨e, ?_⟩
  refine ⟨.non, _, I.lset (its' := its ++ [u]) hH e (by simp) (r.append (.cons ru .nil)) ?_, rfl, q⟩
  rw [List.length_append, List.length_singleton]
  omega
end
section
variable {prog : Program} {w : World} {A : Around} {E : Value → Shared → Prop} {s : Shared}
end
section
variable {X : Cx}
end
end L2
namespace Att
open PySem PySem.W PySem.Calls PyProof.Rows
theorem ints_of_wellAll {P : Params} {h : Heap} : ∀ (ns : List Int) (vs : List Value), WellAll P h vs (ns.map WData.int) → IntsAre vs ns := by
  intro ns
  induction ns with
  | nil =>
    intro vs w
    rw [List.map_nil] at w
    cases w
    exact .nil
  | cons n ns ih =>
    intro vs w
    rw [List.map_cons] at w
    cases w with
    | cons a b =>
      cases a
      exact .cons _ _ (ih _ b)
theorem script_of {l : OpenLaw} {n : Nat} (hn : l.most = some n) {P : Params} {h : Heap} {args : List WData} {vals : List Value}
    (hpre : l.row.toRowW.claim.pre args = true) (hwl : WellAll P h vals args) :
    ∃ a vs ns, vals = [Value.ref a] ∧ args = [WData.list (ns.map WData.int)] ∧ h.get? a = some { cls := .type "list", data := .seq vs.toArray } ∧ IntsAre vs ns ∧ ns.length ≤ n := by
  have hsh : WShape.hasAll [] args [.list .int] = true := (pre_splitW hpre).1
  have hc : l.pre.holds [] { args := args } = true := (pre_splitW hpre).2
  obtain ⟨d, r, rfl, h1, h2⟩ := hasAllW_cons hsh
  obtain rfl := hasAllW_nil h2
  obtain ⟨xs, rfl, h3⟩ := hasW_list h1
  obtain ⟨ns, rfl⟩ := items_int h3
  have hlen : ns.length ≤ n := by
    unfold OpenLaw.pre at hc
    have h4 : (WTm.not (.lt (.lit (.int (n : Int))) (.len (.arg 0)))).holds [] { args := [.list (ns.map .int)] } = true := by
      have h4 := (holds_andW hc).1
      rw [hn] at h4
      exact h4
    have h5 := condW_of h4 (w_not (w_lt w_lit (w_len_list (w_arg rfl))))
    rw [List.length_map] at h5
    refine Nat.le_of_not_lt fun q => ?_
    have q' : (n : Int) < ((ns.length : Nat) : Int) := by omega
    first
      | (rw [decide_eq_true q'] at h5; exact absurd h5 (by decide))
      | (simp at h5; omega)
  cases hwl with
  | cons w1 w2 =>
    cases w2
    cases w1 with
    | list ho hall => exact ⟨_, _, ns, rfl, rfl, ho, ints_of_wellAll ns _ hall, hlen⟩
theorem post_true (l : OpenLaw) (args : List WData) : l.row.toRowW.claim.post args (.bool true) args = true :=
  postW_of (r := l.row.toRowW) (X := (true == true))
    (show WShape.has [] (.bool true) .bool = true by first | rfl | decide | simp [WShape.has, WShape.arms, WShape.armsAll])
    (show (WTm.eq .res (.lit (.bool true))).value [] { args := args, res := some (.bool true), after := args } = some (.bool (true == true)) from w_eq_bool (w_res rfl) w_lit) rfl
theorem attach_call {l : OpenLaw} {n : Nat} {q : Program} {loose : List Str} {XP : (Str → Option Value) → Heap → Prop} {YP : World → Heap → Prop} {d : DefRec}
    (hn : l.most = some n) (hdf : d.params.defaults = [])
    (call : ∀ (w : World) (s₀ s₁ : Shared) (mg mb : Str → Option Value) (fa : Addr) (o : Obj) (pm cd doc : Value) (a : Addr) (vs : List Value) (ns : List Int),
      Ground q loose [] XP w s₀ mg mb s₁.heap → YP w s₁.heap →
      s₁.heap.get? fa = some o → o.data = .func (docDef d.name d.params d.body d.scope pm cd doc) → s₁.heap.CodeRec cd d.name → mg d.name = some (.ref fa) →
      s₁.heap.get? a = some { cls := .type "list", data := .seq vs.toArray } → IntsAre vs ns → ns.length ≤ n → s₁.gens = #[] →
      codeAny (model l.prog w) callerA (.call (.ref fa) ⟨[.ref a], []⟩) (fun r s' => r = .ok (.ret (.bool true)) ∧ OldK s₁.heap s'.heap ∧ s'.os = s₁.os ∧ AllBare s'.gens) s₁) :
    WalkO q loose XP YP l.row.toRowW d [] (fun f vs => PySem.call f vs) := by
  intro w s₀ s₁ mg mb G Y fa o pm cd doc dV kV ho hd hcd hD hmg hg args vals as hpre hlay hrd hwl hlo
  obtain rfl : dV = .none := Dflts.none hD hdf
  obtain rfl : kV = .none := Dflts.noKw hD
  obtain ⟨a, vs, ns, rfl, rfl, hobj, hints, hlen⟩ := script_of hn hpre hwl
  refine enter_call (codeAny_mono (call w s₀ s₁ mg mb fa o pm cd doc a vs ns G Y ho (fd_plain hd) hcd hmg hobj hints hlen hg) fun r s' hq => ?_)
  obtain ⟨rfl, h2, h3, h4⟩ := hq
  exact ⟨.inl ⟨.bool true, .bool true, [], rfl, fun _ => rfl, .bool true, post_true l _, fun _ => ⟨List.Pairwise.nil, fun _ hm => (nomatch hm)⟩⟩, h2, h3, h4⟩
section
variable {prog : Program} {w : World} {A : Around} {E : Value → Shared → Prop} {s : Shared} {K : Frag}
end
end Att
namespace L2
open PySem PySem.Spec PyProof.Rows
theorem vals_ints : ∀ {vs : List Value} {ns : List Int}, IntsAre vs ns → Vals (ns.map V.int) vs
  | _, _, .nil => .nil
  | _, _, .cons n t h => .cons ⟨t, rfl⟩ (vals_ints h)
def Only (H : Hp) : Prop := ∀ b, H b = none ∨ ∃ o xs, H b = some (.frz o (.lst xs))
theorem law_call {P : Program} {w : World} {K : PySem.W.Frag} {mg mb : Str → Option Value} {CX : CXT} {k : Nat} {fa a : Addr} {fd : FuncData} {x : Str} {sp : Sp} {s₁ : Shared} {vs : List Value} {ns : List Int}
    (KX : K.In s₁.heap) (hns : s₁.heap.Ns mainGlobals mg) (hb : s₁.heap.Ns builtinsNs mb) (hbb : ∀ x : Str, x ≠ "__name__" → mb x = bootBuiltins x) (hlim : s₁.heap.NoLimit) (hg : s₁.gens = #[])
    (ha : s₁.heap.get? a = some { cls := .type "list", data := .seq vs.toArray }) (hi : IntsAre vs ns) (hl : ns.length ≤ sizeLine) (hr : Room k callerA)
    (F : ∀ base : Heap, K.In base → base.Ns mainGlobals mg → FnOk P w K mg base CX k fa fd [x] sp) (hbind : ∀ (s : Shared) (u : Value), BindsTo s fd ⟨[u], []⟩ [(x, u)])
    (hsp : ∀ H : Hp, Only H → SqL K H a (ns.map V.int) → sp [.ref a] H (fun v _ => v = .bl true) fun _ _ _ => False)
    (hCX : ∀ H e s', CX [] H s₁ (fun _ _ _ => False) e s' → False) :
    codeAny (model P w) callerA (.call (.ref fa) ⟨[.ref a], []⟩) (fun r s' => r = .ok (.ret (.bool true)) ∧ OldK s₁.heap s'.heap ∧ s'.os = s₁.os ∧ AllBare s'.gens) s₁ := by
  have rv := vals_ints hi
  have lenV := hi.length
  have core : ∀ H : Hp, Only H → SqL K H a (ns.map V.int) → HOk P w H s₁.heap → (∀ b, H b ≠ none → b = a) → (H a ≠ none → K.lookup a = none) →
      codeAny (model P w) callerA (.call (.ref fa) ⟨[.ref a], []⟩) (fun r s' => r = .ok (.ret (.bool true)) ∧ OldK s₁.heap s'.heap ∧ s'.os = s₁.os ∧ AllBare s'.gens) s₁ := by
    intro H hO hS hok hA hK
    have base_of : ∀ {b : Addr} {o : Obj}, s₁.heap.get? b = some o → H b = none → (hidT s₁.heap H).get? b = some o := fun e n => hidT_get e n
    have noA : ∀ {b : Addr} {o : Obj} {es : Array DictEntry} {ep : Nat}, s₁.heap.get? b = some o → o.data = .dict es ep → H b = none := fun {b o es ep} e d => by
      cases q : H b with
      | none => rfl
      | some u =>
        have e' : b = a := hA b (by rw [q]; simp)
        subst e'
        rw [ha] at e; cases e
        have d' : Data.seq vs.toArray _ = Data.dict es ep := d
        cases d'
    have nsK : ∀ {b : Addr} {m : Str → Option Value}, s₁.heap.Ns b m → (hidT s₁.heap H).Ns b m := fun {b m} ⟨o, es, ep, e, d, r⟩ => ⟨o, es, ep, base_of e (noA e d), d, r⟩
    have hKb : K.In (hidT s₁.heap H) := fun b o e => base_of (KX b o e) (by
      cases q : H b with
      | none => rfl
      | some u =>
        have e' : b = a := hA b (by rw [q]; simp)
        subst e'
        rw [hK (by rw [q]; simp)] at e; cases e)
    have hM : Mod K mg (hidT s₁.heap H) := ⟨hKb, nsK hns, ⟨mb, nsK hb, hbb⟩, let ⟨mc, h1, h2⟩ := hlim; ⟨mc, nsK h1, h2⟩⟩
    have e0 : Env0 P w K mg (hidT s₁.heap H) callerA [] s₁ H := ⟨rfl, hM, fun b o e => of_hidT e, Nat.le_of_eq (hidT_size _ _), trivial, fun b hb => absurd (show b ∈ ([] : List Addr) from hb) (by simp), hok, .of_eq hg⟩
    refine codeAny_mono ((F _ hKb (nsK hns)).run callerA [] s₁ H ⟨[.ref a], []⟩ [.ref a] [.ref a] _ _ hr e0 (hbind s₁ (.ref a)) (.cons rfl .nil) (hsp H hO hS)) fun r s' h => ?_
    cases r with
    | error e => exact (hCX H e s' h).elim
    | ok fl =>
      cases fl with
      | next => exact False.elim h
      | brk => exact False.elim h
      | cont => exact False.elim h
      | ret u =>
        obtain ⟨v, H', os, bare, un, hok', r', q⟩ := h
        have q' : v = .bl true := q
        subst q'
        obtain rfl : u = Value.bool true := r'
        refine ⟨rfl, OldK.of_keep fun b o e => ?_, os, bare⟩
        cases q : H b with
        | none => exact un.keep b o e q (by intro z; exact absurd (show b ∈ ([] : List Addr) from z) (by simp)) (by simp)
        | some u =>
          rcases hO b with z | ⟨ob, xs, z⟩
          · rw [q] at z; cases z
          · have z2 := un.frzs b ob _ z
            obtain ⟨e1, _⟩ := hok b _ z
            obtain ⟨e2, _⟩ := hok' b _ z2
            rw [e] at e1; cases e1
            exact e2
  cases hk : K.lookup a with
  | some o =>
    have e := KX a o hk
    rw [ha] at e
    cases e
    refine core (fun _ => none) (fun _ => .inl rfl) (.inr ⟨_, vs.toArray, _, hk, rfl, rfl, rfl, by rw [List.size_toArray, lenV]; exact hl, by simpa using rv⟩) (fun b u z => by have z' : (none : Option HO) = some u := z; cases z') (fun b z => absurd rfl z) fun z => absurd rfl z
  | none =>
    refine core (fun b => if b = a then some (.frz { cls := .type "list", data := .seq vs.toArray } (.lst (ns.map V.int))) else none) (fun b => ?_) (.inl (.inr ⟨{ cls := .type "list", data := .seq vs.toArray }, if_pos rfl⟩)) (fun b u z => ?_) (fun b z => ?_) fun _ => hk
    · by_cases hb : b = a
      · exact .inr ⟨_, _, if_pos hb⟩
      · exact .inl (if_neg hb)
    · by_cases hb : b = a
      · have z' := (if_pos hb).symm.trans z
        cases z'
        subst hb
        exact ⟨ha, by rw [List.length_map]; exact hl, vs, _, rv, ha⟩
      · have z' := (if_neg hb).symm.trans z
        cases z'
    · by_cases hb : b = a
      · exact hb
      · exact absurd (if_neg hb) z
end L2
namespace L2
open PySem PySem.Spec PyProof.Rows
theorem walk_of {l : PySem.W.OpenLaw} {n k : Nat} {q : Program} {loose : List Str} {XP : (Str → Option Value) → Heap → Prop} {YP : World → Heap → Prop} {d : DefRec} {K : Params → PySem.W.Frag} {CX : World → CXT} {sp : World → Sp} {x : Str}
    (hn : l.most = some n) (hn2 : n ≤ sizeLine) (hdf : d.params.defaults = []) (hr : Room k callerA)
    (hY : ∀ (w : World) (h : Heap), YP w h → (K w.params).In h)
    (F : ∀ (w : World) (mg : Str → Option Value) (fa : Addr) (h : Heap), (K w.params).In h → h.Ns mainGlobals mg → mg d.name = some (.ref fa) →
      ∃ fd : FuncData, (∀ (s : Shared) (u : Value), BindsTo s fd ⟨[u], []⟩ [(x, u)]) ∧
        ∀ base : Heap, (K w.params).In base → base.Ns mainGlobals mg → FnOk l.prog w (K w.params) mg base (CX w) k fa fd [x] (sp w))
    (hsp : ∀ (w : World) (H : Hp) (a : Addr) (ns : List Int), ns.length ≤ n → Only H → SqL (K w.params) H a (ns.map V.int) → sp w [.ref a] H (fun v _ => v = .bl true) fun _ _ _ => False)
    (hCX : ∀ (w : World) (H : Hp) (s : Shared) (e : Value) (s' : Shared), CX w [] H s (fun _ _ _ => False) e s' → False) :
    PySem.W.WalkO q loose XP YP l.row.toRowW d [] (fun f vs => PySem.call f vs) := by
  refine Att.attach_call hn hdf fun w s₀ s₁ mg mb fa o pm cd doc a vs ns G Y ho hd hcd hmg hobj hints hlen hg => ?_
  have KX := hY w _ Y
  obtain ⟨fd, hb, hF⟩ := F w mg fa _ KX G.T.g hmg
  exact law_call KX G.T.g G.T.b G.T.builtins G.T.nolimit hg hobj hints (Nat.le_trans hlen hn2) hr hF hb (fun H hO hS => hsp w H a ns hlen hO hS) fun H e s' => hCX w H s₁ e s'
end L2
namespace L2
open PySem PySem.Spec PyProof.Rows
def inClass (s : Stmt) (j : Nat) : Stmt := match s with
  | .ClassDef _ _ _ body _ _ _ _ _ _ _ => body.getD j (.Pass ⟨0, 0, 0, 0⟩)
  | _ => .Pass ⟨0, 0, 0, 0⟩
def defArgs (s : Stmt) : Arguments := match s with
  | .FunctionDef _ a _ _ _ _ _ _ _ _ => a
  | _ => { posonlyargs := [], args := [], vararg := none, kwonlyargs := [], kw_defaults := [], kwarg := none, defaults := [] }
def defBody (s : Stmt) : List Stmt := match s with
  | .FunctionDef _ _ b _ _ _ _ _ _ _ => b
  | _ => []
def defScope (s : Stmt) : Scope := match s with
  | .FunctionDef _ _ _ _ _ _ sc _ _ _ => sc
  | _ => { kind := .function, names := [], isGenerator := false, isCoroutine := false }
abbrev CX0 : CXT := fun _ _ _ _ _ _ => False
abbrev E0 : XK := fun _ _ _ => False
structure Fun (K : PySem.W.Frag) (x qual : Str) (st : Stmt) (f : Addr) (fd : FuncData) : Prop where
  ex : ∃ (oc : Value) (od : Option Addr) (kV doc pm : Value) (an : Option Addr) (cdv ct : Value) (osl : Array (Option Value)),
    fd = PySem.W.fnOf x qual (defArgs st) (defBody st) (defScope st) .none kV doc pm an cdv ct ∧ K.lookup f = some ⟨oc, od, .func fd, osl⟩ ∧ PySem.W.codeIn K cdv qual = true
  kp : PySem.W.keepIn K (.ref f) = true
section
variable {P : Program} {w : World} {K : PySem.W.Frag} {mg : Str → Option Value} {base : Heap}
theorem Fun.ok {x qual : Str} {st : Stmt} {f : Addr} {fd : FuncData} {N ps : List Str} {k : Nat} {sp : Sp} (F : Fun K x qual st f fd) (S : FnScope N ps (defScope st)) (len : ∀ vs H Q E, sp vs H Q E → vs.length = ps.length)
    (hbody : ∀ (cdv : Value) (A : Around) (outer : List Env) (s : Shared) (H : Hp) (vs : List V) (Q : VK) (E : XK), Room k (A.deeper (envOfC qual (defScope st) s.heap.objs.size f cdv)) → sp vs H Q E →
      ∃ t, PSs (cxOf CX0 P w K mg base N qual (defScope st) f cdv A outer s H E).nox (defBody st) t ∧ t { nx := fun _ H' => Q .non H', rt := Q } (start N vs) H) : FnOk P w K mg base CX0 (k + 1) f fd ps sp := by
  obtain ⟨oc, od, kV, doc, pm, an, cdv, ct, osl, rfl, lk, hcd⟩ := F.ex
  refine fn_of lk hcd S len fun A outer s H vs Q E hr hsp => ?_
  obtain ⟨t, h, q⟩ := hbody cdv A outer s H vs Q E hr hsp
  exact ⟨t, h.nox, q⟩
theorem Fun.binds {x qual : Str} {st : Stmt} {f : Addr} {fd : FuncData} {ps : List Str} (F : Fun K x qual st f fd)
    (h : ∀ (kV doc pm : Value) (an : Option Addr) (cdv ct : Value) (us : List Value), us.length = ps.length → bindArgs (PySem.W.fnOf x qual (defArgs st) (defBody st) (defScope st) .none kV doc pm an cdv ct) ⟨us, []⟩ = pure (ps.zip us)) : Binds K fd ps [] := by
  obtain ⟨oc, od, kV, doc, pm, an, cdv, ct, osl, rfl, lk, hcd⟩ := F.ex
  exact .all (h kV doc pm an cdv ct)
theorem fun_mk {x qual : Str} {st : Stmt} {f : Addr} {oc : Value} {od an : Option Addr} {osl : Array (Option Value)} {kV doc pm cdv ct : Value} (l : K.lookup f = some ⟨oc, od, .func (PySem.W.fnOf x qual (defArgs st) (defBody st) (defScope st) .none kV doc pm an cdv ct), osl⟩)
    (c : PySem.W.codeIn K cdv qual = true) (k : PySem.W.keepIn K (.ref f) = true) : Fun K x qual st f (PySem.W.fnOf x qual (defArgs st) (defBody st) (defScope st) .none kV doc pm an cdv ct) := ⟨⟨oc, od, kV, doc, pm, an, cdv, ct, osl, rfl, l, c⟩, k⟩
end
theorem hu_of {A : Around} {k : Nat} (hr : Room k A) : A.units + 1 < cLine := Nat.lt_of_le_of_lt (Nat.add_le_add_left (by decide : 1 ≤ 64) _) hr.units
section
variable {X : Cx}
theorem pv (i : Nat) {x : Str} {pos : Pos} (hN : X.N[i]? = some x := by rfl) (hv : Vis X.env.scope x := by first | exact Or.inl rfl | exact Or.inr (Or.inl rfl) | exact Or.inr (Or.inr rfl)) (hd : (x == ("__debug__" : Str)) = false := by decide)
    (hcd : (x == ("__classdict__" : Str)) = false := by decide) : PE X (.Name x pos) (tVar i) := pe_var hN hv hd hcd
end
theorem iteF {A B : Prop} (h : B) : if false = true then A else B := by
  rw [if_neg Bool.false_ne_true]
  exact h
theorem iteT {A B : Prop} (h : A) : if true = true then A else B := by
  rw [if_pos rfl]
  exact h
def Same (H H' : Hp) : Prop := ∀ b o, H b = some o → H' b = some o
theorem Same.refl (H : Hp) : Same H H := fun _ _ h => h
theorem Same.trans {H H1 H2 : Hp} (a : Same H H1) (b : Same H1 H2) : Same H H2 := fun c o h => b c o (a c o h)
theorem Same.free {H H' : Hp} (e : Same H H') {l : Addr} (h : H' l = Option.none) : H l = Option.none := by
  cases q : H l with
  | none => rfl
  | some o =>
    rw [e l o q] at h
    cases h
theorem Same.seq {K : PySem.W.Frag} {H H' : Hp} {a : Addr} {xs : List V} (e : Same H H') (h : SqL K H a xs) : SqL K H' a xs := by
  rcases h with (h | ⟨o, h⟩) | h
  · exact .inl (.inl (e _ _ h))
  · exact .inl (.inr ⟨o, e _ _ h⟩)
  · exact .inr h
end L2
set_option Elab.async false
set_option linter.all false
set_option maxRecDepth 100000
namespace L2
open PySem PySem.Spec PyProof.Rows
section
variable {κ : Type} [DecidableEq κ]
def valV (kvs : List (κ × V)) (k : κ) : Option V := (kvs.find? fun kv => decide (kv.1 = k)).map (·.2)
def putK (kvs : List (κ × V)) (k : κ) (v : V) : List (κ × V) :=
  if (kvs.any fun kv => decide (kv.1 = k)) = true then kvs.map (fun kv => if kv.1 = k then (kv.1, v) else kv) else kvs ++ [(k, v)]
def dropK (kvs : List (κ × V)) (k : κ) : List (κ × V) := kvs.filter fun kv => decide (kv.1 ≠ k)
theorem valV_pos {p : κ × V} {r : List (κ × V)} {k : κ} (e : p.1 = k) : valV (p :: r) k = some p.2 := by simp [valV, List.find?_cons, e]
theorem valV_neg {p : κ × V} {r : List (κ × V)} {k : κ} (e : ¬ p.1 = k) : valV (p :: r) k = valV r k := by simp [valV, List.find?_cons, e]
theorem valV_any (k : κ) : ∀ kvs : List (κ × V), (kvs.any fun kv => decide (kv.1 = k)) = (valV kvs k).isSome
  | [] => rfl
  | p :: r => by
    rw [List.any_cons]
    by_cases e : p.1 = k
    · simp only [valV_pos e, decide_eq_true e, Bool.true_or, Option.isSome_some]
    · rw [valV_neg e, decide_eq_false e, Bool.false_or]; exact valV_any k r
theorem length_putK (kvs : List (κ × V)) (k : κ) (v : V) : (putK kvs k v).length ≤ kvs.length + 1 := by
  unfold putK
  split
  · rw [List.length_map]; omega
  · rw [List.length_append, List.length_cons, List.length_nil]; omega
theorem RelO.isSome_eq {o : Option V} {u : Option Value} (r : RelO o u) : o.isSome = u.isSome := by
  cases o with
  | none => cases u with
    | none => rfl
    | some _ => exact (show False from r).elim
  | some _ => cases u with
    | none => exact (show False from r).elim
    | some _ => rfl
theorem RelO.getD {o : Option V} {u : Option Value} {d : V} {d' : Value} (r : RelO o u) (rd : RelV d d') : RelV (o.getD d) (u.getD d') := by
  cases o with
  | none => cases u with
    | none => exact rd
    | some _ => exact (show False from r).elim
  | some _ => cases u with
    | none => exact (show False from r).elim
    | some _ => exact r
theorem KV.val {kvs : List (κ × V)} {vs : List (κ × Value)} (r : KV kvs vs) (k : κ) : RelO (valV kvs k) (valueAt vs k) := by
  unfold KV at r
  induction r with
  | nil => exact True.intro
  | @cons p q ps qs h t ih =>
    obtain ⟨h1, h2⟩ := h
    by_cases e : p.1 = k
    · have e' : q.1 = k := h1.symm.trans e
      have b : valueAt (q :: qs) k = some q.2 := by simp [valueAt, List.find?_cons, e']
      rw [valV_pos e, b]; exact h2
    · have e' : ¬ q.1 = k := fun z => e (h1.trans z)
      have b : valueAt (q :: qs) k = valueAt qs k := by simp [valueAt, List.find?_cons, e']
      rw [valV_neg e, b]; exact ih
theorem KV.any {kvs : List (κ × V)} {vs : List (κ × Value)} (r : KV kvs vs) (k : κ) : (kvs.any fun kv => decide (kv.1 = k)) = vs.any fun kv => decide (kv.1 = k) := by
  unfold KV at r
  induction r with
  | nil => rfl
  | cons h t ih => rw [List.any_cons, List.any_cons, ih, h.1]
theorem KV.repl {kvs : List (κ × V)} {vs : List (κ × Value)} (r : KV kvs vs) (k : κ) {y : V} {u : Value} (ry : RelV y u) :
    KV (kvs.map fun kv => if kv.1 = k then (kv.1, y) else kv) (vs.map fun kv => if kv.1 = k then (kv.1, u) else kv) := by
  unfold KV at r ⊢
  induction r with
  | nil => exact .nil
  | @cons p q ps qs h t ih =>
    rw [List.map_cons, List.map_cons]
    refine .cons ?_ ih
    obtain ⟨h1, h2⟩ := h
    by_cases e : p.1 = k
    · rw [if_pos e, if_pos (h1.symm.trans e)]; exact ⟨h1, ry⟩
    · rw [if_neg e, if_neg (fun z => e (h1.trans z))]; exact ⟨h1, h2⟩
theorem KV.put {kvs : List (κ × V)} {vs : List (κ × Value)} (r : KV kvs vs) (k : κ) {y : V} {u : Value} (ry : RelV y u) : KV (putK kvs k y) (stored vs k u) := by
  unfold putK stored
  rw [r.any k]
  by_cases e : (vs.any fun kv => decide (kv.1 = k)) = true
  · rw [if_pos e, if_pos e]; exact r.repl k ry
  · rw [if_neg e, if_neg e]; exact Paired.snoc r ⟨rfl, ry⟩
theorem KV.drop {kvs : List (κ × V)} {vs : List (κ × Value)} (r : KV kvs vs) (k : κ) : KV (dropK kvs k) (without vs k) := by
  unfold KV at r ⊢
  unfold dropK without
  induction r with
  | nil => exact .nil
  | @cons p q ps qs h t ih =>
    obtain ⟨h1, h2⟩ := h
    rw [List.filter_cons, List.filter_cons]
    by_cases e : p.1 = k
    · have a : ¬ decide (p.1 ≠ k) = true := by simp [e]
      have b : ¬ decide (q.1 ≠ k) = true := by simp [h1.symm.trans e]
      rw [if_neg a, if_neg b]; exact ih
    · have e' : ¬ q.1 = k := fun z => e (h1.trans z)
      have a : decide (p.1 ≠ k) = true := by simp [e]
      have b : decide (q.1 ≠ k) = true := by simp [e']
      rw [if_pos a, if_pos b]; exact .cons ⟨h1, h2⟩ ih
theorem KV.length {kvs : List (κ × V)} {vs : List (κ × Value)} (r : KV kvs vs) : kvs.length = vs.length := Paired.length r
end
theorem kV_is {P : Program} {w : World} {k : Key} {u : Value} (r : RelV (kV k) u) : (mixKind P w).is k u = true := by
  cases k with
  | inl i => obtain ⟨t, e⟩ := (show ∃ t, u = Value.int i t from r); subst e; exact mixKind_int P w i t
  | inr x => obtain ⟨t, e⟩ := (show ∃ t, u = Value.str x t from r); subst e; exact mixKind_str P w x t
theorem items_are {P : Program} {w : World} : ∀ {ks : List Key} {us : List Value}, Vals (ks.map kV) us → ItemsAre (mixKind P w) ks us
  | [], _, r => by rw [List.map_nil] at r; cases r; exact .nil
  | k :: ks, _, r => by
    rw [List.map_cons] at r
    cases r with
    | cons h t => exact .cons (kV_is h) (items_are t)
abbrev KT (H : Hp) : List (List Key × V) → List (List Key × Addr × Value) → Prop := Paired fun p q => p.1 = q.1 ∧ H q.2.1 = some (.tup (p.1.map kV)) ∧ RelV p.2 q.2.2
theorem KT.val {H : Hp} {kvs : List (List Key × V)} {xs : List (List Key × Addr × Value)} (r : KT H kvs xs) (k : List Key) : RelO (valV kvs k) ((atKey xs k).map (·.2)) := by
  induction r with
  | nil => exact True.intro
  | @cons p q ps qs h t ih =>
    obtain ⟨h1, _, h2⟩ := h
    by_cases e : p.1 = k
    · have e' : q.1 = k := h1.symm.trans e
      have b : atKey (q :: qs) k = some q.2 := by simp [atKey, List.find?_cons, e']
      rw [valV_pos e, b]; exact h2
    · have e' : ¬ q.1 = k := fun z => e (h1.trans z)
      have b : atKey (q :: qs) k = atKey qs k := by simp [atKey, List.find?_cons, e']
      rw [valV_neg e, b]; exact ih
theorem KT.repl {H : Hp} {kvs : List (List Key × V)} {xs : List (List Key × Addr × Value)} (r : KT H kvs xs) (k : List Key) {y : V} {u : Value} (ry : RelV y u) :
    KT H (kvs.map fun kv => if kv.1 = k then (kv.1, y) else kv) (xs.map (putAt k u)) := by
  induction r with
  | nil => exact .nil
  | @cons p q ps qs h t ih =>
    rw [List.map_cons, List.map_cons]
    refine .cons ?_ ih
    obtain ⟨h1, h2, h3⟩ := h
    unfold putAt
    by_cases e : p.1 = k
    · rw [if_pos e, if_pos (h1.symm.trans e)]; exact ⟨h1, h2, ry⟩
    · rw [if_neg e, if_neg (fun z => e (h1.trans z))]; exact ⟨h1, h2, h3⟩
theorem KT.put {H : Hp} {kvs : List (List Key × V)} {xs : List (List Key × Addr × Value)} (r : KT H kvs xs) (k : List Key) {b : Addr} {y : V} {u : Value} (hb : H b = some (.tup (k.map kV))) (ry : RelV y u) :
    KT H (putK kvs k y) (storedH xs k b u) := by
  have e : (kvs.any fun kv => decide (kv.1 = k)) = (atKey xs k).isSome := by
    rw [valV_any, (r.val k).isSome_eq, Option.isSome_map]
  unfold putK storedH
  rw [e]
  by_cases q : (atKey xs k).isSome = true
  · rw [if_pos q, if_pos q]; exact r.repl k ry
  · rw [if_neg q, if_neg q]; exact Paired.snoc r ⟨rfl, hb, ry⟩
theorem KT.keeps {H H' : Hp} {kvs : List (List Key × V)} {xs : List (List Key × Addr × Value)} (r : KT H kvs xs) (ht : ∀ b ys, H b = some (.tup ys) → H' b = some (.tup ys)) : KT H' kvs xs :=
  Paired.mapP r fun _ _ z => ⟨z.1, ht _ _ z.2.1, z.2.2⟩
section
variable {P : Program} {w : World} {H : Hp} {h : Heap} {a : Addr}
theorem rd_of {u : HO} (ok : HOk P w H h) (e : Rd H a u) : ObjOk P w H h a u := e.ok ok
theorem dk_rd {kvs : List (Key × V)} (ok : HOk P w H h) (e : Rd H a (.dK kvs)) : kvs.length ≤ sizeLine ∧ (a == sysModules) = false ∧ ∃ vs, KV kvs vs ∧ h.DictOf (mixKind P w) a vs :=
  show ObjOk P w H h a (.dK kvs) from rd_of ok e
theorem dk_of {kvs : List (Key × V)} (ok : HOk P w H h) (e : H a = some (.dK kvs)) : kvs.length ≤ sizeLine ∧ (a == sysModules) = false ∧ ∃ vs, KV kvs vs ∧ h.DictOf (mixKind P w) a vs := dk_rd ok (.inl e)
theorem key_of {ks : List Key} (ok : HOk P w H h) (e : H a = some (.tup (ks.map kV))) : (tupleKind (mixKind P w)).is h ks a := by
  obtain ⟨_, its, r, o, h1, h2, n, h3⟩ := (show ObjOk P w H h a (.tup (ks.map kV)) from ok a _ e)
  exact ⟨o, its.toArray, n, h1, h2, h3, by simpa using items_are r⟩
theorem dt_rd {kvs : List (List Key × V)} (ok : HOk P w H h) (e : Rd H a (.dT kvs)) : kvs.length ≤ sizeLine ∧ (a == sysModules) = false ∧
    ∃ xs, KT H kvs xs ∧ h.DictOfH (tupleKind (mixKind P w)) a xs := by
  obtain ⟨z, y, xs, r, o, es, ep, h1, h2, h3, h4, h5⟩ := (show ObjOk P w H h a (.dT kvs) from rd_of ok e)
  refine ⟨z, y, xs, r, o, es, ep, h1, h2, h3, h4, fun x hx => ?_, h5⟩
  have all : ∀ {l : List (List Key × V)} {m : List (List Key × Addr × Value)}, KT H l m → ∀ x ∈ m, (tupleKind (mixKind P w)).is h x.1 x.2.1 := by
    intro l m q
    induction q with
    | nil => intro x hx; exact nomatch hx
    | @cons p q ps qs hq t ih =>
      intro x hx
      rcases List.mem_cons.mp hx with e | hx
      · subst e
        exact key_of ok (by rw [← hq.1]; exact hq.2.1)
      · exact ih x hx
  exact all r x hx
theorem dt_of {kvs : List (List Key × V)} (ok : HOk P w H h) (e : H a = some (.dT kvs)) : kvs.length ≤ sizeLine ∧ (a == sysModules) = false ∧
    ∃ xs, KT H kvs xs ∧ h.DictOfH (tupleKind (mixKind P w)) a xs := dt_rd ok (.inl e)
end
def DGet (H : Hp) (a : Addr) (y : V) (r : Option V) : Prop :=
  (∃ kvs k, Rd H a (.dK kvs) ∧ y = kV k ∧ r = valV kvs k) ∨ ∃ kvs k b, Rd H a (.dT kvs) ∧ y = .ref b ∧ H b = some (.tup (k.map kV)) ∧ r = valV kvs k
def DPut (H : Hp) (a : Addr) (y v : V) (H' : Hp) : Prop :=
  (∃ kvs k, H a = some (.dK kvs) ∧ y = kV k ∧ kvs.length < sizeLine ∧ H' = upd H a (.dK (putK kvs k v))) ∨
  ∃ kvs k b, H a = some (.dT kvs) ∧ y = .ref b ∧ H b = some (.tup (k.map kV)) ∧ kvs.length < sizeLine ∧ H' = upd H a (.dT (putK kvs k v))
theorem DGet.k {H : Hp} {a : Addr} {kvs : List (Key × V)} {k : Key} (e : H a = some (.dK kvs)) : DGet H a (kV k) (valV kvs k) := .inl ⟨kvs, k, .inl e, rfl, rfl⟩
theorem DGet.t {H : Hp} {a b : Addr} {kvs : List (List Key × V)} {k : List Key} (e : H a = some (.dT kvs)) (eb : H b = some (.tup (k.map kV))) : DGet H a (.ref b) (valV kvs k) := .inr ⟨kvs, k, b, .inl e, rfl, eb, rfl⟩
theorem DPut.k {H : Hp} {a : Addr} {kvs : List (Key × V)} {k : Key} {v : V} (e : H a = some (.dK kvs)) (hl : kvs.length < sizeLine) : DPut H a (kV k) v (upd H a (.dK (putK kvs k v))) := .inl ⟨kvs, k, e, rfl, hl, rfl⟩
theorem DPut.t {H : Hp} {a b : Addr} {kvs : List (List Key × V)} {k : List Key} {v : V} (e : H a = some (.dT kvs)) (eb : H b = some (.tup (k.map kV))) (hl : kvs.length < sizeLine) :
    DPut H a (.ref b) v (upd H a (.dT (putK kvs k v))) := .inr ⟨kvs, k, b, e, rfl, eb, hl, rfl⟩
section
variable {X : Cx} {pins : List (Addr × Obj)} {σ : St} {H : Hp} {s : Shared} {a : Addr} {y v : V} {u r : Value} {o : Option V} {A : Around} {E : Value → Shared → Prop}
theorem Inv.big (I : Inv X pins σ H s) : sysModules < s.heap.objs.size := by
  have h : mainGlobals < s.heap.objs.size := (I.mod.glob.keeps I.bk).lt
  exact Nat.lt_trans (by decide) h
theorem d_in {Q : Value → Shared → Prop} (hu : A.units + 1 < cLine) (I : Inv X pins σ H s) (g : DGet H a y o) (ry : RelV y u) (h : ∀ s', Inv X pins σ H s' → Q (.bool o.isSome) s') :
    wpAny (model X.prog X.w) A (compareOp .In u (.ref a)) Q E s := by
  rcases g with ⟨kvs, k, e, ey, l⟩ | ⟨kvs, k, b, e, ey, eb, l⟩
  · subst ey
    obtain ⟨z, hd, vs, rel, dd⟩ := dk_rd I.hok e
    refine wpAny_in_of (kV_is ry) hd dd.mapOf ?_
    rw [← (rel.val k).isSome_eq, ← l]
    exact h _ (I.tok _)
  · subst ey
    cases (show u = Value.ref b from ry)
    obtain ⟨z, hd, xs, rel, dd⟩ := dt_rd I.hok e
    refine wpAny_in_heap (tupleKind_room_in1 hu) (key_of I.hok eb) hd dd ?_
    have q := (rel.val k).isSome_eq
    rw [Option.isSome_map] at q
    rw [← q, ← l]
    exact h _ (I.tok _)
theorem d_write {h' : Heap} {t' : Nat} {ob : HO} (I : Inv X pins σ H s) (mu : Mut (H a)) (hs : Heap.SameBut a s.heap h') (he : ∃ q, h'.get? a = some q) (new : ObjOk X.prog X.w (upd H a ob) h' a ob) :
    Inv X pins σ (upd H a ob) { s with heap := h', toks := t' } :=
  I.write (x := a) (e := a) mu (.inl rfl) (fun b q hb z => (hs.2 b hb).trans z) he new
theorem dk_new {P : Program} {w : World} {H' : Hp} {h' : Heap} {kvs : List (Key × V)} {vs : List (Key × Value)} (z : kvs.length ≤ sizeLine) (hd : (a == sysModules) = false) (rel : KV kvs vs) (dd : h'.DictOf (mixKind P w) a vs) :
    ObjOk P w H' h' a (.dK kvs) := ⟨z, hd, vs, rel, dd⟩
theorem d_setItem {H' : Hp} {Q : Unit → Shared → Prop} (hu : A.units + 1 < cLine) (I : Inv X pins σ H s) (g : DPut H a y v H') (ry : RelV y u) (rv : RelV v r) (h : ∀ s', Inv X pins σ H' s' → Q () s') :
    wpAny (model X.prog X.w) A (setItem (.ref a) u r) Q E s := by
  rcases g with ⟨kvs, k, e, ey, l, eH⟩ | ⟨kvs, k, b, e, ey, eb, l, eH⟩
  · subst ey eH
    obtain ⟨z, hd, vs, rel, dd⟩ := dk_of I.hok e
    have hz : vs.length ≤ sizeLine := by rw [← rel.length]; exact z
    have hl : (putK kvs k v).length ≤ sizeLine := by have := length_putK kvs k v; omega
    refine wpAny_setItem_pairs (hsz := hz) (kV_is ry) dd fun h' dd' hs => h _ ?_
    have he : ∃ q, h'.get? a = some q := let ⟨q, _, _, hq, _⟩ := dd'; ⟨q, hq⟩
    exact d_write I (by rw [e]; exact True.intro) hs he (dk_new hl hd (rel.put k rv) dd')
  · subst ey eH
    cases (show u = Value.ref b from ry)
    obtain ⟨z, hd, xs, rel, dd⟩ := dt_of I.hok e
    have hz : xs.length ≤ sizeLine := by rw [← Paired.length rel]; exact z
    have hl : (putK kvs k v).length ≤ sizeLine := by have := length_putK kvs k v; omega
    refine wpAny_setItem_heap (hsz := hz) (tupleKind_room_in1 hu) (key_of I.hok eb) dd fun h' dd' hs => h _ ?_
    obtain ⟨q, es, ep, hq, h2, h3, h4, _, h5⟩ := dd'
    refine d_write I (by rw [e]; exact True.intro) hs ⟨q, hq⟩ ⟨hl, hd, _, (rel.put k eb rv).keeps fun c ys ec => ?_, q, es, ep, hq, h2, h3, h4, h5⟩
    rw [upd_ne (ne_of ec e (fun z => nomatch z))]
    exact ec
end
section
variable {X : Cx} {pins : List (Addr × Obj)} {σ : St} {H : Hp} {s : Shared} {a : Addr} {kvs : List (Key × V)} {k : Key} {u : Value} {A : Around} {E : Value → Shared → Prop}
end
def tDIn (ty td : TE) : TE := fun σ H Q => ty σ H fun y H1 => td σ H1 fun x H2 => ∃ a o, x = .ref a ∧ DGet H2 a y o ∧ Q (.bl o.isSome) H2
def sDPut (td ty tv : TE) : TS := fun D σ H => tv σ H fun v H1 => td σ H1 fun x H2 => ty σ H2 fun y H3 => ∃ a H4, x = .ref a ∧ DPut H3 a y v H4 ∧ D.nx σ H4
section
variable {X : Cx} {o i e value : Expr} {pos pos' tpos : Pos} {td ty tv : TE}
theorem pc_din (hu : X.A.units + 1 < cLine) (hi : PE X i ty) (ho : PE X o td) : PC X .In i o (tDIn ty td) := by
  intro pins s σ H Q I h
  refine thn (hi pins s σ H _ I h) fun iv s1 ⟨y, H1, I1, ry, q1⟩ => thn (ho pins s1 σ H1 _ I1 q1) fun u s2 ⟨x, H2, I2, rx, a, ov, ex, g, q2⟩ => ?_
  subst ex
  obtain rfl : u = Value.ref a := rx
  exact d_in hu I2 g ry fun s3 I3 => ⟨.bl ov.isSome, H2, I3, rfl, q2⟩
theorem ps_dput (hu : X.A.units + 1 < cLine) (ho : PE X o td) (hi : PE X i ty) (hv : PE X value tv) (hs : swapsWith value (some (.Subscript o i pos')) pos.line X.env = pure false) :
    PS X (.Assign [.Subscript o i pos'] value pos) (sDPut td ty tv) := by
  intro pins s σ H D I h
  refine wpAny_Assign_Subscript (thn (hv pins s σ H _ I h) fun r s1 ⟨v, H1, I1, rv, q1⟩ => thn (ho pins s1 σ H1 _ I1 q1) fun u s2 ⟨x, H2, I2, rx, q2⟩ => thn (hi pins s2 σ H2 _ I2 q2) fun iv s3 ⟨y, H3, I3, ry, a, H4, ex, g, q3⟩ => ?_) hs
  subst ex
  obtain rfl : u = Value.ref a := rx
  exact d_setItem hu I3 g ry rv fun s4 I4 => ⟨σ, H4, I4, q3⟩
end
theorem dk_empty {P : Program} {w : World} {H : Hp} (h : Heap) (hb : sysModules < h.objs.size) : ObjOk P w H (h.push { cls := .type "dict", data := .dict #[] }) h.objs.size (.dK []) :=
  ⟨Nat.zero_le _, beq_eq_false_iff_ne.mpr (Ne.symm (Nat.ne_of_lt hb)), [], .nil, Heap.DictOf.new h⟩
def tDNewK : TE := fun _ H Q => ∀ p, H p = none → Q (.ref p) (upd H p (.dK []))
section
variable {X : Cx} {pos : Pos}
theorem pe_dnewK : PE X (.Dict [] [] pos) tDNewK := fun pins s σ H Q I h =>
  wpAny_Dict_empty ⟨.ref s.heap.objs.size, _, I.laid (a := s.heap.objs.size) (o := .dK []) (t' := s.toks) (fun _ _ q => Heap.get?_push_of_some _ q) (Nat.le_refl _) (dk_empty s.heap I.big), rfl, h _ (I.hok.fresh (Nat.le_refl _))⟩
end
structure M1 (X : Cx) (o : Expr) (m : Str) (apos : Pos) (e : Expr) (cpos : Pos) : Prop where
  base : attributeBase o m X.env (eval o X.env) = eval o X.env
  few : ((backTo cpos (starEach [e] X.env)).all (fun x => !x.1) && (backToKw cpos (keywordEach [] X.env)).all (fun x => x.1.isSome)
    && decide (([e] : List Expr).length + ([] : List Keyword).length + (if ([] : List Keyword).isEmpty then 0 else 1) < 30)) = true
  line : (apos.endLine == cpos.line) = true
  trees : backTo cpos (starEach [e] X.env) = [(false, eval e X.env)]
structure M2 (X : Cx) (o : Expr) (m : Str) (apos : Pos) (e f : Expr) (cpos : Pos) : Prop where
  base : attributeBase o m X.env (eval o X.env) = eval o X.env
  few : ((backTo cpos (starEach [e, f] X.env)).all (fun x => !x.1) && (backToKw cpos (keywordEach [] X.env)).all (fun x => x.1.isSome)
    && decide (([e, f] : List Expr).length + ([] : List Keyword).length + (if ([] : List Keyword).isEmpty then 0 else 1) < 30)) = true
  line : (apos.endLine == cpos.line) = true
  trees : backTo cpos (starEach [e, f] X.env) = [(false, eval e X.env), (false, eval f X.env)]
def IsD (H : Hp) (a : Addr) : Prop := (∃ kvs, Rd H a (.dK kvs)) ∨ ∃ kvs, Rd H a (.dT kvs)
theorem isD_at {X : Cx} {pins : List (Addr × Obj)} {σ : St} {H : Hp} {s : Shared} {a : Addr} (I : Inv X pins σ H s) (d : IsD H a) :
    s.TypeIs (.ref a) "dict" ∧ (∀ b, Value.ref a = .ref b → ∃ ob, s.heap.get? b = some ob ∧ ob.dict = none) ∧ (a == sysModules) = false := by
  rcases d with ⟨kvs, e⟩ | ⟨kvs, e⟩
  · obtain ⟨_, hd, vs, _, dd⟩ := dk_rd I.hok e
    refine ⟨dd.typeIs, fun b q => ?_, hd⟩
    cases q
    obtain ⟨ob, _, _, h1, h2, _⟩ := dd
    exact ⟨ob, h1, h2.2.1⟩
  · obtain ⟨_, hd, xs, _, dd⟩ := dt_rd I.hok e
    refine ⟨dd.typeIs, fun b q => ?_, hd⟩
    cases q
    obtain ⟨ob, _, _, h1, h2, _⟩ := dd
    exact ⟨ob, h1, h2.2.1⟩
section
variable {X : Cx} {pins : List (Addr × Obj)} {σ : St} {H : Hp} {s : Shared} {a : Addr} {y d : V} {u r : Value} {o : Option V} {A : Around} {E : Value → Shared → Prop}
theorem d_get1 {Q : Value → Shared → Prop} (hu : A.units + 1 < cLine) (I : Inv X pins σ H s) (g : DGet H a y o) (ry : RelV y u) (h : ∀ w' s', Inv X pins σ H s' → RelV (o.getD .non) w' → Q w' s') :
    wpAny (model X.prog X.w) A (call (.builtin "dict.get") [.ref a, u]) Q E s := by
  rcases g with ⟨kvs, k, e, ey, l⟩ | ⟨kvs, k, b, e, ey, eb, l⟩
  · subst ey
    obtain ⟨z, hd, vs, rel, dd⟩ := dk_rd I.hok e
    refine call_meetsIn PySem.F.slot_dict_get dd.typeIs PySem.F.entry_dict_get (PySem.F.args_dict_get_2 _ _) (meets_dict_get (mixKind X.prog X.w) a (kV_is ry) hd) ⟨_, dd.mapOf, h _ _ (I.tok _) ?_⟩
    rw [l]
    exact (rel.val k).getD rfl
  · subst ey
    cases (show u = Value.ref b from ry)
    obtain ⟨z, hd, xs, rel, dd⟩ := dt_rd I.hok e
    refine call_meetsIn PySem.F.slot_dict_get dd.typeIs PySem.F.entry_dict_get (PySem.F.args_dict_get_2 _ _) (meetsH_dict_get (tupleKind (mixKind X.prog X.w)) a b hd) ⟨tupleKind_room_in1 hu, k, xs, key_of I.hok eb, dd, h _ _ (I.tok _) ?_⟩
    rw [l]
    exact (rel.val k).getD rfl
end
def tDGet1 (td ty : TE) : TE := fun σ H Q => td σ H fun x H1 => ∃ a, x = .ref a ∧ IsD H1 a ∧ ty σ H1 fun y H2 => ∃ o, DGet H2 a y o ∧ Q (o.getD .non) H2
section
variable {X : Cx} {o e f : Expr} {apos cpos : Pos} {td ty tx : TE}
theorem pe_dget1 (hu : X.A.units + 1 < cLine) (ho : PE X o td) (he : PE X e ty) (m : M1 X o "get" apos e cpos) : PE X (.Call (.Attribute o "get" apos) [e] [] cpos) (tDGet1 td ty) := by
  intro pins s σ H Q I h
  refine wpAny_Call_method m.base m.few m.line PySem.F.plainAttrs_dict PySem.F.slot_dict_get PySem.F.type_dict_get (thn (ho pins s σ H _ I h) fun u s1 ⟨x, H1, I1, rx, a, ex, d, q1⟩ => ?_)
  subst ex
  obtain rfl : u = Value.ref a := rx
  obtain ⟨t1, t2, _⟩ := isD_at I1 d
  refine ⟨t1, t2, ?_⟩
  rw [m.trees]
  refine Calls.callWith_builtin rfl (Calls.evalArgs_plain (Calls.spliced_cons (thn (he pins s1 σ H1 _ I1 q1) fun iv s2 ⟨y, H2, I2, ry, ov, g, q2⟩ => Calls.spliced_nil ?_)))
  exact d_get1 hu I2 g ry fun w' s3 I3 rw' => ⟨_, H2, I3, rw', q2⟩
end
section
variable {X : Cx} {pins : List (Addr × Obj)} {σ : St} {H : Hp} {s : Shared} {a : Addr} {kvs : List (Key × V)} {A : Around} {E : Value → Shared → Prop}
end
section
variable {X : Cx} {pins : List (Addr × Obj)} {σ : St} {H : Hp} {s : Shared} {a : Addr} {y : V} {u : Value} {A : Around} {E : Value → Shared → Prop}
end
end L2
namespace L2
open PySem PySem.Spec PyProof.Rows
section
variable {X : Cx}
end
section
variable {κ : Type} [DecidableEq κ]
end
end L2
set_option Elab.async false
set_option linter.all false
set_option maxRecDepth 100000
set_option maxHeartbeats 4000000
namespace L2
open PySem PySem.Spec PyProof.Rows
theorem forIn_yield_fold {α β : Type} {f : α → β → Sem (ForInStep β)} {g : β → α → β} : ∀ (l : List α) (c : β), (∀ x ∈ l, ∀ c, f x c = pure (.yield (g c x))) → forIn l c f = (pure (l.foldl g c) : Sem β)
  | [], c, _ => rfl
  | x :: l, c, h => by
    rw [List.forIn_cons, h x List.mem_cons_self c, pure_bind]
    exact forIn_yield_fold l (g c x) fun y hy c => h y (List.mem_cons_of_mem _ hy) c
def closG (cells : List (Str × Addr)) (cs : List (Str × Addr)) (x : Str × NameKind) : List (Str × Addr) :=
  if (x.2 == .free) = true then match cells.lookup x.1 with | some c => (x.1, c) :: cs | none => cs else cs
def clos (names : List (Str × NameKind)) (cells : List (Str × Addr)) : List (Str × Addr) := names.foldl (closG cells) []
theorem closureFor_ok {scope : Scope} {env : Env} (h : ∀ x ∈ scope.names, x.2 = .free → ∃ c, env.cells.lookup x.1 = some c) : closureFor scope env = pure (clos scope.names env.cells) := by
  simp only [closureFor]
  rw [forIn_yield_fold (g := closG env.cells) scope.names [] (fun x hx c => by
    obtain ⟨n, kind⟩ := x
    by_cases hk : kind = .free
    · subst hk
      obtain ⟨a, ha⟩ := h _ hx rfl
      simp only [closG, cellOf, ha, beq_self_eq_true, if_true, pure_bind]
    · have : (kind == NameKind.free) = false := by simpa using hk
      simp only [closG, this, Bool.false_eq_true, if_false])]
  rfl
theorem closFold_mem {cells : List (Str × Addr)} {x : Str} {c : Addr} : ∀ (names : List (Str × NameKind)) (acc : List (Str × Addr)), (x, c) ∈ names.foldl (closG cells) acc → (x, c) ∈ acc ∨ cells.lookup x = some c
  | [], acc, h => .inl h
  | y :: r, acc, h => by
    rcases closFold_mem r _ h with h | h
    · unfold closG at h
      split at h
      · cases e : cells.lookup y.1 with
        | none => rw [e] at h; exact .inl h
        | some d =>
          rw [e] at h
          rcases List.mem_cons.mp h with h | h
          · cases h; exact .inr e
          · exact .inl h
      · exact .inl h
    · exact .inr h
theorem closFold_keep {cells : List (Str × Addr)} {p : Str × Addr} : ∀ (names : List (Str × NameKind)) (acc : List (Str × Addr)), p ∈ acc → p ∈ names.foldl (closG cells) acc
  | [], acc, h => h
  | y :: r, acc, h => by
    refine closFold_keep r _ ?_
    unfold closG
    split
    · cases e : cells.lookup y.1 with
      | none => exact h
      | some d => exact List.mem_cons_of_mem _ h
    · exact h
theorem closFold_in {cells : List (Str × Addr)} {x : Str} {c : Addr} (hc : cells.lookup x = some c) : ∀ (names : List (Str × NameKind)) (acc : List (Str × Addr)), (x, NameKind.free) ∈ names → (x, c) ∈ names.foldl (closG cells) acc
  | [], acc, h => by simp at h
  | y :: r, acc, h => by
    rcases List.mem_cons.mp h with h | h
    · subst h
      refine closFold_keep r _ ?_
      simp only [closG, beq_self_eq_true, if_true, hc]
      exact List.mem_cons_self
    · exact closFold_in hc r _ h
theorem lookup_of_mem {x : Str} {c : Addr} : ∀ {l : List (Str × Addr)}, (x, c) ∈ l → ∃ d, l.lookup x = some d
  | [], h => by simp at h
  | (y, d) :: r, h => by
    by_cases e : x = y
    · subst e; exact ⟨d, by simp [List.lookup_cons]⟩
    · rcases List.mem_cons.mp h with h | h
      · cases h; exact absurd rfl e
      · obtain ⟨d', q⟩ := lookup_of_mem h
        have : (x == y) = false := by simpa using e
        exact ⟨d', by simp [List.lookup_cons, this, q]⟩
theorem clos_sub {names : List (Str × NameKind)} {cells : List (Str × Addr)} {x : Str} {c : Addr} (h : (clos names cells).lookup x = some c) : cells.lookup x = some c := by
  rcases closFold_mem names [] (PySem.mem_of_lookup h) with h | h
  · simp at h
  · exact h
theorem clos_has {names : List (Str × NameKind)} {cells : List (Str × Addr)} {x : Str} {c : Addr} (hn : (x, NameKind.free) ∈ names) (hc : cells.lookup x = some c) : (clos names cells).lookup x = some c := by
  obtain ⟨d, q⟩ := lookup_of_mem (closFold_in hc names [] hn)
  have := clos_sub (names := names) q
  rw [hc] at this
  cases this
  exact q
theorem lookup_mapk {g : Str → NameKind → NameKind} {x : Str} : ∀ (l : List (Str × NameKind)), (l.map fun p => (p.1, g p.1 p.2)).lookup x = (l.lookup x).map (g x)
  | [] => rfl
  | (y, k) :: r => by
    by_cases e : x = y
    · subst e; simp [List.lookup_cons]
    · have : (x == y) = false := by simpa using e
      simp only [List.map_cons, List.lookup_cons, this]
      exact lookup_mapk r
theorem lookup_relabel {scope : Scope} {env : Env} {x : Str} : (relabel scope env).names.lookup x = (scope.names.lookup x).map fun k => if (k == .free && env.scope.kind == .function && env.kindOf x == some .cell) = true then .cell else k := by
  rw [← lookup_mapk (g := fun x k => if (k == .free && env.scope.kind == .function && env.kindOf x == some .cell) = true then .cell else k)]
  unfold relabel
  congr 1
  apply List.map_congr_left
  rintro ⟨n, k⟩ _
  dsimp only
  split <;> rfl
structure Blk (osc : Scope) (N : List Str) (scope : Scope) (own : List Str) (fv : List (Str × Nat)) : Prop where
  kind : scope.kind = .function
  nocell : ∀ y ∈ scope.names, y.2 ≠ .cell
  loc : ∀ y ∈ scope.names, y.2 = .local → scope.names.lookup y.1 = some .local
  free : ∀ y ∈ scope.names, y.2 = .free → (osc.names.lookup y.1 = some .cell ∨ osc.names.lookup y.1 = some .free)
  at' : ∀ p ∈ fv, N[p.2]? = some p.1 ∧ scope.names.lookup p.1 = some .free
  hown : ∀ x ∈ own, scope.names.lookup x = some .local
def blk (X : Cx) (scope : Scope) (own : List Str) (fv : List (Str × Nat)) (s : Shared) (H : Hp) (fp : List Addr) : Cx :=
  { X with N := own ++ fv.map (·.1), s₀ := s, H₀ := H, env := compEnvC scope (clos scope.names X.env.cells) s.heap.objs.size X.env, outer := X.stack, ex := fp, fn := fun _ => false, pn := [], xe := fun _ _ => False }
def fvals (fv : List (Str × Nat)) (σ : St) : St := fv.map fun p => (σ[p.2]?).join
def bσ (own : List Str) (fv : List (Str × Nat)) (σ : St) : St := own.map (fun _ => none) ++ fvals fv σ
def PTs (X : Cx) (ifs : List Expr) (t : TT) : Prop :=
  ∀ (pins : List (Addr × Obj)) (s : Shared) (σ : St) (H : Hp) (Q : Bool → Hp → Prop), Inv X pins σ H s → t σ H Q →
    wpAny (model X.prog X.w) X.A (forIn ifs true fun c r => if r = true then do let ok ← isTrue c X.env (eval c X.env); pure (ForInStep.yield ok) else pure (ForInStep.yield r)) (TP X pins σ Q) X.xe s
def tYes : TT := fun _ H Q => Q true H
theorem pts_nil {X : Cx} : PTs X [] tYes := fun pins s σ H Q I h => wpAny_tests_nil ⟨H, I, h⟩
def LcW (own : List Str) (fv : List (Str × Nat)) (J : It) (g : TG) (tc : TT) (te : TE) (σ : St) (D : Addr) (Q : VK) (H0 : Hp) : Prop := ∃ W : Nat → Nat → Hp → Prop,
  (∃ m, W 0 m H0) ∧ ∀ i m H, W i m H → (J.stop i H ∧ Q (.ref D) H) ∨ (J.go i H ∧ ∃ (NE : VK) (NF : Hp → Prop), (∀ v H5, NE v H5 → ∃ ys, H5 D = some (.lst ys) ∧ ys.length < sizeLine ∧ ∃ m', m' < m ∧ W (i + 1) m' (upd H5 D (.lst (ys ++ [v])))) ∧
    (∀ H4, NF H4 → ∃ m', m' < m ∧ W (i + 1) m' H4) ∧ ∀ x H2, J.yld i H x H2 → g x (bσ own fv σ) H2 fun σ3 H3 =>
    (∃ os : St, os.length = own.length ∧ σ3 = os ++ fvals fv σ) ∧ tc σ3 H3 fun b H4 => if b = true then te σ3 H4 NE else NF H4)
def tLc (own : List Str) (fv : List (Str × Nat)) (wi : TI) (g : TG) (tc : TT) (te : TE) : TE := fun σ H Q => wi σ H fun J H1 => ∀ D, H1 D = none → LcW own fv J g tc te σ D Q (upd H1 D (.lst []))
section
variable {prog : Program} {w : World} {A : Around} {R : Result → Shared → Prop} {s : Shared}
theorem codeAny_compLoop_tg {elt target iter : Expr} {ifs : List Expr} {scope : Scope} {pos : Pos} {it acc : Value} {env : Env} (I : Nat → Shared → Prop)
    (turn : ∀ n s, I n s → wpAny (model prog w) A (pyNext it) (fun r s₁ => match r with
      | none => R (.ok .next) s₁
      | some v => wpAny (model prog w) A (letOwnedTupleGo target it v) (fun _ s₁' => wpAny (model prog w) A (assign target env v) (fun _ s₂ =>
          wpAny (model prog w) A (forIn ifs true fun c r => if r = true then do let ok ← isTrue c env (eval c env); pure (ForInStep.yield ok) else pure (ForInStep.yield r)) (fun ok s₃ =>
            if ok = true then wpAny (model prog w) A (eval elt env) (fun x s₄ =>
              wpAny (model prog w) A (call (.builtin "list.append") [acc, x]) (fun _ s₅ => ∃ m, m < n ∧ I m s₅) (fun _ _ => False) s₄) (fun _ _ => False) s₃
            else ∃ m, m < n ∧ I m s₃) (fun _ _ => False) s₂) (fun _ _ => False) s₁') (fun _ _ => False) s₁) (fun _ _ => False) s)
    (n : Nat) (h : I n s) :
    codeAny (model prog w) A (.compLoop (.ListComp elt [⟨target, iter, ifs, 0⟩] scope pos) 0 it acc env) R s := by
  refine codeAny_loop rfl I (fun n s hI => ?_) n h
  show wpAny _ A ((compTurn (.ListComp elt [⟨target, iter, ifs, 0⟩] scope pos) 0 it acc env).onRaise (fun x => do noteFrame x env; theTreesLotGoes x)) _ _ s
  refine wpAny_noted ?_
  rw [compTurn_list]
  refine wpAny_bind (wpAny_standAt (wpAny_bind (wpAny_mono (turn n s hI) (fun r s₁ h₁ => ?_) fun _ _ h' => h'.elim)))
  cases r with
  | none => exact wpAny_pure h₁
  | some v =>
    refine wpAny_bind (wpAny_mono h₁ (fun _ s₁' h₁' => ?_) fun _ _ h' => h'.elim)
    refine wpAny_bind (wpAny_mono h₁' (fun _ s₂ h₂ => wpAny_bind (wpAny_mono h₂ (fun ok s₃ h₃ => ?_) fun _ _ h' => h'.elim)) fun _ _ h' => h'.elim)
    cases ok with
    | false => exact wpAny_pure ⟨rfl, h₃⟩
    | true =>
      exact wpAny_bind (wpAny_bind (wpAny_mono h₃ (fun x s₄ h₄ => wpAny_bind (wpAny_mono h₄ (fun _ s₅ h₅ => wpAny_pure (wpAny_pure ⟨rfl, h₅⟩)) fun _ _ h' => h'.elim)) fun _ _ h' => h'.elim))
end
section
variable {X : Cx} {pins : List (Addr × Obj)} {σ : St} {H : Hp} {s : Shared} {scope : Scope} {own : List Str} {fv : List (Str × Nat)}
theorem blk_ok (I : Inv X pins σ H s) (B : Blk X.env.scope X.N scope own fv) {fp : List Addr} {H0 : Hp} (hf : ∀ b ∈ fp, FpOk X pins H0 b) (hlt : ∀ b ∈ fp, b < s.heap.objs.size) : (blk X scope own fv s H fp).Ok where
  mod := I.ok.mod
  kind := B.kind
  glob := I.ok.glob
  blt := I.ok.blt
  above := Nat.le_refl _
  inj := fun x y c h1 h2 => I.ok.inj x y c (clos_sub h1) (clos_sub h2)
  has := fun x h => by
    have h : (relabel scope X.env).names.lookup x = some .cell ∨ (relabel scope X.env).names.lookup x = some .free := h
    rw [lookup_relabel] at h
    cases e : scope.names.lookup x with
    | none => rw [e] at h; rcases h with h | h <;> cases h
    | some k =>
      have hm := PySem.mem_of_lookup e
      have hk : k = .free := by
        rw [e] at h
        by_cases hk : k = .free
        · exact hk
        · have hb : (k == NameKind.free) = false := by simpa using hk
          have nc := B.nocell _ hm
          simp only [hb, Bool.false_and, Bool.false_eq_true, if_false, Option.map_some, Option.some.injEq] at h
          rcases h with h | h
          · exact absurd h nc
          · exact h
      subst hk
      have hc : X.env.kindOf x = some .cell ∨ X.env.kindOf x = some .free := B.free _ hm rfl
      obtain ⟨c, hc⟩ := I.ok.has x hc
      exact ⟨c, clos_has hm hc⟩
  cab := fun x c h => by cases h
  hd := I.ok.hd
  frames := I.ok.frames
  stk := .inl rfl
  exf := fun b hb => ⟨Nat.ne_of_lt (hlt b hb), fun x c h => (hf b hb).2.2.2.2.1 x c (clos_sub h)⟩
  bs := I.bs
  bsz := Nat.le_trans I.ok.bsz I.sz
  noex := fun b o e hb => by
    rcases (hf b hb).2.2.2.1 with z | z
    · exact I.ok.noex b o e z
    · exact absurd (Nat.lt_of_lt_of_le (Heap.lt_size e) (Nat.le_trans I.ok.bsz z)) (Nat.lt_irrefl _)
  exfs := fun b hb z => by
    rcases List.mem_cons.mp (I.stkSub b z) with e | e
    · exact (hf b hb).2.1 e
    · exact (hf b hb).2.2.1 e
  funs := I.stack
  frf := I.stkFree
theorem blk_start (I : Inv X pins σ H s) (B : Blk X.env.scope X.N scope own fv) {fp : List Addr} {H0 : Hp} (hf : ∀ b ∈ fp, FpOk X pins H0 b) (hlt : ∀ b ∈ fp, b < s.heap.objs.size) {h' : Heap} {tk : Nat} {m : Str → Option Value}
    (hn : h'.Ns s.heap.objs.size m) (k : ∀ b o, s.heap.get? b = some o → h'.get? b = some o) : Inv (blk X scope own fv s H fp) [] (bσ own fv σ) H { s with heap := h', toks := tk } := by
  refine ⟨blk_ok I B hf hlt, rfl, I.bare, Un.kept k, ⟨m, hn, fun i x v e1 e2 e3 => ?_⟩, fun x c e => ?_, I.hok.fresh (Nat.le_refl _), fun x c e => I.freeC x c (clos_sub e), fun p hp => absurd (show p ∈ ([] : List (Addr × Obj)) from hp) (by simp), I.hok.kept k, ?_⟩
  · have e1 : (own ++ fv.map (·.1))[i]? = some x := e1
    have hi : own.length ≤ i := by
      by_cases hi : i < own.length
      · unfold bσ at e2
        rw [List.getElem?_append_left (by simpa using hi), List.getElem?_map] at e2
        cases q : own[i]? with
        | none => rw [q] at e2; cases e2
        | some y => rw [q] at e2; cases e2
      · omega
    rw [List.getElem?_append_right hi, List.getElem?_map] at e1
    unfold bσ at e2
    rw [List.getElem?_append_right (by simpa using hi), List.length_map] at e2
    unfold fvals at e2
    rw [List.getElem?_map] at e2
    cases q : fv[i - own.length]? with
    | none => rw [q] at e1; cases e1
    | some p =>
      rw [q] at e1 e2
      have e1 : p.1 = x := Option.some.inj e1
      subst e1
      have e2 : (σ[p.2]?).join = some v := Option.some.inj e2
      have e2 : σ[p.2]? = some (some v) := by
        cases z : σ[p.2]? with
        | none => rw [z] at e2; cases e2
        | some o => rw [z] at e2; rw [show o = some v from e2]
      obtain ⟨hN, hfree⟩ := B.at' p (List.mem_of_getElem? q)
      have hm := PySem.mem_of_lookup hfree
      have hc := B.free _ hm rfl
      have hvis : Vis X.env.scope p.1 := hc.elim (fun z => .inr (.inl z)) fun z => .inr (.inr z)
      obtain ⟨mo, hno, hl⟩ := I.loc
      obtain ⟨u, r, l⟩ := hl p.2 p.1 v hN e2 hvis
      refine ⟨u, r, ?_⟩
      rcases l with ⟨z, _⟩ | ⟨_, c, ec, hcell⟩
      · have z : X.env.scope.names.lookup p.1 = some .local := z
        rcases hc with q | q <;> · rw [q] at z; cases z
      · refine .inr ⟨?_, c, clos_has hm ec, ?_⟩
        · show (relabel scope X.env).names.lookup p.1 = some .cell ∨ (relabel scope X.env).names.lookup p.1 = some .free
          rw [lookup_relabel, hfree, Option.map_some]
          by_cases z : ((NameKind.free == NameKind.free && X.env.scope.kind == .function && X.env.kindOf p.1 == some .cell) = true)
          · rw [if_pos z]; exact .inl rfl
          · rw [if_neg z]; exact .inr rfl
        · obtain ⟨o, ho, hd⟩ := hcell
          exact ⟨o, k _ _ ho, hd⟩
  · obtain ⟨v, o, ho, hd⟩ := I.cell x c (clos_sub e)
    exact ⟨v, o, k _ _ ho, hd⟩
  · unfold bσ fvals
    simp [blk]
theorem blk_end {H' : Hp} {s' : Shared} {σ' : St} {fp : List Addr} {H0 : Hp} (I : Inv X pins σ H s) (hf : ∀ b ∈ fp, FpOk X pins H0 b) (J : Inv (blk X scope own fv s H fp) [] σ' H' s') : Inv X pins σ H' s' ∧ FpOk X pins H' s.heap.objs.size ∧ ∃ m, s'.heap.Ns s.heap.objs.size m := by
  have C : FpOk X pins H' s.heap.objs.size := I.fpOk (Nat.le_refl _) J.free
  refine ⟨I.call' (ch := fp) J.os J.base J.hok J.bare fun b hb => ⟨(hf b hb).2.2.2.1, (hf b hb).2.1, (hf b hb).2.2.2.2.1, (hf b hb).2.2.2.2.2⟩, C, ?_⟩
  obtain ⟨m, hn, _⟩ := J.loc
  exact ⟨m, hn⟩
theorem blk_gone {C : Addr} {h' : Heap} (I : Inv X pins σ H s) (c : FpOk X pins H C) (hs : Heap.SameBut C s.heap h') : Inv X pins σ H { s with heap := h' } :=
  I.turned (t' := s.toks) (fun b o hb e => (hs.2 b hb).trans e) c.1 c.2.1 c.2.2.2.1 c.2.2.2.2.1 c.2.2.2.2.2
theorem lc_run {elt tg iter : Expr} {ifs : List Expr} {pos : Pos} {g : TG} {tc : TT} {te : TE} {R : Value → Addr → Result → Shared → Prop} {E : Value → Shared → Prop}
    (hc : X.calm = true) (B : Blk X.env.scope X.N scope own fv) (hg : ∀ s H fp, PG (blk X scope own fv s H fp) tg g) (ht : ∀ s H fp, PTs (blk X scope own fv s H fp) ifs tc) (he : ∀ s H fp, PE (blk X scope own fv s H fp) elt te)
    {it : Addr} {fp : List Addr} {tn : Nat → Heap → Prop} {J : It} (I : Inv X pins σ H s) (T : Turn X.prog X.w X.K tg J fp it tn) (st : tn 0 s.heap) (hf : ∀ b ∈ fp, FpOk X pins H b) {Q : VK}
    (hw : ∀ D, H D = none → LcW own fv J g tc te σ D Q (upd H D (.lst [])))
    (hR : ∀ D C H' s', Inv X pins σ H' s' → FpOk X pins H' C → (∃ m, s'.heap.Ns C m) → Q (.ref D) H' → R (.ref D) C (.ok .next) s') :
    wpAny (model X.prog X.w) X.A (newList []) (fun acc s₃ => wpAny (model X.prog X.w) X.A (newFunctionEnv scope X.env.globals (clos scope.names X.env.cells) [] X.env.qual none .none (some X.env)) (fun cenv s₄ =>
      codeAny (model X.prog X.w) X.A (.compStart (.ListComp elt [⟨tg, iter, ifs, 0⟩] scope pos) 0 (.ref it) acc { cenv with scope := relabel scope X.env }) (R acc cenv.locals) s₄) E s₃) E s := by
  refine wpAny_newObj_type (wpAny_newFunctionEnv B.nocell (by intro y hy; simp at hy) (fun h₁ hns₁ hsb₁ => ?_) B.kind)
  dsimp only at hns₁ hsb₁ ⊢
  have I3 : Inv X pins σ (upd H s.heap.objs.size (.lst [])) { s with heap := s.heap.push { cls := .type "list", data := .seq ([] : List Value).toArray } } := I.lnew (t' := s.toks) .nil (Nat.zero_le _)
  obtain ⟨W, ⟨m0, w0⟩, turn⟩ := hw s.heap.objs.size I.fresh
  have fpl : ∀ b ∈ fp, b < s.heap.objs.size := fun b hb => by
    obtain ⟨o, e, _⟩ := T.obj _ _ st b hb
    exact Heap.lt_size e
  have hf3 : ∀ b ∈ fp, FpOk X pins (upd H s.heap.objs.size (.lst [])) b := fun b hb => ⟨by rw [upd_ne (Nat.ne_of_lt (fpl b hb))]; exact (hf b hb).1, (hf b hb).2⟩
  generalize hS3 : ({ s with heap := s.heap.push { cls := .type "list", data := .seq ([] : List Value).toArray } } : Shared) = s3 at I3
  have hS3h : s.heap.push { cls := .type "list", data := .seq ([] : List Value).toArray } = s3.heap := by rw [← hS3]
  have fpl3 : ∀ b ∈ fp, b < s3.heap.objs.size := fun b hb => by
    rw [← hS3h, Heap.size_push]
    exact Nat.lt_succ_of_lt (fpl b hb)
  have e3 : ∀ (h : Heap) (tk : Nat), ({ s with heap := h, toks := tk } : Shared) = { s3 with heap := h, toks := tk } := fun h tk => by rw [← hS3]
  rw [hS3h] at hns₁ hsb₁ ⊢
  rw [e3]
  have k3 : ∀ b o, s3.heap.get? b = some o → h₁.get? b = some o := fun b o e => hsb₁.extBut b o (Nat.ne_of_lt (Heap.lt_size e)) (Heap.get?_push_of_some _ e)
  have J0 := blk_start (σ := σ) I3 B hf3 fpl3 (tk := s.toks + ([] : List (Str × Value)).length) hns₁ k3
  have ksz : ∀ b o, s.heap.get? b = some o → h₁.get? b = some o := fun b o e => k3 b o (by rw [← hS3h]; exact Heap.get?_push_of_some _ e)
  have st1 : tn 0 h₁ := T.keep _ _ _ st fun b _ o e => ksz b o e
  have stat : ∀ {H' : Hp}, (∀ b ∈ fp, H' b = none) → ∀ b ∈ fp, FpOk (blk X scope own fv s3 (upd H s.heap.objs.size (.lst [])) fp) [] H' b := fun hn b hb =>
    ⟨hn b hb, Nat.ne_of_lt (fpl3 b hb), fun z => (by
      rcases List.mem_cons.mp (I.stkSub b z) with e | e
      · exact (hf b hb).2.1 e
      · exact (hf b hb).2.2.1 e), .inl hb, fun x c e => (hf b hb).2.2.2.2.1 x c (clos_sub e), fun p hp => absurd (show p ∈ ([] : List (Addr × Obj)) from hp) (by simp)⟩
  generalize hX' : blk X scope own fv s3 (upd H s.heap.objs.size (.lst [])) fp = X' at J0 stat
  have eP : X'.prog = X.prog := by rw [← hX']; rfl
  have eW : X'.w = X.w := by rw [← hX']; rfl
  have eK : X'.K = X.K := by rw [← hX']; rfl
  have eA : X'.A = X.A := by rw [← hX']; rfl
  have eE : X'.xe = fun _ _ => False := by rw [← hX']; rfl
  have eC : X'.calm = true := by rw [← hX']; exact hc
  have eEnv : compEnvC scope (clos scope.names X.env.cells) s3.heap.objs.size X.env = X'.env := by rw [← hX']; rfl
  have Hg : PG X' tg g := by rw [← hX']; exact hg _ _ _
  have Ht : PTs X' ifs tc := by rw [← hX']; exact ht _ _ _
  have He : PE X' elt te := by rw [← hX']; exact he _ _ _
  have loop : codeAny (model X.prog X.w) X.A (.compLoop (.ListComp elt [⟨tg, iter, ifs, 0⟩] scope pos) 0 (.ref it) (.ref s.heap.objs.size) X'.env) (R (.ref s.heap.objs.size) s3.heap.objs.size) { s3 with heap := h₁, toks := s.toks + ([] : List (Str × Value)).length } := by
    refine codeAny_compLoop_tg (fun n s' => ∃ i H', Inv X' [] (bσ own fv σ) H' s' ∧ tn i s'.heap ∧ (∀ b ∈ fp, H' b = none) ∧ W i n H') ?_ m0 ⟨0, _, J0, st1, fun b hb => (hf3 b hb).1, w0⟩
    rintro n s4 ⟨i, H4, J4, st4, fr4, w4⟩
    rcases turn i n H4 w4 with ⟨stop, q⟩ | ⟨go, NE, NF, hNE, hNF, step⟩
    · have key := T.done X' eP eW eK eC i [] s4 _ H4 (fun _ _ => False) J4 (stat fr4) st4 stop
      rw [eA] at key
      refine thn key fun r s5 ⟨hr, J5⟩ => ?_
      subst hr
      rw [← hX'] at J5
      obtain ⟨I5, c5, m5⟩ := blk_end I3 hf3 J5
      exact hR _ _ _ _ I5 c5 m5 q
    · have key := T.item X' eP eW eK eC i [] s4 _ H4 (fun _ _ => False) J4 (stat fr4) st4 go
      rw [eA] at key
      refine thn key fun r s5 ⟨u, hr, h5⟩ => ?_
      subst hr
      refine thn h5 fun _ s6 ⟨x, H6, J6, r6, y6, st6, fr6⟩ => ?_
      have J6' := J6.pinned (stat fr6) (T.obj _ _ st6)
      have kg := Hg _ s6 _ H6 x u _ J6' r6 (step x H6 y6)
      rw [eP, eW, eA, eE] at kg
      refine thn kg fun _ s7 ⟨σ7, H7, J7, ⟨os, ol, eσ⟩, q7⟩ => ?_
      have kt := Ht _ s7 σ7 H7 _ J7 q7
      rw [eP, eW, eA, eE] at kt
      refine thn kt fun ok s8 ⟨H8, J8, q8⟩ => ?_
      have again : ∀ {s9 : Shared} {H9 : Hp} {mm : Nat}, Inv X' ([] ++ pinsAt fp s6.heap) σ7 H9 s9 → mm < n → W (i + 1) mm H9 → ∃ m, m < n ∧ ∃ i H', Inv X' [] (bσ own fv σ) H' s9 ∧ tn i s9.heap ∧ (∀ b ∈ fp, H' b = none) ∧ W i m H' := fun {s9 H9 mm} J9 hm w9 => by
        refine ⟨mm, hm, i + 1, H9, (J9.unpinned).weak ?_ ?_, T.keep _ _ _ st6 fun b hb o e => (J9.pin (b, o) (List.mem_append_right _ (List.mem_append_right _ (mem_pinsAt hb e)))).1, fun b hb => ?_, w9⟩
        · rw [eσ]; unfold bσ; rw [List.length_append, List.length_append, List.length_map, ol]
        · intro j v e
          rw [eσ]
          unfold bσ at e
          by_cases hj : j < own.length
          · rw [List.getElem?_append_left (by simpa using hj), List.getElem?_map] at e
            cases q : own[j]? with
            | none => rw [q] at e; cases e
            | some y => rw [q] at e; cases e
          · rw [List.getElem?_append_right (by simpa using hj), List.length_map] at e
            rw [List.getElem?_append_right (by omega), ol]
            exact e
        · obtain ⟨o, e, d⟩ := T.obj _ _ st6 b hb
          exact (J9.pin (b, o) (List.mem_append_right _ (List.mem_append_right _ (mem_pinsAt hb e)))).2.1
      cases ok with
      | false =>
        rw [if_neg Bool.false_ne_true] at q8 ⊢
        obtain ⟨m', hm, w8⟩ := hNF _ q8
        exact again J8 hm w8
      | true =>
        rw [if_pos rfl] at q8 ⊢
        have ke := He _ s8 σ7 H8 _ J8 q8
        rw [eP, eW, eA, eE] at ke
        refine thn ke fun xv s9 ⟨v, H9, J9, r9, q9⟩ => ?_
        obtain ⟨ys, hD, hz, m', hm, w9⟩ := hNE v H9 q9
        have := (mt_append (X := X')) _ s9 σ7 H9 (.ref s.heap.objs.size) [v] (.ref s.heap.objs.size) [xv] (fun _ H10 => W (i + 1) m' H10) J9 rfl (.cons r9 .nil) ⟨_, ys, v, rfl, rfl, hD, hz, w9⟩
        rw [eP, eW, eA, eE] at this
        exact thn this fun _ s10 ⟨_, H10, J10, _, w10⟩ => again J10 hm w10
  rw [← eEnv] at loop
  exact codeAny_compStart_list loop (T.self _ 0 _ _ _ st1 loop)
end
section
variable {X : Cx} {scope : Scope} {own : List Str} {fv : List (Str × Nat)} {elt tg iter : Expr} {ifs : List Expr} {pos : Pos} {wi : TI} {g : TG} {tc : TT} {te : TE}
theorem Blk.clos (B : Blk X.env.scope X.N scope own fv) (ok : X.Ok) : closureFor scope X.env = pure (L2.clos scope.names X.env.cells) :=
  closureFor_ok fun y hy hk => ok.has y.1 (B.free y hy hk)
theorem pe_lc {osc : Scope} {N0 : List Str} (hc : X.calm = true) (hsc : X.env.scope = osc) (hN0 : X.N = N0) (B : Blk osc N0 scope own fv) (hi : PI X tg iter wi) (hg : ∀ s H fp, PG (blk X scope own fv s H fp) tg g) (ht : ∀ s H fp, PTs (blk X scope own fv s H fp) ifs tc) (he : ∀ s H fp, PE (blk X scope own fv s H fp) elt te)
    (hs : ∀ x, foldedSetIterable iter X.env x = pure x := by intro _; rfl) : PE X (.ListComp elt [⟨tg, iter, ifs, 0⟩] scope pos) (tLc own fv wi g tc te) := by
  subst hsc hN0
  intro pins s σ H Q I h
  rw [eval_ListComp]
  refine wpAny_comprehension_free (use := none) rfl hs (B.clos I.ok) B.kind B.loc (thn (hi pins s σ H _ I h) fun v s1 h1 => thn h1 fun itv s2 h2 => ?_)
  obtain ⟨it, fp, tn, J, H2, rfl, I2, T, st2, f2, hw⟩ := h2
  refine lc_run hc B hg ht he I2 T st2 f2 hw fun D C H' s' I' c' m' q => ?_
  obtain ⟨m, hn⟩ := m'
  exact ⟨m, hn, fun h' hs' => ⟨.ref D, H', blk_gone I' c' hs', rfl, q⟩⟩
theorem ps_setLc {osc : Scope} {N0 : List Str} {i : Nat} {x : Str} {pos' spos : Pos} (hc : X.calm = true) (hsc : X.env.scope = osc) (hN0 : X.N = N0) (hN : X.N.Nodup) (hi' : X.N[i]? = some x) (hx : Loc X.env.scope x) (B : Blk osc N0 scope own fv) (hi : PI X tg iter wi) (hg : ∀ s H fp, PG (blk X scope own fv s H fp) tg g) (ht : ∀ s H fp, PTs (blk X scope own fv s H fp) ifs tc) (he : ∀ s H fp, PE (blk X scope own fv s H fp) elt te)
    (hsw : swapsWith (.ListComp elt [⟨tg, iter, ifs, 0⟩] scope pos) (some (.Name x pos')) spos.line X.env = pure true := by rfl)
    (hs : ∀ x, foldedSetIterable iter X.env x = pure x := by intro _; rfl) (hf : X.fn x = true ∨ X.env.scope.names.lookup x = some .local := by first | exact .inl rfl | exact .inr rfl | assumption) :
    PS X (.Assign [.Name x pos'] (.ListComp elt [⟨tg, iter, ifs, 0⟩] scope pos) spos) (tAsg (tLc own fv wi g tc te) (gName i)) := by
  subst hsc hN0
  intro pins s σ H D I h
  rw [exec_Assign_Name_used _ _ _ _ hsw]
  refine wpAny_bind (wpAny_standAt (wpAny_bind ?_))
  show wpAny _ X.A (do let _ ← comprehension (.ListComp elt [⟨tg, iter, ifs, 0⟩] scope pos) scope X.env _ (newList []) false (eval iter X.env) (some (assign (.Name x pos') X.env))) _ _ s
  refine wpAny_bind (wpAny_mono (wpAny_comprehension_free (use := some (assign (.Name x pos') X.env)) (Q := fun _ s' => SP X pins D .next s') rfl hs (B.clos I.ok) B.kind B.loc
    (thn (hi pins s σ H _ I h) fun v s1 h1 => thn h1 fun itv s2 h2 => ?_)) (fun _ s' hq => wpAny_pure (wpAny_pure hq)) fun _ _ e => e)
  obtain ⟨it, fp, tn, J, H2, rfl, I2, T, st2, f2, hw⟩ := h2
  refine lc_run (Q := fun x H1 => gName i x σ H1 D.nx) hc B hg ht he I2 T st2 f2 hw fun L C H' s' I' c' m' q => ?_
  obtain ⟨m, hn⟩ := m'
  show wpAny _ X.A (assign (.Name x pos') X.env (.ref L)) _ _ _
  refine wpAny_assign_Name (store_ok2 I' hN hi' hx (v := .ref L) rfl (fun s'' I'' ⟨a, hsb, ha⟩ => ?_) hf)
  have hCa : C ≠ a := by
    rcases ha with ha | ha
    · rw [ha]; exact c'.2.1
    · exact (c'.2.2.2.2.1 x a ha).symm
  exact ⟨m, hn.sameBut hsb hCa, fun h' hs' => ⟨_, H', blk_gone I'' c' hs', q⟩⟩
end
section
variable {own : List Str} {fv : List (Str × Nat)} {g : TG} {tc : TT} {te : TE} {σ : St} {D : Addr} {Q : VK} {H0 : Hp}
end
end L2
set_option Elab.async false
set_option linter.all false
set_option maxRecDepth 100000
set_option maxHeartbeats 4000000
namespace L2
open PySem PySem.Spec PyProof.Rows
def Its (x : Str) : It := ⟨fun i _ => i < x.cps.toList.length, fun i H v H' => H' = H ∧ ∃ c, x.cps.toList[i]? = some c ∧ v = .str ⟨#[c]⟩, fun i _ => i = x.cps.toList.length⟩
theorem go_str {M : Model} {A : Around} {E : Value → Shared → Prop} {s : Shared} {tg : Expr} {it : Addr} {x : Str} {t : Tok} {Q : Unit → Shared → Prop} (hQ : Q () s) : wpAny M A (letOwnedTupleGo tg (.ref it) (.str x t)) Q E s := by
  unfold letOwnedTupleGo
  cases tg <;> exact wpAny_pure hQ
theorem turn_str {P : Program} {w : World} {K : PySem.W.Frag} {tg : Expr} (it : Addr) (x : Str) (t : Tok) (ty : String) (hty : ty = "str_ascii_iterator" ∨ ty = "str_iterator") : Turn P w K tg (Its x) [it] it (fun i h => h.IsStrIter it ty x t i) where
  mem := by simp
  obj := fun i h st b hb => by
    have e : b = it := by simpa using hb
    subst e
    obtain ⟨o, e, c, d⟩ := st
    exact ⟨o, e, fun v z => by rw [d] at z; cases z⟩
  keep := fun i h h' st k => let ⟨o, ho, r⟩ := st; ⟨o, k it (by simp) o ho, r⟩
  item := by
    intro X hP hw hK hc i pins s σ H E I hf st hg
    subst hP hw hK
    obtain ⟨f0, f1, f2, f3, f4, f5⟩ := hf it (by simp)
    have hg : i < x.cps.toList.length := hg
    have hg' : i < x.cps.size := by simpa using hg
    have W : Walks X.prog X.w X.A it [it] [it] x.cps.size (SignAt x) (fun i h => h.IsStrIter it ty x t i) := by
      rcases hty with rfl | rfl
      · exact Walks.strAscii (I.ok.hd hc) it x t
      · exact Walks.strWide (I.ok.hd hc) it x t
    refine W.item i s _ _ hg' st fun v h' tk hv st' kk => ?_
    obtain ⟨c, u, hcx, rfl⟩ := hv
    have I1 : Inv X pins σ H { s with heap := h', toks := tk } := I.turned (fun b o hb e => kk b o (by simpa using hb) e) f0 f1 f3 f4 f5
    exact ⟨_, rfl, go_str ⟨.str ⟨#[c]⟩, H, I1, ⟨u, rfl⟩, ⟨rfl, c, by simpa using hcx, rfl⟩, st', fun b hb => (hf b hb).1⟩⟩
  done := by
    intro X hP hw hK hc i pins s σ H E I hf st hg
    subst hP hw hK
    obtain ⟨f0, f1, f2, f3, f4, f5⟩ := hf it (by simp)
    have hg : i = x.cps.toList.length := hg
    have hg' : i = x.cps.size := by simpa using hg
    subst hg'
    have W : Walks X.prog X.w X.A it [it] [it] x.cps.size (SignAt x) (fun i h => h.IsStrIter it ty x t i) := by
      rcases hty with rfl | rfl
      · exact Walks.strAscii (I.ok.hd hc) it x t
      · exact Walks.strWide (I.ok.hd hc) it x t
    exact W.done s _ _ st fun h' tk kk => ⟨rfl, I.turned (fun b o hb e => kk b o (by simpa using hb) e) f0 f1 f3 f4 f5⟩
  self := fun A i s Q E st h => by
    rcases hty with rfl | rfl
    · exact wpAny_pyIter_striter_ascii st h
    · exact wpAny_pyIter_striter_wide st h
section
variable {X : Cx} {tg : Expr}
def iStr (tl : TE) : TI := fun σ H R => tl σ H fun x H1 => ∃ y, x = .str y ∧ R (Its y) H1
theorem pi_str {l : Expr} {tl : TE} (hl : PE X l tl) : PI X tg l (iStr tl) := by
  intro pins s σ H R I h
  refine thn (hl pins s σ H _ I h) fun v s1 ⟨x, H1, I1, r1, q1⟩ => ?_
  obtain ⟨y, e, q⟩ := q1
  subst e
  obtain ⟨t, rfl⟩ := r1
  have fin : ∀ (ty : String), (ty = "str_ascii_iterator" ∨ ty = "str_iterator") → PIE X pins σ tg R (.ref s1.heap.objs.size) { s1 with heap := s1.heap.push { cls := .type ty, data := .fields #[.str y t, .int 0 0] } } := fun ty hty => by
    refine ⟨s1.heap.objs.size, [s1.heap.objs.size], _, _, H1, rfl, I1.kept (t' := s1.toks) fun b o e => Heap.get?_push_of_some _ e, turn_str _ y t ty hty, ⟨_, Heap.get?_push_size _ rfl, rfl, rfl⟩, fun b hb => ?_, q⟩
    have e : b = s1.heap.objs.size := by simpa using hb
    subst e
    exact I1.fpOk (Nat.le_refl _) (I1.hok.fresh (Nat.le_refl _))
  cases ha : y.cps.all (· < 128)
  · exact wpAny_pyIter_wide ha (fin _ (.inr rfl))
  · exact wpAny_pyIter_ascii ha (fin _ (.inl rfl))
end
section
variable {own : List Str} {fv : List (Str × Nat)} {g : TG} {tc : TT} {te : TE} {σ : St} {D : Addr} {Q : VK} {H0 : Hp}
end
section
variable {X : Cx}
theorem range_all_map (bs : List Bool) : ((List.range bs.length).all fun i => bs.getD i false) = bs.all id := by
  rw [Bool.eq_iff_iff, List.all_eq_true, List.all_eq_true]
  constructor
  · intro h x hx
    obtain ⟨i, hi⟩ := List.getElem?_of_mem hx
    have hlt := (List.getElem?_eq_some_iff.mp hi).1
    have := h i (List.mem_range.mpr hlt)
    rw [List.getD_eq_getElem?_getD, hi] at this
    exact this
  · intro h i hi
    have hlt := List.mem_range.mp hi
    rw [List.getD_eq_getElem?_getD, List.getElem?_eq_getElem hlt]
    exact h _ (List.getElem_mem hlt)
theorem call_all (hc : X.calm = true) : CallR X (.builtin "all") (fun xs H Q => ∃ p, ∃ bs : List Bool, xs = [.ref p] ∧ SqL X.K H p (bs.map V.bl) ∧ Q (.bl (bs.all id)) H) := by
  intro pins s σ H xs us Q I r h
  obtain ⟨p, bs, rfl, hq, q⟩ := h
  obtain ⟨u, rfl, ru⟩ := vals1 r
  cases ru
  obtain ⟨its, rv, pl, hz⟩ := I.list hq
  have hlen : bs.length = its.length := by have := rv.length; simpa using this
  have hv : ∀ (i : Nat) v, its[i]? = some v → v = .bool (bs.getD i false) := fun i v hi => by
    have hib : i < bs.length := by rw [hlen]; exact (List.getElem?_eq_some_iff.mp hi).1
    have hb : (bs.map V.bl)[i]? = some (.bl (bs.getD i false)) := by
      rw [List.getElem?_map, List.getElem?_eq_getElem hib, List.getD_eq_getElem?_getD, List.getElem?_eq_getElem hib]; rfl
    obtain ⟨u, hu, ru⟩ := rv.get hb
    rw [hi] at hu; cases hu
    exact ru
  have hne : p ≠ s.heap.objs.size := Nat.ne_of_lt (by obtain ⟨o, n, e, _⟩ := pl; exact Heap.lt_size e)
  refine call_all_walk ?_
  refine wpAny_pyIter_list pl.isList ?_
  refine ⟨s.heap.objs.size, _, _, its.toArray.size, _, _, fun i => bs.getD i false, rfl, Walks.list (A := X.A.in1) (I.ok.hd hc) s.heap.objs.size p hne its.toArray, ⟨⟨_, Heap.get?_push_size _ rfl, rfl, rfl⟩, ?_⟩, ?_, ?_⟩
  · exact pl.isList.at fun o e => Heap.get?_push_of_some _ e
  · intro i v s' Q' E' hP hQ'
    have hP : its.toArray[i]? = some v := hP
    rw [hv i v (by simpa using hP)]
    exact wpAny_truthy_bool hQ'
  · intro h' tk kk
    rw [List.size_toArray, ← hlen, range_all_map]
    refine ⟨.bl _, H, I.kept fun b o e => kk b o ?_ (Heap.get?_push_of_some _ e), rfl, q⟩
    intro z
    have z : b = s.heap.objs.size := by simpa using z
    exact absurd (z ▸ Heap.lt_size e) (Nat.lt_irrefl _)
theorem op_in_one : OpR X (compareOp .In) (fun x y H Q => ∃ c z, x = .str ⟨#[c]⟩ ∧ y = .str z ∧ Q (.bl (decide (c ∈ z.cps.toList))) H) := by
  intro pins s σ H x y v u Q I rx ry h
  obtain ⟨c, z, rfl, rfl, q⟩ := h
  exact op_in_str pins s σ H _ _ v u Q I rx ry ⟨_, _, rfl, rfl, by rw [PySem.StrLaws.found_one]; exact q⟩
theorem TyOf.kit {pins : List (Addr × Obj)} {σ : St} {H : Hp} {s : Shared} {x : V} {u t : Value} (I : Inv X pins σ H s) (rx : RelV x u) (ty : TyOf X.K H x t) : ∃ HH, PySem.W.KitX X.K u t HH ∧ HH s.heap ∧ u ≠ .builtin "__main__.__loader__#opaque" := by
  cases ty with
  | non => cases (show u = Value.none from rx); exact ⟨_, PySem.W.kitx_none, True.intro, fun z => nomatch z⟩
  | bl y => cases (show u = Value.bool y from rx); exact ⟨_, PySem.W.kitx_bool, True.intro, fun z => nomatch z⟩
  | int i => obtain ⟨t, q⟩ := (show ∃ t, u = Value.int i t from rx); cases q; exact ⟨_, PySem.W.kitx_int, True.intro, fun z => nomatch z⟩
  | str y => obtain ⟨t, q⟩ := (show ∃ t, u = Value.str y t from rx); cases q; exact ⟨_, PySem.W.kitx_str, True.intro, fun z => nomatch z⟩
  | flt y => obtain ⟨t, q⟩ := (show ∃ t, u = Value.float y t from rx); cases q; exact ⟨_, PySem.W.kitx_float, True.intro, fun z => nomatch z⟩
  | @lst a xs ea =>
    cases (show u = Value.ref a from rx)
    obtain ⟨_, _, n, _, h1⟩ := (show ObjOk X.prog X.w H s.heap a (.lst xs) from I.hok a _ ea)
    exact ⟨_, PySem.W.kitx_list, ⟨_, h1, rfl⟩, fun z => nomatch z⟩
  | @frz a ob xs ea =>
    cases (show u = Value.ref a from rx)
    obtain ⟨_, _, _, n, _, h1⟩ := (show ObjOk X.prog X.w H s.heap a (.frz ob (.lst xs)) from I.hok a _ ea)
    exact ⟨_, PySem.W.kitx_list, ⟨_, h1, rfl⟩, fun z => nomatch z⟩
  | @tup a xs ea =>
    cases (show u = Value.ref a from rx)
    obtain ⟨_, _, _, p⟩ := (show ObjOk X.prog X.w H s.heap a (.tup xs) from I.hok a _ ea)
    obtain ⟨o, h1, h2, _⟩ := p
    exact ⟨_, PySem.W.kitx_tuple, ⟨o, h1, h2⟩, fun z => nomatch z⟩
  | @dK a kvs ea =>
    cases (show u = Value.ref a from rx)
    obtain ⟨_, _, vs, _, p⟩ := (show ObjOk X.prog X.w H s.heap a (.dK kvs) from I.hok a _ ea)
    obtain ⟨o, es, ep, h1, h2, _⟩ := p
    exact ⟨_, PySem.W.kitx_dict, ⟨o, h1, h2.1⟩, fun z => nomatch z⟩
  | @dT a kvs ea =>
    cases (show u = Value.ref a from rx)
    obtain ⟨_, _, xs, _, o, es, ep, h1, h2, _⟩ := (show ObjOk X.prog X.w H s.heap a (.dT kvs) from I.hok a _ ea)
    exact ⟨_, PySem.W.kitx_dict, ⟨o, h1, h2.1⟩, fun z => nomatch z⟩
  | @ins a C dx fs ea cl ha hn htk hm =>
    cases (show u = Value.ref a from rx)
    obtain ⟨mA, O, _⟩ := ins_get I.hok ea
    obtain ⟨od, J, _⟩ := O.look
    exact ⟨_, PySem.W.kitx_own (cl.get _) cl.hd ha hn htk hm, J, fun z => nomatch z⟩
theorem vals_ty : ∀ {ns : List String} {its : List Value}, Vals (ns.map V.ty) its → its = ns.map Value.type
  | [], _, rv => by cases rv; rfl
  | a :: r, _, rv => by
    rw [List.map_cons] at rv
    cases rv with
    | cons r1 r2 =>
      cases r1
      rw [List.map_cons, vals_ty r2]
end
end L2
set_option Elab.async false
set_option linter.all false
set_option maxRecDepth 100000
set_option maxHeartbeats 4000000
namespace L2
open PySem PySem.Spec PyProof.Rows
section
variable {X : Cx}
theorem pe_globI {x : Str} {i : Int} {pos : Pos} (hg : Gl X x) (hm : ∃ t, X.mg x = some (.int i t)) (hd : (x == ("__debug__" : Str)) = false := by decide) : PE X (.Name x pos) (tC (.int i)) :=
  let ⟨t, e⟩ := hm; pe_glob (v := .int i) hg e ⟨t, rfl⟩ hd
theorem pe_globS {x y : Str} {pos : Pos} (hg : Gl X x) (hm : ∃ t, X.mg x = some (.str y t)) (hd : (x == ("__debug__" : Str)) = false := by decide) : PE X (.Name x pos) (tC (.str y)) :=
  let ⟨t, e⟩ := hm; pe_glob (v := .str y) hg e ⟨t, rfl⟩ hd
end
theorem Same.new {H H' : Hp} {d : Addr} {o : HO} (e : Same H H') (h : H d = none) : Same H (upd H' d o) := fun b u q => by
  rw [upd_ne (ne_of_none q h)]; exact e b u q
theorem Same.tup {K : PySem.W.Frag} {H H' : Hp} {a : Addr} {xs : List V} (e : Same H H') (h : SqT K H a xs) : SqT K H' a xs := by
  rcases h with (h | ⟨o, h⟩) | h
  · exact .inl (.inl (e _ _ h))
  · exact .inl (.inr ⟨o, e _ _ h⟩)
  · exact .inr h
def cell (ns : List Int) (k : Int) : Int := ns.getD k.toNat 0
end L2
set_option Elab.async false
set_option linter.all false
set_option maxRecDepth 100000
set_option maxHeartbeats 4000000
namespace L2
open PySem PySem.Spec PyProof.Rows
section
variable {X : Cx}
end
def splitL (c : Nat) : List Nat → List (List Nat)
  | [] => [[]]
  | d :: r => if d = c then [] :: splitL c r else match splitL c r with
    | h :: t => (d :: h) :: t
    | [] => [[d]]
theorem splitL_ne (c : Nat) : ∀ l, splitL c l ≠ []
  | [] => by simp [splitL]
  | d :: r => by
    unfold splitL
    split
    · simp
    · cases e : splitL c r <;> simp
theorem splitL_free (c : Nat) : ∀ (w l : List Nat), ¬ c ∈ w → ∃ h t, splitL c l = h :: t ∧ splitL c (w ++ l) = (w ++ h) :: t
  | [], l, _ => by
    cases e : splitL c l with
    | nil => exact absurd e (splitL_ne c l)
    | cons h t => exact ⟨h, t, rfl, e⟩
  | d :: w, l, hw => by
    obtain ⟨h, t, e1, e2⟩ := splitL_free c w l fun z => hw (List.mem_cons_of_mem _ z)
    refine ⟨h, t, e1, ?_⟩
    show (if d = c then [] :: splitL c (w ++ l) else match splitL c (w ++ l) with | h :: t => (d :: h) :: t | [] => [[d]]) = _
    rw [if_neg (fun z => hw (by rw [z]; exact List.mem_cons_self)), e2]
    rfl
theorem splitL_sep (c : Nat) (l : List Nat) : splitL c (c :: l) = [] :: splitL c l := by
  show (if c = c then _ else _) = _
  rw [if_pos rfl]
def wordsL (l : List Nat) : List (List Nat) := (splitL 32 l).filter fun w => !w.isEmpty
theorem wordsL_nil : wordsL [] = [] := rfl
theorem wordsL_blank (l : List Nat) : wordsL (32 :: l) = wordsL l := by
  unfold wordsL
  rw [splitL_sep]
  rfl
theorem wordsL_blanks (l : List Nat) : ∀ n, wordsL (List.replicate n 32 ++ l) = wordsL l
  | 0 => rfl
  | n + 1 => by
    rw [List.replicate_succ, List.cons_append, wordsL_blank, wordsL_blanks l n]
theorem wordsL_word (w l : List Nat) (hw : ¬ 32 ∈ w) (hn : w ≠ []) (hl : l = [] ∨ ∃ r, l = 32 :: r) : wordsL (w ++ l) = w :: wordsL l := by
  obtain ⟨h, t, e1, e2⟩ := splitL_free 32 w l hw
  unfold wordsL
  rw [e2, e1]
  have hh : h = [] := by
    rcases hl with rfl | ⟨r, rfl⟩
    · have e1 : ([[]] : List (List Nat)) = h :: t := e1
      cases e1; rfl
    · rw [splitL_sep] at e1
      cases e1; rfl
  subst hh
  rw [List.append_nil]
  have : (!w.isEmpty) = true := by cases w with | nil => exact absurd rfl hn | cons a b => rfl
  rw [List.filter_cons, if_pos this]
  rfl
def WInv (L : List Nat) (due : List (List Nat)) : Prop := ∀ suf, (due = [] ∨ suf = [] ∨ ∃ r, suf = 32 :: r) → wordsL (L ++ suf) = due ++ wordsL suf
theorem WInv.start (n : Nat) : WInv (List.replicate n 32) [] := fun suf _ => wordsL_blanks suf n
theorem WInv.first {L w : List Nat} (h : WInv L []) (hw : ¬ 32 ∈ w) (hn : w ≠ []) : WInv (L ++ w) [w] := fun suf hs => by
  have hs : suf = [] ∨ ∃ r, suf = 32 :: r := hs.resolve_left (by simp)
  rw [List.append_assoc, h _ (.inl rfl), wordsL_word w suf hw hn hs]
  rfl
theorem WInv.next {L w : List Nat} {due : List (List Nat)} {n : Nat} (h : WInv L due) (hw : ¬ 32 ∈ w) (hn : w ≠ []) (h1 : 1 ≤ n) : WInv (L ++ List.replicate n 32 ++ w) (due ++ [w]) := fun suf hs => by
  have hs : suf = [] ∨ ∃ r, suf = 32 :: r := hs.resolve_left (by simp)
  rw [List.append_assoc, List.append_assoc, h _ (.inr (.inr ?_)), wordsL_blanks, wordsL_word w suf hw hn hs, List.append_assoc]
  · rfl
  · obtain ⟨m, rfl⟩ : ∃ m, n = m + 1 := ⟨n - 1, by omega⟩
    exact ⟨_, by rw [List.replicate_succ, List.cons_append]⟩
theorem WInv.done {L : List Nat} {due : List (List Nat)} {n : Nat} (h : WInv L due) : wordsL (L ++ List.replicate n 32) = due := by
  rw [h _ (.inr (by
    cases n with
    | zero => exact .inl rfl
    | succ m => exact .inr ⟨_, List.replicate_succ⟩))]
  have := wordsL_blanks [] n
  rw [List.append_nil] at this
  rw [this]
  simp [wordsL_nil]
end L2
set_option Elab.async false
set_option linter.all false
set_option maxRecDepth 100000
set_option maxHeartbeats 4000000
namespace L2
open PySem PySem.Spec PyProof.Rows
section
variable {X : Cx} {pins : List (Addr × Obj)} {σ : St} {H : Hp} {s : Shared}
end
section
variable {X : Cx}
end
section
variable {X : Cx}
end
end L2
set_option Elab.async false
set_option linter.all false
set_option maxRecDepth 100000
set_option maxHeartbeats 4000000
namespace L2
open PySem PySem.Spec PyProof.Rows
def scV : V → Bool
  | .non => true
  | .bl _ => true
  | .int _ => true
  | .str _ => true
  | _ => false
def SameT (H : Hp) : Nat → V → V → Prop
  | 0 => fun _ _ => False
  | n + 1 => fun v u => (v = u ∧ scV v = true) ∨ (∃ p q vs us, v = .ref p ∧ u = .ref q ∧ H p = some (.lst vs) ∧ H q = some (.lst us) ∧ vs.length ≤ 1000 ∧ Paired (SameT H n) vs us) ∨
      ∃ p q vs us, v = .ref p ∧ u = .ref q ∧ H p = some (.tup vs) ∧ H q = some (.tup us) ∧ vs.length ≤ 1000 ∧ Paired (SameT H n) vs us
theorem SameT.mono {H H' : Hp} (e : Same H H') : ∀ {n : Nat} {v u : V}, SameT H n v u → SameT H' n v u
  | 0, _, _, h => h
  | n + 1, v, u, h => by
    rcases h with h | ⟨p, q, vs, us, h1, h2, h3, h4, hl, h5⟩ | ⟨p, q, vs, us, h1, h2, h3, h4, hl, h5⟩
    · exact .inl h
    · exact .inr (.inl ⟨p, q, vs, us, h1, h2, e _ _ h3, e _ _ h4, hl, Paired.mapP h5 fun _ _ z => SameT.mono e z⟩)
    · exact .inr (.inr ⟨p, q, vs, us, h1, h2, e _ _ h3, e _ _ h4, hl, Paired.mapP h5 fun _ _ z => SameT.mono e z⟩)
theorem SameT.cases {K : PySem.W.Frag} {H : Hp} {n : Nat} {v u : V} (h : SameT H (n + 1) v u) : (v = u ∧ scV v = true) ∨
    ∃ pv pu vs us ty l, v = .ref pv ∧ u = .ref pu ∧ PySem.W.kitAny K (.type ty) (["list", "tuple"].map Value.type) = some true ∧ PySem.W.kitOne K (.type ty) (.type "list") = some l ∧ PySem.W.kitOne K (.type ty) (.type "tuple") = some (!l) ∧
      (∀ H', Same H H' → TyOf K H' (.ref pv) (.type ty) ∧ TyOf K H' (.ref pu) (.type ty) ∧ (SqL K H' pv vs ∨ SqT K H' pv vs) ∧ (SqL K H' pu us ∨ SqT K H' pu us)) ∧ vs.length ≤ 1000 ∧ Paired (SameT H n) vs us := by
  rcases h with h | ⟨p, q, vs, us, h1, h2, h3, h4, hl, h5⟩ | ⟨p, q, vs, us, h1, h2, h3, h4, hl, h5⟩
  · exact .inl h
  · exact .inr ⟨p, q, vs, us, "list", true, h1, h2, rfl, rfl, rfl, fun H' e => ⟨.lst (e _ _ h3), .lst (e _ _ h4), .inl (SqL.of (e _ _ h3)), .inl (SqL.of (e _ _ h4))⟩, hl, h5⟩
  · exact .inr ⟨p, q, vs, us, "tuple", false, h1, h2, rfl, rfl, rfl, fun H' e => ⟨.tup (e _ _ h3), .tup (e _ _ h4), .inr (SqT.of (e _ _ h3)), .inr (SqT.of (e _ _ h4))⟩, hl, h5⟩
theorem FnOk.none {P : Program} {w : World} {K : PySem.W.Frag} {mg : Str → Option Value} {base : Heap} {CX : CXT} {k : Nat} {f : Addr} {fd : FuncData} {ps : List Str} : FnOk P w K mg base CX k f fd ps (fun _ _ _ _ => False) :=
  ⟨fun _ _ _ _ h => h.elim, fun _ _ _ _ _ _ _ _ _ _ _ _ _ h => h.elim⟩
theorem SameT.int {H : Hp} {n : Nat} (i : Int) : SameT H (n + 1) (.int i) (.int i) := .inl ⟨rfl, rfl⟩
section
variable {X : Cx} {K : PySem.W.Frag}
theorem ix_seqK (h : X.K = K) : IxR X (rIx K) := h ▸ ix_seq
end
section
variable {X : Cx} {st : Stmt} {t : TS}
end
def GapsAt (H : Hp) (g : Addr) (gs : List (Int × Int)) : Prop := ∃ rs : List Addr, H g = some (.lst (rs.map V.ref)) ∧ Paired (fun r p => H r = some (.tup [.int p.1, .int p.2])) rs gs
theorem GapsAt.mono {H H' : Hp} {g : Addr} {gs : List (Int × Int)} (h : GapsAt H g gs) (e : Same H H') : GapsAt H' g gs :=
  let ⟨rs, h1, h2⟩ := h; ⟨rs, e _ _ h1, Paired.mapP h2 fun _ _ z => e _ _ z⟩
theorem GapsAt.upd {H : Hp} {g d : Addr} {gs : List (Int × Int)} {xs ys : List V} (h : GapsAt H g gs) (hd : H d = some (.lst xs)) (hn : g ≠ d) : GapsAt (L2.upd H d (.lst ys)) g gs := by
  obtain ⟨rs, h1, h2⟩ := h
  refine ⟨rs, by rw [upd_ne hn]; exact h1, Paired.mapP h2 fun r p z => ?_⟩
  rw [upd_ne (ne_of z hd (by intro q; cases q))]
  exact z
end L2
set_option Elab.async false
set_option linter.all false
set_option maxRecDepth 100000
set_option maxHeartbeats 4000000
namespace L2
open PySem PySem.Spec PyProof.Rows
def TrQ (h B : Heap) (e : Addr) (cls fl : Value) : Prop :=
  ∃ oe vs T oT ts, h.get? e = some oe ∧ oe.cls = cls ∧ oe.data = .fields vs ∧ vs[1]? = some (.ref T) ∧ vs[2]? = some .none ∧ B.get? T = none ∧ T ≠ e ∧ h.get? T = some oT ∧ oT.data = .fields ts ∧ ts[3]? = some fl
structure At (B : Heap) (l : List Env) (e : Addr) (cls fl : Value) (h : Heap) : Prop where
  st : B.StaysIn h
  nw : B.get? e = none
  fr : h.FunFrames B l
  tr : TrQ h B e cls fl
theorem TrQ.first {h B : Heap} {e : Addr} {cls fl : Value} (x : TrQ h B e cls fl) : ∃ o vs, h.get? e = some o ∧ o.cls = cls ∧ o.data = .fields vs ∧ vs[2]? = some .none :=
  let ⟨oe, vs, _, _, _, h1, h2, h3, _, h4, _⟩ := x; ⟨oe, vs, h1, h2, h3, h4⟩
section
variable {M : Model} {A : Around} {E : Value → Shared → Prop} {s : Shared} {B : Heap} {env : Env} {outer : List Env} {L e : Addr} {oe : Obj} {vs : Array Value} {head cls fl : Value} {hadNext : Bool} {Q : Unit → Shared → Prop}
theorem entryQ (hfr : A.frames = some (env :: outer)) (hl : s.heap.FunFrames B (env :: outer)) (hf : env.frame = some L) (he : s.heap.get? e = some oe) (hkb : B.StaysIn s.heap) (hen : B.get? e = none) (hd : oe.data = .fields vs)
    (hsz : 1 < vs.size) (h2 : vs[2]? = some .none) (h : ∀ h', At B (env :: outer) e oe.cls (rawInt L) h' → s.heap.UpToSlots h' → Q () { s with heap := h' }) :
    wpAny M A (do let a ← frameOf env; let pl ← entryPlaceOf L hadNext; let b ← EntryCells.newEntry head a .none (rawInt L) .none pl; setField (.ref e) 1 b) Q E s := by
  have hene : e ∉ (env :: outer).filterMap (·.frame) := fun hm => by
    obtain ⟨_, o, ho, hnf⟩ := hl.mem hm
    rw [he] at ho; cases ho; exact hnf vs hd
  refine wpAny_bind (wpAny_frameOf_fun hfr hl hf fun h₁ hs₁ => ?_)
  refine wpAny_bind (wpAny_entryPlaceOf fun pl hpl => ?_)
  unfold EntryCells.newEntry newFields
  refine wpAny_bind (wpAny_newObj_type ?_ (hpl.sizeOk5 _ _ _ _ _))
  have he₁ : h₁.get? e = some oe := (hs₁.2.1 e hene).trans he
  have kb₁ : B.StaysIn h₁ := fun b o hbo => (hs₁.2.1 b fun hm => by rw [(hl.mem hm).1] at hbo; cases hbo).trans (hkb b o hbo)
  generalize hT : ([head, .ref L, .none, rawInt L, .none] ++ (if pl.isEmpty then List.replicate 6 Value.none else pl)).toArray = tb
  have htb : tb[3]? = some (rawInt L) := by subst hT; rcases hpl with rfl | ⟨_, _, _, _, _, _, _, rfl⟩ <;> simp
  have he₂ := Heap.get?_push_of_some (h := h₁) { cls := .type "traceback", dict := none, data := .fields tb } he₁
  refine wpAny_setField he₂ hd hsz (h _ ?_ fun b o hb hnf => ?_)
  · have hTe : h₁.objs.size ≠ e := Nat.ne_of_gt (Heap.lt_size he₁)
    have hd₃ := Obj.data_mapFields hd (·.setIfInBounds 1 (Value.ref h₁.objs.size))
    have he₃ := Heap.get?_update_self (Obj.mapFields (·.setIfInBounds 1 (Value.ref h₁.objs.size))) he₂ (Obj.isFreed_of_fields hd₃)
    have hT₃ := (Heap.get?_update_other (h₁.push { cls := .type "traceback", dict := none, data := .fields tb }) (Obj.mapFields (·.setIfInBounds 1 (Value.ref h₁.objs.size))) (Ne.symm hTe)).trans (Heap.get?_push_size h₁ rfl)
    have keep : ∀ b o, b ≠ e → h₁.get? b = some o → ((h₁.push { cls := .type "traceback", dict := none, data := .fields tb }).update e (Obj.mapFields (·.setIfInBounds 1 (Value.ref h₁.objs.size)))).get? b = some o := fun b o hbe hb => by
      rw [Heap.get?_update_other _ _ (Ne.symm hbe)]
      exact Heap.get?_push_of_some _ hb
    refine ⟨fun b o hbo => keep b o (fun q => by rw [q, hen] at hbo; cases hbo) (kb₁ b o hbo), hen, hl.of_keeps fun b o hb hnf => ?_, ?_⟩
    · obtain ⟨sl, hs⟩ := hs₁.2.2 b o hb
      exact ⟨_, keep b _ (fun q => by rw [q, he] at hb; cases hb; exact hnf vs hd) hs, rfl⟩
    · exact ⟨_, _, h₁.objs.size, _, _, he₃, Obj.cls_mapFields _ _, hd₃, by simp [hsz], by rw [Array.getElem?_setIfInBounds_ne (by decide)]; exact h2, kb₁.fresh, hTe, hT₃, rfl, htb⟩
  · obtain ⟨sl, hs⟩ := hs₁.2.2 b o hb
    refine ⟨sl, ?_⟩
    rw [Heap.get?_update_other _ _ (fun q => by rw [← q, he] at hb; cases hb; exact hnf vs hd)]
    exact Heap.get?_push_of_some _ hs
theorem noteQ_first (hfr : A.frames = some (env :: outer)) (hl : s.heap.FunFrames B (env :: outer)) (hf : env.frame = some L) (he : s.heap.get? e = some oe) (hkb : B.StaysIn s.heap) (hen : B.get? e = none) (hd : oe.data = .fields vs)
    (h1 : vs[1]? = some .none) (h2 : vs[2]? = some .none) (h : ∀ h', At B (env :: outer) e oe.cls (rawInt L) h' → s.heap.UpToSlots h' → Q () { s with heap := h' }) : wpAny M A (noteFrame (.ref e) env) Q E s := by
  unfold noteFrame
  simp only [hf]
  refine wpAny_bind (wpAny_field he hd h1 ?_)
  rw [if_neg (by decide)]
  exact entryQ hfr hl hf he hkb hen hd (Array.getElem?_eq_some_iff.mp h1).1 h2 h
theorem noteQ_next (hfr : A.frames = some (env :: outer)) (hf : env.frame = some L) (x : At B (env :: outer) e cls .none s.heap)
    (h : ∀ h', At B (env :: outer) e cls (rawInt L) h' → s.heap.UpToSlots h' → Q () { s with heap := h' }) : wpAny M A (noteFrame (.ref e) env) Q E s := by
  obtain ⟨hkb, hen, hl, oe, vs, T, oT, ts, he, hcls, hd, h1, h2, hnT, hTe, hT, hdT, h3⟩ := x
  subst hcls
  unfold noteFrame
  simp only [hf]
  refine wpAny_bind (wpAny_field he hd h1 ?_)
  rw [if_pos (show (Value.ref T != Value.none) = true from by simp)]
  refine wpAny_bind (wpAny_field hT hdT h3 ?_)
  rw [if_neg (show ¬ ((Value.none == rawInt L) = true) from by simp [rawInt])]
  refine wpAny_bind (wpAny_setField hT hdT (Array.getElem?_eq_some_iff.mp h3).1 ?_)
  have other : ∀ b, b ≠ T → (s.heap.update T (Obj.mapFields (·.setIfInBounds 3 Value.none))).get? b = s.heap.get? b := fun b hb => Heap.get?_update_other _ _ (Ne.symm hb)
  have noRecord : ∀ b o, s.heap.get? b = some o → (∀ vs, o.data ≠ .fields vs) → b ≠ T := fun b o hb hnf q => by
    rw [q, hT] at hb; cases hb; exact hnf ts hdT
  refine entryQ hfr (hl.of_keeps fun b o hb hnf => ⟨o, (other b (noRecord b o hb hnf)).trans hb, rfl⟩) hf ((other e (Ne.symm hTe)).trans he)
    (fun b o hbo => (other b fun q => by rw [q, hnT] at hbo; cases hbo).trans (hkb b o hbo)) hen hd (Array.getElem?_eq_some_iff.mp h1).1 h2 fun h' x1 x2 => h h' x1 fun b o hb hnf => x2 b o ((other b (noRecord b o hb hnf)).trans hb) hnf
theorem flightQ {l : List Env} (x : At B l e cls fl s.heap) (h : ∀ h', At B l e cls .none h' → s.heap.UpToSlots h' → Q () { s with heap := h' }) : wpAny M A (setFlight (.ref e) none) Q E s := by
  obtain ⟨hkb, hen, hl, oe, vs, T, oT, ts, he, hcls, hd, h1, h2, hnT, hTe, hT, hdT, h3⟩ := x
  have hsz3 : 3 < ts.size := (Array.getElem?_eq_some_iff.mp h3).1
  have other : ∀ b, b ≠ T → (s.heap.update T (Obj.mapFields (·.setIfInBounds 3 ((none : Option Addr).elim Value.none fun f => rawInt f)))).get? b = s.heap.get? b := fun b hb => Heap.get?_update_other _ _ (Ne.symm hb)
  have noRecord : ∀ b o, s.heap.get? b = some o → (∀ vs, o.data ≠ .fields vs) → b ≠ T := fun b o hb hnf q => by
    rw [q, hT] at hb; cases hb; exact hnf ts hdT
  unfold setFlight
  refine wpAny_bind (wpAny_field he hd h1 ?_)
  rw [if_pos (show (Value.ref T != Value.none) = true from by simp)]
  refine wpAny_setField hT hdT hsz3 (h _ ⟨fun b o hbo => (other b fun q => by rw [q, hnT] at hbo; cases hbo).trans (hkb b o hbo), hen,
    hl.of_keeps fun b o hb hnf => ⟨o, (other b (noRecord b o hb hnf)).trans hb, rfl⟩, ?_⟩ fun b o hb hnf => ⟨o.slots, (other b (noRecord b o hb hnf)).trans hb⟩)
  exact ⟨oe, vs, T, _, _, (other e (Ne.symm hTe)).trans he, hcls, hd, h1, h2, hnT, hTe, Heap.get?_update_self _ hT (Obj.isFreed_of_fields (Obj.data_mapFields hdT _)), Obj.data_mapFields hdT _, by simp [hsz3]⟩
theorem At.pop {l : List Env} {h : Heap} (x : At B (env :: l) e cls fl h) : At B l e cls fl h := ⟨x.st, x.nw, x.fr.2.2, x.tr⟩
theorem leaveQ_made {h : Heap} {args : List Value} (hfr : A.frames = some (env :: outer)) (hf : env.frame = some L) (hkb : B.StaysIn h) (hl : h.FunFrames B (env :: outer)) (hx : Heap.MadeExcOf h s.heap e cls args)
    (hQ : ∀ h', At B outer e cls .none h' → s.heap.UpToSlots h' → Q () { s with heap := h' }) : wpAny M A (leaving env (.ref e)) Q E s := by
  obtain ⟨t, he, htn, ht⟩ := hx.there
  have fresh : ∀ b, h.get? b = none → B.get? b = none := fun b hb => by
    cases hq : B.get? b with
    | none => rfl
    | some o' => have := hkb b o' hq; rw [hb] at this; cases this
  unfold leaving
  refine wpAny_bind (noteQ_first hfr (hl.of_keeps fun b o hb _ => ⟨o, hx.keeps b o hb, rfl⟩) hf he (fun b o hb => hx.keeps b o (hkb b o hb)) (fresh e hx.new) rfl rfl rfl fun h' x up => ?_)
  exact flightQ x fun h'' x' up' => hQ h'' x'.pop (up.trans up')
theorem leaveQ_on (hfr : A.frames = some (env :: outer)) (hf : env.frame = some L) (x : At B (env :: outer) e cls .none s.heap) (hQ : ∀ h', At B outer e cls .none h' → s.heap.UpToSlots h' → Q () { s with heap := h' }) :
    wpAny M A (leaving env (.ref e)) Q E s := by
  unfold leaving
  refine wpAny_bind (noteQ_next hfr hf x fun h' x up => ?_)
  exact flightQ x fun h'' x' up' => hQ h'' x'.pop (up.trans up')
end
end L2
set_option Elab.async false
set_option linter.all false
set_option maxRecDepth 100000
set_option maxHeartbeats 4000000
namespace L2
open PySem PySem.Spec PyProof.Rows
structure Fly (P : Program) (w : World) (outer : List Env) (H : Hp) (s : Shared) (a C : Addr) (H' : Hp) (B : Heap) (s' : Shared) : Prop where
  os : s'.os = s.os
  bare : AllBare s'.gens
  hok : HOk P w H' B
  kp : ∀ b o, s.heap.get? b = some o → H b = none → b ∉ frs outer → B.get? b = some o
  th : ∀ b o, s.heap.get? b = some o → b ∉ frs outer → ∃ o', B.get? b = some o'
  un : Un (frs outer) [] H H' s.heap s'.heap
  fly : At B outer a (.ref C) .none s'.heap
def CX1 (P : Program) (w : World) : CXT := fun outer H s E e s' => ∃ a C H' B, e = .ref a ∧ Fly P w outer H s a C H' B s' ∧ E (.ref C) none H'
section
variable {P : Program} {w : World} {outer : List Env} {H H' : Hp} {s s' : Shared} {a C : Addr} {B : Heap}
end
section
variable {X : Cx} {pins : List (Addr × Obj)} {σ : St} {H H' : Hp} {s s' : Shared} {a C : Addr} {B : Heap}
theorem Inv.ff (I : Inv X pins σ H s) : ∀ b ∈ frs X.stack, H b = none ∧ ∃ o, s.heap.get? b = some o ∧ ∀ vs, o.data ≠ .fields vs := fun b hb => ⟨I.stkFree b hb, (I.stack.mem hb).2⟩
theorem Inv.ff0 (I : Inv X pins σ H s) : ∀ b ∈ frs X.outer, X.H₀ b = none ∧ ∃ o, X.s₀.heap.get? b = some o ∧ ∀ vs, o.data ≠ .fields vs := fun b hb => ⟨I.ok.frf b hb, (I.ok.funs.mem hb).2⟩
theorem fly_out (I : Inv X pins σ H s) (st : X.stack = X.env :: X.outer) (ex : X.ex = []) (os : s'.os = s.os) (bare : AllBare s'.gens) (hok : HOk X.prog X.w H' B)
    (k1 : ∀ b o, s.heap.get? b = some o → H b = none → b ∉ frs X.stack → B.get? b = some o) (k2 : ∀ b o, s.heap.get? b = some o → b ∉ frs X.stack → ∃ o', B.get? b = some o')
    (un : Un (frs X.stack) [] H H' s.heap s'.heap) (st' : B.StaysIn s'.heap) {h'' : Heap} (fl : At B X.outer a (.ref C) .none h'') (up : s'.heap.UpToSlots h'') : Fly X.prog X.w X.outer X.H₀ X.s₀ a C H' B { s' with heap := h'' } := by
  have I' : Inv X pins σ H' s' := I.call' os un (hok.kept st') bare fun b hb => absurd hb (by simp)
  have nst : ∀ b o, X.s₀.heap.get? b = some o → b ∉ frs X.outer → b ∉ frs X.stack := fun b o q nf hb => by
    rcases List.mem_cons.mp (I.stkSub b hb) with z | z
    · have e1 := Heap.lt_size q
      have e2 := I.ok.above
      rw [z] at e1
      exact absurd e1 (Nat.not_lt.mpr e2)
    · exact nf z
  have nex : ∀ b, b ∉ X.ex := fun b => by rw [ex]; simp
  have kk : ∀ b o, X.s₀.heap.get? b = some o → X.H₀ b = none → b ∉ frs X.outer → B.get? b = some o := fun b o q n nf =>
    k1 b o (I.base.keep b o q n nf (nex b)) (I.base.free b o q n (nex b)) (nst b o q nf)
  have tt : ∀ b o, X.s₀.heap.get? b = some o → b ∉ frs X.outer → ∃ o', B.get? b = some o' := fun b o q nf => by
    obtain ⟨o1, e1⟩ := I.base.there b o q (nex b)
    exact k2 b o1 e1 (nst b o q nf)
  have sl : ∀ b o, X.s₀.heap.get? b = some o → b ∈ frs X.outer → ∃ sl, h''.get? b = some { o with slots := sl } := fun b o q hf => by
    obtain ⟨n, o1, q1, nd⟩ := I.ff0 b hf
    rw [q] at q1; cases q1
    obtain ⟨sl, e⟩ := I'.base.slot b o q n hf (nex b)
    obtain ⟨sl', e'⟩ := up b _ e nd
    exact ⟨sl', e'⟩
  refine ⟨os.trans I.os, bare, hok, kk, tt, ?_, fl⟩
  refine ⟨fun b o q n nf _ => fl.st b o (kk b o q n nf), fun b o q n hf _ => sl b o q hf, fun b o q n _ => I'.base.free b o q n (nex b), fun b o q hx => ?_, I'.base.tups, I'.base.frzs, I'.base.tbls⟩
  by_cases hb : b ∈ frs X.outer
  · obtain ⟨sl', e⟩ := sl b o q hb
    exact ⟨_, e⟩
  · obtain ⟨o', e⟩ := tt b o q hb
    exact ⟨o', fl.st b o' e⟩
structure Out (X : Cx) (E : XK) : Prop where
  st : X.stack = X.env :: X.outer
  fr : X.env.frame = some X.env.locals
  ex : X.ex = []
  pass : ∀ a s', wpAny (model X.prog X.w) X.A (leaving X.env (.ref a)) (fun _ s'' => CX1 X.prog X.w X.outer X.H₀ X.s₀ E (.ref a) s'') (fun _ _ => False) s' → X.xe (.ref a) s'
theorem Out.passes {E : XK} (O : Out X E) : Passes (CX1 X.prog X.w) X E := by
  intro pins σ H s e s' I hx
  obtain ⟨a, C, H', B, rfl, F, q⟩ := hx
  refine O.pass a s' (leaveQ_on (by rw [I.ok.frames, O.st]) O.fr (by rw [← O.st]; exact F.fly) fun h' fl' up => ?_)
  exact ⟨a, C, H', B, rfl, fly_out I O.st O.ex F.os F.bare F.hok F.kp F.th F.un F.fly.st fl' up, q⟩
theorem Out.raised {E : XK} (O : Out X E) (I : Inv X pins σ H s) {h1 : Heap} {vs : List Value} (hx : Heap.MadeExcOf s.heap h1 a (.ref C) vs) (q : E (.ref C) none H) : X.xe (.ref a) { s with heap := h1 } := by
  have keep : ∀ b o, s.heap.get? b = some o → b ∉ frs X.stack → (PySem.W.hideAll s.heap (frs X.stack)).get? b = some o := fun b o e nb => PySem.W.hideAll_get _ e nb
  have hst : (PySem.W.hideAll s.heap (frs X.stack)).StaysIn s.heap := fun b o e => PySem.W.of_hideAll _ e
  have hff : s.heap.FunFrames (PySem.W.hideAll s.heap (frs X.stack)) (X.env :: X.outer) := by
    rw [← O.st]
    exact PySem.W.funFrames_hide I.stack fun env he b hb => List.mem_filterMap.mpr ⟨env, he, hb⟩
  refine O.pass a _ (leaveQ_made (h := s.heap) (B := PySem.W.hideAll s.heap (frs X.stack)) (by rw [I.ok.frames, O.st]) O.fr hst hff hx fun h' fl up => ?_)
  refine ⟨a, C, H, _, rfl, fly_out (s' := { s with heap := h1 }) (H' := H) I O.st O.ex rfl I.bare (fun b u e => ?_) (fun b o e n nb => keep b o e nb) (fun b o e nb => ⟨o, keep b o e nb⟩) (Un.kept hx.keeps) (fun b o e => hx.keeps b o (hst b o e)) fl up, q⟩
  refine (I.hok b u e).stay (fun c v hc z => keep c v z ?_) (fun _ z => z) fun _ _ z => z
  intro hm
  have n := I.stkFree c hm
  rcases hc with rfl | hc
  · rw [e] at n; cases n
  · rw [hc] at n; cases n
end
end L2
set_option Elab.async false
set_option linter.all false
set_option maxRecDepth 100000
set_option maxHeartbeats 4000000
namespace L2
open PySem PySem.Spec PyProof.Rows
theorem exc_obj {K : PySem.W.Frag} {h : Heap} {C : Addr} {bmB : List Value} {newId : String} (X : K.In h) (q : PySem.W.excIn K C bmB newId = true) :
    ∃ bm N nm q bs hdct sn sub ab col dd k0 k1 k2 k3 k5 mN, h.get? C = some (excClassObj nm q C N bs bm hdct sn sub ab col dd k0 k1 k2 k3 k5 newId) ∧ h.Ns N mN ∧ mN "__init__" = none ∧ OwnTail h bmB bm := by
  unfold PySem.W.excIn at q
  split at q
  · rename_i dd cd sl ho
    split at q
    · rename_i C' bm k0 k1 k2 k3 n k5 hm hs
      simp only [Bool.and_eq_true, beq_iff_eq, Bool.not_eq_true'] at q
      obtain ⟨⟨⟨⟨⟨rfl, rfl⟩, hdel⟩, ht⟩, hok⟩, hni⟩ := q
      obtain ⟨nm, bs, mro, ns, qn, hd, sn, sub, ab, col, del⟩ := cd
      dsimp only at hm hdel hok hni
      subst hm hdel
      have hsl : sl = #[k0, k1, k2, k3, some (.builtin n), k5] := by
        obtain ⟨l⟩ := sl
        simp only at hs
        rw [hs]
      subst hsl
      exact ⟨bm, ns, nm, qn, bs, hd, sn, sub, ab, col, dd, k0, k1, k2, k3, k5, _, X _ _ ho, .of_isNs (PySem.W.isNs_of_in X hok), PySem.W.nsMap_none_of_in X hok hni, PySem.W.tail_of_in X ht⟩
    · cases q
  · cases q
def tRaise (C : Addr) (E : XK) (t : TA) : TS := fun _ σ H => t σ H fun vs H1 => vs.length ≤ sizeLine ∧ E (.ref C) none H1
section
variable {X : Cx} {E : XK} {x : Str} {C : Addr} {B Bn newId nid initId inN : String} {bmN bmB : List Value} {e : Expr} {es : List Expr} {t : TA} {np cpos pos : Pos}
theorem ps_raise (O : Out X E) (hh : X.A.handled = none) (hg : Gl X x) (hm : X.mg x = some (.ref C)) (hx : PySem.W.excIn X.K C bmB newId = true) (Fn : ExcBaseFacts Bn newId inN bmN) (hBn : bmB.contains (.type Bn) = true)
    (FB : ExcBaseFacts B nid initId bmB) (ha : PA X (e :: es) t) (hdb : (x == ("__debug__" : Str)) = false := by decide) (he : starEach (e :: es) X.env = (false, eval e X.env) :: starEach es X.env := by rfl)
    (hpl : (backTo cpos (starEach es X.env)).any (·.1) = false := by rfl) : PS X (.Raise (some (.Call (.Name x np) (e :: es) [] cpos)) none pos) (tRaise C E t) := by
  intro pins s σ H D I h
  obtain ⟨tl, N, nm, q, bs, hdct, sn, sub, ab, col, dd, k0, k1, k2, k3, k5, mN, hC, hN, hni, T⟩ := exc_obj I.ok.mod.kin hx
  refine wpAny_Raise_call_subU (C := C) (nm := nm) (q := q) (N := N) (bs := bs) (bm := tl) (hdct := hdct) (sn := sn) (sub := sub) (ab := ab) (col := col) (dd := dd) (k0 := k0) (k1 := k1) (k2 := k2) (k3 := k3) (k5 := k5)
    Fn hBn FB (mN := mN) (T.hasType FB.hasBase) hh (by rw [he]; show (false || (backTo cpos (starEach es X.env)).any (·.1)) = false; rw [hpl]; rfl) hni (ld_glob I hg hm ⟨rfl, ?_⟩ hdb)
  have h' := ha cpos pins s σ H _ I h
  rw [he] at h' ⊢
  refine Calls.evalArgs_plain (wpAny_mono h' (fun us s₂ h₂ => ?_) fun _ _ y => y)
  obtain ⟨vs, H2, I2, r, hl, qE⟩ := h₂
  exact ⟨rfl, by rw [← r.length]; exact hl, I2.bk _ _ hC, hN.keeps I2.bk, T.keeps I2.bk, fun h1 a mx => O.raised I2 mx qE⟩
end
abbrev TX := St → Hp → VK → XK → Prop
section
variable {X : Cx} {k : Nat} {f C : Addr} {fd : FuncData} {ps : List Str} {sp : Sp} {dvs : List V} {ds : List Value} {x m : Str} {p pos apos : Pos} {e o : Expr} {es : List Expr} {ta : TE} {t : TA}
end
def excO (a C : Addr) : HO := .ext fun h => ∃ o vs, h.get? a = some o ∧ o.cls = .ref C ∧ o.data = .fields vs ∧ vs[2]? = some .none
section
variable {X : Cx} {pins : List (Addr × Obj)} {σ : St} {H : Hp} {s : Shared} {a : Addr}
end
end L2
set_option Elab.async false
set_option linter.all false
set_option maxRecDepth 100000
set_option maxHeartbeats 4000000
namespace L2
open PySem PySem.Spec PyProof.Rows
section
variable {X : Cx} {i j : Nat} {x y v : Str} {Dc : Addr} {tx : TX} {tb : Addr → TS} {e : Expr} {b₀ : Stmt} {suite : List Stmt} {np pos' apos hpos pos : Pos}
theorem Fly.new {pins : List (Addr × Obj)} {σ : St} {H H' : Hp} {s s' : Shared} {a C : Addr} {B : Heap} (I : Inv X pins σ H s) (F : Fly X.prog X.w X.stack H s a C H' B s') : s.heap.get? a = none ∧ H' a = none := by
  have fl := F.fly
  obtain ⟨oe, vs, h1, h2, h3, h4⟩ := fl.tr.first
  refine ⟨?_, ?_⟩
  · cases q : s.heap.get? a with
    | none => rfl
    | some o =>
      exfalso
      by_cases hb : a ∈ frs X.stack
      · obtain ⟨n, o1, q1, nd⟩ := I.ff a hb
        obtain ⟨sl, e⟩ := F.un.slot a o q n hb (by simp)
        rw [q] at q1; cases q1
        rw [h1] at e
        cases e
        exact nd vs h3
      · obtain ⟨o', e'⟩ := F.th a o q hb
        rw [fl.nw] at e'; cases e'
  · cases q : H' a with
    | none => rfl
    | some u =>
      exfalso
      have z := F.hok a u q
      have : ∃ o, B.get? a = some o := by
        cases u with
        | lst xs => obtain ⟨_, its, n, _, h⟩ := z; exact ⟨_, h⟩
        | tup xs => obtain ⟨_, its, _, o, h, _⟩ := z; exact ⟨_, h⟩
        | dK kvs => obtain ⟨_, _, vs, _, o, es, ep, h, _⟩ := z; exact ⟨_, h⟩
        | dT kvs => obtain ⟨_, _, xs, _, o, es, ep, h, _⟩ := z; exact ⟨_, h⟩
        | set S n => obtain ⟨ob, es, ep, t, e, c⟩ := z; exact ⟨_, e⟩
        | ins C dx fs => obtain ⟨_, _, _, h, _⟩ := z; exact ⟨_, h⟩
        | own x => exact z
        | xd fs => obtain ⟨mA, ⟨o, es, ep, h, _⟩, _⟩ := z; exact ⟨_, h⟩
        | rng lo hi => obtain ⟨t, u, v, h⟩ := z; exact ⟨_, h⟩
        | frz o u => exact ⟨_, z.1⟩
        | tbl ps => exact ⟨_, z⟩
        | met f x => exact ⟨_, z⟩
        | ext φ => exact z.2.1
      obtain ⟨o, e⟩ := this
      rw [fl.nw] at e; cases e
end
end L2
set_option Elab.async false
set_option linter.all false
set_option maxRecDepth 100000
set_option maxHeartbeats 4000000
namespace L2
open PySem PySem.Spec PyProof.Rows Builtin Builtin.ObjectAttr Builtin.Getset_descriptor
structure RoomX (k : Nat) (A : Around) : Prop where
  dp : A.depth + 3 * k + 5 < recursionLimit
  un : A.units + 16 * k + 200 < cLine
theorem Room.x {k : Nat} {A : Around} (r : Room k A) : RoomX k A := ⟨r.dp, r.un⟩
theorem RoomX.mono {j k : Nat} {A : Around} (r : RoomX k A) (h : j ≤ k) : RoomX j A := ⟨by have := r.dp; omega, by have := r.un; omega⟩
theorem RoomX.deeper {k : Nat} {A : Around} (r : RoomX (k + 1) A) (env : Env) : RoomX k (A.deeper env) :=
  ⟨by have := r.dp; show A.depth + 1 + 3 * k + 5 < _; omega, by have := r.un; show A.units + 3 + 16 * k + 200 < _; omega⟩
theorem RoomX.depth {k : Nat} {A : Around} (r : RoomX k A) : A.depth < recursionLimit := by have := r.dp; omega
theorem RoomX.hu {k : Nat} {A : Around} (r : RoomX k A) : A.units + 1 < cLine := by have := r.un; omega
structure FnOkX (P : Program) (w : World) (K : PySem.W.Frag) (mg : Str → Option Value) (base : Heap) (CX : CXT) (k : Nat) (f : Addr) (fd : FuncData) (ps : List Str) (sp : Sp) : Prop where
  len : ∀ vs H Q E, sp vs H Q E → vs.length = ps.length
  run : ∀ (A : Around) (outer : List Env) (s : Shared) (H : Hp) (args : Args) (us : List Value) (vs : List V) (Q : VK) (E : XK), RoomX k A → Env0 P w K mg base A outer s H → BindsTo s fd args (ps.zip us) → Vals vs us → sp vs H Q E →
    codeAny (model P w) A (.call (.ref f) args) (CR CX outer P w H s Q E) s
theorem FnOkX.ok {P : Program} {w : World} {K : PySem.W.Frag} {mg : Str → Option Value} {base : Heap} {CX : CXT} {k : Nat} {f : Addr} {fd : FuncData} {ps : List Str} {sp : Sp} (F : FnOkX P w K mg base CX k f fd ps sp) : FnOk P w K mg base CX k f fd ps sp :=
  ⟨F.len, fun A outer s H args us vs Q E hr => F.run A outer s H args us vs Q E hr.x⟩
section
variable {P : Program} {w : World} {K : PySem.W.Frag} {mg : Str → Option Value} {base : Heap} {x qual : Str} {st : Stmt} {f : Addr} {fd : FuncData} {N ps : List Str} {k : Nat} {sp : Sp}
theorem out_of {qual : Str} {sc : Scope} {cdv : Value} {A : Around} {outer : List Env} {s : Shared} {H : Hp} {E : XK} : Out (cxOf (CX1 P w) P w K mg base N qual sc f cdv A outer s H E) E :=
  ⟨rfl, rfl, rfl, fun a s' h => wpAny_mono h (fun _ _ q => q) fun _ _ z => False.elim z⟩
theorem Fun.okR (F : Fun K x qual st f fd) (S : FnScope N ps (defScope st)) (len : ∀ vs H Q E, sp vs H Q E → vs.length = ps.length)
    (hbody : ∀ (cdv : Value) (A : Around) (outer : List Env) (s : Shared) (H : Hp) (vs : List V) (Q : VK) (E : XK), Room k (A.deeper (envOfC qual (defScope st) s.heap.objs.size f cdv)) → sp vs H Q E →
      ∃ t, PSs (cxOf (CX1 P w) P w K mg base N qual (defScope st) f cdv A outer s H E) (defBody st) t ∧ t { nx := fun _ H' => Q .non H', rt := Q } (start N vs) H) : FnOk P w K mg base (CX1 P w) (k + 1) f fd ps sp := by
  obtain ⟨oc, od, kV, doc, pm, an, cdv, ct, osl, rfl, lk, hcd⟩ := F.ex
  exact fn_of lk hcd S len fun A outer s H vs Q E hr hsp => hbody cdv A outer s H vs Q E hr hsp
end
section
variable {X : Cx} {CX : CXT} {k : Nat} {f C : Addr} {fd : FuncData} {ps : List Str} {sp : Sp} {dvs : List V} {ds : List Value} {E : XK} {x m : Str} {p pos apos : Pos} {e o : Expr} {es : List Expr} {ta : TE} {t : TA}
end
section
variable {K : PySem.W.Frag} {a C : Addr}
structure ExcK (K : PySem.W.Frag) (C : Addr) : Prop where
  cls : PySem.W.isClsIn K C = true
  ga : PySem.W.findIn K (.ref C) "__getattribute__" = some (some (.builtin "BaseException.__getattribute__"))
  gt : PySem.W.findIn K (.ref C) "__getattr__" = some none
  cl : PySem.W.findIn K (.ref C) "__class__" = some (some (.builtin "object.__class__"))
  gg : PySem.W.specialIn K (.builtin "object.__class__") "__get__" = some (some (.builtin "getset_descriptor.__get__"))
  tk : PySem.W.takesIn K (.builtin "object.__class__") = some true
  mo : PySem.W.mroIn K C (.type "object") = some true
  mb : PySem.W.mroIn K C (.type "BaseException") = some true
end
section
variable {X : Cx}
end
end L2
set_option Elab.async false
set_option linter.all false
set_option maxRecDepth 100000
set_option maxHeartbeats 4000000
namespace L2
open PySem PySem.Spec PyProof.Rows
section
variable {X : Cx}
abbrev TJ := Str → TE
def PJ (X : Cx) (es : List Expr) (t : TJ) : Prop := ∀ (acc : Str) (pins : List (Addr × Obj)) (s : Shared) (σ : St) (H : Hp) (Q : VK), Inv X pins σ H s → t acc σ H Q →
  wpAny (model X.prog X.w) X.A (joinParts acc (evalEach es X.env)) (EP X pins σ Q) X.xe s
def jNil : TJ := fun acc _ H Q => acc.length ≤ sizeLine ∧ Q (.str acc) H
def jCons (t : TE) (u : TJ) : TJ := fun acc σ H Q => t σ H fun v H1 => ∃ y, v = .str y ∧ (acc ++ y).length ≤ sizeLine ∧ u (acc ++ y) σ H1 Q
theorem pj_nil : PJ X [] jNil := fun acc pins s σ H Q I h => joinParts_nil (out := acc) ⟨.str acc, H, I.tok _, ⟨_, rfl⟩, h.2⟩ h.1
theorem pj_cons {e : Expr} {es : List Expr} {t : TE} {u : TJ} (he : PE X e t) (hr : PJ X es u) (hev : evalEach (e :: es) X.env = eval e X.env :: evalEach es X.env := by rfl) : PJ X (e :: es) (jCons t u) := by
  intro acc pins s σ H Q I h
  rw [hev]
  refine joinParts_cons (thn (he pins s σ H _ I h) fun v s1 ⟨x, H1, I1, r, y, e1, hl, q⟩ => ?_)
  subst e1
  obtain ⟨t, rfl⟩ := r
  exact ⟨hl, hr _ pins s1 σ H1 Q I1 q⟩
theorem pe_fstr {v1 v2 : Expr} {rest : List Expr} {pos : Pos} {u : TJ} (h : PJ X (v1 :: v2 :: rest) u) : PE X (.JoinedStr (v1 :: v2 :: rest) pos) (u Str.empty) := by
  intro pins s σ H Q I hw
  rw [arm_eval_JoinedStr]
  exact h Str.empty pins s σ H Q I hw
def tFmtI (t : TE) : TE := fun σ H Q => t σ H fun v H1 => ∃ i : Int, v = .int i ∧ i.natAbs.log2 < 1920 ∧ Q (.str (toString i)) H1
theorem pe_fmtI {e : Expr} {t : TE} {pos : Pos} (he : PE X e t) : PE X (.FormattedValue e (-1) none pos) (tFmtI t) := by
  intro pins s σ H Q I h
  refine FormattedValue_plain (thn (he pins s σ H _ I h) fun v s1 ⟨x, H1, I1, r, i, e1, hl, q⟩ => ?_)
  subst e1
  obtain ⟨t, rfl⟩ := r
  exact formatField_int_small hl ⟨.str _, H1, I1.tok _, ⟨_, rfl⟩, q⟩
def tFmtS (t : TE) : TE := fun σ H Q => t σ H fun v H1 => ∃ y, v = .str y ∧ y.length ≤ sizeLine ∧ Q (.str y) H1
theorem pe_fmtS {e : Expr} {t : TE} {pos : Pos} (he : PE X e t) : PE X (.FormattedValue e (-1) none pos) (tFmtS t) := by
  intro pins s σ H Q I h
  refine FormattedValue_plain (thn (he pins s σ H _ I h) fun v s1 ⟨x, H1, I1, r, y, e1, hl, q⟩ => ?_)
  subst e1
  obtain ⟨t, rfl⟩ := r
  exact formatField_str (fun t' tk => ⟨.str _, H1, I1.tok _, ⟨_, rfl⟩, q⟩) hl
def tFmtR (t : TE) : TE := fun σ H Q => t σ H fun v H1 => ∃ y, v = .str y ∧ (reprText y).length ≤ sizeLine ∧ Q (.str (reprText y)) H1
theorem pe_fmtR {e : Expr} {t : TE} {pos : Pos} (he : PE X e t) : PE X (.FormattedValue e 114 none pos) (tFmtR t) := by
  intro pins s σ H Q I h
  refine wpAny_FormattedValue_repr (thn (he pins s σ H _ I h) fun v s1 ⟨x, H1, I1, r, y, e1, hl, q⟩ => ?_)
  subst e1
  obtain ⟨t, rfl⟩ := r
  refine wpAny_pyReprObj_str ?_ hl
  exact formatField_str (fun t' tk => ⟨.str _, H1, (I1.tok _).tok _, ⟨_, rfl⟩, q⟩) hl
end
structure ClsK (K : PySem.W.Frag) (C : Addr) : Prop where
  is : PySem.W.isClsIn K C = true
  ty : PySem.W.typeIn K (.ref C) = some (.type "type")
theorem kit_ty {K : PySem.W.Frag} {r : Addr} {T : String} {b : Bool} (m : PySem.W.kitMeta T = true) (s : PySem.W.subIn K (.ref r) (.type T) = some b) : PySem.W.kitOne K (.ref r) (.type T) = some b := by
  unfold PySem.W.kitOne
  rw [if_neg (by simp)]
  unfold PySem.W.kitCls
  dsimp only
  rw [if_pos m]
  exact s
abbrev bmVE : List Value := [.type "ValueError", .type "Exception", .type "BaseException", .type "object"]
end L2
set_option Elab.async false
set_option linter.all false
set_option maxRecDepth 100000
set_option maxHeartbeats 4000000
namespace L2
open PySem PySem.Spec PyProof.Rows
section
variable {X : Cx} {pins : List (Addr × Obj)} {σ : St} {H : Hp} {s : Shared} {d : Addr}
end
section
variable {X : Cx}
end
end L2
set_option Elab.async false
set_option linter.all false
set_option maxRecDepth 100000
set_option maxHeartbeats 4000000
namespace L2
open PySem PySem.Spec PyProof.Rows
section
variable {own : List Str} {fv : List (Str × Nat)} {g : TG} {tc : TT} {te : TE} {σ : St} {D : Addr} {Q : VK} {H0 : Hp}
end
section
variable {prog : Program} {w : World} {A : Around} {R : Result → Shared → Prop} {I : Addr} {fp wr : List Addr} {n : Nat} {P : Nat → Value → Prop} {St : Nat → Heap → Prop} {dn : Str} {dv : Value}
end
section
variable {prog : Program} {w : World} {A : Around} {E : Value → Shared → Prop} {s : Shared} {l : Addr} {xs : Array (Int × Tok)} {dv : Value}
end
section
variable {X : Cx}
end
section
variable {X : Cx}
theorem pg_tupK {K : PySem.W.Frag} {ts : List Expr} {t : TGs} {kk : Nat} {tpos : Pos} {n : Nat} (hK : X.K = K) (hn : n = ts.length) (hc : X.calm = true) (h : PGs X ts t) (h1 : (assignEach ts X.env).length = n := by rfl) (h2 : (assignEach ts X.env).findIdx? (·.1) = none := by rfl) : PG X (.Tuple ts kk tpos) (gTup K n t) := by
  subst hK
  subst h1
  exact pg_tup hc h rfl h2
end
end L2
set_option Elab.async false
set_option linter.all false
set_option maxRecDepth 100000
set_option maxHeartbeats 4000000
namespace L2
open PySem PySem.Spec PyProof.Rows
structure Hq (A : Around) (a : Addr) (h : Heap) : Prop where
  hd : A.handled = some (.ref a)
  ob : ∃ o vs, h.get? a = some o ∧ o.data = .fields vs ∧ vs[2]? = some .none
theorem Hq.in1 {A : Around} {a : Addr} {h : Heap} (q : Hq A a h) : Hq A.in1 a h := ⟨q.hd, q.ob⟩
theorem Hq.keep {A : Around} {a : Addr} {h h' : Heap} (q : Hq A a h) (k : ∀ o, h.get? a = some o → h'.get? a = some o) : Hq A a h' :=
  let ⟨o, vs, h1, h2, h3⟩ := q.ob; ⟨q.hd, o, vs, k _ h1, h2, h3⟩
section
variable {prog : Program} {w : World} {A : Around} {E : Value → Shared → Prop} {s : Shared} {a : Addr}
end
end L2
set_option Elab.async false
set_option linter.all false
set_option maxRecDepth 100000
set_option maxHeartbeats 4000000
namespace L2
open PySem PySem.Spec PyProof.Rows
structure TurnQ (P : Program) (w : World) (K : PySem.W.Frag) (ah : Addr) (tg : Expr) (J : It) (fp : List Addr) (it : Addr) (tn : Nat → Heap → Prop) : Prop where
  mem : it ∈ fp
  obj : ∀ i h, tn i h → ∀ b ∈ fp, ∃ o, h.get? b = some o ∧ ∀ v, o.data ≠ .cell v
  keep : ∀ i h h', tn i h → (∀ b ∈ fp, ∀ o, h.get? b = some o → h'.get? b = some o) → tn i h'
  item : ∀ (X : Cx), X.prog = P → X.w = w → X.K = K → X.A.handled = some (.ref ah) → ∀ (i : Nat) (pins : List (Addr × Obj)) (s : Shared) (σ : St) (H : Hp) (E : Value → Shared → Prop), Inv X pins σ H s → (∀ b ∈ fp, FpOk X pins H b) → tn i s.heap → J.go i H →
    wpAny (model P w) X.A (pyNext (.ref it)) (fun r s1 => ∃ u, r = some u ∧
      wpAny (model P w) X.A (letOwnedTupleGo tg (.ref it) u) (fun _ s2 => ∃ x H', Inv X pins σ H' s2 ∧ RelV x u ∧ J.yld i H x H' ∧ tn (i + 1) s2.heap ∧ ∀ b ∈ fp, H' b = none) E s1) E s
  done : ∀ (X : Cx), X.prog = P → X.w = w → X.K = K → X.A.handled = some (.ref ah) → ∀ (i : Nat) (pins : List (Addr × Obj)) (s : Shared) (σ : St) (H : Hp) (E : Value → Shared → Prop), Inv X pins σ H s → (∀ b ∈ fp, FpOk X pins H b) → tn i s.heap → J.stop i H →
    wpAny (model P w) X.A (pyNext (.ref it)) (fun r s1 => r = none ∧ Inv X pins σ H s1) E s
  self : ∀ (A : Around) (i : Nat) (s : Shared) (Q : Value → Shared → Prop) (E : Value → Shared → Prop), tn i s.heap → Q (.ref it) s → wpAny (model P w) A (pyIter (.ref it)) Q E s
theorem Inv.hq {X : Cx} {pins : List (Addr × Obj)} {σ : St} {H : Hp} {s : Shared} {ah C : Addr} (I : Inv X pins σ H s) (hc : X.A.handled = some (.ref ah)) (he : H ah = some (excO ah C)) : Hq X.A ah s.heap := by
  obtain ⟨⟨o, vs, h1, h2, h3, h4⟩, _⟩ := (show ObjOk X.prog X.w H s.heap ah (excO ah C) from I.hok ah _ he)
  exact ⟨hc, o, vs, h1, h3, h4⟩
section
variable {X : Cx} {pins : List (Addr × Obj)} {σ : St} {H : Hp} {s : Shared} {scope : Scope} {own : List Str} {fv : List (Str × Nat)}
end
section
variable {X : Cx} {scope : Scope} {own : List Str} {fv : List (Str × Nat)} {elt tg iter : Expr} {ifs : List Expr} {pos : Pos} {wi : TI} {g : TG} {tc : TT} {te : TE}
end
section
variable {own : List Str} {fv : List (Str × Nat)} {g : TG} {tc : TT} {te : TE} {σ : St} {D : Addr} {Q : VK} {H0 : Hp}
end
end L2
set_option Elab.async false
set_option linter.all false
set_option maxRecDepth 100000
set_option maxHeartbeats 4000000
namespace L2
open PySem PySem.Spec PyProof.Rows
structure FnOkQ (P : Program) (w : World) (K : PySem.W.Frag) (mg : Str → Option Value) (base : Heap) (CX : CXT) (k : Nat) (f : Addr) (fd : FuncData) (ps : List Str) (sp : Sp) : Prop where
  len : ∀ vs H Q E, sp vs H Q E → vs.length = ps.length
  run : ∀ (A : Around) (outer : List Env) (s : Shared) (H : Hp) (args : Args) (us : List Value) (vs : List V) (Q : VK) (E : XK), RoomX k A → (∃ ah, A.handled = some (.ref ah) ∧ vs.head? = some (.ref ah)) → Env0 P w K mg base A outer s H → BindsTo s fd args (ps.zip us) → Vals vs us → sp vs H Q E →
    codeAny (model P w) A (.call (.ref f) args) (CR CX outer P w H s Q E) s
section
variable {P : Program} {w : World} {K : PySem.W.Frag} {mg : Str → Option Value} {base : Heap} {x qual : Str} {st : Stmt} {f : Addr} {fd : FuncData} {N ps : List Str} {k : Nat} {sp : Sp}
end
section
variable {X : Cx} {CX : CXT} {k : Nat} {f C ah : Addr} {fd : FuncData} {ps : List Str} {sp : Sp} {dvs : List V} {ds : List Value} {E : XK} {x m : Str} {p pos apos : Pos} {e o : Expr} {es : List Expr} {ta : TE} {t : TA}
end
end L2
set_option Elab.async false
set_option linter.all false
set_option maxRecDepth 100000
set_option maxHeartbeats 4000000
namespace L2
open PySem PySem.Spec PyProof.Rows
section
variable {X : Cx}
end
theorem preSum_take (xs : Array (Int × Tok)) : ∀ n, n ≤ xs.size → preSum (numAt xs) n = ((xs.toList.map (·.1)).take n).sum
  | 0, _ => rfl
  | n + 1, h => by
    have hlt : n < xs.size := h
    have e : (xs.toList.map (·.1))[n]? = some (numAt xs n) := by
      rw [List.getElem?_map, Array.getElem?_toList]
      unfold numAt
      rw [Array.getElem?_eq_getElem hlt]
      rfl
    rw [preSum, preSum_take xs n (by omega), List.take_add_one, e]
    simp
theorem sum_bound : ∀ (ns : List Int), (∀ n ∈ ns, -(2 ^ 32) ≤ n ∧ n ≤ 2 ^ 32) → -(2 ^ 32) * (ns.length : Int) ≤ ns.sum ∧ ns.sum ≤ 2 ^ 32 * (ns.length : Int)
  | [], _ => by simp
  | n :: ns, h => by
    have h1 := h n (List.mem_cons_self ..)
    have h2 := sum_bound ns fun m hm => h m (List.mem_cons_of_mem _ hm)
    rw [List.sum_cons, List.length_cons]
    omega
section
variable {X : Cx}
theorem call_sum (hc : X.calm = true) : CallR X (.builtin "sum") (fun xs H Q => ∃ p, ∃ ns : List Int, xs = [.ref p] ∧ SqL X.K H p (ns.map V.int) ∧ (∀ n ∈ ns, -(2 ^ 32) ≤ n ∧ n ≤ 2 ^ 32) ∧ ns.length ≤ 100000 ∧ Q (.int ns.sum) H) := by
  intro pins s σ H xs us Q I r h
  obtain ⟨p, ns, rfl, hS, hb, hl, q⟩ := h
  obtain ⟨u, rfl, ru⟩ := vals1 r
  cases ru
  obtain ⟨its, rv, pl, _⟩ := I.list hS
  have hi := intsAre_of rv
  obtain ⟨ys, e⟩ := hi.allInts.items
  have hns : ns = ys.toList.map (·.1) := by rw [← hi.numsOf, ← nums_intItems, ← e]
  have hlist := pl.isList
  rw [e] at hlist
  have hsz : ys.size = ns.length := by rw [hns, List.length_map, Array.length_toList]
  refine sum_intList (I.ok.hd hc) hlist (fun j hj => ?_) fun h' tk t' hk => ?_
  · have hj' : j < ns.length := by omega
    have e1 : numAt ys j ∈ ns := by
      rw [hns]
      refine List.mem_map.mpr ⟨ys[j], by simp, ?_⟩
      unfold numAt
      simp [hj]
    have b1 := hb _ e1
    rw [preSum_take ys (j + 1) (by omega), ← hns]
    have b2 := sum_bound (ns.take (j + 1)) fun m hm => hb m (List.mem_of_mem_take hm)
    have b3 : (ns.take (j + 1)).length ≤ 100000 := Nat.le_trans (by rw [List.length_take]; omega) hl
    refine ⟨⟨by omega, by omega⟩, ⟨?_, ?_⟩⟩ <;> omega
  · refine ⟨.int ns.sum, H, I.kept hk, ⟨t', ?_⟩, q⟩
    rw [preSum_take ys ys.size (Nat.le_refl _), ← hns, hsz, List.take_length]
end
end L2
set_option Elab.async false
set_option linter.all false
set_option maxRecDepth 100000
set_option maxHeartbeats 4000000
namespace L2
open PySem PySem.Spec PyProof.Rows
section
variable {X : Cx} {e : Expr} {te : TE} {pos p2 p3 p4 : Pos}
end
section
variable {own : List Str} {fv : List (Str × Nat)} {g : TG} {tc : TT} {te : TE} {σ : St} {D : Addr} {Q : VK} {H1 : Hp}
def SameD (D : Addr) (H H' : Hp) : Prop := ∀ b o, H b = some o → b ≠ D → H' b = some o
theorem SameD.of {H H' : Hp} (h : Same H H') : SameD D H H' := fun b o e _ => h b o e
theorem SameD.trans {H H2 H3 : Hp} (a : SameD D H H2) (b : SameD D H2 H3) : SameD D H H3 := fun x o h n => b x o (a x o h n) n
theorem SameD.upd {H : Hp} {o : HO} : SameD D H (upd H D o) := fun b u e n => by rw [upd_ne n]; exact e
end
end L2
set_option Elab.async false
set_option linter.all false
set_option maxRecDepth 100000
set_option maxHeartbeats 4000000
namespace K05
open PySem L2
def fitsB (g : Int × Int) (p : Int) : Bool := decide (g.1 ≤ p) && decide (p ≤ g.2)
def timeAt (since : Int) (done : List Int) (k : Nat) : Int := ((-since) :: done).getD k 0
def stepB (gs : List (Int × Int)) (since : Int) (done : List Int) (k : Nat) : Bool := fitsB (gs.getD k (0, 0)) (timeAt since done (k + 1) - timeAt since done k)
def lastB (gs : List (Int × Int)) (since days : Int) (done : List Int) : Bool := decide (days - timeAt since done done.length ≤ (gs.getD done.length (0, 0)).2)
def keepB (gs : List (Int × Int)) (since days : Int) (done : List Int) : Bool := decide (done.length < gs.length) && ((List.range done.length).all (stepB gs since done) && lastB gs since days done)
def wI (ws : List Int) (d : Int) : Int := if inV (.int d) (ws.map V.int) = true then 1 else 0
theorem wI_nn (ws : List Int) (d : Int) : 0 ≤ wI ws d := by unfold wI; split <;> decide
def cnt (ws ds : List Int) : Int := ds.foldl (fun a d => a + wI ws d) 0
theorem cnt_snoc (ws ds : List Int) (d : Int) : cnt ws (ds ++ [d]) = cnt ws ds + wI ws d := by unfold cnt; rw [List.foldl_append]; rfl
theorem cnt_nn (ws : List Int) : ∀ (ds : List Int) (a : Int), 0 ≤ a → 0 ≤ ds.foldl (fun a d => a + wI ws d) a
  | [], a, h => h
  | d :: ds, a, h => cnt_nn ws ds _ (by have := wI_nn ws d; show (0 : Int) ≤ a + wI ws d; omega)
def Rng (days : Int) (ds : List Int) : Prop := ∀ d ∈ ds, 0 ≤ d ∧ d < days
def Path (gs : List (Int × Int)) (since : Int) (ds : List Int) : Prop := ∀ k, k < ds.length → stepB gs since ds k = true
section
variable {gs : List (Int × Int)} {since days : Int} {ws ds : List Int} {d : Int} {k j : Nat}
theorem Rng.snoc : Rng days (ds ++ [d]) ↔ Rng days ds ∧ 0 ≤ d ∧ d < days := by
  constructor
  · exact fun h => ⟨fun x hx => h x (List.mem_append_left _ hx), h d (by simp)⟩
  · rintro ⟨h1, h2⟩ x hx
    rcases List.mem_append.mp hx with hx | hx
    · exact h1 x hx
    · have : x = d := by simpa using hx
      rw [this]; exact h2
theorem time_le (hk : k ≤ ds.length) : timeAt since (ds ++ [d]) k = timeAt since ds k := by
  unfold timeAt
  rw [List.getD_eq_getElem?_getD, List.getD_eq_getElem?_getD, ← List.cons_append, List.getElem?_append_left (by simp; omega)]
theorem time_last : timeAt since (ds ++ [d]) (ds.length + 1) = d := by
  unfold timeAt
  rw [List.getD_eq_getElem?_getD, List.getElem?_cons_succ, List.getElem?_append_right (Nat.le_refl _), Nat.sub_self]
  rfl
theorem path_snoc : Path gs since (ds ++ [d]) ↔ Path gs since ds ∧ fitsB (gs.getD ds.length (0, 0)) (d - timeAt since ds ds.length) = true := by
  have e : stepB gs since (ds ++ [d]) ds.length = fitsB (gs.getD ds.length (0, 0)) (d - timeAt since ds ds.length) := by
    unfold stepB; rw [time_last, time_le (Nat.le_refl _)]
  have e2 : ∀ k, k < ds.length → stepB gs since (ds ++ [d]) k = stepB gs since ds k := fun k hk => by
    unfold stepB; rw [time_le (by omega), time_le (by omega)]
  constructor
  · intro h
    exact ⟨fun k hk => by rw [← e2 k hk]; exact h k (by simp; omega), by rw [← e]; exact h ds.length (by simp)⟩
  · rintro ⟨h1, h2⟩ k hk
    have hk : k < ds.length + 1 := by simpa using hk
    by_cases z : k < ds.length
    · rw [e2 k z]; exact h1 k z
    · have : k = ds.length := by omega
      subst this
      rw [e]; exact h2
theorem keep_iff : keepB gs since days ds = true ↔ ds.length < gs.length ∧ Path gs since ds ∧ days - timeAt since ds ds.length ≤ (gs.getD ds.length (0, 0)).2 := by
  unfold keepB lastB Path
  simp only [Bool.and_eq_true, decide_eq_true_eq, List.all_eq_true, List.mem_range]
end
theorem snoc_of {n : Nat} {ds : List Int} (h : ds.length = n + 1) : ∃ ds' d, ds = ds' ++ [d] ∧ ds'.length = n := by
  have hne : ds ≠ [] := by intro z; rw [z] at h; cases h
  exact ⟨ds.dropLast, ds.getLast hne, (List.dropLast_concat_getLast hne).symm, by rw [List.length_dropLast]; omega⟩
structure Rch (gs : List (Int × Int)) (since days : Int) (ws : List Int) (j : Nat) (R : List (Int × Int)) : Prop where
  to : ∀ p ∈ R, ∃ ds, ds.length = j ∧ Path gs since ds ∧ Rng days ds ∧ timeAt since ds j = p.1 ∧ cnt ws ds = p.2
  of : ∀ ds, ds.length = j → Path gs since ds → Rng days ds → ∃ c, c ≤ cnt ws ds ∧ (timeAt since ds j, c) ∈ R
structure StepR (R : List (Int × Int)) (g : Int × Int) (ws : List Int) (n : Nat) (F : List (Int × Int)) : Prop where
  to : ∀ p ∈ F, 0 ≤ p.1 ∧ p.1 < (n : Int) ∧ ∃ q ∈ R, fitsB g (p.1 - q.1) = true ∧ p.2 = q.2 + wI ws p.1
  of : ∀ d : Int, 0 ≤ d → d < (n : Int) → ∀ q ∈ R, fitsB g (d - q.1) = true → ∃ c, c ≤ q.2 + wI ws d ∧ (d, c) ∈ F
structure End (gs : List (Int × Int)) (since days : Int) (ws : List Int) (j : Nat) (E : List Int) : Prop where
  to : ∀ c ∈ E, ∃ ds, keepB gs since days ds = true ∧ Rng days ds ∧ cnt ws ds = c
  of : ∀ ds, ds.length < j → keepB gs since days ds = true → Rng days ds → ∃ c, c ≤ cnt ws ds ∧ c ∈ E
section
variable {gs : List (Int × Int)} {since days : Int} {ws : List Int} {j : Nat} {R F : List (Int × Int)} {E : List Int}
theorem Rch.start : Rch gs since days ws 0 [(-since, 0)] := by
  refine ⟨fun p hp => ?_, fun ds h _ _ => ?_⟩
  · have : p = (-since, 0) := by simpa using hp
    subst this
    exact ⟨[], rfl, (fun k hk => absurd hk (Nat.not_lt_zero k)), (fun x hx => nomatch hx), rfl, rfl⟩
  · cases List.length_eq_zero_iff.mp h
    exact ⟨0, Int.le_refl 0, by simp [timeAt]⟩
theorem Rch.step (h0 : 0 ≤ days) (h : Rch gs since days ws j R) (s : StepR R (gs.getD j (0, 0)) ws days.toNat F) : Rch gs since days ws (j + 1) F := by
  refine ⟨fun p hp => ?_, fun ds hl hP hR => ?_⟩
  · obtain ⟨a, b, q, hq, hf, hc⟩ := s.to p hp
    obtain ⟨ds, dl, dP, dR, dt, dc⟩ := h.to q hq
    subst dl
    exact ⟨ds ++ [p.1], by simp, path_snoc.mpr ⟨dP, by rw [dt]; exact hf⟩, Rng.snoc.mpr ⟨dR, a, by omega⟩, time_last, by rw [cnt_snoc, dc, hc]⟩
  · obtain ⟨ds', d, rfl, hl'⟩ := snoc_of hl
    subst hl'
    obtain ⟨P1, P2⟩ := path_snoc.mp hP
    obtain ⟨R1, R2, R3⟩ := Rng.snoc.mp hR
    obtain ⟨c, c1, c2⟩ := h.of ds' rfl P1 R1
    obtain ⟨c', d1, d2⟩ := s.of d R2 (by omega) _ c2 P2
    refine ⟨c', ?_, by rw [time_last]; exact d2⟩
    rw [cnt_snoc]
    have : c' ≤ c + wI ws d := d1
    omega
theorem StepR.start {g : Int × Int} : StepR R g ws 0 [] := ⟨fun p hp => (nomatch hp), fun d h0 h1 => by omega⟩
theorem StepR.none {g : Int × Int} {n : Nat} (s : StepR R g ws n F) (h : ∀ q ∈ R, fitsB g ((n : Int) - q.1) = false) : StepR R g ws (n + 1) F := by
  refine ⟨fun p hp => ?_, fun d h0 h1 q hq hf => ?_⟩
  · obtain ⟨a, b, r⟩ := s.to p hp
    exact ⟨a, by omega, r⟩
  · by_cases z : d < (n : Int)
    · exact s.of d h0 z q hq hf
    · have : d = (n : Int) := by omega
      subst this
      rw [h q hq] at hf; cases hf
theorem StepR.some {g : Int × Int} {n : Nat} {M : Int} (s : StepR R g ws n F) (h1 : ∃ q ∈ R, fitsB g ((n : Int) - q.1) = true ∧ q.2 = M) (h2 : ∀ q ∈ R, fitsB g ((n : Int) - q.1) = true → M ≤ q.2) :
    StepR R g ws (n + 1) (F ++ [((n : Int), M + wI ws n)]) := by
  refine ⟨fun p hp => ?_, fun d h0 h3 q hq hf => ?_⟩
  · rcases List.mem_append.mp hp with hp | hp
    · obtain ⟨a, b, r⟩ := s.to p hp
      exact ⟨a, by omega, r⟩
    · have : p = ((n : Int), M + wI ws n) := by simpa using hp
      subst this
      obtain ⟨q, a, b, c⟩ := h1
      exact ⟨by show (0 : Int) ≤ n; omega, by show (n : Int) < _; omega, q, a, b, by rw [c]⟩
  · by_cases z : d < (n : Int)
    · obtain ⟨c, a, b⟩ := s.of d h0 z q hq hf
      exact ⟨c, a, List.mem_append_left _ b⟩
    · have : d = (n : Int) := by omega
      subst this
      exact ⟨M + wI ws n, by have := h2 q hq hf; omega, by simp⟩
theorem End.start : End gs since days ws 0 [] := ⟨fun c hc => (nomatch hc), fun ds h => absurd h (Nat.not_lt_zero _)⟩
theorem End.step (h : End gs since days ws j E) (r : Rch gs since days ws j R) (hj : j < gs.length) :
    End gs since days ws (j + 1) (E ++ (R.filter fun p => decide (days - p.1 ≤ (gs.getD j (0, 0)).2)).map (·.2)) := by
  refine ⟨fun c hc => ?_, fun ds hl hk hR => ?_⟩
  · rcases List.mem_append.mp hc with hc | hc
    · exact h.to c hc
    · obtain ⟨p, hp, rfl⟩ := List.mem_map.mp hc
      obtain ⟨hp, hl⟩ := List.mem_filter.mp hp
      obtain ⟨ds, dl, dP, dR, dt, dc⟩ := r.to p hp
      subst dl
      exact ⟨ds, keep_iff.mpr ⟨hj, dP, by rw [dt]; exact of_decide_eq_true hl⟩, dR, dc⟩
  · by_cases z : ds.length < j
    · obtain ⟨c, a, b⟩ := h.of ds z hk hR
      exact ⟨c, a, List.mem_append_left _ b⟩
    · have : ds.length = j := by omega
      subst this
      obtain ⟨k1, k2, k3⟩ := keep_iff.mp hk
      obtain ⟨c, a, b⟩ := r.of ds rfl k2 hR
      exact ⟨c, a, List.mem_append_right _ (List.mem_map.mpr ⟨_, List.mem_filter.mpr ⟨b, decide_eq_true k3⟩, rfl⟩)⟩
end
def Best (gs : List (Int × Int)) (since days : Int) (ws : List Int) (L : List (List Int)) (b : Int) : Prop :=
  (b = -1 ∧ ∀ ds ∈ L, keepB gs since days ds = false) ∨ (0 ≤ b ∧ (∃ ds ∈ L, keepB gs since days ds = true ∧ cnt ws ds = b) ∧ ∀ ds ∈ L, keepB gs since days ds = true → b ≤ cnt ws ds)
section
variable {gs : List (Int × Int)} {since days : Int} {ws : List Int} {L : List (List Int)} {b : Int} {ds : List Int}
theorem Best.take (h : Best gs since days ws L b) (hk : keepB gs since days ds = true) (hb : b < 0 ∨ cnt ws ds < b) : Best gs since days ws (L ++ [ds]) (cnt ws ds) := by
  have mem : ∀ x ∈ L ++ [ds], x ∈ L ∨ x = ds := fun x hx => by simpa using hx
  refine .inr ⟨cnt_nn ws ds 0 (by decide), ⟨ds, by simp, hk, rfl⟩, fun x hx hx2 => ?_⟩
  rcases mem x hx with z | z
  · rcases h with ⟨h1, h2⟩ | ⟨h0, _, h2⟩
    · rw [h2 x z] at hx2; cases hx2
    · have := h2 x z hx2
      omega
  · rw [z]; exact Int.le_refl _
theorem Best.keep (h : Best gs since days ws L b) (hk : keepB gs since days ds = true) (hb : ¬ (b < 0 ∨ cnt ws ds < b)) : Best gs since days ws (L ++ [ds]) b := by
  have mem : ∀ x ∈ L ++ [ds], x ∈ L ∨ x = ds := fun x hx => by simpa using hx
  rcases h with ⟨h1, h2⟩ | ⟨h0, ⟨d, d1, d2, d3⟩, h2⟩
  · exact absurd (.inl (by omega)) hb
  · refine .inr ⟨h0, ⟨d, List.mem_append_left _ d1, d2, d3⟩, fun x hx hx2 => ?_⟩
    rcases mem x hx with z | z
    · exact h2 x z hx2
    · rw [z]; omega
end
end K05
set_option Elab.async false
set_option linter.all false
set_option maxRecDepth 100000
set_option maxHeartbeats 4000000
namespace L2
open PySem PySem.Spec PyProof.Rows
section
variable {own : List Str} {fv : List (Str × Nat)} {g : TG} {tc : TT} {te : TE} {σ : St} {D : Addr} {Q : VK} {H1 : Hp}
end
end L2
set_option Elab.async false
set_option linter.all false
set_option maxRecDepth 100000
set_option maxHeartbeats 8000000
namespace L2
open PySem PySem.Spec PyProof.Rows
def meet {κ : Type} [DecidableEq κ] (acc : List κ) (x : κ) : List κ := if x ∈ acc then acc else acc ++ [x]
def metK {κ : Type} [DecidableEq κ] (xs : List κ) : List κ := xs.foldl meet []
theorem metK_snoc {κ : Type} [DecidableEq κ] (xs : List κ) (x : κ) : metK (xs ++ [x]) = meet (metK xs) x := by unfold metK; rw [List.foldl_append]; rfl
theorem meet_mem {κ : Type} [DecidableEq κ] {acc : List κ} {x y : κ} : y ∈ meet acc x ↔ y ∈ acc ∨ y = x := by
  unfold meet
  split
  · rename_i h
    constructor
    · exact .inl
    · rintro (h' | rfl)
      · exact h'
      · exact h
  · rw [List.mem_append, List.mem_singleton]
theorem metK_le {κ : Type} [DecidableEq κ] (xs : List κ) : ∀ acc : List κ, (xs.foldl meet acc).length ≤ acc.length + xs.length := by
  induction xs with
  | nil => intro acc; exact Nat.le_refl _
  | cons x r ih =>
    intro acc
    have h1 := ih (meet acc x)
    have h2 : (meet acc x).length ≤ acc.length + 1 := by
      unfold meet; split
      · omega
      · rw [List.length_append]; exact Nat.le_refl _
    rw [List.foldl_cons, List.length_cons]; omega
section
variable {prog : Program} {w : World} {A : Around} {R : Result → Shared → Prop} {I : Addr} {fp wr : List Addr} {G : Array GenState → Array GenState → Prop} {P : Nat → Value → Prop} {St : Nat → Shared → Prop} {xs : List Str}
theorem set_loop (W : WalksS prog w A.in1 I fp wr G xs.length P St) (S : Addr) (nf : S ∉ fp) (hv : ∀ i v, P i v → ∃ x t, xs[i]? = some x ∧ v = .str x t) (hb : xs.length + 1 < scanBound) : ∀ (k i : Nat) (s : Shared), xs.length - i = k → i ≤ xs.length → St i s →
      s.heap.SetOf (PySem.strKind prog w) S (fun y => decide (y ∈ metK (xs.take i))) (metK (xs.take i)).length →
      (∀ s', Moved (S :: wr) G s s' → s'.heap.SetOf (PySem.strKind prog w) S (fun y => decide (y ∈ metK xs)) (metK xs).length → R (.ok (.ret .none)) s') →
      codeAny (model prog w) A (.builtin "set.update.loop" ⟨[.ref S, .ref I], []⟩) R s := by
  have nw : S ∉ wr := fun z => nf (W.sub _ z)
  have up : ∀ b ∈ wr, b ∈ S :: wr := fun b z => List.mem_cons_of_mem _ z
  have stay : ∀ {s s' : Shared} {S' : Str → Bool} {n : Nat}, Moved wr G s s' → s.heap.SetOf (PySem.strKind prog w) S S' n → s'.heap.SetOf (PySem.strKind prog w) S S' n := fun m ⟨o, es, ep, t, ho, rest⟩ => ⟨o, es, ep, t, m.heap S _ nw ho, rest⟩
  intro k
  induction k with
  | zero =>
    intro i s hk hi st hS hR
    obtain rfl : i = xs.length := by omega
    refine codeAny_builtin F.entry_set_update_loop ?_
    rw [Around.under_plainId F.plain_set_update_loop _]
    show wpAny _ A.in1 (pyNext (.ref I) >>= _) _ _ s
    rw [List.take_length] at hS
    refine wpAny_bind (W.done s _ _ st fun s' m => ?_)
    exact wpAny_pure (hR s' (m.mono up) (stay m hS))
  | succ k ih =>
    intro i s hk hi st hS hR
    have lt : i < xs.length := by omega
    refine codeAny_builtin F.entry_set_update_loop ?_
    rw [Around.under_plainId F.plain_set_update_loop _]
    show wpAny _ A.in1 (pyNext (.ref I) >>= _) _ _ s
    refine wpAny_bind (W.item i s _ _ lt st fun v s1 hP st1 m1 => ?_)
    obtain ⟨x, t, hx, rfl⟩ := hv i v hP
    have hS1 := stay m1 hS
    have tk : metK (xs.take (i + 1)) = meet (metK (xs.take i)) x := by rw [List.take_add_one, hx]; exact metK_snoc _ _
    have le : (metK (xs.take i)).length ≤ i := by
      have := metK_le (xs.take i) ([] : List Str)
      rw [List.length_take] at this
      unfold metK
      simp at this; omega
    show wpAny _ A.in1 (holding [Value.str x t] (setAdd S (.str x t)) >>= _) _ _ s1
    refine wpAny_bind (wpAny_holding ?_)
    unfold setAdd
    refine wpAny_holding (wpAny_bind ((PySem.strKind prog w).pyHash (k := x) (strKind_is _ _ _ _) ?_))
    refine wpAny_setAddHashed_of (knd := PySem.strKind prog w) (s := { s1 with toks := s1.toks + 1 }) (strKind_is _ _ _ _) rfl hS1 (by omega) fun h' sb hS2 => ?_
    have hS3 : h'.SetOf (PySem.strKind prog w) S (fun y => decide (y ∈ metK (xs.take (i + 1)))) (metK (xs.take (i + 1))).length := by
      refine SetOf_congr hS2 (fun y => ?_) ?_
      · rw [tk, Bool.eq_iff_iff]
        simp only [Bool.or_eq_true, decide_eq_true_eq]
        exact meet_mem.symm
      · rw [tk]; unfold meet
        by_cases z : x ∈ metK (xs.take i)
        · rw [if_pos (by exact decide_eq_true z), if_pos z]
        · rw [if_neg (by simpa using z), if_neg z, List.length_append]; rfl
    refine wpAny_pure ⟨plainId_quiet F.plain_set_update_loop _, ih (i + 1) _ (by omega) lt (W.frame _ s1 _ _ st1 (Nat.le_succ _) fun b hb' o e => ?_) hS3 fun s2 m2 hS4 => ?_⟩
    · rw [sb.2 b fun z => nf (z ▸ hb')]; exact e
    · refine hR s2 (Moved.trans W.gtrans ((m1.mono up).then_heap (Nat.le_succ _) fun b o hb' e => ?_) m2) hS4
      rw [sb.2 b fun z => hb' (z ▸ List.mem_cons_self)]; exact e
end
section
variable {prog : Program} {w : World} {A : Around} {E : Value → Shared → Prop} {s : Shared}
theorem set_of_texts {l : Addr} {its : Array Value} {xs : List Str} {Q : Value → Shared → Prop} (hh : A.handled = none) (hl : s.heap.IsList l its) (hi : ∀ (i : Nat) v, its[i]? = some v → ∃ x t, xs[i]? = some x ∧ v = .str x t) (hz : its.size = xs.length) (hb : xs.length + 1 < scanBound)
    (h : ∀ (h' : Heap) (tk : Nat), h'.SetOf (PySem.strKind prog w) s.heap.objs.size (fun y => decide (y ∈ metK xs)) (metK xs).length →
      (∀ b o, b < s.heap.objs.size → s.heap.get? b = some o → h'.get? b = some o) → Q (.ref s.heap.objs.size) { s with heap := h', toks := tk }) : wpAny (model prog w) A (call (.type "set") [.ref l]) Q E s := by
  obtain ⟨c, tl, hmro⟩ := F.called_set.mro
  have hmade := F.called_set.made
  have hsub := F.called_set.sub
  refine wpAny_call (codeAny_of_tree (by
    show wpAny _ _ (callAny (.type "set") _) _ _ _
    refine wpAny_pure ⟨Code.quiet_builtin _ (by decide +kernel), codeAny_builtin F.entry_type_call ?_⟩
    rw [Around.under_plain (weight_type_call_type "set" [.ref l] []) rfl]
    have n1 := F.called_set.notType
    have n2 := F.called_set.canCreate
    have n3 := F.typeCall_set_1 (.ref l)
    repeat (any_goals (first | wp_step | assumption))
    refine codeAny_mono (code_set_new_1 (.ref l) (E := E) (Q₁ := fun ob s1 => ∃ led : Bool, ob = .ref s.heap.objs.size ∧ s1 = { s with heap := s.heap.push ({ cls := .type "set", dict := none, data := .set #[] 0 (.fresh 0 0 led) }) }) fun led => ⟨led, rfl, rfl⟩) fun r s1 hr => ?_
    cases r with
    | error e => exact hr
    | ok fl =>
      cases fl with
      | ret ob =>
        obtain ⟨led, rfl, rfl⟩ := hr
        have gS : (s.heap.push ({ cls := .type "set", dict := none, data := .set #[] 0 (.fresh 0 0 led) })).get? s.heap.objs.size = some ({ cls := .type "set", dict := none, data := .set #[] 0 (.fresh 0 0 led) }) := Heap.get?_push_size _ rfl
        have tS : Shared.TypeIs { s with heap := s.heap.push ({ cls := .type "set", dict := none, data := .set #[] 0 (.fresh 0 0 led) }) } (.ref s.heap.objs.size) "set" := ⟨_, gS, rfl⟩
        have i1 := F.called_set.init.lookup
        have i2 := F.called_set.init.bind (.ref s.heap.objs.size)
        repeat (any_goals (first | wp_step | assumption))
        refine codeAny_mono (codeAny_call_builtin (R := wants (fun r s2 => r = .none ∧ ∃ h' tk, s2 = { s with heap := h', toks := tk } ∧ h'.SetOf (PySem.strKind prog w) s.heap.objs.size (fun y => decide (y ∈ metK xs)) (metK xs).length ∧
            (∀ b o, b < s.heap.objs.size → s.heap.get? b = some o → h'.get? b = some o)) E) F.called_set.init.plain F.entry_set_init (check_set_init_1 tS ?_)) fun r2 s2 hr2 => ?_
        · obtain ⟨ol, q1, q2, nl, q3⟩ := hl
          obtain ⟨oc, od, oda, os⟩ := ol
          simp only at q2 q3
          subst q2; subst q3
          have q4 : (s.heap.push ({ cls := .type "set", dict := none, data := .set #[] 0 (.fresh 0 0 led) })).get? l = some { cls := .type "list", dict := od, data := .seq its nl, slots := os } := Heap.get?_push_of_some _ q1
          have u1 := F.sub_list_set
          have u2 := F.sub_list_frozenset
          have u3 : (Value.type "list" == Value.type "dict") = false := by decide
          have L1 : (s.heap.push ({ cls := .type "set", dict := none, data := .set #[] 0 (.fresh 0 0 led) })).IsList l its := ⟨_, q4, rfl, nl, rfl⟩
          unfold Builtin.«set.__init__» noKeywords Builtin.Frozenset.updateFrom
          generalize hPI : pyIter = PI
          wp_walk
          subst hPI
          refine wpAny_pyIter_list L1 ?_
          refine (wpAny_bind (wpAny_runValue ?_))
          have ls : l < s.heap.objs.size := Heap.lt_size q1
          have hd3 : A.in1.in1.in1.handled = none := by simp [hh]
          have ne : l ≠ (s.heap.push ({ cls := .type "set", dict := none, data := .set #[] 0 (.fresh 0 0 led) })).objs.size := by rw [Heap.size_push]; exact Nat.ne_of_lt (Nat.lt_succ_of_lt ls)
          have nS : s.heap.objs.size ∉ [(s.heap.push ({ cls := .type "set", dict := none, data := .set #[] 0 (.fresh 0 0 led) })).objs.size, l] := by
            rw [Heap.size_push]
            intro z
            rcases List.mem_cons.mp z with z | z
            · exact absurd z (Nat.ne_of_lt (Nat.lt_succ_self _))
            · rw [List.mem_singleton] at z; exact absurd z (Nat.ne_of_gt ls)
          have WK := (Walks.list (prog := prog) (w := w) hd3 (s.heap.push ({ cls := .type "set", dict := none, data := .set #[] 0 (.fresh 0 0 led) })).objs.size l ne its).toS
          rw [hz] at WK
          refine set_loop (xs := xs) WK s.heap.objs.size nS (fun i v z => hi i v z) hb (xs.length - 0) 0 _ (by omega) (Nat.zero_le _) ⟨⟨_, Heap.get?_push_size _ rfl, rfl, rfl⟩, (L1.push _)⟩ ?_ ?_
          · have gg : ((s.heap.push ({ cls := .type "set", dict := none, data := .set #[] 0 (.fresh 0 0 led) })).push { cls := .type "list_iterator", data := .fields #[.ref l, .int 0 0] }).get? s.heap.objs.size = some { cls := .type "set", dict := none, data := .set #[] 0 (.fresh 0 0 led) } := Heap.get?_push_of_some _ gS
            exact SetOf_congr ((setObjOf_fresh (knd := PySem.strKind prog w) led).setOf gg (by unfold scanBound; omega)) (fun _ => rfl) rfl
          · intro s' m hS'
            obtain ⟨h', g', d', tk', os'⟩ := s'
            obtain rfl : g' = s.gens := m.gens
            obtain rfl : d' = s.drawn := m.drawn
            obtain rfl : os' = s.os := m.os
            refine wpAny_pure (wpAny_pure ⟨rfl, h', tk', rfl, hS', fun b o hb' e => ?_⟩)
            refine m.heap b o (fun z => ?_) (Heap.get?_push_of_some _ (Heap.get?_push_of_some _ e))
            rcases List.mem_cons.mp z with z | z
            · exact absurd z (Nat.ne_of_lt hb')
            · rw [List.mem_singleton, Heap.size_push] at z; exact absurd z (Nat.ne_of_lt (Nat.lt_succ_of_lt hb'))
        · cases r2 with
          | error e => exact hr2
          | ok f2 =>
            cases f2 with
            | ret r =>
              obtain ⟨rfl, h', tk, rfl, hS', hk'⟩ := hr2
              repeat (any_goals (first | wp_step | assumption))
              exact h _ _ hS' hk'
            | _ => exact hr2.elim
      | _ => exact hr.elim))
end
end L2
set_option Elab.async false
set_option linter.all false
set_option maxRecDepth 100000
set_option maxHeartbeats 8000000
namespace L2
open PySem PySem.Spec PyProof.Rows
section
variable {X : Cx}
def SetS (P : Program) (w : World) (a : Addr) (ts : List Str) : HO := .ext fun h => h.SetOf (PySem.strKind P w) a (fun y => decide (y ∈ metK ts)) (metK ts).length
theorem call_setS (hc : X.calm = true) : CallR X (.type "set") (fun xs H Q => ∃ p, ∃ ts : List Str, xs = [.ref p] ∧ SqL X.K H p (ts.map V.str) ∧ ts.length ≤ 1000 ∧ ∀ a, H a = none → Q (.ref a) (upd H a (SetS X.prog X.w a ts))) := by
  intro pins s σ H xs us Q I r h
  obtain ⟨p, ts, rfl, hS, hl, q⟩ := h
  obtain ⟨u, rfl, ru⟩ := vals1 r
  cases ru
  obtain ⟨its, rv, pl, _⟩ := I.list hS
  have hlen : its.length = ts.length := by have := rv.length; simpa using this.symm
  refine set_of_texts (xs := ts) (I.ok.hd hc) pl.isList (fun i v hv => ?_) (by simp [hlen]) (by unfold scanBound; omega) fun h' tk hset hk => ?_
  · have hi : i < ts.length := by
      have := (Array.getElem?_eq_some_iff.mp hv).1
      simp [hlen] at this; exact this
    obtain ⟨u, hu, ru⟩ := rv.get (show (ts.map V.str)[i]? = some (.str ts[i]) by rw [List.getElem?_map, List.getElem?_eq_getElem hi]; rfl)
    have : its[i]? = some v := by simpa using hv
    rw [this] at hu; cases hu
    obtain ⟨t, rfl⟩ := ru
    exact ⟨ts[i], t, List.getElem?_eq_getElem hi, rfl⟩
  · have k : ∀ b o, s.heap.get? b = some o → h'.get? b = some o := fun b o e => hk b o (Heap.lt_size e) e
    refine ⟨.ref s.heap.objs.size, _, I.laid (t' := tk) (o := SetS X.prog X.w s.heap.objs.size ts) k (Nat.le_refl _) ?_, rfl, q _ (I.hok.fresh (Nat.le_refl _))⟩
    refine ⟨hset, ?_, fun h1 h2 hs1 kk => ?_⟩
    · obtain ⟨o, _, _, _, ho, _⟩ := hset
      exact ⟨o, ho⟩
    · obtain ⟨o, es, ep, t, ho, rest⟩ := hs1
      exact ⟨o, es, ep, t, kk o ho, rest⟩
theorem call_lenS : CallR X (.builtin "len") (fun xs H Q => ∃ a, ∃ ts : List Str, xs = [.ref a] ∧ H a = some (SetS X.prog X.w a ts) ∧ Q (.int ((metK ts).length : Nat)) H) := by
  intro pins s σ H xs us Q I r h
  obtain ⟨a, ts, rfl, ha, q⟩ := h
  obtain ⟨u, rfl, ru⟩ := vals1 r
  cases ru
  obtain ⟨hset, _⟩ := (show ObjOk X.prog X.w H s.heap a (SetS X.prog X.w a ts) from I.hok a _ ha)
  obtain ⟨o, es, ep, t, ho, hex, hd, _, _, hsz, hf, hn⟩ := hset
  refine call_len_set ho hex hd hf (by unfold scanBound at hsz; omega) ⟨.int ((metK ts).length : Nat), H, I.tok _, ⟨_, by rw [hn]⟩, q⟩
theorem pass_none : Passes (CX1 X.prog X.w) X (fun _ _ _ => False) := by
  intro pins σ H s e s' I hx
  obtain ⟨a, C, H', B, _, _, q⟩ := hx
  exact q.elim
end
structure Base (K : PySem.W.Frag) (C : Addr) (m : Str) (f : Addr) : Prop where
  sp : PySem.W.specialIn K (.ref C) "__getattribute__" = some (some (.builtin "type.__getattribute__"))
  rd : PySem.W.readsIn K C (.type "type") = true
  fc : PySem.W.findCls K (.ref C) (.type "type") m = some (.val (.ref f))
  kp : PySem.W.keepIn K (.ref f) = true
section
variable {X : Cx} {CX : CXT} {k : Nat} {f C : Addr} {fd : FuncData} {ps : List Str} {sp : Sp} {dvs : List V} {ds : List Value} {E : XK} {x m : Str} {p pos apos : Pos} {e o : Expr} {es : List Expr} {ta : TE} {t : TA}
theorem pe_base {pl : Sem Bool} (hg : Gl X x) (hm : X.mg x = some (.ref C)) (b : Base X.K C m f) (F : FnOk X.prog X.w X.K X.mg X.base CX k f fd ps sp) (hr : Room k X.A) (hb : Binds X.K fd ps ds) (hd : Vals dvs ds) (hx : Passes CX X E) (ha : PA X (e :: es) t)
    (hdb : (x == ("__debug__" : Str)) = false := by decide)
    (hst : starEach (e :: es) X.env = (false, eval e X.env) :: starEach es X.env := by rfl) (hpl : (backTo pos (starEach es X.env)).any (·.1) = false := by rfl)
    (ht : eval (.Call (.Attribute (.Name x p) m apos) (e :: es) [] pos) X.env = (do
      let ov ← eval (.Name x p) X.env
      standAt apos.atName
      let (f, first) ← holding [ov] (getMethod ov m pl)
      callWith pos f first (backTo pos (starEach (e :: es) X.env)) (backToKw pos (keywordEach [] X.env))) := by rfl) :
    PE X (.Call (.Attribute (.Name x p) m apos) (e :: es) [] pos) (tCall sp dvs E t) := by
  intro pins s σ H Q I h
  have he : PE X (.Name x p) (fun σ H Q => Q (.ref C) H) := pe_glob (v := .ref C) hg hm rfl hdb
  refine PySem.W.methodCall_KW (pl := pl) (thn (he pins s σ H (fun y H' => y = .ref C ∧ H' = H) I ⟨rfl, rfl⟩) fun u s1 ⟨y, H1, I1, ry, z1, z2⟩ => ?_) ht
  subst z1 z2
  obtain rfl : u = Value.ref C := ry
  refine PySem.W.method_cls I1.kIn b.sp (PySem.W.cls_value I1.kIn b.rd b.fc rfl ?_)
  have I2 := I1.tok (s1.toks + 1)
  refine PySem.W.callWith_K (first := []) (h₀ := X.base) I.ok.mod.kin b.kp (thn (ha pos pins _ σ H1 _ I2 h) fun us s2 ⟨vs, H2, I3, r, q2⟩ => ⟨I3.kIn, ?_⟩) hst hpl
  exact run_fn F hr hb hd hx I3 r q2
end
end L2
set_option Elab.async false
set_option linter.all false
set_option maxRecDepth 100000
set_option maxHeartbeats 4000000
namespace L2
open PySem PySem.Spec PyProof.Rows
section
variable {X : Cx} {pins : List (Addr × Obj)} {σ : St} {H : Hp} {s : Shared} {l b : Addr} {xs ys zs : List V}
theorem Inv.lstR (I : Inv X pins σ H s) (hH : Rd H l (.lst xs)) : xs.length ≤ sizeLine ∧ ∃ (its : List Value) (n : Nat), Vals xs its ∧ xs.length = its.length ∧ s.heap.get? l = some { cls := .type "list", data := .seq its.toArray n } := by
  obtain ⟨z, its, n, r, e⟩ := hH.ok I.hok
  exact ⟨z, its, n, r, r.length, e⟩
def rCatR : R2 := fun x y H Q => ∃ l b xs zs, x = .ref l ∧ y = .ref b ∧ Rd H l (.lst xs) ∧ Rd H b (.lst zs) ∧ xs.length + zs.length ≤ sizeLine ∧ ∀ p, H p = none → Q (.ref p) (upd H p (.lst (xs ++ zs)))
theorem op_catR : OpR X (binaryOp .Add) rCatR := by
  intro pins s σ H x y v u Q I rx ry h
  obtain ⟨l, b, xs, zs, rfl, rfl, hH, hB, hz, q⟩ := h
  cases rx
  cases ry
  obtain ⟨z, its, n, r, hl, e⟩ := I.lstR hH
  obtain ⟨z2, its2, n2, r2, hl2, e2⟩ := I.lstR hB
  refine PySem.P.add_list e e2 ?_ (by rw [List.size_toArray, List.size_toArray]; omega)
  have ea : its.toArray ++ its2.toArray = (its ++ its2).toArray := by simp
  rw [ea]
  exact ⟨.ref _, _, I.lnew (t' := s.toks) (r.append r2) (by rw [List.length_append]; omega), rfl, q _ I.fresh⟩
end
end L2
namespace L2
open PySem PySem.Spec PyProof.Rows
inductive TyZ (K : PySem.W.Frag) (H : Hp) : V → Value → Prop where
  | of {x : V} {t : Value} (h : TyOf K H x t) : TyZ K H x t
  | tup {a : Addr} {xs : List V} (h : SqT K H a xs) : TyZ K H (.ref a) (.type "tuple")
  | lst {a : Addr} {xs : List V} (h : Rd H a (.lst xs)) : TyZ K H (.ref a) (.type "list")
  | dK {a : Addr} {kvs : List (Key × V)} (h : Rd H a (.dK kvs)) : TyZ K H (.ref a) (.type "dict")
section
variable {X : Cx}
theorem TyZ.kit {pins : List (Addr × Obj)} {σ : St} {H : Hp} {s : Shared} {x : V} {u t : Value} (I : Inv X pins σ H s) (rx : RelV x u) (ty : TyZ X.K H x t) : ∃ HH, PySem.W.KitX X.K u t HH ∧ HH s.heap ∧ u ≠ .builtin "__main__.__loader__#opaque" := by
  cases ty with
  | of h => exact h.kit I rx
  | @tup a xs h =>
    cases (show u = Value.ref a from rx)
    obtain ⟨its, r, p, hz⟩ := I.tuple h
    obtain ⟨o, h1, h2, _⟩ := p
    exact ⟨_, PySem.W.kitx_tuple, ⟨o, h1, h2⟩, fun z => nomatch z⟩
  | @lst a xs h =>
    cases (show u = Value.ref a from rx)
    obtain ⟨_, _, n, _, h1⟩ := h.ok I.hok
    exact ⟨_, PySem.W.kitx_list, ⟨_, h1, rfl⟩, fun z => nomatch z⟩
  | @dK a kvs h =>
    cases (show u = Value.ref a from rx)
    obtain ⟨_, _, vs, _, p⟩ := h.ok I.hok
    obtain ⟨o, es, ep, h1, h2, _⟩ := p
    exact ⟨_, PySem.W.kitx_dict, ⟨o, h1, h2.1⟩, fun z => nomatch z⟩
def rIsi (K : PySem.W.Frag) : List V → Hp → VK → Prop := fun xs H Q => ∃ x n t b, xs = [x, .ty n] ∧ TyZ K H x t ∧ PySem.W.kitOne K t (.type n) = some b ∧ Q (.bl b) H
theorem call_isiZ : CallR X (.builtin "isinstance") (rIsi X.K) := by
  intro pins s σ H xs us Q I r h
  obtain ⟨x, n, t, b, rfl, ty, e, q⟩ := h
  obtain ⟨u, w', rfl, ru, rw'⟩ := vals2 r
  cases rw'
  obtain ⟨HH, Z, hh, hne⟩ := ty.kit I ru
  exact PySem.W.kia_one Z I.kIn hh e hne fun tk => ⟨.bl b, H, I.tok tk, rfl, q⟩
def rIsiT (K : PySem.W.Frag) : List V → Hp → VK → Prop := fun xs H Q => ∃ x p, ∃ ns : List String, ∃ t b, xs = [x, .ref p] ∧ H p = some (.tup (ns.map V.ty)) ∧ TyZ K H x t ∧ PySem.W.kitAny K t (ns.map Value.type) = some b ∧ Q (.bl b) H
theorem call_isiTZ : CallR X (.builtin "isinstance") (rIsiT X.K) := by
  intro pins s σ H xs us Q I r h
  obtain ⟨x, p, ns, t, b, rfl, hp, ty, e, q⟩ := h
  obtain ⟨u, w', rfl, ru, rw'⟩ := vals2 r
  cases rw'
  obtain ⟨HH, Z, hh, hne⟩ := ty.kit I ru
  obtain ⟨_, its, rv, o, h1, h2, n, h3⟩ := (show ObjOk X.prog X.w H s.heap p (.tup (ns.map V.ty)) from I.hok p _ hp)
  have ei : its = ns.map Value.type := vals_ty rv
  obtain ⟨oc, od, odt, osl⟩ := o
  cases h2
  cases h3
  subst ei
  exact PySem.W.kia_tup Z I.kIn hh h1 e hne fun tk => ⟨.bl b, H, I.tok tk, rfl, q⟩
def rLen (K : PySem.W.Frag) : List V → Hp → VK → Prop := fun xs H Q => (∃ p ys, xs = [.ref p] ∧ (SqL K H p ys ∨ SqT K H p ys) ∧ Q (.int ys.length) H) ∨ ∃ z, xs = [.str z] ∧ z.length ≤ sizeLine ∧ Q (.int z.length) H
theorem call_lenZ : CallR X (.builtin "len") (rLen X.K) := CallR.or call_len_seq call_len_str
def rListOf (K : PySem.W.Frag) : List V → Hp → VK → Prop := fun xs H Q => ∃ p ys, xs = [.ref p] ∧ (SqL K H p ys ∨ SqT K H p ys) ∧ ∀ l, H l = none → Q (.ref l) (upd H l (.lst ys))
theorem call_listZ : CallR X (.type "list") (rListOf X.K) := call_list_of
def rTupleOf (K : PySem.W.Frag) : List V → Hp → VK → Prop := fun xs H Q => ∃ p ys, xs = [.ref p] ∧ ((SqL K H p ys ∧ ∀ l, H l = none → Q (.ref l) (upd H l (.tup ys))) ∨ (SqT K H p ys ∧ Q (.ref p) H))
theorem call_tupleZ : CallR X (.type "tuple") (rTupleOf X.K) := call_tuple_of
def rAll (K : PySem.W.Frag) : List V → Hp → VK → Prop := fun xs H Q => ∃ p, ∃ bs : List Bool, xs = [.ref p] ∧ SqL K H p (bs.map V.bl) ∧ Q (.bl (bs.all id)) H
theorem call_allZ (hc : X.calm = true) : CallR X (.builtin "all") (rAll X.K) := call_all hc
def rSum (K : PySem.W.Frag) : List V → Hp → VK → Prop := fun xs H Q => ∃ p, ∃ ns : List Int, xs = [.ref p] ∧ SqL K H p (ns.map V.int) ∧ (∀ n ∈ ns, -(2 ^ 32) ≤ n ∧ n ≤ 2 ^ 32) ∧ ns.length ≤ 100000 ∧ Q (.int ns.sum) H
theorem call_sumZ (hc : X.calm = true) : CallR X (.builtin "sum") (rSum X.K) := call_sum hc
def rMin2 : List V → Hp → VK → Prop := fun xs H Q => ∃ i j, xs = [.int i, .int j] ∧ Q (.int (if j < i then j else i)) H
theorem call_min2Z (hc : X.calm = true) : CallR X (.builtin "min") rMin2 := call_min2 hc
def rInt1 : List V → Hp → VK → Prop := fun xs H Q => (∃ i, xs = [.int i] ∧ Q (.int i) H) ∨ ∃ k, xs = [.bl k] ∧ Q (.int (if k then 1 else 0)) H
theorem call_int1Z : CallR X (.type "int") rInt1 := call_int1
def rStrI : List V → Hp → VK → Prop := fun xs H Q => ∃ i, xs = [.int i] ∧ i.natAbs.log2 < 1920 ∧ Q (.str (toString i)) H
theorem call_strZ : CallR X (.type "str") rStrI := call_str_int
end
section
variable {X : Cx} {K : PySem.W.Frag}
end
end L2
namespace L2
open PySem PySem.Spec PyProof.Rows
section
variable {X : Cx} {K : PySem.W.Frag} {tg : Expr}
theorem sl_listZ : SlR X (rSlL X.K) := sl_list
theorem op_in_seqZ : OpR X (compareOp .In) (rIn X.K false) := op_in_seq
theorem pe_fldK {e : Expr} {f : Str} {ta : TE} {pos : Pos} (h : X.K = K) (he : PE X e ta) (hb : attributeBase e f X.env (eval e X.env) = eval e X.env) : PE X (.Attribute e f pos) (tFld K ta f) := h ▸ pe_fld he hb
end
end L2
namespace L2
open PySem PySem.Spec PyProof.Rows
section
variable {X : Cx} {K : PySem.W.Frag}
end
end L2
set_option Elab.async false
set_option linter.all false
set_option maxRecDepth 100000
set_option maxHeartbeats 4000000
namespace Z
open PySem L2
inductive AV where
  | non | bl (b : Bool) | int (i : Int) | str (x : Str)
  | tup (xs : List AV) | lst (xs : List AV) | dk (ks : List Key) (xs : List AV) | ref (k : Nat)
  | kst (xs : List AV)
  | xc (c : Nat)
inductive Cell where
  | dead | lst (xs : List AV) | dk (ks : List Key) (xs : List AV) | ins (c : Nat) (fs : List (Nat × AV))
abbrev AEnv := List (Option AV)
abbrev AH := List Cell
inductive Re (α : Type) where
  | ok (x : α) (h : AH) | ex (c : Nat) (h : AH) | no
def Re.bind {α β : Type} (r : Re α) (f : α → AH → Re β) : Re β := match r with | .ok x h => f x h | .ex c h => .ex c h | .no => .no
@[simp] theorem Re.bind_ok {α β : Type} (x : α) (h : AH) (f : α → AH → Re β) : (Re.ok x h).bind f = f x h := rfl
@[simp] theorem Re.bind_ex {α β : Type} (c : Nat) (h : AH) (f : α → AH → Re β) : (Re.ex c h : Re α).bind f = .ex c h := rfl
@[simp] theorem Re.bind_no {α β : Type} (f : α → AH → Re β) : (Re.no : Re α).bind f = .no := rfl
structure Ct where
  K : PySem.W.Frag
  cl : Nat → Addr
  fn : Nat → Str
  fl : Nat → List Nat
  inj : ∀ c i j, i ∈ fl c → j ∈ fl c → fn i = fn j → i = j
  fld : ∀ c i, i ∈ fl c → Cls K (cl c) ∧ NoAttr K (cl c) (fn i)
  fg : Nat → List Nat
  pin : Option (Addr × Addr) := none
structure Wd where
  ρ : List Addr
  Fz : Addr → Prop
  h : AH
  H : Hp
mutual
def Tr (C : Ct) (w : Wd) : AV → V → Prop
  | .non, v => v = .non
  | .bl b, v => v = .bl b
  | .int i, v => v = .int i
  | .str x, v => v = .str x
  | .tup xs, v => ∃ a vs, v = .ref a ∧ SqT C.K w.H a vs ∧ Trs C w xs vs
  | .lst xs, v => ∃ a vs, v = .ref a ∧ w.Fz a ∧ Rd w.H a (.lst vs) ∧ Trs C w xs vs
  | .dk ks xs, v => ∃ a kvs, v = .ref a ∧ w.Fz a ∧ Rd w.H a (.dK kvs) ∧ kvs.map (·.1) = ks ∧ Trs C w xs (kvs.map (·.2))
  | .ref k, v => ∃ a, v = .ref a ∧ w.ρ[k]? = some a
  | .kst xs, v => ∃ a vs, v = .ref a ∧ ((w.Fz a ∧ Rd w.H a (.lst vs)) ∨ SqL C.K (fun _ => none) a vs) ∧ Trs C w xs vs
  | .xc c, v => ∃ a, v = .ref a ∧ C.pin = some (a, C.cl c)
def Trs (C : Ct) (w : Wd) : List AV → List V → Prop
  | [], vs => vs = []
  | x :: xs, vs => ∃ v us, vs = v :: us ∧ Tr C w x v ∧ Trs C w xs us
end
def Flds (C : Ct) (w : Wd) : List (Nat × AV) → List (Str × V) → Prop
  | [], fs => fs = []
  | p :: r, fs => ∃ v us, fs = (C.fn p.1, v) :: us ∧ Tr C w p.2 v ∧ Flds C w r us
def CellOk (C : Ct) (w : Wd) : Cell → Addr → Prop
  | .dead, _ => True
  | .lst xs, a => ∃ vs, w.H a = some (.lst vs) ∧ Trs C w xs vs
  | .dk ks xs, a => ∃ kvs, w.H a = some (.dK kvs) ∧ kvs.map (·.1) = ks ∧ Trs C w xs (kvs.map (·.2))
  | .ins c fs, a => ((∀ p ∈ fs, p.1 ∈ C.fl c) ∧ C.fl c = C.fg c) ∧ ∃ dx fvs, w.H a = some (.ins (C.cl c) dx fvs) ∧ Flds C w fs fvs
def Live (w : Wd) (a : Addr) : Prop := ∃ (k : Nat) (c : Cell), w.h[k]? = some c ∧ c ≠ .dead ∧ w.ρ[k]? = some a
structure Ok (C : Ct) (w : Wd) : Prop where
  len : w.ρ.length = w.h.length
  nd : w.ρ.Nodup
  th : ∀ a ∈ w.ρ, w.H a ≠ none
  cell : ∀ (k : Nat) c a, w.h[k]? = some c → w.ρ[k]? = some a → CellOk C w c a
  fz : ∀ a, Live w a → ¬ w.Fz a
  fzt : ∀ a, w.Fz a → w.H a ≠ none
  pn : ∀ a c, C.pin = some (a, c) → w.H a = some (excO a c)
def Kept (f : Prop) (o : HO) (r : Option HO) : Prop := r = some o ∨ (f ∧ ∃ ob kvs, o = .dK kvs ∧ r = some (.frz ob o))
structure Le (w w' : Wd) : Prop where
  pre : ∃ t, w'.ρ = w.ρ ++ t
  fz : ∀ a, w.Fz a → w'.Fz a
  ks : ∀ b, ¬ Live w b → ∀ o, w.H b = some o → Kept (w'.Fz b) o (w'.H b)
  fn : ∀ a, w'.Fz a → w.Fz a ∨ w.H a = none ∨ Live w a
  nw : ∀ a, Live w' a → w.H a = none ∨ Live w a
  nn : ∀ a, w.H a ≠ none → w'.H a ≠ none
  rn : ∀ a, a ∈ w'.ρ → a ∈ w.ρ ∨ w.H a = none
theorem Rd.ne {H : Hp} {a : Addr} {u : HO} (r : Rd H a u) : H a ≠ none := by
  rcases r with r | ⟨o, r⟩ <;> rw [r] <;> intro z <;> cases z
theorem Le.kp {w w' : Wd} (le : Le w w') (b : Addr) (hb : ¬ Live w b) (u : HO) (r : Rd w.H b u) : Rd w'.H b u := by
  rcases r with r | ⟨o, r⟩
  · rcases le.ks b hb _ r with q | ⟨_, ob, kvs, rfl, q⟩
    · exact .inl q
    · exact .inr ⟨ob, q⟩
  · rcases le.ks b hb _ r with q | ⟨_, ob, kvs, e, q⟩
    · exact .inr ⟨o, q⟩
    · cases e
theorem Le.refl (w : Wd) : Le w w := ⟨⟨[], by simp⟩, fun _ h => h, fun _ _ _ h => .inl h, fun _ h => .inl h, fun _ h => .inr h, fun _ h => h, fun _ h => .inl h⟩
theorem Le.trans {w w' w'' : Wd} (a : Le w w') (b : Le w' w'') : Le w w'' := by
  have hl : ∀ x, Live w' x → w.H x = none ∨ Live w x := a.nw
  have hn : ∀ x, w'.H x = none → w.H x = none := fun x z => by
    cases e : w.H x with
    | none => rfl
    | some o => exact absurd z (a.nn x (by rw [e]; intro q; cases q))
  refine ⟨?_, fun x h => b.fz x (a.fz x h), fun x hx o r => ?_, fun x h => ?_, fun x hx => ?_, fun x h => b.nn x (a.nn x h), fun x h => ?_⟩
  · obtain ⟨t, e⟩ := a.pre
    obtain ⟨t', e'⟩ := b.pre
    exact ⟨t ++ t', by rw [e', e, List.append_assoc]⟩
  · have hx' : ¬ Live w' x := fun z => by
      rcases hl x z with z | z
      · rw [r] at z; cases z
      · exact hx z
    rcases a.ks x hx o r with q | ⟨f, ob, kvs, e, q⟩
    · exact b.ks x hx' o q
    · rcases b.ks x hx' _ q with q' | ⟨_, ob', kvs', e', q'⟩
      · exact .inr ⟨b.fz x f, ob, kvs, e, q'⟩
      · cases e'
  · rcases b.fn x h with z | z | z
    · exact a.fn x z
    · exact .inr (.inl (hn x z))
    · rcases hl x z with z | z
      · exact .inr (.inl z)
      · exact .inr (.inr z)
  · rcases b.nw x hx with z | z
    · exact .inl (hn x z)
    · exact hl x z
  · rcases b.rn x h with z | z
    · exact a.rn x z
    · exact .inr (hn x z)
section
variable {C : Ct} {w w' : Wd}
theorem Ok.notup (ok : Ok C w) {a : Addr} (hl : Live w a) {vs : List V} : ¬ Rd w.H a (.tup vs) := by
  obtain ⟨k, c, e1, e2, e3⟩ := hl
  have := ok.cell k c a e1 e3
  intro r
  cases c with
  | dead => exact e2 rfl
  | lst xs => obtain ⟨vs', e, _⟩ := this; rcases r with r | ⟨o, r⟩ <;> rw [e] at r <;> cases r
  | dk ks xs => obtain ⟨kvs, e, _⟩ := this; rcases r with r | ⟨o, r⟩ <;> rw [e] at r <;> cases r
  | ins cc fs => obtain ⟨_, dx, fvs, e, _⟩ := this; rcases r with r | ⟨o, r⟩ <;> rw [e] at r <;> cases r
theorem Ok.sqT (ok : Ok C w) (le : Le w w') {a : Addr} {vs : List V} (h : SqT C.K w.H a vs) : SqT C.K w'.H a vs := by
  rcases h with h | h
  · exact .inl (le.kp a (fun hl => ok.notup hl h) _ h)
  · exact .inr h
mutual
theorem Tr.mono (ok : Ok C w) (le : Le w w') : ∀ {x : AV} {v : V}, Tr C w x v → Tr C w' x v
  | .non, v, h => by rw [Tr] at h ⊢; exact h
  | .bl _, v, h => by rw [Tr] at h ⊢; exact h
  | .int _, v, h => by rw [Tr] at h ⊢; exact h
  | .str _, v, h => by rw [Tr] at h ⊢; exact h
  | .tup xs, v, h => by
    rw [Tr] at h ⊢
    obtain ⟨a, vs, e, hs, ht⟩ := h
    exact ⟨a, vs, e, ok.sqT le hs, Trs.mono ok le ht⟩
  | .lst xs, v, h => by
    rw [Tr] at h ⊢
    obtain ⟨a, vs, e, f, r, ht⟩ := h
    exact ⟨a, vs, e, le.fz a f, le.kp a (fun hl => ok.fz a hl f) _ r, Trs.mono ok le ht⟩
  | .dk ks xs, v, h => by
    rw [Tr] at h ⊢
    obtain ⟨a, kvs, e, f, r, hk, ht⟩ := h
    exact ⟨a, kvs, e, le.fz a f, le.kp a (fun hl => ok.fz a hl f) _ r, hk, Trs.mono ok le ht⟩
  | .ref k, v, h => by
    rw [Tr] at h ⊢
    obtain ⟨a, e, hk⟩ := h
    obtain ⟨t, et⟩ := le.pre
    refine ⟨a, e, ?_⟩
    rw [et, List.getElem?_append_left (List.getElem?_eq_some_iff.mp hk).1]; exact hk
  | .kst xs, v, h => by
    rw [Tr] at h ⊢
    obtain ⟨a, vs, e, hs, ht⟩ := h
    refine ⟨a, vs, e, ?_, Trs.mono ok le ht⟩
    rcases hs with ⟨f, r⟩ | r
    · exact .inl ⟨le.fz a f, le.kp a (fun hl => ok.fz a hl f) _ r⟩
    · exact .inr r
  | .xc c, v, h => by rw [Tr] at h ⊢; exact h
theorem Trs.mono (ok : Ok C w) (le : Le w w') : ∀ {xs : List AV} {vs : List V}, Trs C w xs vs → Trs C w' xs vs
  | [], vs, h => by rw [Trs] at h ⊢; exact h
  | x :: xs, vs, h => by
    rw [Trs] at h ⊢
    obtain ⟨v, us, e, h1, h2⟩ := h
    exact ⟨v, us, e, Tr.mono ok le h1, Trs.mono ok le h2⟩
end
theorem Flds.mono (ok : Ok C w) (le : Le w w') : ∀ {xs : List (Nat × AV)} {vs : List (Str × V)}, Flds C w xs vs → Flds C w' xs vs
  | [], vs, h => h
  | x :: xs, vs, h => by
    obtain ⟨v, us, e, h1, h2⟩ := h
    exact ⟨v, us, e, Tr.mono ok le h1, Flds.mono ok le h2⟩
theorem Trs.nil : Trs C w [] [] := by rw [Trs]
theorem Trs.cons {x : AV} {v : V} {xs : List AV} {vs : List V} (a : Tr C w x v) (b : Trs C w xs vs) : Trs C w (x :: xs) (v :: vs) := by rw [Trs]; exact ⟨v, vs, rfl, a, b⟩
theorem Trs.len : ∀ {xs : List AV} {vs : List V}, Trs C w xs vs → xs.length = vs.length
  | [], vs, h => by rw [Trs] at h; rw [h]; rfl
  | x :: xs, vs, h => by
    rw [Trs] at h
    obtain ⟨v, us, e, h1, h2⟩ := h
    rw [e, List.length_cons, List.length_cons, Trs.len h2]
theorem Trs.get : ∀ {xs : List AV} {vs : List V} {i : Nat} {x : AV}, Trs C w xs vs → xs[i]? = some x → ∃ v, vs[i]? = some v ∧ Tr C w x v
  | [], vs, i, x, h, e => by simp at e
  | y :: xs, vs, 0, x, h, e => by
    rw [Trs] at h
    obtain ⟨v, us, e', h1, h2⟩ := h
    simp at e; subst e; subst e'
    exact ⟨v, rfl, h1⟩
  | y :: xs, vs, i + 1, x, h, e => by
    rw [Trs] at h
    obtain ⟨v, us, e', h1, h2⟩ := h
    subst e'
    obtain ⟨v', q, t⟩ := Trs.get (i := i) h2 (by simpa using e)
    exact ⟨v', by simpa using q, t⟩
theorem Trs.app : ∀ {xs ys : List AV} {vs us : List V}, Trs C w xs vs → Trs C w ys us → Trs C w (xs ++ ys) (vs ++ us)
  | [], ys, vs, us, h, g => by rw [Trs] at h; subst h; exact g
  | x :: xs, ys, vs, us, h, g => by
    rw [Trs] at h
    obtain ⟨v, us', e, h1, h2⟩ := h
    subst e
    exact .cons h1 (Trs.app h2 g)
theorem Trs.one {x : AV} {v : V} (h : Tr C w x v) : Trs C w [x] [v] := .cons h .nil
theorem Trs.take (n : Nat) : ∀ {xs : List AV} {vs : List V}, Trs C w xs vs → Trs C w (xs.take n) (vs.take n) := fun {xs vs} h => by
  induction n generalizing xs vs with
  | zero => simp only [List.take_zero]; exact .nil
  | succ n ih =>
    cases xs with
    | nil => rw [Trs] at h; subst h; simp only [List.take_nil]; exact .nil
    | cons x xs =>
      rw [Trs] at h
      obtain ⟨v, us, e, h1, h2⟩ := h
      subst e
      exact .cons h1 (ih h2)
theorem Trs.drop (n : Nat) : ∀ {xs : List AV} {vs : List V}, Trs C w xs vs → Trs C w (xs.drop n) (vs.drop n) := fun {xs vs} h => by
  induction n generalizing xs vs with
  | zero => exact h
  | succ n ih =>
    cases xs with
    | nil => rw [Trs] at h; subst h; simp only [List.drop_nil]; exact .nil
    | cons x xs =>
      rw [Trs] at h
      obtain ⟨v, us, e, h1, h2⟩ := h
      subst e
      exact ih h2
theorem Trs.set {x : AV} {v : V} (t : Tr C w x v) : ∀ {xs : List AV} {vs : List V} (i : Nat), Trs C w xs vs → Trs C w (xs.set i x) (vs.set i v)
  | [], vs, i, h => by rw [Trs] at h; subst h; exact .nil
  | y :: xs, vs, 0, h => by
    rw [Trs] at h
    obtain ⟨u, us, e, h1, h2⟩ := h
    subst e
    exact .cons t h2
  | y :: xs, vs, i + 1, h => by
    rw [Trs] at h
    obtain ⟨u, us, e, h1, h2⟩ := h
    subst e
    exact .cons h1 (Trs.set t i h2)
structure EnvOk (C : Ct) (w : Wd) (env : AEnv) (σ : St) : Prop where
  len : env.length = σ.length
  at_ : ∀ (i : Nat) x, env[i]? = some (some x) → ∃ v, σ[i]? = some (some v) ∧ Tr C w x v
theorem EnvOk.mono {env : AEnv} {σ : St} (e : EnvOk C w env σ) (ok : Ok C w) (le : Le w w') : EnvOk C w' env σ :=
  ⟨e.len, fun i x h => let ⟨v, q, t⟩ := e.at_ i x h; ⟨v, q, t.mono ok le⟩⟩
theorem EnvOk.set {env : AEnv} {σ : St} {x : AV} {v : V} (e : EnvOk C w env σ) (i : Nat) (t : Tr C w x v) : EnvOk C w (env.set i (some x)) (σ.set i (some v)) := by
  refine ⟨by rw [List.length_set, List.length_set]; exact e.len, fun j y h => ?_⟩
  by_cases hj : i = j
  · subst hj
    by_cases hi : i < env.length
    · rw [List.getElem?_set_self hi] at h
      cases h
      exact ⟨v, by rw [List.getElem?_set_self (by rw [← e.len]; exact hi)], t⟩
    · rw [List.getElem?_eq_none (by rw [List.length_set]; omega)] at h; cases h
  · rw [List.getElem?_set_ne hj] at h
    obtain ⟨u, q, t'⟩ := e.at_ j y h
    exact ⟨u, by rw [List.getElem?_set_ne hj]; exact q, t'⟩
end
end Z
set_option Elab.async false
set_option linter.all false
set_option maxRecDepth 100000
set_option maxHeartbeats 4000000
namespace Z
open PySem L2
section
variable {C : Ct} {w : Wd}
theorem nodup_at {α : Type} : ∀ {l : List α} {i j : Nat} {x : α}, l.Nodup → l[i]? = some x → l[j]? = some x → i = j
  | [], i, j, x, _, h, _ => by simp at h
  | y :: l, 0, 0, x, _, _, _ => rfl
  | y :: l, 0, j + 1, x, n, h, g => by
    have e : y = x := by simpa using h
    subst e
    exact absurd (List.mem_of_getElem? (show l[j]? = some y by simpa using g)) (List.nodup_cons.mp n).1
  | y :: l, i + 1, 0, x, n, h, g => by
    have e : y = x := by simpa using g
    subst e
    exact absurd (List.mem_of_getElem? (show l[i]? = some y by simpa using h)) (List.nodup_cons.mp n).1
  | y :: l, i + 1, j + 1, x, n, h, g => by
    rw [nodup_at (List.nodup_cons.mp n).2 (show l[i]? = some x by simpa using h) (show l[j]? = some x by simpa using g)]
theorem Ok.liveH (ok : Ok C w) {a : Addr} (hl : Live w a) : a ∈ w.ρ := by
  obtain ⟨k, c, e1, e2, e3⟩ := hl
  exact List.mem_of_getElem? e3
theorem upd_some {H : Hp} {a p : Addr} {o u : HO} (hp : H p = none) (h : H a = some o) : upd H p u a = some o := by
  rw [upd_ne (ne_of_none h hp)]; exact h
theorem Rd.upd {H : Hp} {a p : Addr} {o u : HO} (hp : H p = none) (h : Rd H a o) : Rd (upd H p u) a o := by
  rcases h with h | ⟨z, h⟩
  · exact .inl (upd_some hp h)
  · exact .inr ⟨z, upd_some hp h⟩
theorem upd_nn {H : Hp} {a p : Addr} {u : HO} (h : H a ≠ none) : upd H p u a ≠ none := by
  unfold upd; split
  · intro z; cases z
  · exact h
theorem CellOk.mono {w' : Wd} (ok : Ok C w) (le : Le w w') {c : Cell} {a : Addr} (hH : w'.H a = w.H a) (h : CellOk C w c a) : CellOk C w' c a := by
  cases c with
  | dead => trivial
  | lst xs => obtain ⟨vs, e, t⟩ := h; exact ⟨vs, hH.trans e, t.mono ok le⟩
  | dk ks xs => obtain ⟨kvs, e, hk, t⟩ := h; exact ⟨kvs, hH.trans e, hk, t.mono ok le⟩
  | ins cc fs => obtain ⟨hf, dx, fvs, e, t⟩ := h; exact ⟨hf, dx, fvs, hH.trans e, t.mono ok le⟩
theorem Ok.pinne (ok : Ok C w) {a b c : Addr} (hl : Live w a) (h : C.pin = some (b, c)) : b ≠ a := by
  obtain ⟨k, cc, e1, e2, e3⟩ := hl
  have hc := ok.cell k cc a e1 e3
  have hp := ok.pn b c h
  intro z; subst z
  cases cc with
  | dead => exact e2 rfl
  | lst xs => obtain ⟨vs, e, _⟩ := hc; rw [hp] at e; cases e
  | dk ks xs => obtain ⟨vs, e, _⟩ := hc; rw [hp] at e; cases e
  | ins c fs => obtain ⟨_, dx, fvs, e, _⟩ := hc; rw [hp] at e; cases e
def Wd.fresh (w : Wd) (p : Addr) (o : HO) : Wd := { w with H := upd w.H p o }
def Wd.frozen (w : Wd) (p : Addr) (o : HO) : Wd := { w with H := upd w.H p o, Fz := fun a => a = p ∨ w.Fz a }
theorem Ok.le_fresh (ok : Ok C w) {p : Addr} (hp : w.H p = none) (o : HO) : Le w (w.fresh p o) :=
  ⟨⟨[], by simp [Wd.fresh]⟩, fun _ h => h, fun b _ o r => .inl (upd_some hp r), fun a h => .inl h, fun a h => .inr h, fun a h => upd_nn h, fun a h => .inl h⟩
theorem Ok.fresh (ok : Ok C w) {p : Addr} (hp : w.H p = none) (o : HO) : Ok C (w.fresh p o) := by
  have le := ok.le_fresh hp o
  refine ⟨ok.len, ok.nd, fun a ha => upd_nn (ok.th a ha), fun k c a e ea => ?_, ok.fz, fun a h => upd_nn (ok.fzt a h), fun a c h => upd_some hp (ok.pn a c h)⟩
  have hne : a ≠ p := fun z => ok.th a (List.mem_of_getElem? ea) (z ▸ hp)
  exact (ok.cell k c a e ea).mono ok le (upd_ne hne)
theorem Ok.le_frozen (ok : Ok C w) {p : Addr} (hp : w.H p = none) (o : HO) : Le w (w.frozen p o) :=
  ⟨⟨[], by simp [Wd.frozen]⟩, fun _ h => .inr h, fun b _ o r => .inl (upd_some hp r), fun a h => h.elim (fun z => .inr (.inl (z ▸ hp))) .inl, fun a h => .inr h, fun a h => upd_nn h, fun a h => .inl h⟩
theorem Ok.frozen (ok : Ok C w) {p : Addr} (hp : w.H p = none) (o : HO) : Ok C (w.frozen p o) := by
  have le := ok.le_frozen hp o
  refine ⟨ok.len, ok.nd, fun a ha => upd_nn (ok.th a ha), fun k c a e ea => ?_, fun a hl hz => ?_, fun a h => ?_, fun a c h => upd_some hp (ok.pn a c h)⟩
  · have hne : a ≠ p := fun z => ok.th a (List.mem_of_getElem? ea) (z ▸ hp)
    exact (ok.cell k c a e ea).mono ok le (upd_ne hne)
  · rcases hz with rfl | hz
    · exact ok.th a (ok.liveH hl) hp
    · exact ok.fz a hl hz
  · rcases h with rfl | h
    · show upd w.H a o a ≠ none
      rw [upd_same]; intro z; cases z
    · exact upd_nn (ok.fzt a h)
theorem Ok.newTup (ok : Ok C w) {p : Addr} {xs : List AV} {vs : List V} (hp : w.H p = none) (t : Trs C w xs vs) : Tr C (w.fresh p (.tup vs)) (.tup xs) (.ref p) := by
  rw [Tr]; exact ⟨p, vs, rfl, SqT.of upd_same, t.mono ok (ok.le_fresh hp _)⟩
theorem Ok.newLst (ok : Ok C w) {p : Addr} {xs : List AV} {vs : List V} (hp : w.H p = none) (t : Trs C w xs vs) : Tr C (w.frozen p (.lst vs)) (.lst xs) (.ref p) := by
  rw [Tr]; exact ⟨p, vs, rfl, .inl rfl, .inl upd_same, t.mono ok (ok.le_frozen hp _)⟩
def Wd.cell (w : Wd) (p : Addr) (o : HO) (c : Cell) : Wd := { w with H := upd w.H p o, ρ := w.ρ ++ [p], h := w.h ++ [c] }
theorem live_cell (ok : Ok C w) {p : Addr} {o : HO} {c : Cell} {a : Addr} (h : Live (w.cell p o c) a) : a = p ∨ Live w a := by
  obtain ⟨k, c', e1, e2, e3⟩ := h
  have hl := ok.len
  by_cases hk : k < w.h.length
  · exact .inr ⟨k, c', by rw [← List.getElem?_append_left (l₂ := [c]) hk]; exact e1, e2, by rw [← List.getElem?_append_left (l₂ := [p]) (by omega)]; exact e3⟩
  · have hlt := (List.getElem?_eq_some_iff.mp e3).1
    have : (w.cell p o c).ρ.length = w.ρ.length + 1 := by simp [Wd.cell]
    have hk' : k = w.ρ.length := by omega
    have e3' : (w.ρ ++ [p])[k]? = some a := e3
    rw [hk', List.getElem?_append_right (Nat.le_refl _), Nat.sub_self] at e3'
    exact .inl (by simpa using e3'.symm)
theorem Ok.le_cell (ok : Ok C w) {p : Addr} (hp : w.H p = none) (o : HO) (c : Cell) : Le w (w.cell p o c) := by
  refine ⟨⟨[p], rfl⟩, fun _ h => h, fun b _ o r => .inl (upd_some hp r), fun a h => .inl h, fun a h => ?_, fun a h => upd_nn h, fun a h => ?_⟩
  rotate_left
  · rcases List.mem_append.mp (show a ∈ w.ρ ++ [p] from h) with z | z
    · exact .inl z
    · exact .inr (by rw [List.mem_singleton.mp z]; exact hp)
  rcases live_cell ok h with rfl | h
  · exact .inl hp
  · exact .inr h
theorem Ok.newCell (ok : Ok C w) {p : Addr} (hp : w.H p = none) {o : HO} {c : Cell} (hc : CellOk C (w.cell p o c) c p) : Ok C (w.cell p o c) := by
  have le := ok.le_cell hp o c
  have hl := ok.len
  have hnp : p ∉ w.ρ := fun z => ok.th p z hp
  refine ⟨by simp [Wd.cell, hl], ?_, fun a ha => ?_, fun k c' a e ea => ?_, fun a hlv hz => ?_, fun a h => upd_nn (ok.fzt a h), fun a c h => upd_some hp (ok.pn a c h)⟩
  · show (w.ρ ++ [p]).Nodup
    rw [List.nodup_append]
    exact ⟨ok.nd, by simp, fun a ha b hb => by simp at hb; subst hb; intro z; subst z; exact hnp ha⟩
  · show upd w.H p o a ≠ none
    by_cases ha' : a = p
    · subst ha'; rw [upd_same]; intro z; cases z
    · have : a ∈ w.ρ := by
        rcases List.mem_append.mp (show a ∈ w.ρ ++ [p] from ha) with z | z
        · exact z
        · exact absurd (by simpa using z) ha'
      exact upd_nn (ok.th a this)
  · by_cases hk : k < w.h.length
    · have e' : w.h[k]? = some c' := by rw [← List.getElem?_append_left (l₂ := [c]) hk]; exact e
      have ea' : w.ρ[k]? = some a := by rw [← List.getElem?_append_left (l₂ := [p]) (by omega)]; exact ea
      have hne : a ≠ p := fun z => hnp (z ▸ List.mem_of_getElem? ea')
      exact (ok.cell k c' a e' ea').mono ok le (upd_ne hne)
    · have hlt := (List.getElem?_eq_some_iff.mp ea).1
      have : (w.cell p o c).ρ.length = w.ρ.length + 1 := by simp [Wd.cell]
      have hk' : k = w.ρ.length := by omega
      have e3' : (w.ρ ++ [p])[k]? = some a := ea
      rw [hk', List.getElem?_append_right (Nat.le_refl _), Nat.sub_self] at e3'
      have e4 : (w.h ++ [c])[k]? = some c' := e
      rw [hk', hl, List.getElem?_append_right (Nat.le_refl _), Nat.sub_self] at e4
      have a1 : p = a := by simpa using e3'
      have a2 : c = c' := by simpa using e4
      subst a1 a2
      exact hc
  · rcases live_cell ok hlv with rfl | h
    · exact ok.fzt a hz hp
    · exact ok.fz a h hz
theorem Ok.ref_cell (ok : Ok C w) {p : Addr} {o : HO} {c : Cell} : Tr C (w.cell p o c) (.ref w.h.length) (.ref p) := by
  rw [Tr]
  refine ⟨p, rfl, ?_⟩
  show (w.ρ ++ [p])[w.h.length]? = some p
  rw [← ok.len, List.getElem?_append_right (Nat.le_refl _), Nat.sub_self]; rfl
def Wd.put (w : Wd) (k : Nat) (c : Cell) (a : Addr) (o : HO) : Wd := { w with h := w.h.set k c, H := upd w.H a o }
theorem live_put {k : Nat} {c : Cell} {a b : Addr} {o : HO} (ea : w.ρ[k]? = some a) (hl : Live w a) (h : Live (w.put k c a o) b) : Live w b := by
  obtain ⟨j, c', e1, e2, e3⟩ := h
  by_cases hj : k = j
  · subst hj
    have e3' : w.ρ[k]? = some b := e3
    have : b = a := by rw [ea] at e3'; cases e3'; rfl
    subst this; exact hl
  · exact ⟨j, c', by rw [← List.getElem?_set_ne hj (a := c)]; exact e1, e2, e3⟩
theorem Ok.le_put (ok : Ok C w) {k : Nat} {a : Addr} (ea : w.ρ[k]? = some a) (hl : Live w a) (c : Cell) (o : HO) : Le w (w.put k c a o) := by
  refine ⟨⟨[], by simp [Wd.put]⟩, fun _ h => h, fun b hb u r => ?_, fun b h => .inl h, fun b h => .inr (live_put ea hl h), fun b h => upd_nn h, fun b h => .inl h⟩
  have hne : b ≠ a := fun z => hb (z ▸ hl)
  exact .inl ((upd_ne hne).trans r)
theorem Ok.put (ok : Ok C w) {k : Nat} {a : Addr} (ea : w.ρ[k]? = some a) (hl : Live w a) {c : Cell} {o : HO} (hc : CellOk C (w.put k c a o) c a) : Ok C (w.put k c a o) := by
  have le := ok.le_put ea hl c o
  refine ⟨by show w.ρ.length = (w.h.set k c).length; rw [List.length_set]; exact ok.len, ok.nd, fun b hb => upd_nn (ok.th b hb), fun j c' b e eb => ?_, fun b hlv hz => ok.fz b (live_put ea hl hlv) hz, fun b h => upd_nn (ok.fzt b h), fun b c h => (upd_ne (ok.pinne hl h)).trans (ok.pn b c h)⟩
  by_cases hj : k = j
  · subst hj
    have eb' : w.ρ[k]? = some b := eb
    have : b = a := by rw [ea] at eb'; cases eb'; rfl
    subst this
    have hk : k < w.h.length := by
      have := (List.getElem?_eq_some_iff.mp e).1
      have z : (w.put k c b o).h.length = w.h.length := List.length_set
      omega
    have e' : (w.h.set k c)[k]? = some c' := e
    rw [List.getElem?_set_self hk] at e'
    cases e'
    exact hc
  · have e' : w.h[j]? = some c' := by rw [← List.getElem?_set_ne hj (a := c)]; exact e
    have hne : b ≠ a := fun z => by
      subst z
      exact hj (nodup_at ok.nd ea eb)
    exact (ok.cell j c' b e' eb).mono ok le (upd_ne hne)
def Wd.poke (w : Wd) (D : Addr) (o : HO) : Wd := { w with H := upd w.H D o }
structure Lone (w : Wd) (D : Addr) (ys : List V) : Prop where
  at_ : w.H D = some (.lst ys)
  nf : ¬ w.Fz D
  nl : ¬ Live w D
  nr : D ∉ w.ρ
theorem Lone.rd {D : Addr} {ys : List V} (L : Lone w D ys) {o : HO} {a : Addr} {u : HO} (hu : ∀ zs, u ≠ .lst zs) (r : Rd w.H a u) : Rd (upd w.H D o) a u := by
  have hne : a ≠ D := fun z => by
    subst z
    rcases r with r | ⟨z, r⟩ <;> rw [L.at_] at r <;> cases r
    exact hu _ rfl
  rcases r with r | ⟨z, r⟩
  · exact .inl ((upd_ne hne).trans r)
  · exact .inr ⟨z, (upd_ne hne).trans r⟩
mutual
theorem Tr.poke {D : Addr} {ys : List V} (L : Lone w D ys) (o : HO) : ∀ {x : AV} {v : V}, Tr C w x v → Tr C (w.poke D o) x v
  | .non, v, h => by rw [Tr] at h ⊢; exact h
  | .bl _, v, h => by rw [Tr] at h ⊢; exact h
  | .int _, v, h => by rw [Tr] at h ⊢; exact h
  | .str _, v, h => by rw [Tr] at h ⊢; exact h
  | .tup xs, v, h => by
    rw [Tr] at h ⊢
    obtain ⟨a, vs, e, hs, ht⟩ := h
    refine ⟨a, vs, e, ?_, Trs.poke L o ht⟩
    rcases hs with hs | hs
    · exact .inl (L.rd (by intro zs z; cases z) hs)
    · exact .inr hs
  | .lst xs, v, h => by
    rw [Tr] at h ⊢
    obtain ⟨a, vs, e, f, r, ht⟩ := h
    have hne : a ≠ D := fun z => L.nf (z ▸ f)
    refine ⟨a, vs, e, f, ?_, Trs.poke L o ht⟩
    rcases r with r | ⟨z, r⟩
    · exact .inl ((upd_ne hne).trans r)
    · exact .inr ⟨z, (upd_ne hne).trans r⟩
  | .dk ks xs, v, h => by
    rw [Tr] at h ⊢
    obtain ⟨a, kvs, e, f, r, hk, ht⟩ := h
    exact ⟨a, kvs, e, f, L.rd (by intro zs z; cases z) r, hk, Trs.poke L o ht⟩
  | .ref k, v, h => by rw [Tr] at h ⊢; exact h
  | .kst xs, v, h => by
    rw [Tr] at h ⊢
    obtain ⟨a, vs, e, hs, ht⟩ := h
    refine ⟨a, vs, e, ?_, Trs.poke L o ht⟩
    rcases hs with ⟨f, r⟩ | r
    · have hne : a ≠ D := fun z => L.nf (z ▸ f)
      refine .inl ⟨f, ?_⟩
      rcases r with r | ⟨z, r⟩
      · exact .inl ((upd_ne hne).trans r)
      · exact .inr ⟨z, (upd_ne hne).trans r⟩
    · exact .inr r
  | .xc c, v, h => by rw [Tr] at h ⊢; exact h
theorem Trs.poke {D : Addr} {ys : List V} (L : Lone w D ys) (o : HO) : ∀ {xs : List AV} {vs : List V}, Trs C w xs vs → Trs C (w.poke D o) xs vs
  | [], vs, h => by rw [Trs] at h ⊢; exact h
  | x :: xs, vs, h => by
    rw [Trs] at h ⊢
    obtain ⟨v, us, e, h1, h2⟩ := h
    exact ⟨v, us, e, Tr.poke L o h1, Trs.poke L o h2⟩
end
theorem Flds.poke {D : Addr} {ys : List V} (L : Lone w D ys) (o : HO) : ∀ {fs : List (Nat × AV)} {us : List (Str × V)}, Flds C w fs us → Flds C (w.poke D o) fs us
  | [], us, h => h
  | p :: r, us, h => by
    obtain ⟨v, us, e, h1, h2⟩ := h
    exact ⟨v, us, e, Tr.poke L o h1, Flds.poke L o h2⟩
theorem Ok.poke (ok : Ok C w) {D : Addr} {ys : List V} (L : Lone w D ys) (o : HO) : Ok C (w.poke D o) := by
  refine ⟨ok.len, ok.nd, fun a ha => upd_nn (ok.th a ha), fun k c a e ea => ?_, ok.fz, fun a h => upd_nn (ok.fzt a h), fun a c h => (upd_ne (ne_of (ok.pn a c h) L.at_ (by intro z; cases z))).trans (ok.pn a c h)⟩
  have h := ok.cell k c a e ea
  cases c with
  | dead => trivial
  | lst xs =>
    have hne : a ≠ D := fun z => L.nl (z ▸ ⟨k, _, e, (by intro z; cases z), ea⟩)
    obtain ⟨vs, hH, ht⟩ := h
    exact ⟨vs, (upd_ne hne).trans hH, ht.poke L o⟩
  | dk ks xs =>
    have hne : a ≠ D := fun z => L.nl (z ▸ ⟨k, _, e, (by intro z; cases z), ea⟩)
    obtain ⟨kvs, hH, hk, ht⟩ := h
    exact ⟨kvs, (upd_ne hne).trans hH, hk, ht.poke L o⟩
  | ins cc fs =>
    have hne : a ≠ D := fun z => L.nl (z ▸ ⟨k, _, e, (by intro z; cases z), ea⟩)
    obtain ⟨hf, dx, fvs, hH, ht⟩ := h
    exact ⟨hf, dx, fvs, (upd_ne hne).trans hH, ht.poke L o⟩
theorem Lone.le {w' : Wd} {D : Addr} {ys : List V} (L : Lone w D ys) (le : Le w w') : Lone w' D ys := by
  have hn : w.H D ≠ none := by rw [L.at_]; intro z; cases z
  refine ⟨?_, fun z => ?_, fun z => ?_, fun z => (le.rn D z).elim L.nr hn⟩
  · rcases le.ks D L.nl _ L.at_ with q | ⟨_, ob, kvs, e, q⟩
    · exact q
    · cases e
  · rcases le.fn D z with q | q | q
    · exact L.nf q
    · exact hn q
    · exact L.nl q
  · rcases le.nw D z with q | q
    · exact hn q
    · exact L.nl q
theorem Le.poke {w0 : Wd} {D : Addr} {o : HO} (le : Le w0 w) (h0 : w0.H D = none) : Le w0 (w.poke D o) := by
  refine ⟨le.pre, le.fz, fun b hb u r => ?_, le.fn, le.nw, fun b h => upd_nn (le.nn b h), le.rn⟩
  have hne : b ≠ D := fun z => by rw [z, h0] at r; cases r
  have := le.ks b hb u r
  show Kept (w.Fz b) u (upd w.H D o b)
  rw [upd_ne hne]; exact this
def Wd.keep (w : Wd) (D : Addr) : Wd := { w with Fz := fun a => a = D ∨ w.Fz a }
mutual
theorem Tr.keep {D : Addr} : ∀ {x : AV} {v : V}, Tr C w x v → Tr C (w.keep D) x v
  | .non, v, h => by rw [Tr] at h ⊢; exact h
  | .bl _, v, h => by rw [Tr] at h ⊢; exact h
  | .int _, v, h => by rw [Tr] at h ⊢; exact h
  | .str _, v, h => by rw [Tr] at h ⊢; exact h
  | .tup xs, v, h => by
    rw [Tr] at h ⊢
    obtain ⟨a, vs, e, hs, ht⟩ := h
    exact ⟨a, vs, e, hs, Trs.keep ht⟩
  | .lst xs, v, h => by
    rw [Tr] at h ⊢
    obtain ⟨a, vs, e, f, r, ht⟩ := h
    exact ⟨a, vs, e, .inr f, r, Trs.keep ht⟩
  | .dk ks xs, v, h => by
    rw [Tr] at h ⊢
    obtain ⟨a, kvs, e, f, r, hk, ht⟩ := h
    exact ⟨a, kvs, e, .inr f, r, hk, Trs.keep ht⟩
  | .ref k, v, h => by rw [Tr] at h ⊢; exact h
  | .kst xs, v, h => by
    rw [Tr] at h ⊢
    obtain ⟨a, vs, e, hs, ht⟩ := h
    exact ⟨a, vs, e, hs.elim (fun z => .inl ⟨.inr z.1, z.2⟩) .inr, Trs.keep ht⟩
  | .xc c, v, h => by rw [Tr] at h ⊢; exact h
theorem Trs.keep {D : Addr} : ∀ {xs : List AV} {vs : List V}, Trs C w xs vs → Trs C (w.keep D) xs vs
  | [], vs, h => by rw [Trs] at h ⊢; exact h
  | x :: xs, vs, h => by
    rw [Trs] at h ⊢
    obtain ⟨v, us, e, h1, h2⟩ := h
    exact ⟨v, us, e, Tr.keep h1, Trs.keep h2⟩
end
theorem Flds.keep {D : Addr} : ∀ {fs : List (Nat × AV)} {us : List (Str × V)}, Flds C w fs us → Flds C (w.keep D) fs us
  | [], us, h => h
  | p :: r, us, h => by
    obtain ⟨v, us, e, h1, h2⟩ := h
    exact ⟨v, us, e, Tr.keep h1, Flds.keep h2⟩
theorem Ok.keep (ok : Ok C w) {D : Addr} {ys : List V} (L : Lone w D ys) : Ok C (w.keep D) := by
  refine ⟨ok.len, ok.nd, ok.th, fun k c a e ea => ?_, fun a hl hz => ?_, fun a h => ?_, ok.pn⟩
  · have h := ok.cell k c a e ea
    cases c with
    | dead => trivial
    | lst xs => obtain ⟨vs, hH, ht⟩ := h; exact ⟨vs, hH, ht.keep⟩
    | dk ks xs => obtain ⟨kvs, hH, hk, ht⟩ := h; exact ⟨kvs, hH, hk, ht.keep⟩
    | ins cc fs => obtain ⟨hf, dx, fvs, hH, ht⟩ := h; exact ⟨hf, dx, fvs, hH, ht.keep⟩
  · rcases hz with rfl | hz
    · exact L.nl hl
    · exact ok.fz a hl hz
  · rcases h with rfl | h
    · show w.H a ≠ none
      rw [L.at_]; intro z; cases z
    · exact ok.fzt a h
end
end Z
set_option Elab.async false
set_option linter.all false
set_option maxRecDepth 100000
set_option maxHeartbeats 4000000
namespace Z
open PySem L2
abbrev AE := AEnv → AH → Re AV
abbrev AT := AEnv → AH → Re Bool
abbrev AA := AEnv → AH → Re (List AV)
def Sat (C : Ct) (E : XK) (w : Wd) {α : Type} (r : Re α) (P : α → Wd → Prop) : Prop :=
  match r with
  | .ok x h' => ∀ w' : Wd, w'.h = h' → Ok C w' → Le w w' → P x w'
  | .ex c h' => ∀ w' : Wd, w'.h = h' → Ok C w' → Le w w' → E (.ref (C.cl c)) none w'.H
  | .no => False
section
variable {C : Ct} {E : XK} {w : Wd} {α β : Type}
theorem Sat.mono {r : Re α} {P P' : α → Wd → Prop} (s : Sat C E w r P) (k : ∀ x w', Ok C w' → Le w w' → P x w' → P' x w') : Sat C E w r P' := by
  cases r with
  | ok x h => exact fun w' e ok le => k x w' ok le (s w' e ok le)
  | ex c h => exact s
  | no => exact s
theorem Sat.le {w0 : Wd} {r : Re α} {P : α → Wd → Prop} (le : Le w0 w) (s : Sat C E w0 r P) : Sat C E w r P := by
  cases r with
  | ok x h => exact fun w' e ok l => s w' e ok (le.trans l)
  | ex c h => exact fun w' e ok l => s w' e ok (le.trans l)
  | no => exact s
theorem Sat.bind {r : Re α} {f : α → AH → Re β} {P : β → Wd → Prop} (s : Sat C E w (r.bind f) P) : Sat C E w r (fun x w1 => Sat C E w1 (f x w1.h) P) := by
  cases r with
  | ok x h =>
    intro w' e ok le
    subst e
    exact Sat.le le s
  | ex c h => exact s
  | no => exact s
theorem Sat.here {x : α} {P : α → Wd → Prop} (s : Sat C E w (.ok x w.h) P) (ok : Ok C w) : P x w := s w rfl ok (Le.refl w)
end
abbrev want (C : Ct) (Q : VK) : AV → Wd → Prop := fun x w' => ∀ v, Tr C w' x v → Q v w'.H
def SE (C : Ct) (E : XK) (t : TE) (m : AE) : Prop := ∀ (w : Wd) (env : AEnv) (σ : St) (Q : VK), Ok C w → EnvOk C w env σ → Sat C E w (m env w.h) (want C Q) → t σ w.H Q
def STs (C : Ct) (E : XK) (t : TT) (m : AT) : Prop := ∀ (w : Wd) (env : AEnv) (σ : St) (Q : Bool → Hp → Prop), Ok C w → EnvOk C w env σ → Sat C E w (m env w.h) (fun b w' => Q b w'.H) → t σ w.H Q
def SA (C : Ct) (E : XK) (n : Nat) (t : TA) (m : AA) : Prop :=
  (∀ env h xs h', m env h = .ok xs h' → xs.length = n) ∧
  ∀ (w : Wd) (env : AEnv) (σ : St) (Q : List V → Hp → Prop), Ok C w → EnvOk C w env σ → Sat C E w (m env w.h) (fun xs w' => ∀ vs, Trs C w' xs vs → Q vs w'.H) → t σ w.H Q
def S2 (C : Ct) (E : XK) (r : R2) (f : AV → AV → AH → Re AV) : Prop := ∀ (w : Wd) (x y : AV) (u v : V) (Q : VK), Ok C w → Tr C w x u → Tr C w y v → Sat C E w (f x y w.h) (want C Q) → r u v w.H Q
def SC (C : Ct) (E : XK) (n : Nat) (r : List V → Hp → VK → Prop) (f : List AV → AH → Re AV) : Prop := ∀ (w : Wd) (xs : List AV) (vs : List V) (Q : VK), xs.length = n → Ok C w → Trs C w xs vs → Sat C E w (f xs w.h) (want C Q) → r vs w.H Q
def SMt (C : Ct) (E : XK) (n : Nat) (r : V → List V → Hp → VK → Prop) (f : AV → List AV → AH → Re AV) : Prop := ∀ (w : Wd) (x : AV) (u : V) (xs : List AV) (vs : List V) (Q : VK), xs.length = n → Ok C w → Tr C w x u → Trs C w xs vs → Sat C E w (f x xs w.h) (want C Q) → r u vs w.H Q
@[simp] def aVar (i : Nat) : AE := fun env h => match env[i]? with | some (some x) => .ok x h | _ => .no
@[simp] def aK (x : AV) : AE := fun _ h => .ok x h
@[simp] def a1 (f : AV → AH → Re AV) (a : AE) : AE := fun env h => (a env h).bind f
@[simp] def a2 (f : AV → AV → AH → Re AV) (a b : AE) : AE := fun env h => (a env h).bind fun x h => (b env h).bind fun y h => f x y h
@[simp] def aNil : AA := fun _ h => .ok [] h
@[simp] def aCons (a : AE) (r : AA) : AA := fun env h => (a env h).bind fun x h => (r env h).bind fun xs h => .ok (x :: xs) h
@[simp] def aC (f : List AV → AH → Re AV) (a : AA) : AE := fun env h => (a env h).bind f
@[simp] def aTup (a : AA) : AE := fun env h => (a env h).bind fun xs h => .ok (.tup xs) h
@[simp] def aLst (a : AA) : AE := fun env h => (a env h).bind fun xs h => .ok (.lst xs) h
@[simp] def aLstC (a : AA) : AE := fun env h => (a env h).bind fun xs h => .ok (.ref h.length) (h ++ [.lst xs])
@[simp] def toB : AV → AH → Re Bool
  | .bl b, h => .ok b h
  | _, _ => .no
@[simp] def aB (a : AE) : AT := fun env h => (a env h).bind toB
@[simp] def aAnd (a b : AT) : AT := fun env h => (a env h).bind fun c h => if c = true then b env h else .ok false h
@[simp] def aOr (a b : AT) : AT := fun env h => (a env h).bind fun c h => if c = true then .ok true h else b env h
@[simp] def aNot (a : AT) : AT := fun env h => (a env h).bind fun c h => .ok (!c) h
@[simp] def aAndV (a b : AE) : AE := fun env h => (a env h).bind fun x h => (toB x h).bind fun c h => if c = true then b env h else .ok (.bl false) h
@[simp] def aOrV (a b : AE) : AE := fun env h => (a env h).bind fun x h => (toB x h).bind fun c h => if c = true then .ok (.bl true) h else b env h
@[simp] def aNotV (a : AE) : AE := fun env h => (a env h).bind fun x h => (toB x h).bind fun c h => .ok (.bl (!c)) h
@[simp] def aIfE (t : AT) (a b : AE) : AE := fun env h => (t env h).bind fun c h => if c = true then a env h else b env h
@[simp] def aChain (f g : AV → AV → AH → Re AV) (a b c : AE) : AE := fun env h => (a env h).bind fun x h => (b env h).bind fun y h => (f x y h).bind fun z h => (toB z h).bind fun k h =>
  if k = true then (c env h).bind fun v h => g y v h else .ok (.bl false) h
section
variable {C : Ct} {E : XK} {ta tb tc : TE} {ma mb mc : AE}
theorem se_var {i : Nat} : SE C E (tVar i) (aVar i) := by
  intro w env σ Q ok en s
  unfold aVar at s
  split at s
  · rename_i x e
    obtain ⟨v, q, t⟩ := en.at_ i x e
    exact ⟨v, q, s.here ok v t⟩
  · exact s.elim
theorem se_k {v : V} {x : AV} (h : ∀ w, Tr C w x v) : SE C E (tC v) (aK x) := fun w env σ Q ok en s => s.here ok v (h w)
theorem se_int {i : Int} : SE C E (tC (.int i)) (aK (.int i)) := se_k fun w => by rw [Tr]
theorem se_bl {b : Bool} : SE C E (tC (.bl b)) (aK (.bl b)) := se_k fun w => by rw [Tr]
theorem se_str {x : Str} : SE C E (tC (.str x)) (aK (.str x)) := se_k fun w => by rw [Tr]
theorem se_op {r : R2} {f : AV → AV → AH → Re AV} (hr : S2 C E r f) (ha : SE C E ta ma) (hb : SE C E tb mb) : SE C E (tOp r ta tb) (a2 f ma mb) := fun w env σ Q ok en s =>
  ha w env σ _ ok en (s.bind.mono fun x w1 ok1 le1 s1 v tv => hb w1 env σ _ ok1 (en.mono ok le1) (s1.bind.mono fun y w2 ok2 le2 s2 u tu => hr w2 x y v u Q ok2 (tv.mono ok1 le2) tu s2))
theorem sa_nil : SA C E 0 tNil aNil := ⟨fun env h xs h' e => by cases e; rfl, fun w env σ Q ok en s => s.here ok [] .nil⟩
theorem sa_cons {n : Nat} {t : TA} {m : AA} (ha : SE C E ta ma) (hr : SA C E n t m) : SA C E (n + 1) (tCons ta t) (aCons ma m) := by
  refine ⟨fun env h xs h' e => ?_, fun w env σ Q ok en s => ?_⟩
  · unfold aCons at e
    cases e1 : ma env h with
    | ok x h1 =>
      rw [e1, Re.bind_ok] at e
      cases e2 : m env h1 with
      | ok ys h2 =>
        rw [e2, Re.bind_ok] at e
        cases e
        rw [List.length_cons, hr.1 env h1 ys _ e2]
      | ex c h2 => rw [e2] at e; cases e
      | no => rw [e2] at e; cases e
    | ex c h1 => rw [e1] at e; cases e
    | no => rw [e1] at e; cases e
  · exact ha w env σ _ ok en (s.bind.mono fun x w1 ok1 le1 s1 v tv => hr.2 w1 env σ _ ok1 (en.mono ok le1) (s1.bind.mono fun ys w2 ok2 le2 s2 vs tvs => s2.here ok2 (v :: vs) (.cons (tv.mono ok1 le2) tvs)))
theorem SA.run {n : Nat} {t : TA} {m : AA} (h : SA C E n t m) {w : Wd} {env : AEnv} {σ : St} {Q : List V → Hp → Prop} {f : List AV → AH → Re AV} {P : AV → Wd → Prop} (ok : Ok C w) (en : EnvOk C w env σ) (s : Sat C E w ((m env w.h).bind f) P)
    (k : ∀ xs w', xs.length = n → Ok C w' → Le w w' → Sat C E w' (f xs w'.h) P → ∀ vs, Trs C w' xs vs → Q vs w'.H) : t σ w.H Q := by
  refine h.2 w env σ Q ok en ?_
  have hl := h.1 env w.h
  have s' := s.bind
  revert s'
  cases e : m env w.h with
  | ok xs h' => exact fun s' w' e' ok' le vs tv => k xs w' (hl xs h' e) ok' le (s' w' e' ok' le) vs tv
  | ex c h' => exact fun s' => s'
  | no => exact fun s' => s'
theorem se_tup {n : Nat} {t : TA} {m : AA} (h : SA C E n t m) (hn : n ≤ sizeLine := by decide) : SE C E (tTup t) (aTup m) := fun w env σ Q ok en s =>
  h.run ok en s fun xs w1 hl ok1 le1 s1 vs tv => ⟨by rw [← tv.len, hl]; exact hn, fun p hp => s1 (w1.fresh p (.tup vs)) rfl (ok1.fresh hp _) (ok1.le_fresh hp _) _ (ok1.newTup hp tv)⟩
theorem se_lst {n : Nat} {t : TA} {m : AA} (h : SA C E n t m) (hn : n ≤ sizeLine := by decide) : SE C E (tLst t) (aLst m) := fun w env σ Q ok en s =>
  h.run ok en s fun xs w1 hl ok1 le1 s1 vs tv => ⟨by rw [← tv.len, hl]; exact hn, fun p hp => s1 (w1.frozen p (.lst vs)) rfl (ok1.frozen hp _) (ok1.le_frozen hp _) _ (ok1.newLst hp tv)⟩
theorem Ok.newCellLst {w : Wd} (ok : Ok C w) {p : Addr} {xs : List AV} {vs : List V} (hp : w.H p = none) (t : Trs C w xs vs) : Ok C (w.cell p (.lst vs) (.lst xs)) :=
  ok.newCell hp ⟨vs, upd_same, t.mono ok (ok.le_cell hp _ _)⟩
theorem se_lstC {n : Nat} {t : TA} {m : AA} (h : SA C E n t m) (hn : n ≤ sizeLine := by decide) : SE C E (tLst t) (aLstC m) := fun w env σ Q ok en s =>
  h.run ok en s fun xs w1 hl ok1 le1 s1 vs tv => ⟨by rw [← tv.len, hl]; exact hn, fun p hp => s1 (w1.cell p (.lst vs) (.lst xs)) rfl (ok1.newCellLst hp tv) (ok1.le_cell hp _ _) _ ok1.ref_cell⟩
theorem se_cb {n : Nat} {t : TA} {m : AA} {r : List V → Hp → VK → Prop} {f : List AV → AH → Re AV} (hr : SC C E n r f) (h : SA C E n t m) : SE C E (tCB r t) (aC f m) := fun w env σ Q ok en s =>
  h.run ok en s fun xs w1 hl ok1 le1 s1 vs tv => hr w1 xs vs Q hl ok1 tv s1
theorem toB_ok {w : Wd} {x : AV} {v : V} {P : Bool → Wd → Prop} (ok : Ok C w) (tv : Tr C w x v) (s : Sat C E w (toB x w.h) P) : ∃ c, v = .bl c ∧ P c w := by
  cases x with
  | bl b => rw [Tr] at tv; exact ⟨b, tv, s.here ok⟩
  | non => exact s.elim
  | int i => exact s.elim
  | str x => exact s.elim
  | tup xs => exact s.elim
  | lst xs => exact s.elim
  | dk ks xs => exact s.elim
  | ref k => exact s.elim
  | kst xs => exact s.elim
  | xc c => exact s.elim
theorem st_b (ha : SE C E ta ma) : STs C E (tB ta) (aB ma) := fun w env σ Q ok en s =>
  ha w env σ _ ok en (s.bind.mono fun x w1 ok1 le1 s1 v tv => toB_ok ok1 tv s1)
theorem st_test (ha : SE C E ta ma) : STs C E (tTest ta) (aB ma) := fun w env σ Q ok en s =>
  ha w env σ _ ok en (s.bind.mono fun x w1 ok1 le1 s1 v tv => toB_ok ok1 tv s1)
variable {tA tB' : TT} {mA mB : AT}
theorem st_or (ha : STs C E tA mA) (hb : STs C E tB' mB) : STs C E (tOr tA tB') (aOr mA mB) := fun w env σ Q ok en s =>
  ha w env σ _ ok en (s.bind.mono fun c w1 ok1 le1 s1 => by
    cases c with
    | true => exact iteT (Sat.here (by simpa using s1) ok1)
    | false => exact iteF (hb w1 env σ _ ok1 (en.mono ok le1) (by simpa using s1)))
theorem st_not (ha : STs C E tA mA) : STs C E (tNot tA) (aNot mA) := fun w env σ Q ok en s =>
  ha w env σ _ ok en (s.bind.mono fun c w1 ok1 le1 s1 => s1.here ok1)
theorem se_and (ha : SE C E ta ma) (hb : SE C E tb mb) : SE C E (tAndV ta tb) (aAndV ma mb) := fun w env σ Q ok en s =>
  ha w env σ _ ok en (s.bind.mono fun x w1 ok1 le1 s1 v tv => by
    obtain ⟨c, e, s2⟩ := toB_ok ok1 tv s1.bind
    refine ⟨c, e, ?_⟩
    cases c with
    | true => exact iteT (hb w1 env σ _ ok1 (en.mono ok le1) (by simpa using s2))
    | false => exact iteF (Sat.here (P := want C Q) (x := AV.bl false) (by simpa using s2) ok1 _ (by rw [Tr])))
theorem se_not (ha : SE C E ta ma) : SE C E (tNotV ta) (aNotV ma) := fun w env σ Q ok en s =>
  ha w env σ _ ok en (s.bind.mono fun x w1 ok1 le1 s1 v tv => by
    obtain ⟨c, e, s2⟩ := toB_ok ok1 tv s1.bind
    exact ⟨c, e, s2.here ok1 _ (by rw [Tr])⟩)
theorem se_chain {r r' : R2} {f g : AV → AV → AH → Re AV} (hr : S2 C E r f) (hr' : S2 C E r' g) (ha : SE C E ta ma) (hb : SE C E tb mb) (hc : SE C E tc mc) : SE C E (tChain r r' ta tb tc) (aChain f g ma mb mc) := fun w env σ Q ok en s =>
  ha w env σ _ ok en (s.bind.mono fun x w1 ok1 le1 s1 v tv => hb w1 env σ _ ok1 (en.mono ok le1) (s1.bind.mono fun y w2 ok2 le2 s2 u tu =>
    hr w2 x y v u _ ok2 (tv.mono ok1 le2) tu (s2.bind.mono fun z w3 ok3 le3 s3 q tq => by
      obtain ⟨k, e, s4⟩ := toB_ok ok3 tq s3.bind
      refine ⟨k, e, ?_⟩
      cases k with
      | true =>
        have s4' : Sat C E w3 ((mc env w3.h).bind fun v h => g y v h) (want C Q) := by simpa using s4
        exact iteT (hc w3 env σ _ ok3 (en.mono ok (le1.trans (le2.trans le3))) (s4'.bind.mono fun p w4 ok4 le4 s5 p' tp => hr' w4 y p u p' Q ok4 (tu.mono ok2 (le3.trans le4)) tp s5))
      | false => exact iteF (Sat.here (P := want C Q) (x := AV.bl false) (by simpa using s4) ok3 _ (by rw [Tr])))))
end
end Z
set_option Elab.async false
set_option linter.all false
set_option maxRecDepth 100000
set_option maxHeartbeats 4000000
namespace Z
open PySem L2
@[simp] def lstOf (h : AH) : AV → Option (List AV)
  | .lst xs => some xs
  | .ref k => match h[k]? with | some (.lst xs) => some xs | _ => none
  | _ => none
@[simp] def lsqOf (h : AH) : AV → Option (List AV)
  | .lst xs => some xs
  | .kst xs => some xs
  | .ref k => match h[k]? with | some (.lst xs) => some xs | _ => none
  | _ => none
@[simp] def tupOf : AV → Option (List AV)
  | .tup xs => some xs
  | _ => none
@[simp] def seqOf (h : AH) : AV → Option (List AV)
  | .tup xs => some xs
  | .lst xs => some xs
  | .kst xs => some xs
  | .ref k => match h[k]? with | some (.lst xs) => some xs | _ => none
  | _ => none
@[simp] def intsOf : List AV → Option (List Int)
  | [] => some []
  | .int i :: r => (intsOf r).map (i :: ·)
  | _ => none
@[simp] def blsOf : List AV → Option (List Bool)
  | [] => some []
  | .bl i :: r => (blsOf r).map (i :: ·)
  | _ => none
@[simp] def strsOf : List AV → Option (List Str)
  | [] => some []
  | .str i :: r => (strsOf r).map (i :: ·)
  | _ => none
@[simp] def fI (g : Int → Int → AV) : AV → AV → AH → Re AV
  | .int i, .int j, h => .ok (g i j) h
  | _, _, _ => .no
@[simp] def fIC (c : Int → Int → Bool) (g : Int → Int → AV) : AV → AV → AH → Re AV
  | .int i, .int j, h => if c i j = true then .ok (g i j) h else .no
  | _, _, _ => .no
abbrev fAdd := fI fun i j => .int (i + j)
abbrev fSub := fI fun i j => .int (i - j)
abbrev fMul := fIC (fun i j => decide ((-(2 ^ 64) < i ∧ i < 2 ^ 64) ∨ (-(2 ^ 64) < j ∧ j < 2 ^ 64))) fun i j => .int (i * j)
abbrev fDiv := fIC (fun _ j => decide (0 < j ∧ j < 1073741824)) fun i j => .int (i / j)
abbrev fMod := fIC (fun _ j => decide (0 < j)) fun i j => .int (i % j)
abbrev fLt := fI fun i j => .bl (decide (i < j))
abbrev fLe := fI fun i j => .bl (decide (i ≤ j))
abbrev fGt := fI fun i j => .bl (decide (j < i))
@[simp] def fNeg : AV → AH → Re AV
  | .int i, h => .ok (.int (-i)) h
  | _, _ => .no
@[simp] def eqS : AV → AV → Option Bool
  | .int i, .int j => some (decide (i = j))
  | .str i, .str j => some (decide (i = j))
  | .bl i, .bl j => some (decide (i = j))
  | .non, .non => some true
  | .non, .int _ => some false | .int _, .non => some false | .non, .bl _ => some false | .bl _, .non => some false | .non, .str _ => some false | .str _, .non => some false
  | .int _, .str _ => some false | .str _, .int _ => some false | .bl _, .str _ => some false | .str _, .bl _ => some false
  | _, _ => none
@[simp] def fEq : AV → AV → AH → Re AV := fun x y h => match eqS x y with | some b => .ok (.bl b) h | none => .no
@[simp] def fNe : AV → AV → AH → Re AV := fun x y h => match eqS x y with | some b => .ok (.bl (!b)) h | none => .no
@[simp] def fAddS : AV → AV → AH → Re AV
  | .str x, .str y, h => if x.length + y.length ≤ sizeLine then .ok (.str (x ++ y)) h else .no
  | _, _, _ => .no
@[simp] def fCat : AV → AV → AH → Re AV := fun x y h => match lstOf h x, lstOf h y with
  | some xs, some ys => if xs.length + ys.length ≤ sizeLine then .ok (.lst (xs ++ ys)) h else .no
  | _, _ => .no
@[simp] def fCatC : AV → AV → AH → Re AV := fun x y h => match lstOf h x, lstOf h y with
  | some xs, some ys => if xs.length + ys.length ≤ sizeLine then .ok (.ref h.length) (h ++ [.lst (xs ++ ys)]) else .no
  | _, _ => .no
@[simp] def fCatT : AV → AV → AH → Re AV
  | .tup xs, .tup ys, h => if xs.length + ys.length ≤ sizeLine then .ok (.tup (xs ++ ys)) h else .no
  | _, _, _ => .no
@[simp] def fIx : AV → AV → AH → Re AV := fun x y h => match seqOf h x, y with
  | some xs, .int i => match atI xs i with | some z => .ok z h | none => .no
  | _, _ => .no
@[simp] def fIxS : AV → AV → AH → Re AV
  | .str z, .int i, h => if z.length ≤ sizeLine then (match atI z.cps.toList i with | some c => .ok (.str ⟨#[c]⟩) h | none => .no) else .no
  | _, _, _ => .no
@[simp] def isNonA : AV → Bool
  | .non => true
  | _ => false
@[simp] def fIsN : AV → AH → Re AV := fun x h => .ok (.bl (isNonA x)) h
@[simp] def fNotN : AV → AH → Re AV := fun x h => .ok (.bl (!isNonA x)) h
section
variable {C : Ct} {E : XK} {w : Wd}
theorem lstOf_ok {x : AV} {xs : List AV} {v : V} (ok : Ok C w) (e : lstOf w.h x = some xs) (t : Tr C w x v) : ∃ a vs, v = .ref a ∧ Rd w.H a (.lst vs) ∧ Trs C w xs vs := by
  cases x with
  | lst ys =>
    cases e
    rw [Tr] at t
    obtain ⟨a, vs, e, f, r, ht⟩ := t
    exact ⟨a, vs, e, r, ht⟩
  | ref k =>
    rw [Tr] at t
    obtain ⟨a, rfl, ea⟩ := t
    have e : (match w.h[k]? with | some (.lst xs) => some xs | _ => none) = some xs := e
    split at e
    · rename_i ys eh
      cases e
      obtain ⟨vs, hH, ht⟩ := ok.cell k _ a eh ea
      exact ⟨a, vs, rfl, .inl hH, ht⟩
    · cases e
  | non => cases e
  | bl b => cases e
  | int i => cases e
  | str x => cases e
  | tup xs => cases e
  | dk ks xs => cases e
  | kst xs => cases e
  | xc c => cases e
theorem sq_of {H : Hp} {a : Addr} {vs : List V} (h : (w.Fz a ∧ Rd w.H a (.lst vs)) ∨ SqL C.K (fun _ => none) a vs) : SqL C.K w.H a vs := by
  rcases h with h | (h | ⟨o, h⟩) | h
  · exact .inl h.2
  · cases h
  · cases h
  · exact .inr h
theorem lsqOf_ok {x : AV} {xs : List AV} {v : V} (ok : Ok C w) (e : lsqOf w.h x = some xs) (t : Tr C w x v) : ∃ a vs, v = .ref a ∧ SqL C.K w.H a vs ∧ Trs C w xs vs := by
  cases x with
  | kst ys =>
    cases e
    rw [Tr] at t
    obtain ⟨a, vs, e, r, ht⟩ := t
    exact ⟨a, vs, e, sq_of (H := w.H) r, ht⟩
  | lst ys =>
    obtain ⟨a, vs, e, r, ht⟩ := lstOf_ok ok (x := .lst ys) e t
    exact ⟨a, vs, e, .inl r, ht⟩
  | ref k =>
    obtain ⟨a, vs, e, r, ht⟩ := lstOf_ok ok (x := .ref k) e t
    exact ⟨a, vs, e, .inl r, ht⟩
  | _ => cases e
theorem seqOf_ok {x : AV} {xs : List AV} {v : V} (ok : Ok C w) (e : seqOf w.h x = some xs) (t : Tr C w x v) : ∃ a vs, v = .ref a ∧ (SqL C.K w.H a vs ∨ SqT C.K w.H a vs) ∧ Trs C w xs vs := by
  cases x with
  | lst ys =>
    cases e
    rw [Tr] at t
    obtain ⟨a, vs, e, f, r, ht⟩ := t
    exact ⟨a, vs, e, .inl (.inl r), ht⟩
  | tup ys =>
    cases e
    rw [Tr] at t
    obtain ⟨a, vs, e, r, ht⟩ := t
    exact ⟨a, vs, e, .inr r, ht⟩
  | ref k =>
    obtain ⟨a, vs, e, r, ht⟩ := lstOf_ok ok (x := .ref k) e t
    exact ⟨a, vs, e, .inl (.inl r), ht⟩
  | kst ys =>
    obtain ⟨a, vs, e, r, ht⟩ := lsqOf_ok ok (x := .kst ys) e t
    exact ⟨a, vs, e, .inl r, ht⟩
  | non => cases e
  | bl b => cases e
  | int i => cases e
  | str x => cases e
  | dk ks xs => cases e
  | xc c => cases e
theorem intsOf_ok : ∀ {xs : List AV} {ns : List Int} {vs : List V}, intsOf xs = some ns → Trs C w xs vs → vs = ns.map V.int
  | [], ns, vs, e, t => by cases e; rw [Trs] at t; exact t
  | x :: xs, ns, vs, e, t => by
    rw [Trs] at t
    obtain ⟨v, us, rfl, h1, h2⟩ := t
    cases x with
    | int i =>
      rw [intsOf] at e
      cases e1 : intsOf xs with
      | none => rw [e1] at e; cases e
      | some ms =>
        rw [e1] at e
        cases e
        rw [Tr] at h1
        rw [h1, intsOf_ok e1 h2]; rfl
    | _ => cases e
theorem blsOf_ok : ∀ {xs : List AV} {ns : List Bool} {vs : List V}, blsOf xs = some ns → Trs C w xs vs → vs = ns.map V.bl
  | [], ns, vs, e, t => by cases e; rw [Trs] at t; exact t
  | x :: xs, ns, vs, e, t => by
    rw [Trs] at t
    obtain ⟨v, us, rfl, h1, h2⟩ := t
    cases x with
    | bl i =>
      rw [blsOf] at e
      cases e1 : blsOf xs with
      | none => rw [e1] at e; cases e
      | some ms =>
        rw [e1] at e
        cases e
        rw [Tr] at h1
        rw [h1, blsOf_ok e1 h2]; rfl
    | _ => cases e
theorem strsOf_ok : ∀ {xs : List AV} {ns : List Str} {vs : List V}, strsOf xs = some ns → Trs C w xs vs → vs = ns.map V.str
  | [], ns, vs, e, t => by cases e; rw [Trs] at t; exact t
  | x :: xs, ns, vs, e, t => by
    rw [Trs] at t
    obtain ⟨v, us, rfl, h1, h2⟩ := t
    cases x with
    | str i =>
      rw [strsOf] at e
      cases e1 : strsOf xs with
      | none => rw [e1] at e; cases e
      | some ms =>
        rw [e1] at e
        cases e
        rw [Tr] at h1
        rw [h1, strsOf_ok e1 h2]; rfl
    | _ => cases e
theorem s2_I {g : Int → Int → V} {g' : Int → Int → AV} (hg : ∀ i j w, Tr C w (g' i j) (g i j)) : S2 C E (rI0 g) (fI g') := by
  intro w x y u v Q ok tx ty s
  unfold fI at s
  split at s
  · rename_i h i j
    rw [Tr] at tx; rw [Tr] at ty
    exact ⟨i, j, tx, ty, s.here ok _ (hg i j w)⟩
  · exact s.elim
theorem s2_IC {c : Int → Int → Bool} {P : Int → Int → Prop} {g : Int → Int → V} {g' : Int → Int → AV} (hc : ∀ i j, c i j = true → P i j) (hg : ∀ i j w, Tr C w (g' i j) (g i j)) : S2 C E (rI P g) (fIC c g') := by
  intro w x y u v Q ok tx ty s
  unfold fIC at s
  split at s
  · rename_i h i j
    rw [Tr] at tx; rw [Tr] at ty
    by_cases hh : c i j = true
    · rw [if_pos hh] at s
      exact ⟨i, j, tx, ty, hc i j hh, s.here ok _ (hg i j w)⟩
    · rw [if_neg hh] at s
      exact s.elim
  · exact s.elim
theorem s2_add : S2 C E (rI0 fun i j => .int (i + j)) fAdd := s2_I fun i j w => by rw [Tr]
theorem s2_sub : S2 C E (rI0 fun i j => .int (i - j)) fSub := s2_I fun i j w => by rw [Tr]
theorem s2_mul : S2 C E (rI CMul fun i j => .int (i * j)) fMul := s2_IC (fun i j h => (of_decide_eq_true h : (-(2 ^ 64) < i ∧ i < 2 ^ 64) ∨ (-(2 ^ 64) < j ∧ j < 2 ^ 64))) fun i j w => by rw [Tr]
theorem s2_div : S2 C E (rI CDiv fun i j => .int (i / j)) fDiv := s2_IC (fun i j h => (of_decide_eq_true h : 0 < j ∧ j < 1073741824)) fun i j w => by rw [Tr]
theorem s2_mod : S2 C E (rI (fun _ j => 0 < j) fun i j => .int (i % j)) fMod := s2_IC (fun i j h => of_decide_eq_true h) fun i j w => by rw [Tr]
theorem s2_lt : S2 C E (rI0 fun i j => .bl (decide (i < j))) fLt := s2_I fun i j w => by rw [Tr]
theorem s2_le : S2 C E (rI0 fun i j => .bl (decide (i ≤ j))) fLe := s2_I fun i j w => by rw [Tr]
theorem s2_gt : S2 C E (rI0 fun i j => .bl (decide (j < i))) fGt := s2_I fun i j w => by rw [Tr]
theorem eqS_ok {x y : AV} {u v : V} {b : Bool} (e : eqS x y = some b) (tx : Tr C w x u) (ty : Tr C w y v) : scal u v = true ∧ decide (u = v) = b := by
  cases x <;> cases y <;> simp only [eqS, Option.some.injEq, reduceCtorEq] at e
  all_goals (rw [Tr] at tx; rw [Tr] at ty; subst tx; subst ty; subst e)
  all_goals first | exact ⟨rfl, rfl⟩ | exact ⟨rfl, decide_eq_decide.mpr ⟨fun h => by injection h, fun h => by rw [h]⟩⟩
theorem s2_eq : S2 C E rEq fEq := by
  intro w x y u v Q ok tx ty s
  unfold fEq at s
  split at s
  · rename_i b e
    obtain ⟨h1, h2⟩ := eqS_ok e tx ty
    exact ⟨h1, by rw [h2]; exact s.here ok _ (by rw [Tr])⟩
  · exact s.elim
theorem s2_ne : S2 C E rNe fNe := by
  intro w x y u v Q ok tx ty s
  unfold fNe at s
  split at s
  · rename_i b e
    obtain ⟨h1, h2⟩ := eqS_ok e tx ty
    exact ⟨h1, by rw [h2]; exact s.here ok _ (by rw [Tr])⟩
  · exact s.elim
theorem isNon_ok {x : AV} {u : V} (t : Tr C w x u) : decide (u = V.non) = isNonA x := by
  cases x with
  | non => rw [Tr] at t; subst t; rfl
  | bl b => rw [Tr] at t; subst t; rfl
  | int i => rw [Tr] at t; subst t; rfl
  | str x => rw [Tr] at t; subst t; rfl
  | tup xs => rw [Tr] at t; obtain ⟨a, vs, rfl, _⟩ := t; rfl
  | lst xs => rw [Tr] at t; obtain ⟨a, vs, rfl, _⟩ := t; rfl
  | dk ks xs => rw [Tr] at t; obtain ⟨a, vs, rfl, _⟩ := t; rfl
  | ref k => rw [Tr] at t; obtain ⟨a, rfl, _⟩ := t; rfl
  | kst xs => rw [Tr] at t; obtain ⟨a, vs, rfl, _⟩ := t; rfl
  | xc c => rw [Tr] at t; obtain ⟨a, rfl, _⟩ := t; rfl
theorem se_isN {ta : TE} {ma : AE} (ha : SE C E ta ma) : SE C E (tIsN ta) (a1 fIsN ma) := fun w env σ Q ok en s =>
  ha w env σ _ ok en (s.bind.mono fun x w1 ok1 le1 s1 v tv => by show Q (V.bl (decide (v = V.non))) w1.H; rw [isNon_ok tv]; exact s1.here ok1 _ (by rw [Tr]))
theorem s2_addS : S2 C E (fun x y H Q => ∃ i j, x = .str i ∧ y = .str j ∧ i.length + j.length ≤ sizeLine ∧ Q (.str (i ++ j)) H) fAddS := by
  intro w x y u v Q ok tx ty s
  unfold fAddS at s
  split at s
  · rename_i h i j
    rw [Tr] at tx; rw [Tr] at ty
    by_cases hh : i.length + j.length ≤ sizeLine
    · rw [if_pos hh] at s
      exact ⟨i, j, tx, ty, hh, s.here ok _ (by rw [Tr])⟩
    · rw [if_neg hh] at s; exact s.elim
  · exact s.elim
theorem s2_cat : S2 C E rCatR fCat := by
  intro w x y u v Q ok tx ty s
  unfold fCat at s
  split at s
  · rename_i xs ys e1 e2
    obtain ⟨a, vs, rfl, r1, t1⟩ := lstOf_ok ok e1 tx
    obtain ⟨b, us, rfl, r2, t2⟩ := lstOf_ok ok e2 ty
    by_cases hh : xs.length + ys.length ≤ sizeLine
    · rw [if_pos hh] at s
      exact ⟨a, b, vs, us, rfl, rfl, r1, r2, by rw [← t1.len, ← t2.len]; exact hh, fun p hp => s (w.frozen p _) rfl (ok.frozen hp _) (ok.le_frozen hp _) _ (ok.newLst hp (t1.app t2))⟩
    · rw [if_neg hh] at s; exact s.elim
  · exact s.elim
theorem Trs.atI {xs : List AV} {vs : List V} {i : Int} {x : AV} (t : Trs C w xs vs) (e : L2.atI xs i = some x) : ∃ v, L2.atI vs i = some v ∧ Tr C w x v := by
  unfold L2.atI at e ⊢
  rw [← t.len]
  cases q : ixN xs.length i with
  | none => rw [q] at e; cases e
  | some j =>
    rw [q] at e
    obtain ⟨v, e', tv⟩ := t.get (show xs[j]? = some x from e)
    exact ⟨v, e', tv⟩
theorem s2_ix : S2 C E (rIx C.K) fIx := by
  intro w x y u v Q ok tx ty s
  unfold fIx at s
  split at s
  · rename_i xs i e1
    rw [Tr] at ty
    obtain ⟨a, vs, rfl, r1, t1⟩ := seqOf_ok ok e1 tx
    split at s
    · rename_i z ez
      obtain ⟨q, eq, tq⟩ := t1.atI ez
      rcases r1 with r1 | r1
      · exact .inl ⟨a, vs, i, q, rfl, ty, r1, eq, s.here ok _ tq⟩
      · exact .inr (.inl ⟨a, vs, i, q, rfl, ty, r1, eq, s.here ok _ tq⟩)
    · exact s.elim
  · exact s.elim
theorem s2_ixS : S2 C E rIxS fIxS := by
  intro w x y u v Q ok tx ty s
  unfold fIxS at s
  split at s
  · rename_i h z i
    rw [Tr] at tx; rw [Tr] at ty
    by_cases hh : z.length ≤ sizeLine
    · rw [if_pos hh] at s
      split at s
      · rename_i c ec
        exact ⟨z, i, c, tx, ty, hh, ec, s.here ok _ (by rw [Tr])⟩
      · exact s.elim
    · rw [if_neg hh] at s; exact s.elim
  · exact s.elim
end
end Z
set_option Elab.async false
set_option linter.all false
set_option maxRecDepth 100000
set_option maxHeartbeats 4000000
namespace Z
open PySem L2
inductive SRe where
  | nx (env : AEnv) (h : AH) | rt (x : AV) (h : AH) | bk (env : AEnv) (h : AH) | ct (env : AEnv) (h : AH) | ex (c : Nat) (h : AH) | no
abbrev AS := AEnv → AH → SRe
def Re.to {α : Type} (r : Re α) (f : α → AH → SRe) : SRe := match r with | .ok x h => f x h | .ex c h => .ex c h | .no => .no
@[simp] theorem Re.to_ok {α : Type} (x : α) (h : AH) (f : α → AH → SRe) : (Re.ok x h).to f = f x h := rfl
@[simp] theorem Re.to_ex {α : Type} (c : Nat) (h : AH) (f : α → AH → SRe) : (Re.ex c h : Re α).to f = .ex c h := rfl
@[simp] theorem Re.to_no {α : Type} (f : α → AH → SRe) : (Re.no : Re α).to f = .no := rfl
def SRe.then (r : SRe) (f : AEnv → AH → SRe) : SRe := match r with | .nx env h => f env h | r => r
@[simp] theorem SRe.then_nx (env : AEnv) (h : AH) (f : AEnv → AH → SRe) : (SRe.nx env h).then f = f env h := rfl
@[simp] theorem SRe.then_rt (x : AV) (h : AH) (f : AEnv → AH → SRe) : (SRe.rt x h).then f = .rt x h := rfl
@[simp] theorem SRe.then_bk (env : AEnv) (h : AH) (f : AEnv → AH → SRe) : (SRe.bk env h).then f = .bk env h := rfl
@[simp] theorem SRe.then_ct (env : AEnv) (h : AH) (f : AEnv → AH → SRe) : (SRe.ct env h).then f = .ct env h := rfl
@[simp] theorem SRe.then_ex (c : Nat) (h : AH) (f : AEnv → AH → SRe) : (SRe.ex c h).then f = .ex c h := rfl
@[simp] theorem SRe.then_no (f : AEnv → AH → SRe) : SRe.no.then f = .no := rfl
def SSat (C : Ct) (E : XK) (w : Wd) (r : SRe) (D : Ends) : Prop :=
  match r with
  | .nx env h => ∀ (w' : Wd) (σ : St), w'.h = h → Ok C w' → Le w w' → EnvOk C w' env σ → D.nx σ w'.H
  | .bk env h => ∀ (w' : Wd) (σ : St), w'.h = h → Ok C w' → Le w w' → EnvOk C w' env σ → D.bk σ w'.H
  | .ct env h => ∀ (w' : Wd) (σ : St), w'.h = h → Ok C w' → Le w w' → EnvOk C w' env σ → D.ct σ w'.H
  | .rt x h => ∀ (w' : Wd) (v : V), w'.h = h → Ok C w' → Le w w' → Tr C w' x v → D.rt v w'.H
  | .ex c h => ∀ w' : Wd, w'.h = h → Ok C w' → Le w w' → E (.ref (C.cl c)) none w'.H
  | .no => False
def SS (C : Ct) (E : XK) (t : TS) (m : AS) : Prop := ∀ (w : Wd) (env : AEnv) (σ : St) (D : Ends), Ok C w → EnvOk C w env σ → SSat C E w (m env w.h) D → t D σ w.H
def SG (C : Ct) (E : XK) (g : TG) (m : AV → AEnv → AH → Re AEnv) : Prop := ∀ (w : Wd) (x : AV) (v : V) (env : AEnv) (σ : St) (Q : St → Hp → Prop), Ok C w → EnvOk C w env σ → Tr C w x v →
  Sat C E w (m x env w.h) (fun env' w' => ∀ σ', EnvOk C w' env' σ' → Q σ' w'.H) → g v σ w.H Q
def SGs (C : Ct) (E : XK) (g : TGs) (m : List AV → AEnv → AH → Re AEnv) : Prop := ∀ (w : Wd) (xs : List AV) (vs : List V) (env : AEnv) (σ : St) (Q : St → Hp → Prop), Ok C w → EnvOk C w env σ → Trs C w xs vs →
  Sat C E w (m xs env w.h) (fun env' w' => ∀ σ', EnvOk C w' env' σ' → Q σ' w'.H) → g vs σ w.H Q
section
variable {C : Ct} {E : XK} {w : Wd}
theorem SSat.le {w0 : Wd} {r : SRe} {D : Ends} (le : Le w0 w) (s : SSat C E w0 r D) : SSat C E w r D := by
  cases r with
  | nx env h => exact fun w' σ e ok l en => s w' σ e ok (le.trans l) en
  | bk env h => exact fun w' σ e ok l en => s w' σ e ok (le.trans l) en
  | ct env h => exact fun w' σ e ok l en => s w' σ e ok (le.trans l) en
  | rt x h => exact fun w' v e ok l t => s w' v e ok (le.trans l) t
  | ex c h => exact fun w' e ok l => s w' e ok (le.trans l)
  | no => exact s
theorem Sat.to {α : Type} {r : Re α} {f : α → AH → SRe} {D : Ends} (s : SSat C E w (r.to f) D) : Sat C E w r (fun x w1 => SSat C E w1 (f x w1.h) D) := by
  cases r with
  | ok x h => exact fun w' e ok le => by subst e; exact SSat.le le s
  | ex c h => exact s
  | no => exact s
end
@[simp] def sNext : AS := fun env h => .nx env h
@[simp] def sSeq (a b : AS) : AS := fun env h => (a env h).then b
@[simp] def sBreak : AS := fun env h => .bk env h
@[simp] def sCont : AS := fun env h => .ct env h
@[simp] def sDrop (a : AE) : AS := fun env h => (a env h).to fun _ h => .nx env h
@[simp] def sRet (a : AE) : AS := fun env h => (a env h).to fun x h => .rt x h
@[simp] def sRetN : AS := fun _ h => .rt .non h
@[simp] def sIf (t : AT) (a b : AS) : AS := fun env h => (t env h).to fun c h => if c = true then a env h else b env h
@[simp] def sAsg (a : AE) (g : AV → AEnv → AH → Re AEnv) : AS := fun env h => (a env h).to fun x h => (g x env h).to fun env h => .nx env h
@[simp] def gN (i : Nat) : AV → AEnv → AH → Re AEnv := fun x env h => .ok (env.set i (some x)) h
@[simp] def gNil' : List AV → AEnv → AH → Re AEnv
  | [], env, h => .ok env h
  | _, _, _ => .no
@[simp] def gCons' (g : AV → AEnv → AH → Re AEnv) (r : List AV → AEnv → AH → Re AEnv) : List AV → AEnv → AH → Re AEnv
  | x :: xs, env, h => (g x env h).bind fun env h => r xs env h
  | [], _, _ => .no
@[simp] def gT (n : Nat) (r : List AV → AEnv → AH → Re AEnv) : AV → AEnv → AH → Re AEnv
  | .tup xs, env, h => if xs.length = n then r xs env h else .no
  | _, _, _ => .no
@[simp] def putL : AV → AV → AV → AH → Option AH
  | .ref k, .int i, x, h => match h[k]? with
    | some (.lst xs) => match ixN xs.length i with | some j => some (h.set k (.lst (xs.set j x))) | none => none
    | _ => none
  | _, _, _, _ => none
@[simp] def gSubL (o i : AE) : AV → AEnv → AH → Re AEnv := fun x env h => (o env h).bind fun a h => (i env h).bind fun b h => match putL a b x h with | some h => .ok env h | none => .no
section
variable {C : Ct} {E : XK}
theorem ss_next : SS C E tNext sNext := fun w env σ D ok en s => s w σ rfl ok (Le.refl w) en
theorem ss_seq {t u : TS} {a b : AS} (ha : SS C E t a) (hb : SS C E u b) : SS C E (tSeq t u) (sSeq a b) := by
  intro w env σ D ok en s
  refine ha w env σ _ ok en ?_
  unfold sSeq at s
  cases e : a env w.h with
  | nx env' h' =>
    rw [e] at s
    intro w' σ' e' ok' le' en'
    subst e'
    exact hb w' env' σ' D ok' en' (SSat.le le' s)
  | bk env' h' => rw [e] at s; exact s
  | ct env' h' => rw [e] at s; exact s
  | rt x h' => rw [e] at s; exact s
  | ex c h' => rw [e] at s; exact s
  | no => rw [e] at s; exact s
theorem ss_drop {t : TE} {m : AE} (h : SE C E t m) : SS C E (tDrop t) (sDrop m) := fun w env σ D ok en s =>
  h w env σ _ ok en (Sat.mono (Sat.to s) fun x w1 ok1 le1 s1 v tv => s1 w1 σ rfl ok1 (Le.refl w1) (en.mono ok le1))
theorem ss_ret {t : TE} {m : AE} (h : SE C E t m) : SS C E (tRet t) (sRet m) := fun w env σ D ok en s =>
  h w env σ _ ok en (Sat.mono (Sat.to s) fun x w1 ok1 le1 s1 v tv => s1 w1 v rfl ok1 (Le.refl w1) tv)
theorem ss_if {c : TT} {t u : TS} {mc : AT} {a b : AS} (hc : STs C E c mc) (ha : SS C E t a) (hb : SS C E u b) : SS C E (tIfS c t u) (sIf mc a b) := fun w env σ D ok en s =>
  hc w env σ _ ok en (Sat.mono (Sat.to s) fun c w1 ok1 le1 s1 => by
    cases c with
    | true => exact iteT (ha w1 env σ D ok1 (en.mono ok le1) (by simpa using s1))
    | false => exact iteF (hb w1 env σ D ok1 (en.mono ok le1) (by simpa using s1)))
theorem ss_asg {t : TE} {m : AE} {g : TG} {mg : AV → AEnv → AH → Re AEnv} (h : SE C E t m) (hg : SG C E g mg) : SS C E (tAsg t g) (sAsg m mg) := fun w env σ D ok en s =>
  h w env σ _ ok en (Sat.mono (Sat.to s) fun x w1 ok1 le1 s1 v tv => hg w1 x v env σ _ ok1 (en.mono ok le1) tv (Sat.mono (Sat.to s1) fun env2 w2 ok2 le2 s2 σ2 en2 => s2 w2 σ2 rfl ok2 (Le.refl w2) en2))
theorem sg_name {i : Nat} : SG C E (gName i) (gN i) := fun w x v env σ Q ok en t s => s.here ok _ (en.set i t)
theorem sgs_nil : SGs C E gNil gNil' := by
  intro w xs vs env σ Q ok en t s
  cases xs with
  | nil => rw [Trs] at t; exact ⟨t, Sat.here (P := fun env' w' => ∀ σ', EnvOk C w' env' σ' → Q σ' w'.H) s ok _ en⟩
  | cons x xs => exact s.elim
theorem sgs_cons {g : TG} {u : TGs} {m : AV → AEnv → AH → Re AEnv} {r : List AV → AEnv → AH → Re AEnv} (hg : SG C E g m) (hr : SGs C E u r) : SGs C E (gCons g u) (gCons' m r) := by
  intro w xs vs env σ Q ok en t s
  cases xs with
  | nil => exact s.elim
  | cons x xs =>
    rw [Trs] at t
    obtain ⟨v, us, rfl, t1, t2⟩ := t
    have s' : Sat C E w ((m x env w.h).bind fun env h => r xs env h) (fun env' w' => ∀ σ', EnvOk C w' env' σ' → Q σ' w'.H) := s
    exact ⟨v, us, rfl, hg w x v env σ _ ok en t1 (s'.bind.mono fun env1 w1 ok1 le1 s1 σ1 en1 => hr w1 xs us env1 σ1 Q ok1 en1 (t2.mono ok le1) s1)⟩
theorem sg_tup {n : Nat} {g : TGs} {m : List AV → AEnv → AH → Re AEnv} (hg : SGs C E g m) : SG C E (gTup C.K n g) (gT n m) := by
  intro w x v env σ Q ok en t s
  cases x with
  | tup xs =>
    rw [Tr] at t
    obtain ⟨a, vs, rfl, hs, ht⟩ := t
    have s' : Sat C E w (if xs.length = n then m xs env w.h else .no) (fun env' w' => ∀ σ', EnvOk C w' env' σ' → Q σ' w'.H) := s
    by_cases hl : xs.length = n
    · rw [if_pos hl] at s'
      exact ⟨a, vs, rfl, hs, by rw [← ht.len]; exact hl, hg w xs vs env σ Q ok en ht s'⟩
    · rw [if_neg hl] at s'; exact s'.elim
  | _ => exact s.elim
theorem Ok.putLst {w : Wd} (ok : Ok C w) {k : Nat} {a : Addr} {xs xs' : List AV} {vs' : List V} (e : w.h[k]? = some (.lst xs)) (ea : w.ρ[k]? = some a) (t : Trs C w xs' vs') :
    Ok C (w.put k (.lst xs') a (.lst vs')) ∧ Le w (w.put k (.lst xs') a (.lst vs')) := by
  have hl : Live w a := ⟨k, _, e, (by intro z; cases z), ea⟩
  have le := ok.le_put ea hl (.lst xs') (.lst vs')
  exact ⟨ok.put ea hl ⟨vs', upd_same, t.mono ok le⟩, le⟩
theorem putL_ok {w : Wd} {x y z : AV} {u v q : V} {h' : AH} (ok : Ok C w) (e : putL x y z w.h = some h') (tx : Tr C w x u) (ty : Tr C w y v) (tz : Tr C w z q) :
    ∃ p vs k j, u = .ref p ∧ v = .int k ∧ w.H p = some (.lst vs) ∧ ixN vs.length k = some j ∧ ∃ w', w'.h = h' ∧ w'.H = upd w.H p (.lst (vs.set j q)) ∧ Ok C w' ∧ Le w w' := by
  unfold putL at e
  split at e
  · rename_i h k i
    rw [Tr] at tx; rw [Tr] at ty
    obtain ⟨a, rfl, ea⟩ := tx
    split at e
    · rename_i xs eh
      obtain ⟨vs, hH, t⟩ := ok.cell k _ a eh ea
      split at e
      · rename_i j ej
        cases e
        obtain ⟨o1, l1⟩ := ok.putLst eh ea (t.set tz j)
        exact ⟨a, vs, i, j, rfl, ty, hH, by rw [← t.len]; exact ej, _, rfl, rfl, o1, l1⟩
      · cases e
    · cases e
  · cases e
theorem sg_subL {to ti : TE} {o i : AE} (ho : SE C E to o) (hi : SE C E ti i) : SG C E (gSub to ti rSetL) (gSubL o i) := by
  intro w x v env σ Q ok en t s
  refine ho w env σ _ ok en (s.bind.mono fun a w1 ok1 le1 s1 u tu => hi w1 env σ _ ok1 (en.mono ok le1) (s1.bind.mono fun b w2 ok2 le2 s2 u2 tu2 => ?_))
  split at s2
  · rename_i h' e
    obtain ⟨p, vs, k, j, e1, e2, hH, hj, w', e3, e4, o', l'⟩ := putL_ok ok2 e (tu.mono ok1 le2) tu2 (t.mono ok (le1.trans le2))
    refine ⟨p, vs, k, j, e1, e2, hH, hj, ?_⟩
    have := s2 w' e3 o' l' σ (en.mono ok (le1.trans (le2.trans l')))
    rw [e4] at this
    exact this
  · exact s2.elim
mutual
def beqA : AV → AV → Bool
  | .non, .non => true
  | .bl a, .bl b => a == b
  | .int a, .int b => a == b
  | .str a, .str b => a == b
  | .tup a, .tup b => beqAs a b
  | .lst a, .lst b => beqAs a b
  | .dk k a, .dk l b => decide (k = l) && beqAs a b
  | .ref a, .ref b => a == b
  | .kst a, .kst b => beqAs a b
  | .xc a, .xc b => a == b
  | _, _ => false
def beqAs : List AV → List AV → Bool
  | [], [] => true
  | x :: xs, y :: ys => beqA x y && beqAs xs ys
  | _, _ => false
end
mutual
theorem beqA_eq : ∀ {x y : AV}, beqA x y = true → x = y
  | .non, y, h => by cases y <;> simp_all [beqA]
  | .bl a, y, h => by cases y <;> simp_all [beqA]
  | .int a, y, h => by cases y <;> simp_all [beqA]
  | .str a, y, h => by cases y <;> simp_all [beqA]
  | .tup a, y, h => by
    cases y with
    | tup b => rw [beqA] at h; rw [beqAs_eq h]
    | _ => simp [beqA] at h
  | .lst a, y, h => by
    cases y with
    | lst b => rw [beqA] at h; rw [beqAs_eq h]
    | _ => simp [beqA] at h
  | .dk k a, y, h => by
    cases y with
    | dk l b =>
      rw [beqA, Bool.and_eq_true] at h
      rw [beqAs_eq h.2, of_decide_eq_true h.1]
    | _ => simp [beqA] at h
  | .ref a, y, h => by cases y <;> simp_all [beqA]
  | .kst a, y, h => by
    cases y with
    | kst b => rw [beqA] at h; rw [beqAs_eq h]
    | _ => simp [beqA] at h
  | .xc a, y, h => by cases y <;> simp_all [beqA]
theorem beqAs_eq : ∀ {xs ys : List AV}, beqAs xs ys = true → xs = ys
  | [], ys, h => by cases ys <;> simp_all [beqAs]
  | x :: xs, ys, h => by
    cases ys with
    | nil => simp [beqAs] at h
    | cons y ys =>
      rw [beqAs, Bool.and_eq_true] at h
      rw [beqA_eq h.1, beqAs_eq h.2]
end
mutual
theorem beqA_rfl : ∀ (x : AV), beqA x x = true
  | .non => by rw [beqA]
  | .bl a => by rw [beqA]; exact beq_self_eq_true a
  | .int a => by rw [beqA]; exact beq_self_eq_true a
  | .str a => by rw [beqA]; exact beq_self_eq_true a
  | .tup a => by rw [beqA]; exact beqAs_rfl a
  | .lst a => by rw [beqA]; exact beqAs_rfl a
  | .dk k a => by rw [beqA, beqAs_rfl a, decide_eq_true rfl]; rfl
  | .ref a => by rw [beqA]; exact beq_self_eq_true a
  | .kst a => by rw [beqA]; exact beqAs_rfl a
  | .xc a => by rw [beqA]; exact beq_self_eq_true a
theorem beqAs_rfl : ∀ (xs : List AV), beqAs xs xs = true
  | [] => by rw [beqAs]
  | x :: xs => by rw [beqAs, beqA_rfl x, beqAs_rfl xs]; rfl
end
def okW (h : AH) (all : List AV) : Option Nat → Bool
  | none => true
  | some k => match h[k]? with | some (.lst ys) => beqAs ys all | _ => false
theorem okW_none {h : AH} {all : List AV} : okW h all none = true := rfl
theorem okW_some {h : AH} {all : List AV} {k : Nat} (e : h[k]? = some (.lst all)) : okW h all (some k) = true := by
  simp only [okW, e]; exact beqAs_rfl all
theorem of_okW {h : AH} {all : List AV} {k : Nat} (e : okW h all (some k) = true) : h[k]? = some (.lst all) := by
  simp only [okW] at e
  split at e
  · rename_i ys q; rw [q, beqAs_eq e]
  · cases e
abbrev AI := AEnv → AH → Re (List AV × Option Nat)
structure ItOk (C : Ct) (w1 : Wd) (J : It) (all : List AV) (wt : Option Nat) : Prop where
  go : ∀ (w : Wd) (i : Nat), Ok C w → Le w1 w → okW w.h all wt = true → i < all.length → J.go i w.H
  yld : ∀ (w : Wd) (i : Nat) (x : AV) (v : V) (H' : Hp), Ok C w → Le w1 w → okW w.h all wt = true → all[i]? = some x → J.yld i w.H v H' → ∃ w', w'.H = H' ∧ w'.h = w.h ∧ Ok C w' ∧ Le w w' ∧ Tr C w' x v
  stop : ∀ (w : Wd) (i : Nat), Ok C w → Le w1 w → okW w.h all wt = true → i = all.length → J.stop i w.H
def SI (C : Ct) (E : XK) (wi : TI) (m : AI) : Prop := ∀ (w : Wd) (env : AEnv) (σ : St) (R : It → Hp → Prop), Ok C w → EnvOk C w env σ → Sat C E w (m env w.h) (fun p w' => ∀ J, ItOk C w' J p.1 p.2 → R J w'.H) → wi σ w.H R
def loopL (wt : Option Nat) (all : List AV) (g : AV → AEnv → AH → Re AEnv) (body : AS) : List AV → AEnv → AH → SRe
  | [], env, h => if okW h all wt = true then .nx env h else .no
  | x :: xs, env, h => if okW h all wt = true then (g x env h).to fun env h => match body env h with
      | .nx env h => loopL wt all g body xs env h
      | .ct env h => loopL wt all g body xs env h
      | .bk env h => .nx env h
      | .rt x h => .rt x h
      | .ex c h => .ex c h
      | .no => .no
    else .no
@[simp] def sFor (it : AI) (g : AV → AEnv → AH → Re AEnv) (body : AS) : AS := fun env h => (it env h).to fun p h => loopL p.2 p.1 g body p.1 env h
theorem ss_for {wi : TI} {it : AI} {g : TG} {mg : AV → AEnv → AH → Re AEnv} {tb : TS} {body : AS} (hi : SI C E wi it) (hg : SG C E g mg) (hb : SS C E tb body) : SS C E (tFor wi g tb) (sFor it mg body) := by
  intro w env σ D ok en s
  refine hi w env σ _ ok en (Sat.mono (Sat.to s) fun p w1 ok1 le1 s1 J hJ => ?_)
  obtain ⟨all, wt⟩ := p
  refine ⟨fun i m σ H => m = all.length - i ∧ i ≤ all.length ∧ ∃ w env, w.H = H ∧ Ok C w ∧ Le w1 w ∧ EnvOk C w env σ ∧ SSat C E w (loopL wt all mg body (all.drop i) env w.h) D,
    ⟨all.length, by simp, Nat.zero_le _, w1, env, rfl, ok1, Le.refl w1, en.mono ok le1, s1⟩, ?_⟩
  rintro i m σ H ⟨rfl, hi, w2, env2, rfl, ok2, le2, en2, s2⟩
  by_cases hlt : i < all.length
  · right
    have hx : all[i]? = some all[i] := List.getElem?_eq_getElem hlt
    rw [List.drop_eq_getElem_cons hlt, loopL] at s2
    by_cases hw : okW w2.h all wt = true
    · rw [if_pos hw] at s2
      refine ⟨hJ.go w2 i ok2 le2 hw hlt, fun σ' H' => ∃ w env, w.H = H' ∧ Ok C w ∧ Le w1 w ∧ EnvOk C w env σ' ∧ SSat C E w (loopL wt all mg body (all.drop (i + 1)) env w.h) D, fun σ' H' q => ⟨all.length - (i + 1), by omega, rfl, hlt, q⟩, fun v H' y => ?_⟩
      obtain ⟨w3, rfl, e3, ok3, le3, t3⟩ := hJ.yld w2 i _ v H' ok2 le2 hw hx y
      rw [← e3] at s2
      refine hg w3 _ v env2 σ _ ok3 (en2.mono ok2 le3) t3 (Sat.mono (Sat.to (SSat.le le3 s2)) fun env4 w4 ok4 le4 s4 σ4 en4 => ?_)
      refine hb w4 env4 σ4 _ ok4 en4 ?_
      have le14 : Le w1 w4 := le2.trans (le3.trans le4)
      cases e : body env4 w4.h with
      | nx env5 h5 =>
        rw [e] at s4
        intro w5 σ5 e5 ok5 le5 en5
        subst e5
        exact ⟨w5, env5, rfl, ok5, le14.trans le5, en5, SSat.le le5 s4⟩
      | ct env5 h5 =>
        rw [e] at s4
        intro w5 σ5 e5 ok5 le5 en5
        subst e5
        exact ⟨w5, env5, rfl, ok5, le14.trans le5, en5, SSat.le le5 s4⟩
      | bk env5 h5 => rw [e] at s4; exact s4
      | rt x h5 => rw [e] at s4; exact s4
      | ex c h5 => rw [e] at s4; exact s4
      | no => rw [e] at s4; exact s4
    · rw [if_neg hw] at s2; exact s2.elim
  · left
    have hd : all.drop i = [] := List.drop_eq_nil_of_le (by omega)
    rw [hd, loopL] at s2
    by_cases hw : okW w2.h all wt = true
    · rw [if_pos hw] at s2
      exact ⟨hJ.stop w2 i ok2 le2 hw (Nat.le_antisymm hi (Nat.le_of_not_lt hlt)), s2 w2 σ rfl ok2 (Le.refl w2) en2⟩
    · rw [if_neg hw] at s2; exact s2.elim
end
end Z
set_option Elab.async false
set_option linter.all false
set_option maxRecDepth 100000
set_option maxHeartbeats 4000000
namespace Z
open PySem L2
@[simp] def watch : AV → Option Nat
  | .ref k => some k
  | _ => none
@[simp] def iLst (a : AE) : AI := fun env h => (a env h).bind fun x h => match lsqOf h x with | some xs => .ok (xs, watch x) h | none => .no
@[simp] def iTupA (a : AE) : AI := fun env h => (a env h).bind fun x h => match tupOf x with | some xs => .ok (xs, none) h | none => .no
def intsFrom (lo : Int) (n : Nat) : List AV := (List.range n).map fun i : Nat => AV.int (lo + (i : Int))
def rng1 : AV → AH → Re (List AV × Option Nat) := fun x h => match x with
  | .int (.ofNat n) => if n ≤ 16777216 then .ok (intsFrom 0 n, none) h else .no
  | .int (.negSucc n) => if n ≤ 16777216 then .ok (intsFrom 0 0, none) h else .no
  | _ => .no
def rng2 : AV → AV → AH → Re (List AV × Option Nat) := fun x y h => match x, y with
  | .int (.ofNat i), .int (.ofNat j) => if i ≤ 16777216 ∧ j ≤ 16777216 then .ok (intsFrom i (j - i), none) h else .no
  | .int (.ofNat i), .int (.negSucc j) => if i ≤ 16777216 ∧ j ≤ 16777216 then .ok (intsFrom i 0, none) h else .no
  | _, _ => .no
@[simp] def iRange1 (a : AE) : AI := fun env h => (a env h).bind rng1
@[simp] def iRange2 (a b : AE) : AI := fun env h => (a env h).bind fun x h => (b env h).bind (rng2 x)
theorem rng1_nat {n : Nat} {h : AH} (h1 : n ≤ 1000000) : rng1 (.int (n : Int)) h = .ok (intsFrom 0 n, none) h := by
  show (if _ then _ else _) = _
  rw [if_pos (by omega)]
theorem rng2_nat {i j : Nat} {h : AH} (h1 : i ≤ 1000000) (h3 : j ≤ 1000000) : rng2 (.int (i : Int)) (.int (j : Int)) h = .ok (intsFrom i (j - i), none) h := by
  show (if _ then _ else _) = _
  rw [if_pos ⟨by omega, by omega⟩]
theorem len_from (i : Int) (n : Nat) : (intsFrom i n).length = n := by simp [intsFrom]
def enumA (xs : List AV) : List AV := (List.range xs.length).zipWith (fun (i : Nat) x => AV.tup [.int (i : Int), x]) xs
@[simp] def iEnumA (a : AE) : AI := fun env h => (a env h).bind fun x h => match x with
  | .lst xs => .ok (enumA xs, none) h
  | _ => .no
def zipA (xs ys : List AV) : List AV := xs.zipWith (fun x y => AV.tup [x, y]) ys
@[simp] def iZipA (a b : AE) : AI := fun env h => (a env h).bind fun x h => (b env h).bind fun y h => match x, y with
  | .lst xs, .lst ys => .ok (zipA xs ys, none) h
  | _, _ => .no
def strA (x : Str) : List AV := x.cps.toList.map fun c => AV.str ⟨#[c]⟩
@[simp] def iStrA (a : AE) : AI := fun env h => (a env h).bind fun x h => match x with
  | .str z => .ok (strA z, none) h
  | _ => .no
section
variable {C : Ct} {E : XK} {ta tb : TE} {ma mb : AE}
theorem walk_lst {w1 w : Wd} {x : AV} {xs : List AV} {v : V} (ok1 : Ok C w1) (e : lsqOf w1.h x = some xs) (t : Tr C w1 x v) (ok : Ok C w) (le : Le w1 w) (hw : okW w.h xs (watch x) = true) : ∃ a vs, v = .ref a ∧ SqL C.K w.H a vs ∧ Trs C w xs vs := by
  have t' := t.mono ok1 le
  have e' : lsqOf w.h x = some xs := by
    cases x with
    | lst ys => exact e
    | kst ys => exact e
    | ref k => simp only [lsqOf, of_okW hw]
    | _ => cases e
  obtain ⟨a, vs, h1, h2, h3⟩ := lsqOf_ok ok e' t'
  exact ⟨a, vs, h1, h2, h3⟩
theorem si_list (ha : SE C E ta ma) : SI C E (iList C.K ta) (iLst ma) := by
  intro w env σ R ok en s
  refine ha w env σ _ ok en (s.bind.mono fun x w1 ok1 le1 s1 v tv => ?_)
  split at s1
  · rename_i xs e
    obtain ⟨a, vs, rfl, r, t⟩ := lsqOf_ok ok1 e tv
    refine ⟨a, rfl, ⟨vs, r⟩, s1.here ok1 _ ?_⟩
    have key : ∀ w, Ok C w → Le w1 w → okW w.h xs (watch x) = true → ∃ us, SqL C.K w.H a us ∧ Trs C w xs us := fun w ok le hw => by
      obtain ⟨a', us, e', h2, h3⟩ := walk_lst ok1 e tv ok le hw
      cases e'
      exact ⟨us, h2, h3⟩
    refine ⟨fun w i ok le hw hi => ?_, fun w i y v H' ok le hw hy yl => ?_, fun w i ok le hw hi => ?_⟩
    · obtain ⟨us, h2, h3⟩ := key w ok le hw
      exact ⟨us, us[i]'(by rw [← h3.len]; exact hi), h2, List.getElem?_eq_getElem _⟩
    · obtain ⟨us, h2, h3⟩ := key w ok le hw
      obtain ⟨rfl, hq⟩ := yl
      obtain ⟨q, e1, tq⟩ := h3.get hy
      have := hq us h2
      rw [e1] at this; cases this
      exact ⟨w, rfl, rfl, ok, Le.refl w, tq⟩
    · obtain ⟨us, h2, h3⟩ := key w ok le hw
      exact ⟨us, h2, by rw [← h3.len]; exact Nat.le_of_eq hi.symm⟩
  · exact s1.elim
theorem itr_ok {w1 : Wd} {lo : Int} {n : Nat} : ItOk C w1 (Itr lo n) (intsFrom lo n) none := by
  refine ⟨fun w i ok le hw hi => ?_, fun w i y v H' ok le hw hy yl => ?_, fun w i ok le hw hi => ?_⟩
  · unfold intsFrom at hi; rw [List.length_map, List.length_range] at hi; exact hi
  · obtain ⟨rfl, rfl⟩ := yl
    unfold intsFrom at hy
    rw [List.getElem?_map] at hy
    cases e : (List.range n)[i]? with
    | none => rw [e] at hy; cases hy
    | some k =>
      rw [e] at hy
      obtain ⟨h1, h2⟩ := List.getElem?_eq_some_iff.mp e
      rw [List.getElem_range] at h2
      subst h2
      cases hy
      exact ⟨w, rfl, rfl, ok, Le.refl w, by rw [Tr]⟩
  · unfold intsFrom at hi; rw [List.length_map, List.length_range] at hi; exact Nat.le_of_eq hi.symm
theorem si_range1 (ha : SE C E ta ma) : SI C E (iRng1 (tCons ta tNil)) (iRange1 ma) := by
  intro w env σ R ok en s
  refine ha w env σ _ ok en (s.bind.mono fun x w1 ok1 le1 s1 v tv => ?_)
  unfold rng1 at s1
  split at s1
  · rename_i n
    rw [Tr] at tv; subst tv
    by_cases hj : n ≤ 16777216
    · rw [if_pos hj] at s1
      exact ⟨_, rfl, by show (_ : Int) ≤ (n : Int); omega, by show (n : Int) < _; omega, s1.here ok1 _ itr_ok⟩
    · rw [if_neg hj] at s1; exact s1.elim
  · rename_i n
    rw [Tr] at tv; subst tv
    by_cases hj : n ≤ 16777216
    · rw [if_pos hj] at s1
      exact ⟨_, rfl, by rw [Int.negSucc_eq]; omega, by rw [Int.negSucc_eq]; omega, s1.here ok1 _ itr_ok⟩
    · rw [if_neg hj] at s1; exact s1.elim
  · exact s1.elim
theorem si_range2 (ha : SE C E ta ma) (hb : SE C E tb mb) : SI C E (iRng2 (tCons ta (tCons tb tNil))) (iRange2 ma mb) := by
  intro w env σ R ok en s
  refine ha w env σ _ ok en (s.bind.mono fun x w1 ok1 le1 s1 v tv => hb w1 env σ _ ok1 (en.mono ok le1) (s1.bind.mono fun y w2 ok2 le2 s2 u tu => ?_))
  unfold rng2 at s2
  split at s2
  · rename_i i j
    rw [Tr] at tv tu; subst tv; subst tu
    by_cases hj : i ≤ 16777216 ∧ j ≤ 16777216
    · rw [if_pos hj] at s2
      have e : ((Int.ofNat j) - (Int.ofNat i)).toNat = j - i := by show ((j : Int) - (i : Int)).toNat = _; omega
      refine ⟨_, _, rfl, ⟨by show (_ : Int) ≤ (i : Int); omega, by show (i : Int) < _; omega, by show (_ : Int) ≤ (j : Int); omega, by show (j : Int) < _; omega⟩, ?_⟩
      rw [e]
      exact s2.here ok2 _ itr_ok
    · rw [if_neg hj] at s2; exact s2.elim
  · rename_i i j
    rw [Tr] at tv tu; subst tv; subst tu
    by_cases hj : i ≤ 16777216 ∧ j ≤ 16777216
    · rw [if_pos hj] at s2
      have e : ((Int.negSucc j) - (Int.ofNat i)).toNat = 0 := by rw [Int.negSucc_eq]; show (-((j : Int) + 1) - (i : Int)).toNat = _; omega
      refine ⟨_, _, rfl, ⟨by show (_ : Int) ≤ (i : Int); omega, by show (i : Int) < _; omega, by rw [Int.negSucc_eq]; omega, by rw [Int.negSucc_eq]; omega⟩, ?_⟩
      rw [e]
      exact s2.here ok2 _ itr_ok
    · rw [if_neg hj] at s2; exact s2.elim
  · exact s2.elim
theorem si_str (ha : SE C E ta ma) : SI C E (iStr ta) (iStrA ma) := by
  intro w env σ R ok en s
  refine ha w env σ _ ok en (s.bind.mono fun x w1 ok1 le1 s1 v tv => ?_)
  split at s1
  · rename_i z
    rw [Tr] at tv; subst tv
    refine ⟨z, rfl, s1.here ok1 _ ?_⟩
    have hl : (strA z).length = z.cps.toList.length := by unfold strA; rw [List.length_map]
    refine ⟨fun w i ok le hw hi => ?_, fun w i y v H' ok le hw hy yl => ?_, fun w i ok le hw hi => ?_⟩
    · rw [hl] at hi; exact hi
    · obtain ⟨rfl, c, hc, rfl⟩ := yl
      unfold strA at hy
      rw [List.getElem?_map, hc] at hy
      cases hy
      exact ⟨w, rfl, rfl, ok, Le.refl w, by rw [Tr]⟩
    · rw [hl] at hi; exact hi
  · exact s1.elim
def SGo (C : Ct) (E : XK) (n : Nat) (g : TG) (m : AV → AEnv → AH → Re AEnv) : Prop := ∀ (w : Wd) (x : AV) (v : V) (env : AEnv) (σ : St) (Q : St → Hp → Prop), Ok C w → EnvOk C w env σ → Tr C w x v →
  Sat C E w (m x env w.h) (fun env' w' => ∀ σ', EnvOk C w' env' σ' → σ'.length = σ.length → σ'.drop n = σ.drop n → Q σ' w'.H) → g v σ w.H Q
def SGos (C : Ct) (E : XK) (n : Nat) (g : TGs) (m : List AV → AEnv → AH → Re AEnv) : Prop := ∀ (w : Wd) (xs : List AV) (vs : List V) (env : AEnv) (σ : St) (Q : St → Hp → Prop), Ok C w → EnvOk C w env σ → Trs C w xs vs →
  Sat C E w (m xs env w.h) (fun env' w' => ∀ σ', EnvOk C w' env' σ' → σ'.length = σ.length → σ'.drop n = σ.drop n → Q σ' w'.H) → g vs σ w.H Q
theorem sgo_name {i n : Nat} (h : i < n := by decide) : SGo C E n (gName i) (gN i) := fun w x v env σ Q ok en t s => s.here ok _ (en.set i t) List.length_set (List.drop_set_of_lt h)
theorem sgos_nil {n : Nat} : SGos C E n gNil gNil' := by
  intro w xs vs env σ Q ok en t s
  cases xs with
  | nil => rw [Trs] at t; exact ⟨t, Sat.here (P := fun env' w' => ∀ σ', EnvOk C w' env' σ' → σ'.length = σ.length → σ'.drop n = σ.drop n → Q σ' w'.H) s ok _ en rfl rfl⟩
  | cons x xs => exact s.elim
theorem sgos_cons {n : Nat} {g : TG} {u : TGs} {m : AV → AEnv → AH → Re AEnv} {r : List AV → AEnv → AH → Re AEnv} (hg : SGo C E n g m) (hr : SGos C E n u r) : SGos C E n (gCons g u) (gCons' m r) := by
  intro w xs vs env σ Q ok en t s
  cases xs with
  | nil => exact s.elim
  | cons x xs =>
    rw [Trs] at t
    obtain ⟨v, us, rfl, t1, t2⟩ := t
    have s' : Sat C E w ((m x env w.h).bind fun env h => r xs env h) (fun env' w' => ∀ σ', EnvOk C w' env' σ' → σ'.length = σ.length → σ'.drop n = σ.drop n → Q σ' w'.H) := s
    exact ⟨v, us, rfl, hg w x v env σ _ ok en t1 (s'.bind.mono fun env1 w1 ok1 le1 s1 σ1 en1 l1 d1 => hr w1 xs us env1 σ1 Q ok1 en1 (t2.mono ok le1) (s1.mono fun env2 w2 ok2 le2 s2 σ2 en2 l2 d2 => s2 σ2 en2 (l2.trans l1) (d2.trans d1)))⟩
theorem sgo_tup {n k : Nat} {g : TGs} {m : List AV → AEnv → AH → Re AEnv} (hg : SGos C E n g m) : SGo C E n (gTup C.K k g) (gT k m) := by
  intro w x v env σ Q ok en t s
  cases x with
  | tup xs =>
    rw [Tr] at t
    obtain ⟨a, vs, rfl, hs, ht⟩ := t
    have s' : Sat C E w (if xs.length = k then m xs env w.h else .no) (fun env' w' => ∀ σ', EnvOk C w' env' σ' → σ'.length = σ.length → σ'.drop n = σ.drop n → Q σ' w'.H) := s
    by_cases hl : xs.length = k
    · rw [if_pos hl] at s'
      exact ⟨a, vs, rfl, hs, by rw [← ht.len]; exact hl, hg w xs vs env σ Q ok en ht s'⟩
    · rw [if_neg hl] at s'; exact s'.elim
  | _ => exact s.elim
@[simp] def Re.noex {α : Type} : Re α → Re α
  | .ok x h => .ok x h
  | _ => .no
@[simp] theorem Re.noex_ok {α : Type} (x : α) (h : AH) : (Re.ok x h).noex = .ok x h := rfl
def bEnv (n : Nat) (fv : List Nat) (env : AEnv) : AEnv := List.replicate n none ++ fv.map fun i => (env[i]?).join
def lcL (wt : Option Nat) (all : List AV) (g : AV → AEnv → AH → Re AEnv) (tc : AT) (te : AE) (be : AEnv) : List AV → List AV → AH → Re (List AV)
  | [], acc, h => if okW h all wt = true then .ok acc h else .no
  | x :: xs, acc, h => if okW h all wt = true then (g x be h).bind fun env h => (tc env h).bind fun b h => if b = true then (te env h).bind fun y h => lcL wt all g tc te be xs (acc ++ [y]) h else lcL wt all g tc te be xs acc h else .no
@[simp] def aLcL (n : Nat) (fv : List Nat) (it : AI) (g : AV → AEnv → AH → Re AEnv) (tc : AT) (te : AE) : AA := fun env h => (it env h).bind fun p h => if p.1.length ≤ sizeLine then (lcL p.2 p.1 g tc te (bEnv n fv env) p.1 [] h).noex else .no
@[simp] def aLc (n : Nat) (fv : List Nat) (it : AI) (g : AV → AEnv → AH → Re AEnv) (tc : AT) (te : AE) : AE := fun env h => (aLcL n fv it g tc te env h).bind fun xs h => .ok (.lst xs) h
@[simp] def aLcC (n : Nat) (fv : List Nat) (it : AI) (g : AV → AEnv → AH → Re AEnv) (tc : AT) (te : AE) : AE := fun env h => (aLcL n fv it g tc te env h).bind fun xs h => .ok (.ref h.length) (h ++ [.lst xs])
@[simp] def aYes : AT := fun _ h => .ok true h
theorem st_yes : STs C E tYes aYes := fun w env σ Q ok en s => s.here ok
theorem Sat.noex {α : Type} {w : Wd} {r : Re α} {P : α → Wd → Prop} (s : Sat C E w r.noex P) : Sat C E0 w r P := by
  cases r with
  | ok x h => exact s
  | ex c h => exact s.elim
  | no => exact s
theorem bEnv_ok {w : Wd} {env : AEnv} {σ : St} (en : EnvOk C w env σ) (own : List Str) (fv : List (Str × Nat)) : EnvOk C w (bEnv own.length (fv.map (·.2)) env) (bσ own fv σ) := by
  unfold bEnv bσ fvals
  refine ⟨by simp, fun i x h => ?_⟩
  by_cases hi : i < own.length
  · rw [List.getElem?_append_left (by simpa using hi), List.getElem?_replicate, if_pos hi] at h
    cases h
  · rw [List.getElem?_append_right (by simpa using hi), List.length_replicate, List.getElem?_map, List.getElem?_map] at h
    rw [List.getElem?_append_right (by simpa using hi), List.length_map, List.getElem?_map]
    cases e : fv[i - own.length]? with
    | none => rw [e] at h; cases h
    | some p =>
      rw [e] at h
      have h : (env[p.2]?).join = some x := by simpa using h
      have h' : env[p.2]? = some (some x) := by
        cases q : env[p.2]? with
        | none => rw [q] at h; cases h
        | some o => rw [q] at h; rw [show o = some x from h]
      obtain ⟨v, hv, tv⟩ := en.at_ p.2 x h'
      exact ⟨v, by simp [hv], tv⟩
theorem Sat.nb {α β γ : Type} {w1 : Wd} {X : Re α} {g : α → AH → Re β} {f : β → AH → Re γ} {P : γ → Wd → Prop} (s : Sat C E w1 ((X.bind g).noex.bind f) P) : Sat C E0 w1 X (fun x w' => Sat C E w1 ((g x w'.h).noex.bind f) P) := by
  cases X with
  | ok x h => exact fun w' e ok le => by subst e; exact s
  | ex c h => exact s.elim
  | no => exact s
theorem lc_sim {own : List Str} {fv : List (Str × Nat)} {wi : TI} {it : AI} {g : TG} {mg : AV → AEnv → AH → Re AEnv} {tc : TT} {mc : AT} {te : TE} {me : AE} (hi : SI C E wi it) (hg : SGo C E0 own.length g mg) (hc : STs C E0 tc mc) (he : SE C E0 te me)
    {w : Wd} {env : AEnv} {σ : St} {Q : VK} (ok : Ok C w) (en : EnvOk C w env σ) {f : List AV → AH → Re AV} {P : AV → Wd → Prop} (s : Sat C E w ((aLcL own.length (fv.map (·.2)) it mg mc me env w.h).bind f) P)
    (k : ∀ (w0 w' : Wd) xs D vs, Ok C w0 → Le w w0 → w0.H D = none → Ok C w' → Le w0 w' → Lone w' D vs → Trs C w' xs vs → Sat C E w0 (f xs w'.h) P → Q (.ref D) w'.H) : tLc own fv wi g tc te σ w.H Q := by
  have s0 : Sat C E w ((it env w.h).bind fun p h => (if p.1.length ≤ sizeLine then (lcL p.2 p.1 mg mc me (bEnv own.length (fv.map (·.2)) env) p.1 [] h).noex else .no : Re (List AV)).bind f) P := by
    unfold aLcL at s
    revert s
    cases it env w.h <;> exact fun s => s
  refine hi w env σ _ ok en (s0.bind.mono fun p w1 ok1 le1 s1 J hJ D hD => ?_)
  obtain ⟨all, wt⟩ := p
  by_cases hsz : all.length ≤ sizeLine
  · have s1 : Sat C E w1 ((if all.length ≤ sizeLine then (lcL wt all mg mc me (bEnv own.length (fv.map (·.2)) env) all [] w1.h).noex else .no : Re (List AV)).bind f) P := s1
    rw [if_pos hsz] at s1
    have en1 := en.mono ok le1
    refine ⟨fun i m H => m = all.length - i ∧ i ≤ all.length ∧ ∃ w2 acc ys, w2.H = H ∧ Ok C w2 ∧ Le w1 w2 ∧ Lone w2 D ys ∧ Trs C w2 acc ys ∧ acc.length ≤ i ∧ Sat C E w1 ((lcL wt all mg mc me (bEnv own.length (fv.map (·.2)) env) (all.drop i) acc w2.h).noex.bind f) P, ⟨all.length, by simp, Nat.zero_le _, w1.fresh D (.lst []), [], [], rfl, ok1.fresh hD _, ok1.le_fresh hD _, ?_, .nil, Nat.zero_le _, s1⟩, ?_⟩
    · exact ⟨upd_same, fun z => ok1.fzt D z hD, fun z => ok1.th D (ok1.liveH z) hD, fun z => ok1.th D z hD⟩
    · rintro i m H ⟨rfl, hi, w2, acc, ys, rfl, ok2, le2, L2, t2, hal, s3⟩
      by_cases hlt : i < all.length
      · right
        have hx : all[i]? = some all[i] := List.getElem?_eq_getElem hlt
        rw [List.drop_eq_getElem_cons hlt, lcL] at s3
        by_cases hw : okW w2.h all wt = true
        · rw [if_pos hw] at s3
          refine ⟨hJ.go w2 i ok2 le2 hw hlt, fun v H5 => ∃ w5 acc' ys, w5.H = H5 ∧ Ok C w5 ∧ Le w1 w5 ∧ Lone w5 D ys ∧ (∃ y, Tr C w5 y v ∧ Trs C w5 acc' ys ∧ acc'.length ≤ i ∧ Sat C E w1 ((lcL wt all mg mc me (bEnv own.length (fv.map (·.2)) env) (all.drop (i + 1)) (acc' ++ [y]) w5.h).noex.bind f) P),
            fun H4 => ∃ w4 acc' ys, w4.H = H4 ∧ Ok C w4 ∧ Le w1 w4 ∧ Lone w4 D ys ∧ Trs C w4 acc' ys ∧ acc'.length ≤ i ∧ Sat C E w1 ((lcL wt all mg mc me (bEnv own.length (fv.map (·.2)) env) (all.drop (i + 1)) acc' w4.h).noex.bind f) P, ?_, ?_, ?_⟩
          · rintro v H5 ⟨w5, acc', ys', rfl, ok5, le5, L5, y, ty, t5, hal5, s5⟩
            refine ⟨ys', L5.at_, ?_, all.length - (i + 1), by omega, rfl, hlt, w5.poke D (.lst (ys' ++ [v])), acc' ++ [y], ys' ++ [v], rfl, ok5.poke L5 _, le5.poke hD, ?_, (t5.app (.one ty)).poke L5 _, ?_, s5⟩
            · have := t5.len; omega
            · exact ⟨upd_same, L5.nf, L5.nl, L5.nr⟩
            · rw [List.length_append, List.length_singleton]; omega
          · rintro H4 ⟨w4, acc', ys', rfl, ok4, le4, L4, t4, hal4, s4⟩
            exact ⟨all.length - (i + 1), by omega, rfl, hlt, w4, acc', ys', rfl, ok4, le4, L4, t4, by omega, s4⟩
          · intro v H' yl
            obtain ⟨w3, rfl, e3, ok3, le3, t3⟩ := hJ.yld w2 i _ v H' ok2 le2 hw hx yl
            have en3 := bEnv_ok ((en1.mono ok1 le2).mono ok2 le3) own fv
            rw [← e3] at s3
            refine hg w3 _ v _ _ _ ok3 en3 t3 ((Sat.nb s3).le (le2.trans le3) |>.mono fun env4 w4 ok4 le4 s4 σ4 en4 l4 d4 => ⟨?_, ?_⟩)
            · refine ⟨σ4.take own.length, ?_, ?_⟩
              · have hl : (bσ own fv σ).length = own.length + fv.length := by unfold bσ fvals; simp
                rw [List.length_take]; omega
              · have hd : (bσ own fv σ).drop own.length = fvals fv σ := by
                  unfold bσ
                  rw [List.drop_append_of_le_length (by simp)]
                  simp
                rw [← hd, ← d4, List.take_append_drop]
            · have le14 : Le w1 w4 := le2.trans (le3.trans le4)
              refine hc w4 env4 σ4 _ ok4 en4 ((Sat.nb s4).le le14 |>.mono fun b w5 ok5 le5 s5 => ?_)
              have L5 : Lone w5 D ys := L2.le (le3.trans (le4.trans le5))
              have t5 : Trs C w5 acc ys := t2.mono ok2 (le3.trans (le4.trans le5))
              cases b with
              | true =>
                refine iteT (he w5 env4 σ4 _ ok5 (en4.mono ok4 le5) ?_)
                have s5' : Sat C E w1 (((me env4 w5.h).bind fun y h => lcL wt all mg mc me (bEnv own.length (fv.map (·.2)) env) (all.drop (i + 1)) (acc ++ [y]) h).noex.bind f) P := by simpa using s5
                refine (Sat.nb s5').le (le14.trans le5) |>.mono fun y w6 ok6 le6 s6 q tq => ?_
                exact ⟨w6, acc, ys, rfl, ok6, le14.trans (le5.trans le6), L5.le le6, y, tq, t5.mono ok5 le6, hal, s6⟩
              | false =>
                refine iteF ⟨w5, acc, ys, rfl, ok5, le14.trans le5, L5, t5, hal, by simpa using s5⟩
        · rw [if_neg hw] at s3; exact s3.elim
      · left
        have hd : all.drop i = [] := List.drop_eq_nil_of_le (by omega)
        rw [hd, lcL] at s3
        by_cases hw : okW w2.h all wt = true
        · rw [if_pos hw] at s3
          exact ⟨hJ.stop w2 i ok2 le2 hw (Nat.le_antisymm hi (Nat.le_of_not_lt hlt)), k w1 w2 acc D ys ok1 le1 hD ok2 le2 L2 t2 s3⟩
        · rw [if_neg hw] at s3; exact s3.elim
  · have s1 : Sat C E w1 ((if all.length ≤ sizeLine then (lcL wt all mg mc me (bEnv own.length (fv.map (·.2)) env) all [] w1.h).noex else .no : Re (List AV)).bind f) P := s1
    rw [if_neg hsz] at s1
    exact s1.elim
theorem Le.keep {w0 w : Wd} {D : Addr} (le : Le w0 w) (h0 : w0.H D = none) : Le w0 (w.keep D) :=
  ⟨le.pre, fun a h => .inr (le.fz a h), fun b hb o r => (le.ks b hb o r).elim .inl fun z => .inr ⟨.inr z.1, z.2⟩, fun a h => h.elim (fun z => .inr (.inl (z ▸ h0))) (le.fn a), le.nw, le.nn, le.rn⟩
def Wd.own (w : Wd) (D : Addr) (c : Cell) : Wd := { w with ρ := w.ρ ++ [D], h := w.h ++ [c] }
theorem live_own {w : Wd} (ok : Ok C w) {D : Addr} {c : Cell} {a : Addr} (h : Live (w.own D c) a) : a = D ∨ Live w a := by
  obtain ⟨k, c', e1, e2, e3⟩ := h
  have hl := ok.len
  by_cases hk : k < w.h.length
  · exact .inr ⟨k, c', by rw [← List.getElem?_append_left (l₂ := [c]) hk]; exact e1, e2, by rw [← List.getElem?_append_left (l₂ := [D]) (by omega)]; exact e3⟩
  · have hlt := (List.getElem?_eq_some_iff.mp e3).1
    have : (w.own D c).ρ.length = w.ρ.length + 1 := by simp [Wd.own]
    have hk' : k = w.ρ.length := by omega
    have e3' : (w.ρ ++ [D])[k]? = some a := e3
    rw [hk', List.getElem?_append_right (Nat.le_refl _), Nat.sub_self] at e3'
    exact .inl (by simpa using e3'.symm)
theorem Le.own {w0 w : Wd} {D : Addr} {c : Cell} (ok : Ok C w) (le : Le w0 w) (h0 : w0.H D = none) : Le w0 (w.own D c) := by
  obtain ⟨t, e⟩ := le.pre
  refine ⟨⟨t ++ [D], by show w.ρ ++ [D] = _; rw [e, List.append_assoc]⟩, le.fz, le.ks, le.fn, fun a h => ?_, le.nn, fun a h => ?_⟩
  · rcases live_own ok h with rfl | h
    · exact .inl h0
    · exact le.nw a h
  · rcases List.mem_append.mp (show a ∈ w.ρ ++ [D] from h) with z | z
    · exact le.rn a z
    · exact .inr (by rw [List.mem_singleton.mp z]; exact h0)
mutual
theorem Tr.own {w : Wd} {D : Addr} {c : Cell} : ∀ {x : AV} {v : V}, Tr C w x v → Tr C (w.own D c) x v
  | .non, v, h => by rw [Tr] at h ⊢; exact h
  | .bl _, v, h => by rw [Tr] at h ⊢; exact h
  | .int _, v, h => by rw [Tr] at h ⊢; exact h
  | .str _, v, h => by rw [Tr] at h ⊢; exact h
  | .tup xs, v, h => by
    rw [Tr] at h ⊢
    obtain ⟨a, vs, e, hs, ht⟩ := h
    exact ⟨a, vs, e, hs, Trs.own ht⟩
  | .lst xs, v, h => by
    rw [Tr] at h ⊢
    obtain ⟨a, vs, e, f, r, ht⟩ := h
    exact ⟨a, vs, e, f, r, Trs.own ht⟩
  | .dk ks xs, v, h => by
    rw [Tr] at h ⊢
    obtain ⟨a, kvs, e, f, r, hk, ht⟩ := h
    exact ⟨a, kvs, e, f, r, hk, Trs.own ht⟩
  | .ref k, v, h => by
    rw [Tr] at h ⊢
    obtain ⟨a, e, hk⟩ := h
    exact ⟨a, e, by show (w.ρ ++ [D])[k]? = some a; rw [List.getElem?_append_left (List.getElem?_eq_some_iff.mp hk).1]; exact hk⟩
  | .kst xs, v, h => by
    rw [Tr] at h ⊢
    obtain ⟨a, vs, e, hs, ht⟩ := h
    exact ⟨a, vs, e, hs, Trs.own ht⟩
  | .xc c, v, h => by rw [Tr] at h ⊢; exact h
theorem Trs.own {w : Wd} {D : Addr} {c : Cell} : ∀ {xs : List AV} {vs : List V}, Trs C w xs vs → Trs C (w.own D c) xs vs
  | [], vs, h => by rw [Trs] at h ⊢; exact h
  | x :: xs, vs, h => by
    rw [Trs] at h ⊢
    obtain ⟨v, us, e, h1, h2⟩ := h
    exact ⟨v, us, e, Tr.own h1, Trs.own h2⟩
end
theorem Flds.own {w : Wd} {D : Addr} {c : Cell} : ∀ {fs : List (Nat × AV)} {us : List (Str × V)}, Flds C w fs us → Flds C (w.own D c) fs us
  | [], us, h => h
  | p :: r, us, h => by
    obtain ⟨v, us, e, h1, h2⟩ := h
    exact ⟨v, us, e, Tr.own h1, Flds.own h2⟩
theorem Ok.own {w : Wd} (ok : Ok C w) {D : Addr} {vs : List V} {xs : List AV} (L : Lone w D vs) (t : Trs C w xs vs) : Ok C (w.own D (.lst xs)) := by
  have hl := ok.len
  refine ⟨by simp [Wd.own, hl], ?_, fun a ha => ?_, fun k c' a e ea => ?_, fun a hlv hz => ?_, ok.fzt, ok.pn⟩
  · show (w.ρ ++ [D]).Nodup
    rw [List.nodup_append]
    exact ⟨ok.nd, by simp, fun a ha b hb => by simp at hb; subst hb; intro z; subst z; exact L.nr ha⟩
  · rcases List.mem_append.mp (show a ∈ w.ρ ++ [D] from ha) with z | z
    · exact ok.th a z
    · show w.H a ≠ none
      rw [List.mem_singleton.mp z, L.at_]; intro z; cases z
  · by_cases hk : k < w.h.length
    · have e' : w.h[k]? = some c' := by rw [← List.getElem?_append_left (l₂ := [Cell.lst xs]) hk]; exact e
      have ea' : w.ρ[k]? = some a := by rw [← List.getElem?_append_left (l₂ := [D]) (by omega)]; exact ea
      have h := ok.cell k c' a e' ea'
      cases c' with
      | dead => trivial
      | lst xs => obtain ⟨vs, hH, ht⟩ := h; exact ⟨vs, hH, ht.own⟩
      | dk ks xs => obtain ⟨kvs, hH, hk, ht⟩ := h; exact ⟨kvs, hH, hk, ht.own⟩
      | ins cc fs => obtain ⟨hf, dx, fvs, hH, ht⟩ := h; exact ⟨hf, dx, fvs, hH, ht.own⟩
    · have hlt := (List.getElem?_eq_some_iff.mp ea).1
      have : (w.own D (.lst xs)).ρ.length = w.ρ.length + 1 := by simp [Wd.own]
      have hk' : k = w.ρ.length := by omega
      have e3' : (w.ρ ++ [D])[k]? = some a := ea
      rw [hk', List.getElem?_append_right (Nat.le_refl _), Nat.sub_self] at e3'
      have e4 : (w.h ++ [Cell.lst xs])[k]? = some c' := e
      rw [hk', hl, List.getElem?_append_right (Nat.le_refl _), Nat.sub_self] at e4
      have a1 : D = a := by simpa using e3'
      have a2 : Cell.lst xs = c' := by simpa using e4
      subst a1 a2
      exact ⟨vs, L.at_, t.own⟩
  · rcases live_own ok hlv with rfl | h
    · exact L.nf hz
    · exact ok.fz a h hz
section
variable {own : List Str} {fv : List (Str × Nat)} {wi : TI} {it : AI} {g : TG} {mg : AV → AEnv → AH → Re AEnv} {tc : TT} {mc : AT} {te : TE} {me : AE}
theorem se_lc (hi : SI C E wi it) (hg : SGo C E0 own.length g mg) (hc : STs C E0 tc mc) (he : SE C E0 te me) : SE C E (tLc own fv wi g tc te) (aLc own.length (fv.map (·.2)) it mg mc me) := fun w env σ Q ok en s =>
  lc_sim hi hg hc he ok en s fun w0 w' xs D vs ok0 le0 h0 ok' le' L t s' => s' (w'.keep D) rfl (ok'.keep L) (le'.keep h0) _ (by rw [Tr]; exact ⟨D, vs, rfl, .inl rfl, .inl L.at_, t.keep⟩)
end
end
end Z
set_option Elab.async false
set_option linter.all false
set_option maxRecDepth 100000
set_option maxHeartbeats 4000000
namespace Z
open PySem L2
abbrev AF := List AV → AH → Re AV
def spZ (C : Ct) (n : Nat) (m : AF) : Sp := fun vs H Q E => ∃ (w : Wd) (xs : List AV), w.H = H ∧ Ok C w ∧ Trs C w xs vs ∧ xs.length = n ∧ Sat C E w (m xs w.h) (want C Q)
theorem spZ_len {C : Ct} {n : Nat} {m : AF} {vs : List V} {H : Hp} {Q : VK} {E : XK} (h : spZ C n m vs H Q E) : vs.length = n := by
  obtain ⟨w, xs, _, _, t, hl, _⟩ := h
  rw [← t.len]; exact hl
@[simp] def SRe.out : SRe → Re AV
  | .rt x h => .ok x h
  | .nx _ h => .ok .non h
  | .ex c h => .ex c h
  | _ => .no
@[simp] theorem SRe.out_rt (x : AV) (h : AH) : (SRe.rt x h).out = .ok x h := rfl
@[simp] theorem SRe.out_nx (e : AEnv) (h : AH) : (SRe.nx e h).out = .ok .non h := rfl
@[simp] theorem SRe.out_ex (c : Nat) (h : AH) : (SRe.ex c h).out = .ex c h := rfl
@[simp] def fnZ (N : Nat) (body : AS) : AF := fun xs h => (body (xs.map some ++ List.replicate (N - xs.length) none) h).out
section
variable {C : Ct} {E : XK}
theorem start_ok {w : Wd} {N : List Str} {xs : List AV} {vs : List V} (t : Trs C w xs vs) : EnvOk C w (xs.map some ++ List.replicate (N.length - xs.length) none) (L2.start N vs) := by
  unfold L2.start
  have hl := t.len
  refine ⟨by simp [hl], fun i x h => ?_⟩
  by_cases hi : i < xs.length
  · rw [List.getElem?_append_left (by simpa using hi), List.getElem?_map] at h
    cases e : xs[i]? with
    | none => rw [e] at h; cases h
    | some y =>
      rw [e] at h
      cases h
      obtain ⟨v, hv, tv⟩ := t.get e
      exact ⟨v, by rw [List.getElem?_append_left (by simp; omega), List.getElem?_map, hv]; rfl, tv⟩
  · rw [List.getElem?_append_right (by simpa using hi), List.getElem?_replicate] at h
    split at h <;> cases h
theorem fn_body {N : List Str} {n k : Nat} {t : TS} {body : AS} {vs : List V} {H : Hp} {Q : VK} (hs : SS C E t body) (hN : N.length = k) (h : spZ C n (fnZ k body) vs H Q E) : t { nx := fun _ H' => Q .non H', rt := Q } (L2.start N vs) H := by
  obtain ⟨w, xs, rfl, ok, tr, hl, s⟩ := h
  subst hN
  refine hs w _ _ _ ok (start_ok (N := N) tr) ?_
  unfold fnZ at s
  revert s
  cases body (xs.map some ++ List.replicate (N.length - xs.length) none) w.h with
  | rt x h => exact fun s w' v e ok' le tv => s w' e ok' le v tv
  | nx env h => exact fun s w' σ e ok' le en => s w' e ok' le .non (by rw [Tr])
  | ex c h => exact fun s => s
  | bk env h => exact fun s => s.elim
  | ct env h => exact fun s => s.elim
  | no => exact fun s => s.elim
theorem se_call {n : Nat} {m : AF} {t : TA} {ma : AA} (ha : SA C E n t ma) : SE C E (tCall (spZ C n m) [] E t) (aC m ma) := fun w env σ Q ok en s =>
  ha.run ok en s fun xs w1 hl ok1 le1 s1 vs tv => by
    rw [List.append_nil]
    exact ⟨w1, xs, rfl, ok1, tv, hl, s1⟩
@[simp] def insOf (h : AH) : AV → Option (Nat × List (Nat × AV))
  | .ref k => match h[k]? with | some (.ins c fs) => some (c, fs) | _ => none
  | _ => none
@[simp] def aMeth (c : Nat) (m : AF) (o : AE) (ma : AA) : AE := fun env h => (o env h).bind fun x h => match insOf h x with
  | some (d, _) => if d = c then (ma env h).bind fun xs h => m (x :: xs) h else .no
  | none => .no
@[simp] def aMake (c : Nat) (m : AF) (ma : AA) : AE := fun env h => (ma env h).bind fun xs h => (m (.ref h.length :: xs) (h ++ [.ins c []])).bind fun y h' => match y with | .non => .ok (.ref h.length) h' | _ => .no
theorem insOf_ok {w : Wd} {x : AV} {v : V} {c : Nat} {fs : List (Nat × AV)} (ok : Ok C w) (e : insOf w.h x = some (c, fs)) (t : Tr C w x v) : ∃ k a dx fvs, x = .ref k ∧ v = .ref a ∧ w.h[k]? = some (.ins c fs) ∧ w.ρ[k]? = some a ∧ w.H a = some (.ins (C.cl c) dx fvs) ∧ Flds C w fs fvs ∧ (∀ p ∈ fs, p.1 ∈ C.fl c) := by
  cases x with
  | ref k =>
    rw [Tr] at t
    obtain ⟨a, rfl, ea⟩ := t
    have e : (match w.h[k]? with | some (.ins c fs) => some (c, fs) | _ => none) = some (c, fs) := e
    split at e
    · rename_i c' fs' eh
      cases e
      obtain ⟨hf, dx, fvs, hH, ht⟩ := ok.cell k _ a eh ea
      exact ⟨k, a, dx, fvs, rfl, rfl, eh, ea, hH, ht, hf.1⟩
    · cases e
  | _ => cases e
theorem Flds.lookup {w : Wd} {c : Nat} : ∀ {fs : List (Nat × AV)} {us : List (Str × V)} {i : Nat}, Flds C w fs us → (∀ p ∈ fs, p.1 ∈ C.fl c) → i ∈ C.fl c → match fs.lookup i with | some x => ∃ v, us.lookup (C.fn i) = some v ∧ Tr C w x v | none => us.lookup (C.fn i) = none
  | [], us, i, h, _, _ => by
    have : us = [] := h
    subst this; rfl
  | (j, y) :: r, us, i, h, hf, hi => by
    obtain ⟨v, us, rfl, t, hr⟩ := h
    have hj : j ∈ C.fl c := hf (j, y) (by simp)
    have ih := Flds.lookup (i := i) hr (fun p hp => hf p (List.mem_cons_of_mem _ hp)) hi
    by_cases e : i = j
    · subst e
      simp only [List.lookup, beq_self_eq_true]
      exact ⟨v, rfl, t⟩
    · have e1 : (i == j) = false := by simpa using e
      have e2 : (C.fn i == C.fn j) = false := by
        rw [beq_eq_false_iff_ne]
        exact fun z => e (C.inj c i j hi hj z)
      simp only [List.lookup, e1, e2]
      exact ih
theorem Flds.nolook {w : Wd} {c : Nat} {m : Str} (hm : ∀ i ∈ C.fl c, C.fn i ≠ m) : ∀ {fs : List (Nat × AV)} {us : List (Str × V)}, Flds C w fs us → (∀ p ∈ fs, p.1 ∈ C.fl c) → us.lookup m = none
  | [], us, h, _ => by
    have : us = [] := h
    subst this; rfl
  | (j, y) :: r, us, h, hf => by
    obtain ⟨v, us, rfl, t, hr⟩ := h
    have e2 : (m == C.fn j) = false := by
      rw [beq_eq_false_iff_ne]
      exact fun z => hm j (hf (j, y) (by simp)) z.symm
    simp only [List.lookup, e2]
    exact Flds.nolook hm hr (fun p hp => hf p (List.mem_cons_of_mem _ hp))
theorem se_meth {c n : Nat} {m : AF} {ta : TE} {o : AE} {t : TA} {ma : AA} {mn : Str} (hm : ∀ i ∈ C.fl c, C.fn i ≠ mn) (ho : SE C E ta o) (ha : SA C E n t ma) : SE C E (tMeth (C.cl c) mn (spZ C (n + 1) m) [] E ta t) (aMeth c m o ma) := by
  intro w env σ Q ok en s
  refine ho w env σ _ ok en (s.bind.mono fun x w1 ok1 le1 s1 v tv => ?_)
  split at s1
  · rename_i d fs e
    by_cases hd : d = c
    · rw [if_pos hd] at s1
      subst hd
      obtain ⟨k, a, dx, fvs, rfl, rfl, eh, ea, hH, hF, hf⟩ := insOf_ok ok1 e tv
      refine ⟨a, dx, fvs, rfl, hH, hF.nolook hm hf, ha.run ok1 (en.mono ok le1) s1 fun xs w2 hl ok2 le2 s2 vs tvs => ?_⟩
      rw [List.append_nil]
      exact ⟨w2, .ref k :: xs, rfl, ok2, .cons (tv.mono ok1 le2) tvs, by rw [List.length_cons, hl], s2⟩
    · rw [if_neg hd] at s1; exact s1.elim
  · exact s1.elim
theorem se_make {c n : Nat} {m : AF} {t : TA} {ma : AA} (hg : C.fl c = C.fg c) (ha : SA C E n t ma) : SE C E (tMake (C.cl c) (spZ C (n + 1) m) [] E t) (aMake c m ma) := by
  intro w env σ Q ok en s
  refine ha.run ok en s fun xs w1 hl ok1 le1 s1 vs tv x dx hx hdx hne => ?_
  rw [List.append_nil]
  have ok2 := ok1.fresh hdx (.own x)
  have le2 := ok1.le_fresh hdx (.own x)
  have hx2 : (w1.fresh dx (.own x)).H x = none := by show upd w1.H dx (.own x) x = none; rw [upd_ne (Ne.symm hne)]; exact hx
  have ok3 : Ok C ((w1.fresh dx (.own x)).cell x (.ins (C.cl c) dx []) (.ins c [])) := ok2.newCell hx2 ⟨⟨fun p hp => (by cases hp), hg⟩, dx, [], upd_same, rfl⟩
  have le3 := ok2.le_cell hx2 (.ins (C.cl c) dx []) (.ins c [])
  have le13 := le2.trans le3
  refine ⟨_, .ref w1.h.length :: xs, rfl, ok3, .cons ok2.ref_cell (tv.mono ok1 le13), by rw [List.length_cons, hl], ?_⟩
  have s2 : Sat C E ((w1.fresh dx (.own x)).cell x (.ins (C.cl c) dx []) (.ins c [])) ((m (.ref w1.h.length :: xs) (w1.h ++ [.ins c []])).bind fun y h' => match y with | .non => .ok (.ref w1.h.length) h' | _ => .no) (want C Q) := Sat.le le13 s1
  refine s2.bind.mono fun y w4 ok4 le4 s4 v tv4 => ?_
  cases y with
  | non => exact ⟨by rw [Tr] at tv4; exact tv4, s4.here ok4 _ (ok2.ref_cell.mono ok3 le4)⟩
  | _ => exact s4.elim
@[simp] def fFld (i : Nat) : AV → AH → Re AV := fun x h => match insOf h x with
  | some (_, fs) => match fs.lookup i with | some y => .ok y h | none => .no
  | none => .no
@[simp] def aFld (i : Nat) (a : AE) : AE := a1 (fFld i) a
@[simp] def putA (i : Nat) (x : AV) : List (Nat × AV) → List (Nat × AV)
  | [] => [(i, x)]
  | (j, y) :: r => if j = i then (j, x) :: r else (j, y) :: putA i x r
@[simp] def putFld (fl : Nat → List Nat) (i : Nat) (o x : AV) (h : AH) : Option AH := match o with
  | .ref k => match h[k]? with
    | some (.ins c fs) => if (fl c).contains i = true ∧ fs.length < 1000 then some (h.set k (.ins c (putA i x fs))) else none
    | _ => none
  | _ => none
@[simp] def sFldA (fl : Nat → List Nat) (i : Nat) (o v : AE) : AS := fun env h => (v env h).to fun x h => (o env h).to fun a h => match putFld fl i a x h with | some h => .nx env h | none => .no
@[simp] def clsAt (h : AH) (a : AV) : Nat := match insOf h a with | some (c, _) => c | none => 0
@[simp] def sFldAugA (fl : Nat → List Nat) (i : Nat) (f : AV → AV → AH → Re AV) (o v : AE) : AS := fun env h => (o env h).to fun a h0 => (fFld i a h0).to fun x h => (v env h).to fun y h => (f x y h).to fun z h => if clsAt h a = clsAt h0 a then (match putFld fl i a z h with | some h => .nx env h | none => .no) else .no
theorem lookup_mem {i : Nat} {y : AV} : ∀ {fs : List (Nat × AV)}, fs.lookup i = some y → ∃ p ∈ fs, p.1 = i
  | [], h => by cases h
  | (j, z) :: r, h => by
    by_cases e : i = j
    · exact ⟨(j, z), by simp, e.symm⟩
    · have e1 : (i == j) = false := by simpa using e
      simp only [List.lookup, e1] at h
      obtain ⟨p, hp, q⟩ := lookup_mem h
      exact ⟨p, List.mem_cons_of_mem _ hp, q⟩
theorem fFld_ok {w : Wd} {i : Nat} {x : AV} {v : V} {P : AV → Wd → Prop} (ok : Ok C w) (t : Tr C w x v) (s : Sat C E w (fFld i x w.h) P) : ∃ k a c dx fs fvs y q, x = .ref k ∧ v = .ref a ∧ w.h[k]? = some (.ins c fs) ∧ w.ρ[k]? = some a ∧ w.H a = some (.ins (C.cl c) dx fvs) ∧ Cls C.K (C.cl c) ∧ NoAttr C.K (C.cl c) (C.fn i) ∧ fvs.lookup (C.fn i) = some q ∧ Tr C w y q ∧ P y w := by
  unfold fFld at s
  split at s
  · rename_i c fs e
    obtain ⟨k, a, dx, fvs, rfl, rfl, eh, ea, hH, hF, hf⟩ := insOf_ok ok e t
    split at s
    · rename_i y ey
      obtain ⟨p, hp, rfl⟩ := lookup_mem ey
      have hi := hf p hp
      have := hF.lookup hf hi
      rw [ey] at this
      obtain ⟨q, e1, tq⟩ := this
      obtain ⟨h1, h2⟩ := C.fld c p.1 hi
      exact ⟨k, a, c, dx, fs, fvs, y, q, rfl, rfl, eh, ea, hH, h1, h2, e1, tq, s.here ok⟩
    · exact s.elim
  · exact s.elim
theorem se_fld {i : Nat} {f : Str} {ta : TE} {a : AE} (hf : f = C.fn i) (ha : SE C E ta a) : SE C E (tFld C.K ta f) (aFld i a) := by
  subst hf
  intro w env σ Q ok en s
  refine ha w env σ _ ok en (s.bind.mono fun x w1 ok1 le1 s1 v tv => ?_)
  obtain ⟨k, a, c, dx, fs, fvs, y, q, rfl, rfl, eh, ea, hH, h1, h2, e1, tq, p⟩ := fFld_ok ok1 tv s1
  exact ⟨a, C.cl c, dx, fvs, q, rfl, hH, h1, h2, e1, p q tq⟩
theorem Flds.put {w : Wd} {c i : Nat} {x : AV} {v : V} (t : Tr C w x v) (hi : i ∈ C.fl c) : ∀ {fs : List (Nat × AV)} {us : List (Str × V)}, Flds C w fs us → (∀ p ∈ fs, p.1 ∈ C.fl c) → Flds C w (putA i x fs) (putF (C.fn i) v us)
  | [], us, h, _ => by
    have : us = [] := h
    subst this
    exact ⟨v, [], rfl, t, rfl⟩
  | (j, y) :: r, us, h, hf => by
    obtain ⟨u, us, rfl, tu, hr⟩ := h
    have hj : j ∈ C.fl c := hf (j, y) (by simp)
    unfold putA putF
    by_cases e : j = i
    · subst e
      rw [if_pos rfl, if_pos rfl]
      exact ⟨v, us, rfl, t, hr⟩
    · rw [if_neg e, if_neg (fun z => e (C.inj c j i hj hi z))]
      exact ⟨u, _, rfl, tu, Flds.put t hi hr (fun p hp => hf p (List.mem_cons_of_mem _ hp))⟩
theorem putA_fl {c i : Nat} {x : AV} (hi : i ∈ C.fl c) : ∀ {fs : List (Nat × AV)}, (∀ p ∈ fs, p.1 ∈ C.fl c) → ∀ p ∈ putA i x fs, p.1 ∈ C.fl c
  | [], _, p, hp => by
    have : p = (i, x) := by simpa [putA] using hp
    rw [this]; exact hi
  | (j, y) :: r, hf, p, hp => by
    unfold putA at hp
    split at hp
    · next e =>
      rcases List.mem_cons.mp hp with e1 | e1
      · rw [e1]; exact hf (j, y) (by simp)
      · exact hf p (List.mem_cons_of_mem _ e1)
    · rcases List.mem_cons.mp hp with e1 | e1
      · rw [e1]; exact hf (j, y) (by simp)
      · exact putA_fl hi (fun q hq => hf q (List.mem_cons_of_mem _ hq)) p e1
theorem Flds.len {w : Wd} : ∀ {fs : List (Nat × AV)} {us : List (Str × V)}, Flds C w fs us → fs.length = us.length
  | [], us, h => by
    have : us = [] := h
    subst this; rfl
  | p :: r, us, h => by
    obtain ⟨v, us, rfl, t, hr⟩ := h
    rw [List.length_cons, List.length_cons, Flds.len hr]
theorem putFld_ok {w : Wd} {i : Nat} {o x : AV} {u v : V} {h' : AH} (ok : Ok C w) (e : putFld C.fg i o x w.h = some h') (to : Tr C w o u) (tx : Tr C w x v) :
    ∃ k a c fs dx fvs, o = .ref k ∧ w.h[k]? = some (.ins c fs) ∧ u = .ref a ∧ w.H a = some (.ins (C.cl c) dx fvs) ∧ Cls C.K (C.cl c) ∧ NoAttr C.K (C.cl c) (C.fn i) ∧ fvs.length < 1000 ∧ ∃ w', w'.h = h' ∧ w'.H = upd w.H a (.ins (C.cl c) dx (putF (C.fn i) v fvs)) ∧ Ok C w' ∧ Le w w' := by
  unfold putFld at e
  split at e
  · rename_i k
    split at e
    · rename_i c fs eh
      split at e
      · rename_i hc
        cases e
        rw [Tr] at to
        obtain ⟨a, rfl, ea⟩ := to
        obtain ⟨hf, dx, fvs, hH, hF⟩ := ok.cell k _ a eh ea
        have hi : i ∈ C.fl c := by rw [hf.2]; simpa using hc.1
        obtain ⟨h1, h2⟩ := C.fld c i hi
        have hl : Live w a := ⟨k, _, eh, (by intro z; cases z), ea⟩
        have le := ok.le_put ea hl (.ins c (putA i x fs)) (.ins (C.cl c) dx (putF (C.fn i) v fvs))
        exact ⟨k, a, c, fs, dx, fvs, rfl, eh, rfl, hH, h1, h2, by rw [← hF.len]; exact hc.2, w.put k (.ins c (putA i x fs)) a (.ins (C.cl c) dx (putF (C.fn i) v fvs)), rfl, rfl, ok.put ea hl (c := .ins c (putA i x fs)) ⟨⟨putA_fl hi hf.1, hf.2⟩, dx, _, upd_same, (hF.put tx hi hf.1).mono ok le⟩, le⟩
      · cases e
    · cases e
  · cases e
theorem ss_fld {i : Nat} {f : Str} {ta tv : TE} {o v : AE} (hf : f = C.fn i) (ho : SE C E ta o) (hv : SE C E tv v) : SS C E (sFld C.K ta tv f) (sFldA C.fg i o v) := by
  subst hf
  intro w env σ D ok en s
  refine hv w env σ _ ok en (Sat.mono (Sat.to s) fun x w1 ok1 le1 s1 u tu => ho w1 env σ _ ok1 (en.mono ok le1) (Sat.mono (Sat.to s1) fun a w2 ok2 le2 s2 u2 tu2 => ?_))
  split at s2
  · rename_i h' e
    obtain ⟨_, a, c, _, dx, fvs, _, _, e1, hH, h1, h2, hl, w', e3, e4, o', l'⟩ := putFld_ok ok2 e tu2 (tu.mono ok1 le2)
    refine ⟨a, C.cl c, dx, fvs, e1, hH, h1, h2, hl, ?_⟩
    have := s2 w' σ e3 o' l' (en.mono ok (le1.trans (le2.trans l')))
    rw [e4] at this
    exact this
  · exact s2.elim
theorem ss_fldaug {i : Nat} {f : Str} {ta tv : TE} {o v : AE} {r : R2} {g : AV → AV → AH → Re AV} (hf : f = C.fn i) (hr : S2 C E r g) (ho : SE C E ta o) (hv : SE C E tv v) : SS C E (sFldAug C.K ta tv r f) (sFldAugA C.fg i g o v) := by
  subst hf
  intro w env σ D ok en s
  refine ho w env σ _ ok en (Sat.mono (Sat.to s) fun a w1 ok1 le1 s1 u tu => ?_)
  obtain ⟨k, a', c, dx, fs, fvs, y, q, rfl, rfl, eh, ea, hH, h1, h2, e1, tq, p⟩ := fFld_ok ok1 tu (Sat.to s1)
  refine ⟨a', C.cl c, dx, fvs, q, rfl, hH, h1, h2, e1, hv w1 env σ _ ok1 (en.mono ok le1) (Sat.mono (Sat.to p) fun z w2 ok2 le2 s2 b tb => hr w2 y z q b _ ok2 (tq.mono ok1 le2) tb (Sat.mono (Sat.to s2) fun x w3 ok3 le3 s3 d td => ?_))⟩
  split at s3
  · rename_i hc
    split at s3
    · rename_i h' e
      have ec : clsAt w1.h (.ref k) = c := by simp only [clsAt, insOf, eh]
      rw [ec] at hc
      obtain ⟨k2, a2, c2, fs2, dx2, fvs2, ek, eh2, e1', hH2, g1, g2, hl, w', e3, e4, o', l'⟩ := putFld_ok ok3 e (tu.mono ok1 (le2.trans le3)) td
      cases e1'
      cases ek
      have hc2 : c2 = c := by
        rw [← hc]
        simp only [clsAt, insOf, eh2]
      subst hc2
      refine ⟨dx2, fvs2, hH2, hl, ?_⟩
      have := s3 w' σ e3 o' l' (en.mono ok (le1.trans (le2.trans (le3.trans l'))))
      rw [e4] at this
      exact this
    · exact s3.elim
  · exact s3.elim
end
end Z
set_option Elab.async false
set_option linter.all false
set_option maxRecDepth 100000
set_option maxHeartbeats 4000000
namespace Z
open PySem L2
@[simp] def fLen : List AV → AH → Re AV
  | [.str z], h => if z.length ≤ sizeLine then .ok (.int z.length) h else .no
  | [x], h => match seqOf h x with | some xs => .ok (.int xs.length) h | none => .no
  | _, _ => .no
@[simp] def fMin2 : List AV → AH → Re AV
  | [.int i, .int j], h => .ok (.int (if j < i then j else i)) h
  | _, _ => .no
@[simp] def fMax2 : List AV → AH → Re AV
  | [.int i, .int j], h => .ok (.int (if j > i then j else i)) h
  | _, _ => .no
@[simp] def fInt1 : List AV → AH → Re AV
  | [.int i], h => .ok (.int i) h
  | [.bl b], h => .ok (.int (if b then 1 else 0)) h
  | _, _ => .no
@[simp] def fStrI : List AV → AH → Re AV
  | [.int i], h => if i.natAbs.log2 < 1920 then .ok (.str (toString i)) h else .no
  | _, _ => .no
@[simp] def fList : List AV → AH → Re AV
  | [x], h => match seqOf h x with | some xs => .ok (.lst xs) h | none => .no
  | _, _ => .no
@[simp] def fListC : List AV → AH → Re AV
  | [x], h => match seqOf h x with | some xs => .ok (.ref h.length) (h ++ [.lst xs]) | none => .no
  | _, _ => .no
@[simp] def fTuple : List AV → AH → Re AV
  | [x], h => match seqOf h x with | some xs => .ok (.tup xs) h | none => .no
  | _, _ => .no
@[simp] def fAll : List AV → AH → Re AV
  | [x], h => match (lstOf h x).bind blsOf with | some bs => .ok (.bl (bs.all id)) h | none => .no
  | _, _ => .no
@[simp] def fAny : List AV → AH → Re AV
  | [x], h => match (lstOf h x).bind blsOf with | some bs => .ok (.bl (bs.any id)) h | none => .no
  | _, _ => .no
def sumOk (ns : List Int) : Bool := ns.all (fun n => decide (-(2 ^ 32) ≤ n) && decide (n ≤ 2 ^ 32)) && decide (ns.length ≤ 100000)
@[simp] def fSum : List AV → AH → Re AV
  | [x], h => match (lstOf h x).bind intsOf with | some ns => if sumOk ns = true then .ok (.int ns.sum) h else .no | none => .no
  | _, _ => .no
inductive Ty where | int | bool | str | list | tuple | dict | none
  deriving DecidableEq
def Ty.nm : Ty → String
  | .int => "int" | .bool => "bool" | .str => "str" | .list => "list" | .tuple => "tuple" | .dict => "dict" | .none => "NoneType"
@[simp] def tyA (h : AH) : AV → Option Ty
  | .non => some .none
  | .bl _ => some .bool
  | .int _ => some .int
  | .str _ => some .str
  | .tup _ => some .tuple
  | .lst _ => some .list
  | .dk _ _ => some .dict
  | .kst _ => Option.none
  | .xc _ => Option.none
  | .ref k => match h[k]? with | some (.lst _) => some .list | some (.dk _ _) => some .dict | _ => Option.none
@[simp] def isiB (a b : Ty) : Bool := decide (a = b) || (decide (a = .bool) && decide (b = .int))
@[simp] def fIsi (b : Ty) : AV → AH → Re AV := fun x h => match tyA h x with | some a => .ok (.bl (isiB a b)) h | Option.none => .no
@[simp] def fIsiT (bs : List Ty) : AV → AH → Re AV := fun x h => match tyA h x with | some a => .ok (.bl (bs.any (isiB a))) h | Option.none => .no
@[simp] def truA (h : AH) : AV → Option Bool
  | .non => some false
  | .bl b => some b
  | .int i => some (i != 0)
  | .str y => if y.length ≤ sizeLine then some ((y.length : Int) != 0) else none
  | .tup xs => some (!xs.isEmpty)
  | .lst xs => some (!xs.isEmpty)
  | .ref k => match h[k]? with | some (.lst xs) => some (!xs.isEmpty) | some (.dk ks _) => some (!ks.isEmpty) | _ => none
  | _ => none
@[simp] def aTru (a : AE) : AT := fun env h => (a env h).bind fun x h => match truA h x with | some b => .ok b h | none => .no
section
variable {C : Ct} {E : XK}
theorem one_of {w : Wd} {x : AV} {vs : List V} (t : Trs C w [x] vs) : ∃ v, vs = [v] ∧ Tr C w x v := by
  rw [Trs] at t
  obtain ⟨v, us, rfl, t1, t2⟩ := t
  rw [Trs] at t2; subst t2
  exact ⟨v, rfl, t1⟩
theorem two_of {w : Wd} {x y : AV} {vs : List V} (t : Trs C w [x, y] vs) : ∃ v u, vs = [v, u] ∧ Tr C w x v ∧ Tr C w y u := by
  rw [Trs] at t
  obtain ⟨v, us, rfl, t1, t2⟩ := t
  obtain ⟨u, rfl, t3⟩ := one_of t2
  exact ⟨v, u, rfl, t1, t3⟩
theorem len1 {xs : List AV} (h : xs.length = 1) : ∃ x, xs = [x] := by
  match xs, h with
  | [x], _ => exact ⟨x, rfl⟩
theorem len2 {xs : List AV} (h : xs.length = 2) : ∃ x y, xs = [x, y] := by
  match xs, h with
  | [x, y], _ => exact ⟨x, y, rfl⟩
theorem sc_len : SC C E 1 (rLen C.K) fLen := by
  intro w xs vs Q hl ok t s
  obtain ⟨x, rfl⟩ := len1 hl
  obtain ⟨v, rfl, tv⟩ := one_of t
  by_cases hx : ∃ z, x = .str z
  · obtain ⟨z, rfl⟩ := hx
    rw [Tr] at tv; subst tv
    have s : Sat C E w (if z.length ≤ sizeLine then .ok (.int z.length) w.h else .no) (want C Q) := s
    by_cases hz : z.length ≤ sizeLine
    · rw [if_pos hz] at s
      exact .inr ⟨z, rfl, hz, s.here ok _ (by rw [Tr])⟩
    · rw [if_neg hz] at s; exact s.elim
  · have e : fLen [x] w.h = match seqOf w.h x with | some xs => .ok (.int xs.length) w.h | none => .no := by
      cases x <;> first | rfl | exact absurd ⟨_, rfl⟩ hx
    rw [e] at s
    split at s
    · rename_i ys ey
      obtain ⟨a, us, rfl, r, t'⟩ := seqOf_ok ok ey tv
      exact .inl ⟨a, us, rfl, r, by rw [← t'.len]; exact s.here ok _ (by rw [Tr])⟩
    · exact s.elim
theorem sc_min2 : SC C E 2 rMin2 fMin2 := by
  intro w xs vs Q hl ok t s
  obtain ⟨x, y, rfl⟩ := len2 hl
  obtain ⟨v, u, rfl, tv, tu⟩ := two_of t
  cases x with
  | int i =>
    cases y with
    | int j => rw [Tr] at tv; rw [Tr] at tu; subst tv; subst tu; exact ⟨i, j, rfl, Sat.here (P := want C Q) s ok _ (by rw [Tr])⟩
    | _ => exact s.elim
  | _ => exact s.elim
theorem sc_int1 : SC C E 1 rInt1 fInt1 := by
  intro w xs vs Q hl ok t s
  obtain ⟨x, rfl⟩ := len1 hl
  obtain ⟨v, rfl, tv⟩ := one_of t
  cases x with
  | int i => rw [Tr] at tv; subst tv; exact .inl ⟨i, rfl, Sat.here (P := want C Q) s ok _ (by rw [Tr])⟩
  | bl b => rw [Tr] at tv; subst tv; exact .inr ⟨b, rfl, Sat.here (P := want C Q) s ok _ (by rw [Tr])⟩
  | _ => exact s.elim
theorem sc_strI : SC C E 1 rStrI fStrI := by
  intro w xs vs Q hl ok t s
  obtain ⟨x, rfl⟩ := len1 hl
  obtain ⟨v, rfl, tv⟩ := one_of t
  cases x with
  | int i =>
    rw [Tr] at tv; subst tv
    have s : Sat C E w (if i.natAbs.log2 < 1920 then .ok (.str (toString i)) w.h else .no) (want C Q) := s
    by_cases hz : i.natAbs.log2 < 1920
    · rw [if_pos hz] at s; exact ⟨i, rfl, hz, s.here ok _ (by rw [Tr])⟩
    · rw [if_neg hz] at s; exact s.elim
  | _ => exact s.elim
theorem sc_list : SC C E 1 (rListOf C.K) fList := by
  intro w xs vs Q hl ok t s
  obtain ⟨x, rfl⟩ := len1 hl
  obtain ⟨v, rfl, tv⟩ := one_of t
  have s : Sat C E w (match seqOf w.h x with | some xs => .ok (.lst xs) w.h | none => .no) (want C Q) := s
  split at s
  · rename_i ys ey
    obtain ⟨a, us, rfl, r, t'⟩ := seqOf_ok ok ey tv
    exact ⟨a, us, rfl, r, fun p hp => s (w.frozen p _) rfl (ok.frozen hp _) (ok.le_frozen hp _) _ (ok.newLst hp t')⟩
  · exact s.elim
theorem sc_tuple : SC C E 1 (rTupleOf C.K) fTuple := by
  intro w xs vs Q hl ok t s
  obtain ⟨x, rfl⟩ := len1 hl
  obtain ⟨v, rfl, tv⟩ := one_of t
  have s : Sat C E w (match seqOf w.h x with | some xs => .ok (.tup xs) w.h | none => .no) (want C Q) := s
  split at s
  · rename_i ys ey
    obtain ⟨a, us, rfl, r, t'⟩ := seqOf_ok ok ey tv
    rcases r with r | r
    · exact ⟨a, us, rfl, .inl ⟨r, fun p hp => s (w.fresh p _) rfl (ok.fresh hp _) (ok.le_fresh hp _) _ (ok.newTup hp t')⟩⟩
    · exact ⟨a, us, rfl, .inr ⟨r, s.here ok _ (by rw [Tr]; exact ⟨a, us, rfl, r, t'⟩)⟩⟩
  · exact s.elim
theorem sc_all : SC C E 1 (rAll C.K) fAll := by
  intro w xs vs Q hl ok t s
  obtain ⟨x, rfl⟩ := len1 hl
  obtain ⟨v, rfl, tv⟩ := one_of t
  have s : Sat C E w (match (lstOf w.h x).bind blsOf with | some bs => .ok (.bl (bs.all id)) w.h | none => .no) (want C Q) := s
  split at s
  · rename_i bs eb
    obtain ⟨ys, ey, eb⟩ := Option.bind_eq_some_iff.mp eb
    obtain ⟨a, us, rfl, r, t'⟩ := lstOf_ok ok ey tv
    have := blsOf_ok eb t'
    subst this
    exact ⟨a, bs, rfl, .inl r, s.here ok _ (by rw [Tr])⟩
  · exact s.elim
theorem sc_sum : SC C E 1 (rSum C.K) fSum := by
  intro w xs vs Q hl ok t s
  obtain ⟨x, rfl⟩ := len1 hl
  obtain ⟨v, rfl, tv⟩ := one_of t
  have s : Sat C E w (match (lstOf w.h x).bind intsOf with | some ns => if sumOk ns = true then .ok (.int ns.sum) w.h else .no | none => .no) (want C Q) := s
  split at s
  · rename_i bs eb
    obtain ⟨ys, ey, eb⟩ := Option.bind_eq_some_iff.mp eb
    obtain ⟨a, us, rfl, r, t'⟩ := lstOf_ok ok ey tv
    have := intsOf_ok eb t'
    subst this
    by_cases ho : sumOk bs = true
    · rw [if_pos ho] at s
      unfold sumOk at ho
      rw [Bool.and_eq_true, List.all_eq_true] at ho
      refine ⟨a, bs, rfl, .inl r, fun n hn => ?_, of_decide_eq_true ho.2, s.here ok _ (by rw [Tr])⟩
      have := ho.1 n hn
      rw [Bool.and_eq_true] at this
      exact ⟨of_decide_eq_true this.1, of_decide_eq_true this.2⟩
    · rw [if_neg ho] at s; exact s.elim
  · exact s.elim
theorem kit_ty {K : PySem.W.Frag} (a b : Ty) (hb : b ≠ .none) : PySem.W.kitOne K (.type a.nm) (.type b.nm) = some (isiB a b) := by
  cases a <;> cases b <;> first | rfl | exact absurd rfl hb
theorem tyA_ok {w : Wd} {x : AV} {v : V} {a : Ty} (ok : Ok C w) (e : tyA w.h x = some a) (t : Tr C w x v) : TyZ C.K w.H v (.type a.nm) := by
  cases x with
  | non => cases e; rw [Tr] at t; subst t; exact .of .non
  | bl b => cases e; rw [Tr] at t; subst t; exact .of (.bl b)
  | int i => cases e; rw [Tr] at t; subst t; exact .of (.int i)
  | str x => cases e; rw [Tr] at t; subst t; exact .of (.str x)
  | tup xs => cases e; rw [Tr] at t; obtain ⟨a, vs, rfl, h, _⟩ := t; exact .tup h
  | lst xs => cases e; rw [Tr] at t; obtain ⟨a, vs, rfl, _, h, _⟩ := t; exact .lst h
  | dk ks xs => cases e; rw [Tr] at t; obtain ⟨a, vs, rfl, _, h, _⟩ := t; exact .dK h
  | ref k =>
    rw [Tr] at t
    obtain ⟨ad, rfl, ea⟩ := t
    simp only [tyA] at e
    split at e
    · rename_i xs eh
      cases e
      obtain ⟨vs, hH, _⟩ := ok.cell k _ ad eh ea
      exact .lst (.inl hH)
    · rename_i ks xs eh
      cases e
      obtain ⟨vs, hH, _⟩ := ok.cell k _ ad eh ea
      exact .dK (.inl hH)
    · cases e
  | kst xs => cases e
  | xc c => cases e
theorem se_isi {ta : TE} {ma : AE} (b : Ty) {n : String} (hn : n = b.nm) (hb : b ≠ .none) (ha : SE C E ta ma) : SE C E (tCB (rIsi C.K) (tCons ta (tCons (tC (.ty n)) tNil))) (a1 (fIsi b) ma) := by
  subst hn
  intro w env σ Q ok en s
  refine ha w env σ _ ok en (s.bind.mono fun x w1 ok1 le1 s1 v tv => ?_)
  unfold fIsi at s1
  split at s1
  · rename_i a e
    exact ⟨v, b.nm, _, _, rfl, tyA_ok ok1 e tv, kit_ty a b hb, s1.here ok1 _ (by rw [Tr])⟩
  · exact s1.elim
theorem kit_tys {K : PySem.W.Frag} (a : Ty) : ∀ (bs : List Ty), (∀ b ∈ bs, b ≠ .none) → PySem.W.kitAny K (.type a.nm) ((bs.map Ty.nm).map Value.type) = some (bs.any (isiB a))
  | [], _ => rfl
  | b :: bs, h => by
    rw [List.map_cons, List.map_cons, PySem.W.kitAny, kit_ty a b (h b (by simp)), List.any_cons]
    cases isiB a b with
    | true => rfl
    | false => exact kit_tys a bs fun c hc => h c (List.mem_cons_of_mem _ hc)
theorem se_isiLT {ta : TE} {ma : AE} (ha : SE C E ta ma) : SE C E (tCB (rIsiT C.K) (tCons ta (tCons (tTup (tCons (tC (.ty "list")) (tCons (tC (.ty "tuple")) tNil))) tNil))) (a1 (fIsiT [.list, .tuple]) ma) := by
  intro w env σ Q ok en s
  refine ha w env σ _ ok en (s.bind.mono fun x w1 ok1 le1 s1 v tv => ?_)
  unfold fIsiT at s1
  split at s1
  · rename_i a e
    refine ⟨by show 2 ≤ sizeLine; decide, fun p hp => ?_⟩
    have ok2 := ok1.fresh hp (.tup [.ty "list", .ty "tuple"])
    have le2 := ok1.le_fresh hp (.tup [.ty "list", .ty "tuple"])
    exact ⟨v, p, ["list", "tuple"], _, _, rfl, upd_same, tyA_ok ok2 (show tyA (w1.fresh p _).h x = some a from e) (tv.mono ok1 le2), kit_tys a [.list, .tuple] (by intro b hb; simp at hb; rcases hb with rfl | rfl <;> intro z <;> cases z), s1 (w1.fresh p _) rfl ok2 le2 _ (by rw [Tr])⟩
  · exact s1.elim
@[simp] def aMtL (f : AV → List AV → AH → Re AV) (o : AE) (ma : AA) : AE := fun env h => (o env h).bind fun x h => match lstOf h x with | some _ => (ma env h).bind fun xs h => f x xs h | none => .no
@[simp] def aMtS (f : AV → List AV → AH → Re AV) (o : AE) (ma : AA) : AE := fun env h => (o env h).bind fun x h => match x with | .str _ => (ma env h).bind fun xs h => f x xs h | _ => .no
@[simp] def fAppend : AV → List AV → AH → Re AV
  | .ref k, [y], h => match h[k]? with
    | some (.lst xs) => if xs.length < sizeLine then .ok .non (h.set k (.lst (xs ++ [y]))) else .no
    | _ => .no
  | _, _, _ => .no
@[simp] def fExtend : AV → List AV → AH → Re AV
  | .ref k, [y], h => match h[k]?, lstOf h y with
    | some (.lst xs), some ys => if xs.length + ys.length ≤ sizeLine then .ok .non (h.set k (.lst (xs ++ ys))) else .no
    | _, _ => .no
  | _, _, _ => .no
@[simp] def fClear : AV → List AV → AH → Re AV
  | .ref k, [], h => match h[k]? with
    | some (.lst _) => .ok .non (h.set k (.lst []))
    | _ => .no
  | _, _, _ => .no
theorem se_bmL {n : Nat} {r : V → List V → Hp → VK → Prop} {f : AV → List AV → AH → Re AV} {to : TE} {o : AE} {t : TA} {ma : AA} (hr : SMt C E n r f) (ho : SE C E to o) (ha : SA C E n t ma) : SE C E (tBM C.K "list" r to t) (aMtL f o ma) := by
  intro w env σ Q ok en s
  refine ho w env σ _ ok en (s.bind.mono fun x w1 ok1 le1 s1 v tv => ?_)
  split at s1
  · rename_i xs e
    obtain ⟨a, vs, rfl, r1, t1⟩ := lstOf_ok ok1 e tv
    refine ⟨.inl ⟨rfl, vs, .inl r1⟩, ha.run ok1 (en.mono ok le1) s1 fun ys w2 hl ok2 le2 s2 us tus => hr w2 x _ ys us Q hl ok2 (tv.mono ok1 le2) tus s2⟩
  · exact s1.elim
theorem cellL {w : Wd} {k : Nat} {xs : List AV} {v : V} (ok : Ok C w) (e : w.h[k]? = some (.lst xs)) (t : Tr C w (.ref k) v) : ∃ a vs, v = .ref a ∧ w.ρ[k]? = some a ∧ w.H a = some (.lst vs) ∧ Trs C w xs vs := by
  rw [Tr] at t
  obtain ⟨a, rfl, ea⟩ := t
  obtain ⟨vs, hH, ht⟩ := ok.cell k _ a e ea
  exact ⟨a, vs, rfl, ea, hH, ht⟩
theorem sm_append : SMt C E 1 rAppend fAppend := by
  intro w x u xs vs Q hl ok tx t s
  obtain ⟨y, rfl⟩ := len1 hl
  obtain ⟨v, rfl, tv⟩ := one_of t
  cases x with
  | ref k =>
    have s : Sat C E w (match w.h[k]? with | some (.lst xs) => if xs.length < sizeLine then .ok .non (w.h.set k (.lst (xs ++ [y]))) else .no | _ => .no) (want C Q) := s
    split at s
    · rename_i zs e
      obtain ⟨a, us, rfl, ea, hH, ht⟩ := cellL ok e tx
      split at s
      · rename_i hz
        obtain ⟨o1, l1⟩ := ok.putLst e ea (ht.app (.one tv))
        exact ⟨a, us, v, rfl, rfl, hH, by rw [← ht.len]; exact hz, s _ rfl o1 l1 _ (by rw [Tr])⟩
      · exact s.elim
    · exact s.elim
  | _ => exact s.elim
@[simp] def eqF : AV → AV → Bool
  | .non, .non => true
  | .bl a, .bl b => a == b
  | .bl a, .int b => (if a then 1 else 0) == b
  | .int a, .bl b => a == (if b then 1 else 0)
  | .int a, .int b => a == b
  | .str a, .str b => a == b
  | _, _ => false
@[simp] def flatA : AV → Bool
  | .non => true
  | .bl _ => true
  | .int _ => true
  | .str _ => true
  | _ => false
def inA (x : AV) (xs : List AV) : Bool := xs.any fun y => eqF y x
@[simp] def fIn (neg : Bool) : AV → AV → AH → Re AV := fun x y h => match seqOf h y with
  | some ys => if (flatA x && ys.all flatA) = true then .ok (.bl (if neg then !inA x ys else inA x ys)) h else .no
  | none => .no
theorem flatA_ok {w : Wd} {x : AV} {v : V} (t : Tr C w x v) (h : flatA x = true) : flatV v = true := by
  cases x with
  | non => rw [Tr] at t; subst t; rfl
  | bl b => rw [Tr] at t; subst t; rfl
  | int i => rw [Tr] at t; subst t; rfl
  | str x => rw [Tr] at t; subst t; rfl
  | _ => cases h
theorem eqF_ok {w : Wd} {x y : AV} {u v : V} (tx : Tr C w x u) (ty : Tr C w y v) (hx : flatA x = true) (hy : flatA y = true) : eqV u v = eqF x y := by
  cases x <;> simp only [flatA, Bool.false_eq_true] at hx <;> cases y <;> simp only [flatA, Bool.false_eq_true] at hy
  all_goals (rw [Tr] at tx; rw [Tr] at ty; subst tx; subst ty; rfl)
theorem inA_ok {w : Wd} {x : AV} {u : V} (tx : Tr C w x u) (hx : flatA x = true) : ∀ {ys : List AV} {vs : List V}, Trs C w ys vs → ys.all flatA = true → inV u vs = inA x ys ∧ vs.all flatV = true
  | [], vs, t, _ => by rw [Trs] at t; subst t; exact ⟨rfl, rfl⟩
  | y :: ys, vs, t, h => by
    rw [Trs] at t
    obtain ⟨v, us, rfl, t1, t2⟩ := t
    rw [List.all_cons, Bool.and_eq_true] at h
    obtain ⟨h1, h2⟩ := inA_ok tx hx t2 h.2
    refine ⟨?_, by rw [List.all_cons, flatA_ok t1 h.1, h2]; rfl⟩
    have h1' : us.any (fun y => eqV y u) = ys.any (fun y => eqF y x) := h1
    show (v :: us).any (fun y => eqV y u) = (y :: ys).any (fun y => eqF y x)
    rw [List.any_cons, List.any_cons, eqF_ok t1 tx h.1 hx, h1']
theorem s2_in {neg : Bool} : S2 C E (rIn C.K neg) (fIn neg) := by
  intro w x y u v Q ok tx ty s
  unfold fIn at s
  split at s
  · rename_i ys e
    obtain ⟨a, vs, rfl, r, t⟩ := seqOf_ok ok e ty
    split at s
    · rename_i hf
      rw [Bool.and_eq_true] at hf
      obtain ⟨h1, h2⟩ := inA_ok tx hf.1 t hf.2
      exact ⟨a, vs, rfl, r, flatA_ok tx hf.1, h2, by rw [h1]; exact s.here ok _ (by rw [Tr])⟩
    · exact s.elim
  · exact s.elim
@[simp] def fInS : AV → AV → AH → Re AV
  | .str a, .str z, h => match a.cps.toList with | [c] => .ok (.bl (decide (c ∈ z.cps.toList))) h | _ => .no
  | _, _, _ => .no
theorem s2_inS : S2 C E (fun x y H Q => ∃ c z, x = V.str ⟨#[c]⟩ ∧ y = .str z ∧ Q (.bl (decide (c ∈ z.cps.toList))) H) fInS := by
  intro w x y u v Q ok tx ty s
  unfold fInS at s
  split at s
  · rename_i h a z
    rw [Tr] at tx; rw [Tr] at ty
    split at s
    · rename_i c e
      have ea : a = ⟨#[c]⟩ := by
        cases a with
        | mk cps =>
          have : cps.toList = [c] := e
          have e2 : cps = #[c] := by rw [← Array.toArray_toList (xs := cps), this]
          rw [e2]
      exact ⟨c, z, by rw [tx, ea], ty, s.here ok _ (by rw [Tr])⟩
    · exact s.elim
  · exact s.elim
def cutA (xs : List AV) (lo hi : Option Int) : List AV := (xs.drop (HT.sIx xs.length 0 lo)).take (HT.sIx xs.length xs.length hi - HT.sIx xs.length 0 lo)
abbrev AO := AEnv → AH → Re (Option Int)
@[simp] def oNone : AO := fun _ h => .ok none h
@[simp] def oSome (a : AE) : AO := fun env h => (a env h).bind fun x h => match x with | .int i => .ok (some i) h | _ => .no
@[simp] def aSl (f : AV → Option Int → Option Int → AH → Re AV) (a : AE) (lo hi : AO) : AE := fun env h => (a env h).bind fun x h => (lo env h).bind fun l h => (hi env h).bind fun u h => f x l u h
@[simp] def fSlL : AV → Option Int → Option Int → AH → Re AV := fun x lo hi h => match lsqOf h x with | some xs => .ok (.lst (cutA xs lo hi)) h | none => .no
@[simp] def fSlLC : AV → Option Int → Option Int → AH → Re AV := fun x lo hi h => match lsqOf h x with | some xs => .ok (.ref h.length) (h ++ [.lst (cutA xs lo hi)]) | none => .no
def SO (C : Ct) (E : XK) (t : TO) (m : AO) : Prop := ∀ (w : Wd) (env : AEnv) (σ : St) (Q : Option Int → Hp → Prop), Ok C w → EnvOk C w env σ → Sat C E w (m env w.h) (fun o w' => Q o w'.H) → t σ w.H Q
def S3 (C : Ct) (E : XK) (r : V → Option Int → Option Int → Hp → VK → Prop) (f : AV → Option Int → Option Int → AH → Re AV) : Prop := ∀ (w : Wd) (x : AV) (u : V) (lo hi : Option Int) (Q : VK), Ok C w → Tr C w x u → Sat C E w (f x lo hi w.h) (want C Q) → r u lo hi w.H Q
theorem so_none : SO C E tNoPart oNone := fun w env σ Q ok en s => s.here ok
theorem so_some {t : TE} {a : AE} (h : SE C E t a) : SO C E (tPart t) (oSome a) := fun w env σ Q ok en s =>
  h w env σ _ ok en (s.bind.mono fun x w1 ok1 le1 s1 v tv => by
    cases x with
    | int i => rw [Tr] at tv; exact ⟨i, tv, s1.here ok1⟩
    | _ => exact s1.elim)
theorem se_sl {r : V → Option Int → Option Int → Hp → VK → Prop} {f : AV → Option Int → Option Int → AH → Re AV} {te : TE} {a : AE} {tl th : TO} {lo hi : AO} (hr : S3 C E r f) (ha : SE C E te a) (hl : SO C E tl lo) (hh : SO C E th hi) : SE C E (tSl r te tl th) (aSl f a lo hi) := fun w env σ Q ok en s =>
  ha w env σ _ ok en (s.bind.mono fun x w1 ok1 le1 s1 v tv => hl w1 env σ _ ok1 (en.mono ok le1) (s1.bind.mono fun l w2 ok2 le2 s2 => hh w2 env σ _ ok2 (en.mono ok (le1.trans le2)) (s2.bind.mono fun u w3 ok3 le3 s3 => hr w3 x v l u Q ok3 (tv.mono ok1 (le2.trans le3)) s3)))
theorem Trs.cut {w : Wd} {xs : List AV} {vs : List V} (t : Trs C w xs vs) (lo hi : Option Int) : Trs C w (cutA xs lo hi) (cutV vs lo hi) := by
  unfold cutA cutV
  rw [t.len]
  exact (t.drop _).take _
theorem s3_list : S3 C E (rSlL C.K) fSlL := by
  intro w x u lo hi Q ok tx s
  unfold fSlL at s
  split at s
  · rename_i xs e
    obtain ⟨a, vs, rfl, r, t⟩ := lsqOf_ok ok e tx
    exact ⟨a, vs, rfl, r, fun p hp => s (w.frozen p _) rfl (ok.frozen hp _) (ok.le_frozen hp _) _ (ok.newLst hp (t.cut lo hi))⟩
  · exact s.elim
@[simp] def frz1 (x : AV) (h : AH) : AV × AH := match x with
  | .ref k => match h[k]? with
    | some (.lst xs) => (.lst xs, h.set k .dead)
    | some (.dk ks xs) => (.dk ks xs, h.set k .dead)
    | _ => (x, h)
  | _ => (x, h)
@[simp] def aFrz (a : AE) : AE := fun env h => (a env h).bind fun x h => .ok (frz1 x h).1 (frz1 x h).2
@[simp] def sFrz (i : Nat) (m : AS) : AS := fun env h => match env[i]? with
  | some (some x) => m (env.set i (some (frz1 x h).1)) (frz1 x h).2
  | _ => .no
end
end Z
set_option Elab.async false
set_option linter.all false
set_option maxRecDepth 100000
set_option maxHeartbeats 4000000
namespace Z
open PySem L2
@[simp] def keyOf : AV → Option Key
  | .int i => some (.inl i)
  | .str x => some (.inr x)
  | _ => none
@[simp] def dkOf (h : AH) : AV → Option (List Key × List AV)
  | .dk ks xs => some (ks, xs)
  | .ref k => match h[k]? with | some (.dk ks xs) => some (ks, xs) | _ => none
  | _ => none
def dval : List Key → List AV → Key → Option AV
  | k :: ks, x :: xs, j => if k = j then some x else dval ks xs j
  | _, _, _ => none
def dputV (j : Key) (y : AV) : List Key → List AV → List AV
  | k :: ks, x :: xs => (if k = j then y else x) :: dputV j y ks xs
  | _, _ => []
def dput (ks : List Key) (xs : List AV) (j : Key) (y : AV) : List Key × List AV :=
  if (ks.any fun k => decide (k = j)) = true then (ks, dputV j y ks xs) else (ks ++ [j], xs ++ [y])
@[simp] def fDGet : AV → AV → AH → Re AV := fun d y h => match dkOf h d, keyOf y with
  | some (ks, xs), some j => match dval ks xs j with | some x => .ok x h | none => .no
  | _, _ => .no
@[simp] def fDIn : AV → AV → AH → Re AV := fun y d h => match dkOf h d, keyOf y with
  | some (ks, xs), some j => .ok (.bl (dval ks xs j).isSome) h
  | _, _ => .no
@[simp] def fDNotIn : AV → AV → AH → Re AV := fun y d h => match dkOf h d, keyOf y with
  | some (ks, xs), some j => .ok (.bl (!(dval ks xs j).isSome)) h
  | _, _ => .no
@[simp] def aDGet1 (d y : AE) : AE := fun env h => (d env h).bind fun a h => match dkOf h a with
  | some _ => (y env h).bind fun b h => match dkOf h a, keyOf b with
    | some (ks, xs), some j => .ok ((dval ks xs j).getD .non) h
    | _, _ => .no
  | none => .no
@[simp] def aDGet2 (d y z : AE) : AE := fun env h => (d env h).bind fun a h => match dkOf h a with
  | some _ => (y env h).bind fun b h => (z env h).bind fun c h => match dkOf h a, keyOf b with
    | some (ks, xs), some j => .ok ((dval ks xs j).getD c) h
    | _, _ => .no
  | none => .no
@[simp] def putD (d y x : AV) (h : AH) : Option AH := match d, keyOf y with
  | .ref k, some j => match h[k]? with
    | some (.dk ks xs) => if ks.length < sizeLine then some (h.set k (.dk (dput ks xs j x).1 (dput ks xs j x).2)) else none
    | _ => none
  | _, _ => none
@[simp] def sDPutA (d y v : AE) : AS := fun env h => (v env h).to fun x h => (d env h).to fun a h => (y env h).to fun b h => match putD a b x h with | some h => .nx env h | none => .no
@[simp] def aDNew : AE := fun _ h => .ok (.dk [] []) h
@[simp] def aDNewC : AE := fun _ h => .ok (.ref h.length) (h ++ [.dk [] []])
section
variable {C : Ct} {E : XK}
theorem keyOf_ok {w : Wd} {y : AV} {v : V} {j : Key} (e : keyOf y = some j) (t : Tr C w y v) : v = kV j := by
  cases y with
  | int i => cases e; rw [Tr] at t; exact t
  | str x => cases e; rw [Tr] at t; exact t
  | _ => cases e
theorem dkOf_ok {w : Wd} {x : AV} {v : V} {ks : List Key} {xs : List AV} (ok : Ok C w) (e : dkOf w.h x = some (ks, xs)) (t : Tr C w x v) : ∃ a kvs, v = .ref a ∧ Rd w.H a (.dK kvs) ∧ kvs.map (·.1) = ks ∧ Trs C w xs (kvs.map (·.2)) := by
  cases x with
  | dk ls ys =>
    cases e
    rw [Tr] at t
    obtain ⟨a, kvs, e, f, r, hk, ht⟩ := t
    exact ⟨a, kvs, e, r, hk, ht⟩
  | ref k =>
    rw [Tr] at t
    obtain ⟨a, rfl, ea⟩ := t
    have e : (match w.h[k]? with | some (.dk ks xs) => some (ks, xs) | _ => none) = some (ks, xs) := e
    split at e
    · rename_i ls ys eh
      cases e
      obtain ⟨kvs, hH, hk, ht⟩ := ok.cell k _ a eh ea
      exact ⟨a, kvs, rfl, .inl hH, hk, ht⟩
    · cases e
  | _ => cases e
theorem dval_ok {w : Wd} {j : Key} : ∀ {kvs : List (Key × V)} {xs : List AV}, Trs C w xs (kvs.map (·.2)) → match dval (kvs.map (·.1)) xs j with | some x => ∃ v, valV kvs j = some v ∧ Tr C w x v | none => valV kvs j = none
  | [], xs, t => by
    cases xs with
    | nil => rfl
    | cons x xs => have := t.len; simp at this
  | p :: r, xs, t => by
    cases xs with
    | nil => have := t.len; simp at this
    | cons x xs =>
      rw [List.map_cons, Trs] at t
      obtain ⟨v, us, e, t1, t2⟩ := t
      cases e
      rw [List.map_cons, dval]
      by_cases h : p.1 = j
      · rw [if_pos h]
        exact ⟨p.2, valV_pos h, t1⟩
      · rw [if_neg h, valV_neg h]
        exact dval_ok t2
theorem putK_fst {kvs : List (Key × V)} {xs : List AV} {j : Key} {y : AV} {v : V} : (putK kvs j v).map (·.1) = (dput (kvs.map (·.1)) xs j y).1 := by
  unfold putK dput
  have e : (kvs.any fun kv => decide (kv.1 = j)) = ((kvs.map (·.1)).any fun k => decide (k = j)) := by rw [List.any_map]; rfl
  rw [e]
  split
  · rw [List.map_map]
    apply List.map_congr_left
    intro p _
    show (if p.1 = j then (p.1, v) else p).1 = p.1
    split <;> rfl
  · rw [List.map_append]; rfl
theorem putK_snd {w : Wd} {j : Key} {y : AV} {v : V} (ty : Tr C w y v) {kvs : List (Key × V)} {xs : List AV} (t : Trs C w xs (kvs.map (·.2))) : Trs C w (dput (kvs.map (·.1)) xs j y).2 ((putK kvs j v).map (·.2)) := by
  unfold putK dput
  have e : (kvs.any fun kv => decide (kv.1 = j)) = ((kvs.map (·.1)).any fun k => decide (k = j)) := by rw [List.any_map]; rfl
  rw [e]
  split
  · rename_i hh
    clear e hh
    induction kvs generalizing xs with
    | nil => exact .nil
    | cons p r ih =>
      cases xs with
      | nil => have := t.len; simp at this
      | cons x xs =>
        rw [List.map_cons, Trs] at t
        obtain ⟨u, us, e, t1, t2⟩ := t
        cases e
        rw [List.map_cons, List.map_cons, List.map_cons]
        refine .cons ?_ (ih t2)
        show Tr C w (if p.1 = j then y else x) (if p.1 = j then (p.1, v) else p).2
        by_cases h : p.1 = j
        · rw [if_pos h, if_pos h]; exact ty
        · rw [if_neg h, if_neg h]; exact t1
  · rw [List.map_append]
    exact t.app (.one ty)
theorem dget_o {w : Wd} {j : Key} {kvs : List (Key × V)} {xs : List AV} (t : Trs C w xs (kvs.map (·.2))) : (valV kvs j).isSome = (dval (kvs.map (·.1)) xs j).isSome := by
  have hv := dval_ok (j := j) t
  split at hv
  · rename_i q eq
    obtain ⟨p, hp, tp⟩ := hv
    rw [hp, eq]; rfl
  · rename_i eq
    rw [hv, eq]; rfl
theorem se_din {td ty : TE} {d y : AE} (hy : SE C E ty y) (hd : SE C E td d) : SE C E (tDIn ty td) (a2 fDIn y d) := fun w env σ Q ok en s =>
  hy w env σ _ ok en (s.bind.mono fun x w1 ok1 le1 s1 v tv => hd w1 env σ _ ok1 (en.mono ok le1) (s1.bind.mono fun z w2 ok2 le2 s2 u tu => by
    unfold fDIn at s2
    split at s2
    · rename_i ks xs j e1 e2
      obtain ⟨a, kvs, rfl, r, rfl, t⟩ := dkOf_ok ok2 e1 tu
      have hj := keyOf_ok e2 (tv.mono ok1 le2)
      subst hj
      exact ⟨a, _, rfl, .inl ⟨kvs, j, r, rfl, rfl⟩, by rw [dget_o t]; exact s2.here ok2 _ (by rw [Tr])⟩
    · exact s2.elim))
theorem dval_getD {w : Wd} {j : Key} {kvs : List (Key × V)} {xs : List AV} {z : AV} {q : V} (t : Trs C w xs (kvs.map (·.2))) (tz : Tr C w z q) : Tr C w ((dval (kvs.map (·.1)) xs j).getD z) ((valV kvs j).getD q) := by
  have hv := dval_ok (j := j) t
  split at hv
  · rename_i p eq
    obtain ⟨v, hp, tp⟩ := hv
    rw [hp, eq]; exact tp
  · rename_i eq
    rw [hv, eq]; exact tz
theorem se_dget1 {td ty : TE} {d y : AE} (hd : SE C E td d) (hy : SE C E ty y) : SE C E (tDGet1 td ty) (aDGet1 d y) := fun w env σ Q ok en s =>
  hd w env σ _ ok en (s.bind.mono fun x w1 ok1 le1 s1 v tv => by
    split at s1
    · rename_i kx e0
      obtain ⟨ks0, xs0⟩ := kx
      obtain ⟨a, kvs0, rfl, r0, _, _⟩ := dkOf_ok ok1 e0 tv
      refine ⟨a, rfl, .inl ⟨kvs0, r0⟩, hy w1 env σ _ ok1 (en.mono ok le1) (s1.bind.mono fun z w2 ok2 le2 s2 u tu => ?_)⟩
      split at s2
      · rename_i ks xs j e1 e2
        obtain ⟨a', kvs, ea, r, rfl, t⟩ := dkOf_ok ok2 e1 (tv.mono ok1 le2)
        cases ea
        have hj := keyOf_ok e2 tu
        subst hj
        exact ⟨_, .inl ⟨kvs, j, r, rfl, rfl⟩, s2.here ok2 _ (dval_getD t (by rw [Tr]))⟩
      · exact s2.elim
    · exact s1.elim)
theorem Ok.putDk {w : Wd} (ok : Ok C w) {k : Nat} {a : Addr} {ks ks' : List Key} {xs xs' : List AV} {kvs' : List (Key × V)} (e : w.h[k]? = some (.dk ks xs)) (ea : w.ρ[k]? = some a) (hk : kvs'.map (·.1) = ks') (t : Trs C w xs' (kvs'.map (·.2))) :
    Ok C (w.put k (.dk ks' xs') a (.dK kvs')) ∧ Le w (w.put k (.dk ks' xs') a (.dK kvs')) := by
  have hl : Live w a := ⟨k, _, e, (by intro z; cases z), ea⟩
  have le := ok.le_put ea hl (.dk ks' xs') (.dK kvs')
  exact ⟨ok.put ea hl ⟨kvs', upd_same, hk, t.mono ok le⟩, le⟩
theorem putD_ok {w : Wd} {d y x : AV} {u v q : V} {h' : AH} (ok : Ok C w) (e : putD d y x w.h = some h') (td : Tr C w d u) (ty : Tr C w y v) (tx : Tr C w x q) :
    ∃ a H', u = .ref a ∧ DPut w.H a v q H' ∧ ∃ w', w'.h = h' ∧ w'.H = H' ∧ Ok C w' ∧ Le w w' := by
  unfold putD at e
  split at e
  · rename_i k j ek
    have hj := keyOf_ok ek ty
    subst hj
    rw [Tr] at td
    obtain ⟨a, rfl, ea⟩ := td
    split at e
    · rename_i ks xs eh
      split at e
      · rename_i hl
        cases e
        obtain ⟨kvs, hH, rfl, ht⟩ := ok.cell k _ a eh ea
        rw [List.length_map] at hl
        obtain ⟨o1, l1⟩ := ok.putDk eh ea (putK_fst (kvs := kvs) (xs := xs) (j := j) (y := x) (v := q)) (putK_snd tx ht)
        exact ⟨a, _, rfl, .inl ⟨kvs, j, hH, rfl, hl, rfl⟩, _, rfl, rfl, o1, l1⟩
      · cases e
    · cases e
  · cases e
theorem ss_dput {td ty tv : TE} {d y v : AE} (hd : SE C E td d) (hy : SE C E ty y) (hv : SE C E tv v) : SS C E (sDPut td ty tv) (sDPutA d y v) := fun w env σ D ok en s =>
  hv w env σ _ ok en (Sat.mono (Sat.to s) fun x w1 ok1 le1 s1 q tq => hd w1 env σ _ ok1 (en.mono ok le1) (Sat.mono (Sat.to s1) fun a w2 ok2 le2 s2 u tu => hy w2 env σ _ ok2 (en.mono ok (le1.trans le2)) (Sat.mono (Sat.to s2) fun b w3 ok3 le3 s3 p tp => by
    split at s3
    · rename_i h' e
      obtain ⟨a', H', e1, hp, w', e3, e4, o', l'⟩ := putD_ok ok3 e (tu.mono ok2 le3) tp (tq.mono ok1 (le2.trans le3))
      refine ⟨a', H', e1, hp, ?_⟩
      have := s3 w' σ e3 o' l' (en.mono ok (le1.trans (le2.trans (le3.trans l'))))
      rw [e4] at this
      exact this
    · exact s3.elim)))
theorem se_dnewC : SE C E tDNewK aDNewC := fun w env σ Q ok en s p hp => s (w.cell p (.dK []) (.dk [] [])) rfl (ok.newCell hp ⟨[], upd_same, rfl, .nil⟩) (ok.le_cell hp _ _) _ ok.ref_cell
abbrev AM := AEnv → AH → Re Unit
def SMs (C : Ct) (E : XK) (t : TE) (m : AM) : Prop := ∀ (w : Wd) (env : AEnv) (σ : St) (Q : VK), Ok C w → EnvOk C w env σ → Sat C E w (m env w.h) (fun _ w' => ∀ v, Q v w'.H) → t σ w.H Q
def SJm (C : Ct) (E : XK) (n : Nat) (u : TJ) (m : AM) : Prop := ∀ (w : Wd) (env : AEnv) (σ : St) (acc : Str) (Q : VK), Ok C w → EnvOk C w env σ → acc.length + n ≤ sizeLine → Sat C E w (m env w.h) (fun _ w' => ∀ v, Q v w'.H) → u acc σ w.H Q
@[simp] def mNil : AM := fun _ h => .ok () h
@[simp] def mInt (a : AE) (r : AM) : AM := fun env h => (a env h).bind fun x h => match x with | .int i => if i.natAbs.log2 < 1920 then r env h else .no | _ => .no
@[simp] def mStr (a : AE) (r : AM) : AM := fun env h => (a env h).bind fun x h => match x with | .str y => if y.length ≤ 1000 then r env h else .no | _ => .no
def cpOk (y : Str) : Bool := y.cps.toList.all fun c => decide (c < 16 ^ 8)
@[simp] def mRep (a : AE) (r : AM) : AM := fun env h => (a env h).bind fun x h => match x with | .str y => if y.length ≤ 1000 ∧ cpOk y = true then r env h else .no | _ => .no
theorem str_app_len (x y : Str) : (x ++ y : Str).length = x.length + y.length := by
  show (x.cps ++ y.cps).size = x.cps.size + y.cps.size
  exact Array.size_append
theorem sjm_nil : SJm C E 0 jNil mNil := fun w env σ acc Q ok en hl s => ⟨by omega, s.here ok _⟩
theorem sjm_lit {n : Nat} {x : Str} {u : TJ} {m : AM} (hu : SJm C E n u m) : SJm C E (n + x.length) (jCons (tC (.str x)) u) m := fun w env σ acc Q ok en hl s =>
  ⟨x, rfl, by rw [str_app_len]; omega, hu w env σ _ Q ok en (by rw [str_app_len]; omega) s⟩
theorem sjm_int {n : Nat} {t : TE} {a : AE} {u : TJ} {m : AM} (ha : SE C E t a) (hu : SJm C E n u m) : SJm C E (n + 1921) (jCons (tFmtI t) u) (mInt a m) := fun w env σ acc Q ok en hl s =>
  ha w env σ _ ok en (s.bind.mono fun x w1 ok1 le1 s1 v tv => by
    cases x with
    | int i =>
      rw [Tr] at tv; subst tv
      have s1 : Sat C E w1 (if i.natAbs.log2 < 1920 then m env w1.h else .no) (fun _ w' => ∀ v, Q v w'.H) := s1
      by_cases hi : i.natAbs.log2 < 1920
      · rw [if_pos hi] at s1
        have hb : (toString i : Str).length ≤ 1921 := PyProof.Rows.int_text_len_1921 hi
        exact ⟨i, rfl, hi, _, rfl, by rw [str_app_len]; omega, hu w1 env σ _ Q ok1 (en.mono ok le1) (by rw [str_app_len]; omega) s1⟩
      · rw [if_neg hi] at s1; exact s1.elim
    | _ => exact s1.elim)
theorem sjm_str {n : Nat} {t : TE} {a : AE} {u : TJ} {m : AM} (ha : SE C E t a) (hu : SJm C E n u m) : SJm C E (n + 1000) (jCons (tFmtS t) u) (mStr a m) := fun w env σ acc Q ok en hl s =>
  ha w env σ _ ok en (s.bind.mono fun x w1 ok1 le1 s1 v tv => by
    cases x with
    | str y =>
      rw [Tr] at tv; subst tv
      have s1 : Sat C E w1 (if y.length ≤ 1000 then m env w1.h else .no) (fun _ w' => ∀ v, Q v w'.H) := s1
      by_cases hi : y.length ≤ 1000
      · rw [if_pos hi] at s1
        exact ⟨y, rfl, by omega, _, rfl, by rw [str_app_len]; omega, hu w1 env σ _ Q ok1 (en.mono ok le1) (by rw [str_app_len]; omega) s1⟩
      · rw [if_neg hi] at s1; exact s1.elim
    | _ => exact s1.elim)
theorem sjm_rep {n : Nat} {t : TE} {a : AE} {u : TJ} {m : AM} (ha : SE C E t a) (hu : SJm C E n u m) : SJm C E (n + 10002) (jCons (tFmtR t) u) (mRep a m) := fun w env σ acc Q ok en hl s =>
  ha w env σ _ ok en (s.bind.mono fun x w1 ok1 le1 s1 v tv => by
    cases x with
    | str y =>
      rw [Tr] at tv; subst tv
      have s1 : Sat C E w1 (if y.length ≤ 1000 ∧ cpOk y = true then m env w1.h else .no) (fun _ w' => ∀ v, Q v w'.H) := s1
      by_cases hi : y.length ≤ 1000 ∧ cpOk y = true
      · rw [if_pos hi] at s1
        have hb := PySem.StrLaws.reprText_len y (fun c hc => by
          have := List.all_eq_true.mp hi.2 c hc
          exact of_decide_eq_true this)
        have h1 := hi.1
        exact ⟨y, rfl, by omega, _, rfl, by rw [str_app_len]; omega, hu w1 env σ _ Q ok1 (en.mono ok le1) (by rw [str_app_len]; omega) s1⟩
      · rw [if_neg hi] at s1; exact s1.elim
    | _ => exact s1.elim)
theorem ms_fstr {n : Nat} {u : TJ} {m : AM} (hu : SJm C E n u m) (hn : n ≤ sizeLine) : SMs C E (u Str.empty) m := fun w env σ Q ok en s => hu w env σ Str.empty Q ok en (by show 0 + n ≤ sizeLine; omega) s
theorem ms_lit {x : Str} : SMs C E (tC (.str x)) mNil := fun w env σ Q ok en s => s.here ok _
theorem ms_add {x : Str} {t : TE} {a : AE} (hx : x.length ≤ 1000) (ha : SE C E t a) : SMs C E (tOp (fun x y H Q => ∃ i j, x = .str i ∧ y = .str j ∧ i.length + j.length ≤ sizeLine ∧ Q (.str (i ++ j)) H) (tC (.str x)) t) (mStr a mNil) := fun w env σ Q ok en s =>
  ha w env σ _ ok en (s.bind.mono fun z w1 ok1 le1 s1 v tv => by
    cases z with
    | str y =>
      rw [Tr] at tv; subst tv
      have s1 : Sat C E w1 (if y.length ≤ 1000 then mNil env w1.h else .no) (fun _ w' => ∀ v, Q v w'.H) := s1
      by_cases hi : y.length ≤ 1000
      · rw [if_pos hi] at s1
        exact ⟨x, y, rfl, rfl, Nat.le_trans (show x.length + y.length ≤ 2000 by omega) (by decide), s1.here ok1 _⟩
      · rw [if_neg hi] at s1; exact s1.elim
    | _ => exact s1.elim)
@[simp] def sRaise (c : Nat) (m : AM) : AS := fun env h => (m env h).to fun _ h => .ex c h
theorem ss_raise {c : Nat} {t : TE} {m : AM} (hm : SMs C E t m) : SS C E (tRaise (C.cl c) E (tCons t tNil)) (sRaise c m) := fun w env σ D ok en s =>
  hm w env σ _ ok en (Sat.mono (Sat.to s) fun _ w1 ok1 le1 s1 v => ⟨by show 1 ≤ sizeLine; decide, s1 w1 rfl ok1 (Le.refl w1)⟩)
abbrev AJ := Str → AEnv → AH → Re AV
@[simp] def jNilA : AJ := fun acc _ h => if acc.length ≤ sizeLine then .ok (.str acc) h else .no
@[simp] def jConsA (a : AE) (r : AJ) : AJ := fun acc env h => (a env h).bind fun x h => match x with | .str y => if (acc ++ y : Str).length ≤ sizeLine then r (acc ++ y) env h else .no | _ => .no
@[simp] def aFstr (j : AJ) : AE := j Str.empty
@[simp] def fFmtI : AV → AH → Re AV
  | .int i, h => if i.natAbs.log2 < 1920 then .ok (.str (toString i)) h else .no
  | _, _ => .no
@[simp] def fFmtS : AV → AH → Re AV
  | .str y, h => if y.length ≤ sizeLine then .ok (.str y) h else .no
  | _, _ => .no
@[simp] def fLenSet : AV → AH → Re AV := fun x h => match (lsqOf h x).bind strsOf with | some ts => if ts.length ≤ 1000 then .ok (.int ((metK ts).length : Nat)) h else .no | none => .no
theorem se_lenset {P : Program} {w0 : World} {t : TE} {a : AE} (ha : SE C E t a) :
    SE C E (tCB (fun xs H Q => ∃ a, ∃ ts : List Str, xs = [V.ref a] ∧ H a = some (SetS P w0 a ts) ∧ Q (.int ((metK ts).length : Nat)) H) (tCons (tCB (fun xs H Q => ∃ p, ∃ ts : List Str, xs = [V.ref p] ∧ SqL C.K H p (ts.map V.str) ∧ ts.length ≤ 1000 ∧ ∀ a, H a = none → Q (.ref a) (upd H a (SetS P w0 a ts))) (tCons t tNil)) tNil)) (a1 fLenSet a) := fun w env σ Q ok en s =>
  ha w env σ _ ok en (s.bind.mono fun x w1 ok1 le1 s1 v tv => by
    unfold fLenSet at s1
    split at s1
    · rename_i ts e
      obtain ⟨ys, ey, es⟩ := Option.bind_eq_some_iff.mp e
      obtain ⟨p, us, rfl, r, t'⟩ := lsqOf_ok ok1 ey tv
      have := strsOf_ok es t'
      subst this
      split at s1
      · rename_i hl
        refine ⟨p, ts, rfl, r, hl, fun q hq => ⟨q, ts, rfl, upd_same, ?_⟩⟩
        exact s1 (w1.fresh q _) rfl (ok1.fresh hq _) (ok1.le_fresh hq _) _ (by rw [Tr])
      · exact s1.elim
    · exact s1.elim)
theorem fn_no {P : Program} {w : World} {K : PySem.W.Frag} {mg : Str → Option Value} {base : Heap} {CX : CXT} {k n : Nat} {f : Addr} {fd : FuncData} {ps : List Str} (hn : n = ps.length) : FnOk P w K mg base CX k f fd ps (spZ C n fun _ _ => .no) :=
  ⟨fun vs H Q E h => by rw [← hn]; exact spZ_len h, fun A outer s H args us vs Q E _ _ _ _ h => by obtain ⟨w, xs, _, _, _, _, s⟩ := h; exact s.elim⟩
def spLaw (K : PySem.W.Frag) : Sp := fun vs H Q _ => ∃ (a : Addr) (ns : List Int), vs = [.ref a] ∧ SqL K H a (ns.map V.int) ∧ ns.length ≤ 63 ∧ ∀ H', Q (.bl true) H'
theorem trs_ints {w : Wd} : ∀ (ns : List Int), Trs C w (ns.map AV.int) (ns.map V.int)
  | [] => .nil
  | n :: ns => .cons (by rw [Tr]) (trs_ints ns)
theorem law_start (hp : C.pin = none) {m : AF} {vs : List V} {H : Hp} {Q : VK} {E : XK} (ht : ∀ ns : List Int, ns.length ≤ 63 → ∃ h, m [.kst (ns.map AV.int)] [] = .ok (.bl true) h) (h : spLaw C.K vs H Q E) : spZ C 1 m vs H Q E0 := by
  obtain ⟨a, ns, rfl, hS, hl, q⟩ := h
  obtain ⟨h', e⟩ := ht ns hl
  rcases hS with r | r
  · refine ⟨⟨[], fun b => b = a, [], H⟩, [.kst (ns.map AV.int)], rfl, ⟨rfl, .nil, fun b hb => absurd hb (by simp), fun k c b e => absurd e (by simp), fun b hb => ?_, fun b hb => ?_, fun b c z => (by rw [hp] at z; cases z)⟩, .one ?_, rfl, ?_⟩
    · obtain ⟨k, c, e1, _⟩ := hb
      simp at e1
    · subst hb; exact Rd.ne r
    · rw [Tr]; exact ⟨a, _, rfl, .inl ⟨rfl, r⟩, trs_ints ns⟩
    · rw [e]; exact fun w' _ _ _ v tv => by rw [Tr] at tv; subst tv; exact q _
  · refine ⟨⟨[], fun _ => False, [], H⟩, [.kst (ns.map AV.int)], rfl, ⟨rfl, .nil, fun b hb => absurd hb (by simp), fun k c b e => absurd e (by simp), fun b hb => ?_, fun b hb => hb.elim, fun b c z => (by rw [hp] at z; cases z)⟩, .one ?_, rfl, ?_⟩
    · obtain ⟨k, c, e1, _⟩ := hb
      simp at e1
    · rw [Tr]; exact ⟨a, _, rfl, .inr (.inr r), trs_ints ns⟩
    · rw [e]; exact fun w' _ _ _ v tv => by rw [Tr] at tv; subst tv; exact q _
theorem s2_rAdd : S2 C E rAdd fAdd := by
  intro w x y u v Q ok tx ty s
  exact s2_add (C := C) w x y u v Q ok tx ty s
theorem s2_rSub : S2 C E rSub fSub := by
  intro w x y u v Q ok tx ty s
  exact s2_sub (C := C) w x y u v Q ok tx ty s
end
end Z
set_option Elab.async false
set_option linter.all false
set_option maxRecDepth 100000
set_option maxHeartbeats 4000000
namespace Z
open PySem L2
section
variable {C : Ct} {E : XK}
def Ct.at (C : Ct) (a c : Addr) : Ct := { C with pin := some (a, c) }
@[simp] def fIsX (sub : Nat → Option Bool) : AV → AH → Re AV
  | .xc c, h => match sub c with | some b => .ok (.bl b) h | none => .no
  | _, _ => .no
def joinOk (sep : Str) (ys : List Str) : Bool := decide (sep.length ≤ 16) && decide ((ys.map (·.length)).sum + ys.length ≤ 1048576)
@[simp] def fJoin : AV → List AV → AH → Re AV
  | .str sep, [x], h => match (lsqOf h x).bind strsOf with | some ys => if joinOk sep ys = true then .ok (.str (Txt.join sep ys)) h else .no | none => .no
  | _, _, _ => .no
@[simp] def aMethX (c : Nat) (m : AF) (o : AE) (ma : AA) : AE := fun env h => (o env h).noex.bind fun x h => match insOf h x with
  | some (d, _) => if d = c then (ma env h).noex.bind fun xs h => m (x :: xs) h else .no
  | none => .no
@[simp] def aCallX (m : AF) (ma : AA) : AE := fun env h => (ma env h).noex.bind m
theorem Sat.nx {α β : Type} {w : Wd} {r : Re α} {f : α → AH → Re β} {P : β → Wd → Prop} (s : Sat C E w (r.noex.bind f) P) : Sat C E0 w r (fun x w1 => Sat C E w1 (f x w1.h) P) := by
  cases r with
  | ok x h => exact fun w' e ok le => by subst e; exact Sat.le le s
  | ex c h => exact s.elim
  | no => exact s
@[simp] def sTryW (i j f : Nat) (wd : Nat → Option Str) (m : AE) : AS := fun env h => match m env h with
  | .ok x h => .nx (env.set i (some x)) h
  | .ex c h => match wd c with
    | some s => if j < env.length then .nx (((env.set j none).set f (some (.str s))).set j none) h else .no
    | none => .no
  | .no => .no
end
end Z
set_option Elab.async false
set_option linter.all false
set_option maxRecDepth 100000
set_option maxHeartbeats 4000000
namespace Z
open PySem L2 PySem.Spec PyProof.Rows
structure FunD (K : PySem.W.Frag) (x qual : Str) (st : Stmt) (f : Addr) (fd : FuncData) (dt : Addr) (items : Array Value) : Prop where
  ex : ∃ (oc : Value) (od : Option Addr) (kV doc pm : Value) (an : Option Addr) (cdv ct : Value) (osl : Array (Option Value)),
    fd = PySem.W.fnOf x qual (defArgs st) (defBody st) (defScope st) (.ref dt) kV doc pm an cdv ct ∧ K.lookup f = some ⟨oc, od, .func fd, osl⟩ ∧ PySem.W.codeIn K cdv qual = true
  kp : PySem.W.keepIn K (.ref f) = true
  df : ∃ (o : Obj) (n : Nat), K.lookup dt = some o ∧ o.data = .seq items n
section
variable {P : Program} {w : World} {K : PySem.W.Frag} {mg : Str → Option Value} {base : Heap} {x qual : Str} {st : Stmt} {f dt : Addr} {fd : FuncData} {items : Array Value} {N ps : List Str} {k : Nat} {sp : Sp}
theorem funD_mk {oc : Value} {od an : Option Addr} {osl sl : Array (Option Value)} {kV doc pm cdv ct dc : Value} {dd : Option Addr} {n : Nat} (l : K.lookup f = some ⟨oc, od, .func (PySem.W.fnOf x qual (defArgs st) (defBody st) (defScope st) (.ref dt) kV doc pm an cdv ct), osl⟩)
    (c : PySem.W.codeIn K cdv qual = true) (k : PySem.W.keepIn K (.ref f) = true) (d : K.lookup dt = some ⟨dc, dd, .seq items n, sl⟩) : FunD K x qual st f (PySem.W.fnOf x qual (defArgs st) (defBody st) (defScope st) (.ref dt) kV doc pm an cdv ct) dt items :=
  ⟨⟨oc, od, kV, doc, pm, an, cdv, ct, osl, rfl, l, c⟩, k, ⟨_, n, d, rfl⟩⟩
theorem FunD.binds {ds : List Value} {n : Nat} (F : FunD K x qual st f fd dt items) (hn : ps.length = n + ds.length)
    (h : ∀ (kV doc pm : Value) (an : Option Addr) (cdv ct : Value) (us : List Value), us.length = n → ∃ k, bindArgs (PySem.W.fnOf x qual (defArgs st) (defBody st) (defScope st) (.ref dt) kV doc pm an cdv ct) ⟨us, []⟩ = seqItems? (.ref dt) >>= k ∧ k (some items) = pure (ps.zip (us ++ ds))) : Binds K fd ps ds := by
  obtain ⟨oc, od, kV, doc, pm, an, cdv, ct, osl, rfl, lk, hcd⟩ := F.ex
  obtain ⟨o, n, ho, hs⟩ := F.df
  intro s us KX hl
  obtain ⟨k, h1, h2⟩ := h kV doc pm an cdv ct us (by rw [List.length_append] at hl; omega)
  exact PySem.W.binds_K KX rfl ho hs h1 h2
theorem FunD.okR (F : FunD K x qual st f fd dt items) (S : FnScope N ps (defScope st)) (len : ∀ vs H Q E, sp vs H Q E → vs.length = ps.length)
    (hbody : ∀ (cdv : Value) (A : Around) (outer : List Env) (s : Shared) (H : Hp) (vs : List V) (Q : VK) (E : XK), Room k (A.deeper (envOfC qual (defScope st) s.heap.objs.size f cdv)) → sp vs H Q E →
      ∃ t, PSs (cxOf (CX1 P w) P w K mg base N qual (defScope st) f cdv A outer s H E) (defBody st) t ∧ t { nx := fun _ H' => Q .non H', rt := Q } (start N vs) H) : FnOk P w K mg base (CX1 P w) (k + 1) f fd ps sp := by
  obtain ⟨oc, od, kV, doc, pm, an, cdv, ct, osl, rfl, lk, hcd⟩ := F.ex
  exact fn_of lk hcd S len fun A outer s H vs Q E hr hsp => hbody cdv A outer s H vs Q E hr hsp
theorem vals_int (i : Int) (t : Tok) : Vals [V.int i] [Value.int i t] := .cons ⟨t, rfl⟩ .nil
end
section
variable {C : Ct} {E : XK}
@[simp] def aMethD (c : Nat) (m : AF) (o : AE) (ma : AA) (ds : List Int) : AE := fun env h => (o env h).bind fun x h => match insOf h x with
  | some (d, _) => if d = c then (ma env h).bind fun xs h => m (x :: (xs ++ ds.map AV.int)) h else .no
  | none => .no
theorem se_methD {c n : Nat} {m : AF} {ta : TE} {o : AE} {t : TA} {ma : AA} {mn : Str} (ds : List Int) (hm : ∀ i ∈ C.fl c, C.fn i ≠ mn) (ho : SE C E ta o) (ha : SA C E n t ma) : SE C E (tMeth (C.cl c) mn (spZ C (n + ds.length + 1) m) (ds.map V.int) E ta t) (aMethD c m o ma ds) := by
  intro w env σ Q ok en s
  refine ho w env σ _ ok en (s.bind.mono fun x w1 ok1 le1 s1 v tv => ?_)
  split at s1
  · rename_i d fs e
    by_cases hd : d = c
    · rw [if_pos hd] at s1
      subst hd
      obtain ⟨k, a, dx, fvs, rfl, rfl, eh, ea, hH, hF, hf⟩ := insOf_ok ok1 e tv
      refine ⟨a, dx, fvs, rfl, hH, hF.nolook hm hf, ha.run ok1 (en.mono ok le1) s1 fun xs w2 hl ok2 le2 s2 vs tvs => ?_⟩
      exact ⟨w2, .ref k :: (xs ++ ds.map AV.int), rfl, ok2, .cons (tv.mono ok1 le2) (tvs.app (trs_ints ds)), by rw [List.length_cons, List.length_append, List.length_map, hl], s2⟩
    · rw [if_neg hd] at s1; exact s1.elim
  · exact s1.elim
@[simp] def fSlS : AV → Option Int → Option Int → AH → Re AV := fun x lo hi h => match x with | .str z => if z.length ≤ sizeLine then .ok (.str (Txt.slice z lo hi)) h else .no | _ => .no
end
end Z
set_option Elab.async false
set_option linter.all false
set_option maxRecDepth 100000
set_option maxHeartbeats 4000000
namespace L2
open PySem PySem.Spec PyProof.Rows
section
variable {X : Cx} {tg : Expr}
end
end L2
namespace L2
open PySem PySem.Spec PyProof.Rows
section
variable {X : Cx}
end
end L2
namespace Z
open PySem L2 PySem.Spec PyProof.Rows
section
variable {C : Ct} {E : XK} {ta tb tc : TE} {ma mb mc : AE}
def intsStep (lo c : Int) (n : Nat) : List AV := (List.range n).map fun i : Nat => AV.int (lo + (i : Int) * c)
def rng3 : AV → AV → AV → AH → Re (List AV × Option Nat) := fun x y z h => match x, y, z with
  | .int (.ofNat i), .int (.ofNat j), .int (.ofNat c) => if i ≤ 16777216 ∧ j ≤ 16777216 ∧ 0 < c ∧ c < 1000000 then .ok (intsStep i c ((j + c - 1 - i) / c), none) h else .no
  | .int (.ofNat i), .int (.negSucc j), .int (.ofNat c) => if i ≤ 16777216 ∧ j ≤ 16777216 ∧ 0 < c ∧ c < 1000000 then .ok (intsStep i c 0, none) h else .no
  | _, _, _ => .no
@[simp] def iRange3 (a b c : AE) : AI := fun env h => (a env h).bind fun x h => (b env h).bind fun y h => (c env h).bind (rng3 x y)
def repA (xs : List AV) (k : Nat) : List AV := (List.replicate k xs).flatten
@[simp] def fRep : AV → AV → AH → Re AV := fun x y h => match lstOf h x, y with
  | some xs, .int k => if -1000000 ≤ k ∧ k ≤ 1000000 ∧ xs.length * k.toNat ≤ sizeLine then .ok (.lst (repA xs k.toNat)) h else .no
  | _, _ => .no
@[simp] def fRepC : AV → AV → AH → Re AV := fun x y h => match lstOf h x, y with
  | some xs, .int k => if -1000000 ≤ k ∧ k ≤ 1000000 ∧ xs.length * k.toNat ≤ sizeLine then .ok (.ref h.length) (h ++ [.lst (repA xs k.toNat)]) else .no
  | _, _ => .no
@[simp] def fIntS : List AV → AH → Re AV
  | [.str x], h => if x.length ≤ 640 then (match PySem.intText? x with | some n => .ok (.int n) h | none => .no) else .no
  | _, _ => .no
end
end Z
set_option Elab.async false
set_option linter.all false
set_option maxRecDepth 100000
set_option maxHeartbeats 4000000
namespace L2
open PySem PySem.Spec PyProof.Rows
section
variable {X : Cx}
end
end L2
namespace Z
open PySem L2 PySem.Spec PyProof.Rows
section
variable {C : Ct} {E : XK} {ta tb tc : TE} {ma mb mc : AE}
@[simp] def fCatT2 : AV → AV → AH → Re AV
  | .tup xs, .tup ys, h => if xs.isEmpty = false ∧ xs.length + ys.length ≤ sizeLine then .ok (.tup (xs ++ ys)) h else .no
  | _, _, _ => .no
@[simp] def fSlT : AV → Option Int → Option Int → AH → Re AV := fun x lo hi h => match tupOf x with
  | some xs => if HT.sIx xs.length 0 lo = 0 ∧ HT.sIx xs.length xs.length hi = xs.length then .no else .ok (.tup (cutA xs lo hi)) h
  | none => .no
@[simp] def fNotInS : AV → AV → AH → Re AV
  | .str a, .str z, h => match a.cps.toList with | [c] => .ok (.bl (!decide (c ∈ z.cps.toList))) h | _ => .no
  | _, _, _ => .no
@[simp] def fEqNil : AV → AV → AH → Re AV := fun x y h => match lsqOf h x, lstOf h y with
  | some xs, some [] => .ok (.bl xs.isEmpty) h
  | _, _ => .no
@[simp] def fNeNil : AV → AV → AH → Re AV := fun x y h => match lsqOf h x, lstOf h y with
  | some xs, some [] => .ok (.bl (!xs.isEmpty)) h
  | _, _ => .no
theorem Trs.empty {w : Wd} {xs : List AV} {vs : List V} (t : Trs C w xs vs) : vs.isEmpty = xs.isEmpty := by
  have := t.len
  cases xs <;> cases vs <;> simp_all
def countA (y : AV) (xs : List AV) : Nat := xs.countP fun z => eqF z y
@[simp] def fCount : AV → List AV → AH → Re AV := fun x ys h => match lstOf h x, ys with
  | some xs, [y] => if (flatA y && xs.all flatA) = true then .ok (.int (countA y xs : Nat)) h else .no
  | _, _ => .no
end
end Z
set_option Elab.async false
set_option linter.all false
set_option maxRecDepth 100000
set_option maxHeartbeats 4000000
namespace PM
open PySem L2 Z
def flG : Nat → List Nat
  | 0 => [0, 1]
  | 1 => [0, 1, 2, 3]
  | 2 => [0, 1, 4]
  | 3 => [0, 1, 5, 6, 7, 8, 9]
  | 4 => [0, 1, 5]
  | 5 => [0, 1, 10]
  | 6 => [0, 1, 11, 12, 10, 13, 14, 15, 16, 17]
  | 7 => [0, 1, 17]
  | 8 => [18, 19, 20, 21]
  | 9 => [5, 6, 22, 7, 23, 9, 24]
  | 10 => [25, 26, 27, 5]
  | 11 => [28, 29, 30, 31, 32, 33, 34, 35]
  | 12 => [1, 36, 37, 38, 39, 40, 41, 42]
  | 13 => [43]
  | _ => []
def b_Thing___init__ : AS :=
 (sSeq (sFldA flG 0 (aVar 0) (aVar 1))
 (sFldA flG 1 (aVar 0) (aVar 2)))
def m_Thing___init__ : AF := fnZ 3 b_Thing___init__
def b_Batch___init__ : AS :=
 (sSeq (sDrop (aC m_Thing___init__ (aCons (aVar 0) (aCons (aK (.str "batch")) (aCons (aVar 1) aNil)))))
 (sFldA flG 10 (aVar 0) (aVar 2)))
def m_Batch___init__ : AF := fnZ 3 b_Batch___init__
def b_Cellar___init__ : AS :=
 (sSeq (sFldA flG 18 (aVar 0) (aK (.int 0)))
 (sSeq (sFldA flG 19 (aVar 0) aDNewC)
 (sSeq (sFldA flG 20 (aVar 0) (aLstC aNil))
 (sFldA flG 21 (aVar 0) (aLstC aNil)))))
def m_Cellar___init__ : AF := fnZ 1 b_Cellar___init__
def b_Cellar_book : AS :=
 (sRet (aC fList (aCons (aFld 21 (aVar 0)) aNil)))
def m_Cellar_book : AF := fnZ 1 b_Cellar_book
def b_has_only : AS :=
 (sRet (aC fAll (aCons (aLc 1 [1] (iStrA (aVar 0)) (gN 0) aYes (a2 fInS (aVar 0) (aVar 1))) aNil)))
def m_has_only : AF := fnZ 2 b_has_only
def b_is_name : AS :=
 (sRet (aAndV (aChain fLe fLe (aK (.int 1)) (aC fLen (aCons (aVar 0) aNil)) (aK (.int 12))) (aC m_has_only (aCons (aVar 0) (aCons (aK (.str "abcdefghijklmnopqrstuvwxyz0123456789")) aNil)))))
def m_is_name : AF := fnZ 1 b_is_name
def b_Cellar_check_free : AS :=
 (sSeq (sIf (aNot (aB (aC m_is_name (aCons (aVar 1) aNil))))
 (sRaise 21 (mRep (aVar 1) mNil))
 sNext)
 (sIf (aB (a2 fDIn (aVar 1) (aFld 19 (aVar 0))))
 (sRaise 22 (mStr (aVar 1) mNil))
 sNext))
def m_Cellar_check_free : AF := fnZ 2 b_Cellar_check_free
def b_Cellar_hold : AS :=
 (sDPutA (aFld 19 (aVar 0)) (aFld 1 (aVar 1)) (aVar 1))
def m_Cellar_hold : AF := fnZ 2 b_Cellar_hold
def b_Cellar_known : AS :=
 (sSeq (sAsg (aDGet1 (aFld 19 (aVar 0)) (aVar 1)) (gN 3))
 (sSeq (sIf (aOr (aB (a1 fIsN (aVar 3))) (aB (a2 fNe (aFld 0 (aVar 3)) (aVar 2))))
 (sRaise 23 (mStr (aVar 2) (mRep (aVar 1) mNil)))
 sNext)
 (sRet (aVar 3))))
def m_Cellar_known : AF := fnZ 4 b_Cellar_known
def b_check_enough : AS :=
 (sIf (aB (a2 fGt (aVar 0) (aVar 1)))
 (sRaise 28 (mInt (aVar 0) (mInt (aVar 1) mNil)))
 sNext)
def m_check_enough : AF := fnZ 2 b_check_enough
def b_check_bounds : AS :=
 (sIf (aNot (aB (aChain fLe fLe (aVar 1) (aVar 0) (aVar 2))))
 (sRaise 24 (mInt (aVar 1) (mInt (aVar 2) (mInt (aVar 0) mNil))))
 sNext)
def m_check_bounds : AF := fnZ 3 b_check_bounds
def b_check_grams : AS :=
 (sDrop (aC m_check_bounds (aCons (aVar 0) (aCons (aK (.int 1)) (aCons (aK (.int 1000000)) aNil)))))
def m_check_grams : AF := fnZ 1 b_check_grams
def b_check_here : AS :=
 (sIf (aB (aFld 17 (aVar 0)))
 (sRaise 25 (mStr (aFld 1 (aVar 0)) mNil))
 sNext)
def m_check_here : AF := fnZ 1 b_check_here
def b_stands_at : AS :=
 (sRet (a2 (fIn false) (aFld 1 (aFld 4 (aVar 0))) (aSl fSlL (aFld 8 (aVar 1)) (oSome (aVar 2)) (oSome (a2 fAdd (aVar 2) (aK (.int 1)))))))
def m_stands_at : AF := fnZ 3 b_stands_at
def b_Cellar_new_batch : AS :=
 (sSeq (sDrop (aMeth 8 m_Cellar_check_free (aVar 0) (aCons (aVar 1) aNil)))
 (sSeq (sFor (iLst (aVar 2)) (gT 2 (gCons' (gN 3) (gCons' (gN 4) gNil')))
 (sDrop (aMeth 8 m_Cellar_known (aVar 0) (aCons (aVar 3) (aCons (aK (.str "farm")) aNil)))))
 (sSeq (sFor (iLst (aVar 2)) (gT 2 (gCons' (gN 3) (gCons' (gN 4) gNil')))
 (sDrop (aC m_check_grams (aCons (aVar 4) aNil))))
 (sSeq (sDrop (aMeth 8 m_Cellar_hold (aVar 0) (aCons (aMake 5 m_Batch___init__ (aCons (aVar 1) (aCons (aC fSum (aCons (aLc 2 [] (iLst (aVar 2)) (gT 2 (gCons' (gN 0) (gCons' (gN 1) gNil'))) aYes (aVar 1)) aNil)) aNil))) aNil)))
 (sDrop (aMtL fAppend (aFld 21 (aVar 0)) (aCons (aTup (aCons (aFld 18 (aVar 0)) (aCons (aK (.str "batch")) (aCons (aVar 1) (aCons (aC fTuple (aCons (aVar 2) aNil)) aNil))))) aNil)))))))
def m_Cellar_new_batch : AF := fnZ 5 b_Cellar_new_batch
def b_Cellar_new_farm : AS :=
 (sSeq (sDrop (aMeth 8 m_Cellar_check_free (aVar 0) (aCons (aVar 1) aNil)))
 (sDrop (aMeth 8 m_Cellar_hold (aVar 0) (aCons (aMake 0 m_Thing___init__ (aCons (aK (.str "farm")) (aCons (aVar 1) aNil))) aNil))))
def m_Cellar_new_farm : AF := fnZ 2 b_Cellar_new_farm
def b_Room___init__ : AS :=
 (sSeq (sDrop (aC m_Thing___init__ (aCons (aVar 0) (aCons (aK (.str "room")) (aCons (aVar 1) aNil)))))
 (sSeq (sFldA flG 2 (aVar 0) (aVar 2))
 (sFldA flG 3 (aVar 0) (aVar 3))))
def m_Room___init__ : AF := fnZ 4 b_Room___init__
def b_Cellar_new_room : AS :=
 (sSeq (sDrop (aMeth 8 m_Cellar_check_free (aVar 0) (aCons (aVar 1) aNil)))
 (sSeq (sDrop (aC m_check_bounds (aCons (aVar 2) (aCons (aK (.int 0)) (aCons (aK (.int 100)) aNil)))))
 (sSeq (sDrop (aC m_check_bounds (aCons (aVar 3) (aCons (aK (.int 0)) (aCons (aK (.int 40)) aNil)))))
 (sDrop (aMeth 8 m_Cellar_hold (aVar 0) (aCons (aMake 1 m_Room___init__ (aCons (aVar 1) (aCons (aVar 2) (aCons (aVar 3) aNil)))) aNil))))))
def m_Cellar_new_room : AF := fnZ 4 b_Cellar_new_room
def b_Shelf___init__ : AS :=
 (sSeq (sDrop (aC m_Thing___init__ (aCons (aVar 0) (aCons (aK (.str "shelf")) (aCons (aVar 1) aNil)))))
 (sFldA flG 4 (aVar 0) (aVar 2)))
def m_Shelf___init__ : AF := fnZ 3 b_Shelf___init__
def b_Cellar_new_shelf : AS :=
 (sSeq (sDrop (aMeth 8 m_Cellar_check_free (aVar 0) (aCons (aVar 1) aNil)))
 (sDrop (aMeth 8 m_Cellar_hold (aVar 0) (aCons (aMake 2 m_Shelf___init__ (aCons (aVar 1) (aCons (aMeth 8 m_Cellar_known (aVar 0) (aCons (aVar 2) (aCons (aK (.str "room")) aNil))) aNil))) aNil))))
def m_Cellar_new_shelf : AF := fnZ 3 b_Cellar_new_shelf
def b_Sort___init__ : AS :=
 (sSeq (sDrop (aC m_Thing___init__ (aCons (aVar 0) (aCons (aK (.str "sort")) (aCons (aVar 1) aNil)))))
 (sSeq (sFldA flG 5 (aVar 0) (aVar 2))
 (sSeq (sFldA flG 6 (aVar 0) (aVar 3))
 (sSeq (sFldA flG 7 (aVar 0) (aVar 4))
 (sSeq (sFldA flG 8 (aVar 0) (aLc 3 [] (iLst (aVar 5)) (gT 3 (gCons' (gN 0) (gCons' (gN 1) (gCons' (gN 2) gNil')))) aYes (aVar 0)))
 (sFldA flG 9 (aVar 0) (aLc 3 [] (iLst (aVar 5)) (gT 3 (gCons' (gN 0) (gCons' (gN 1) (gCons' (gN 2) gNil')))) aYes (aTup (aCons (aVar 1) (aCons (aVar 2) aNil))))))))))
def m_Sort___init__ : AF := fnZ 6 b_Sort___init__
def b_check_gap : AS :=
 (sSeq (sDrop (aC m_check_bounds (aCons (aVar 1) (aCons (aK (.int 1)) (aCons (aK (.int 60)) aNil)))))
 (sDrop (aC m_check_bounds (aCons (aVar 0) (aCons (aK (.int 1)) (aCons (aVar 1) aNil))))))
def m_check_gap : AF := fnZ 2 b_check_gap
def b_Cellar_new_sort : AS :=
 (sSeq (sDrop (aMeth 8 m_Cellar_check_free (aVar 0) (aCons (aVar 1) aNil)))
 (sSeq (sAsg (aLc 3 [0] (iLst (aVar 5)) (gT 3 (gCons' (gN 0) (gCons' (gN 1) (gCons' (gN 2) gNil')))) aYes (aFld 1 (aMeth 8 m_Cellar_known (aVar 3) (aCons (aVar 0) (aCons (aK (.str "room")) aNil))))) (gN 6))
 (sSeq (sFor (iLst (a2 fCat (aLst (aCons (aVar 3) (aCons (aVar 4) aNil))) (aLc 3 [] (iLst (aVar 5)) (gT 3 (gCons' (gN 0) (gCons' (gN 1) (gCons' (gN 2) gNil')))) aYes (aTup (aCons (aVar 1) (aCons (aVar 2) aNil)))))) (gN 7)
 (sDrop (aC m_check_gap (aCons (a2 fIx (aVar 7) (aK (.int 0))) (aCons (a2 fIx (aVar 7) (aK (.int 1))) aNil)))))
 (sSeq (sIf (aB (a2 fLt (a1 fLenSet (aVar 6)) (aC fLen (aCons (aVar 6) aNil))))
 (sRaise 26 mNil)
 sNext)
 (sDrop (aMeth 8 m_Cellar_hold (aVar 0) (aCons (aMake 3 m_Sort___init__ (aCons (aVar 1) (aCons (aVar 2) (aCons (aVar 3) (aCons (aVar 4) (aCons (aVar 5) aNil)))))) aNil)))))))
def m_Cellar_new_sort : AF := fnZ 8 b_Cellar_new_sort
def b_Wheel___init__ : AS :=
 (sSeq (sDrop (aC m_Thing___init__ (aCons (aVar 0) (aCons (aK (.str "wheel")) (aCons (aVar 1) aNil)))))
 (sSeq (sFldA flG 11 (aVar 0) (aVar 2))
 (sSeq (sFldA flG 12 (aVar 0) (aVar 3))
 (sSeq (sFldA flG 10 (aVar 0) (aVar 4))
 (sSeq (sFldA flG 13 (aVar 0) (aK (.int 0)))
 (sSeq (sFldA flG 14 (aVar 0) (aVar 5))
 (sSeq (sFldA flG 15 (aVar 0) (aVar 5))
 (sSeq (sFldA flG 16 (aVar 0) (aVar 5))
 (sFldA flG 17 (aVar 0) (aK (.bl false)))))))))))
def m_Wheel___init__ : AF := fnZ 6 b_Wheel___init__
def b_Cellar_new_wheel : AS :=
 (sSeq (sDrop (aMeth 8 m_Cellar_check_free (aVar 0) (aCons (aVar 1) aNil)))
 (sSeq (sAsg (aMeth 8 m_Cellar_known (aVar 0) (aCons (aVar 2) (aCons (aK (.str "batch")) aNil))) (gN 6))
 (sSeq (sAsg (aMeth 8 m_Cellar_known (aVar 0) (aCons (aVar 3) (aCons (aK (.str "sort")) aNil))) (gN 7))
 (sSeq (sAsg (aMeth 8 m_Cellar_known (aVar 0) (aCons (aVar 4) (aCons (aK (.str "shelf")) aNil))) (gN 8))
 (sSeq (sDrop (aC m_check_grams (aCons (aVar 5) aNil)))
 (sSeq (sIf (aNot (aB (aC m_stands_at (aCons (aVar 8) (aCons (aVar 7) (aCons (aK (.int 0)) aNil))))))
 (sRaise 26 (mStr (aVar 3) (mStr (aVar 4) mNil)))
 sNext)
 (sSeq (sDrop (aC m_check_enough (aCons (aVar 5) (aCons (aFld 10 (aVar 6)) aNil))))
 (sSeq (sFldAugA flG 10 fSub (aVar 6) (aVar 5))
 (sSeq (sAsg (aMake 6 m_Wheel___init__ (aCons (aVar 1) (aCons (aVar 7) (aCons (aVar 8) (aCons (aVar 5) (aCons (aFld 18 (aVar 0)) aNil)))))) (gN 9))
 (sSeq (sDrop (aMeth 8 m_Cellar_hold (aVar 0) (aCons (aVar 9) aNil)))
 (sSeq (sDrop (aMtL fAppend (aFld 20 (aVar 0)) (aCons (aVar 9) aNil)))
 (sDrop (aMtL fAppend (aFld 21 (aVar 0)) (aCons (aTup (aCons (aFld 18 (aVar 0)) (aCons (aK (.str "wheel")) (aCons (aVar 1) (aCons (aVar 2) (aCons (aVar 3) (aCons (aVar 4) (aCons (aVar 5) aNil)))))))) aNil))))))))))))))
def m_Cellar_new_wheel : AF := fnZ 10 b_Cellar_new_wheel
def b_night_loss : AS :=
 (sSeq (sAsg (aFld 4 (aFld 12 (aVar 0))) (gN 1))
 (sRet (a2 fDiv (a2 fMul (a2 fMul (aFld 10 (aVar 0)) (a2 fSub (aK (.int 100)) (aFld 2 (aVar 1)))) (aFld 3 (aVar 1))) (aK (.int 100000)))))
def m_night_loss : AF := fnZ 2 b_night_loss
def b_Cellar_pass_night : AS :=
 (sSeq (sAsg (aLstC aNil) (gN 1))
 (sSeq (sFor (iLst (aFld 20 (aVar 0))) (gN 2)
 (sIf (aNot (aB (aFld 17 (aVar 2))))
 (sSeq (sAsg (aC m_night_loss (aCons (aVar 2) aNil)) (gN 3))
 (sSeq (sFldAugA flG 10 fSub (aVar 2) (aVar 3))
 (sDrop (aMtL fAppend (aVar 1) (aCons (aTup (aCons (aFld 1 (aVar 2)) (aCons (aFld 1 (aFld 4 (aFld 12 (aVar 2)))) (aCons (aFld 1 (aFld 12 (aVar 2))) (aCons (aVar 3) aNil))))) aNil)))))
 sNext))
 (sSeq (sDrop (aMtL fAppend (aFld 21 (aVar 0)) (aCons (aTup (aCons (aFld 18 (aVar 0)) (aCons (aK (.str "night")) (aCons (aC fTuple (aCons (aVar 1) aNil)) aNil)))) aNil)))
 (sFldAugA flG 18 fAdd (aVar 0) (aK (.int 1))))))
def m_Cellar_pass_night : AF := fnZ 4 b_Cellar_pass_night
def b_Cellar_night : AS :=
 (sSeq (sDrop (aC m_check_bounds (aCons (aVar 1) (aCons (aK (.int 1)) (aCons (aK (.int 30)) aNil)))))
 (sFor (iRange1 (aVar 1)) (gN 2)
 (sDrop (aMeth 8 m_Cellar_pass_night (aVar 0) aNil))))
def m_Cellar_night : AF := fnZ 3 b_Cellar_night
def b_Cellar_weight : AS :=
 (sSeq (sAsg (aMeth 8 m_Cellar_known (aVar 0) (aCons (aVar 1) (aCons (aK (.str "wheel")) aNil))) (gN 2))
 (sSeq (sDrop (aC m_check_here (aCons (aVar 2) aNil)))
 (sRet (aFld 10 (aVar 2)))))
def m_Cellar_weight : AF := fnZ 3 b_Cellar_weight
def b__law_at : AS :=
 (sSeq (sIf (aB (a2 fLt (aVar 1) (aC fLen (aCons (aVar 0) aNil))))
 (sRet (a2 fIx (aVar 0) (aVar 1)))
 sNext)
 (sRet (aK (.int 0))))
def m__law_at : AF := fnZ 2 b__law_at
def b__law_whole : AS :=
 (sRet (aAndV (a1 (fIsi .int) (aVar 0)) (aNotV (a1 (fIsi .bool) (aVar 0)))))
def m__law_whole : AF := fnZ 1 b__law_whole
def b__law_same (rec : AF) : AS :=
 (sSeq (sIf (aB (a1 (fIsiT [.list, .tuple]) (aVar 1)))
 (sSeq (sIf (aOr (aB (a2 fNe (a1 (fIsi .list) (aVar 0)) (a1 (fIsi .list) (aVar 1)))) (aB (a2 fNe (a1 (fIsi .tuple) (aVar 0)) (a1 (fIsi .tuple) (aVar 1)))))
 (sRet (aK (.bl false)))
 sNext)
 (sRet (aAndV (a2 fEq (aC fLen (aCons (aVar 0) aNil)) (aC fLen (aCons (aVar 1) aNil))) (aC fAll (aCons (aLc 1 [0, 1] (iRange1 (aC fLen (aCons (aVar 1) aNil))) (gN 0) aYes (aC rec (aCons (a2 fIx (aVar 1) (aVar 0)) (aCons (a2 fIx (aVar 2) (aVar 0)) aNil)))) aNil)))))
 sNext)
 (sSeq (sAsg (aAndV (a2 fEq (a1 (fIsi .int) (aVar 0)) (a1 (fIsi .int) (aVar 1))) (a2 fEq (a1 (fIsi .bool) (aVar 0)) (a1 (fIsi .bool) (aVar 1)))) (gN 2))
 (sRet (aAndV (aVar 2) (aAndV (a2 fEq (a1 (fIsi .str) (aVar 0)) (a1 (fIsi .str) (aVar 1))) (a2 fEq (aVar 0) (aVar 1)))))))
def m__law_same : Nat → AF
  | 0 => fun _ _ => .no
  | n + 1 => fnZ 3 (b__law_same (m__law_same n))
end PM
set_option Elab.async false
set_option linter.all false
set_option maxRecDepth 100000
set_option maxHeartbeats 4000000
namespace PM
open PySem L2 Z
def cz (ns : List Int) (k : Nat) : Int := ns.getD k 0
theorem cz_at {ns : List Int} {k : Nat} (h : k < ns.length) : atI (ns.map AV.int) (k : Int) = some (.int (cz ns k)) := atI_nat (by
  rw [List.getElem?_map, List.getElem?_eq_getElem h]
  simp [cz, List.getD_eq_getElem?_getD, List.getElem?_eq_getElem h])
theorem at_ok (ns : List Int) (k : Nat) (h : AH) : m__law_at [.kst (ns.map AV.int), .int k] h = .ok (.int (cz ns k)) h := by
  by_cases hk : (k : Int) < (ns.length : Int)
  · simp [m__law_at, b__law_at, hk, cz_at (show k < ns.length by omega)]
  · have : cz ns k = 0 := by
      unfold cz
      rw [List.getD_eq_getElem?_getD, List.getElem?_eq_none (by omega)]; rfl
    simp [m__law_at, b__law_at, hk, this]
theorem bounds_ok {n a b : Int} {h : AH} (h1 : a ≤ n) (h2 : n ≤ b) : m_check_bounds [.int n, .int a, .int b] h = .ok .non h := by
  simp [m_check_bounds, b_check_bounds, h1, h2]
theorem grams_ok {n : Int} {h : AH} (h1 : 1 ≤ n) (h2 : n ≤ 1000000) : m_check_grams [.int n] h = .ok .non h := by
  simp [m_check_grams, b_check_grams, bounds_ok h1 h2]
theorem enough_ok {n m : Int} {h : AH} (h1 : n ≤ m) : m_check_enough [.int n, .int m] h = .ok .non h := by
  simp [m_check_enough, b_check_enough, show ¬ m < n by omega]
@[simp] theorem last_set (h : AH) (x y : Cell) : (h ++ [x]).set h.length y = h ++ [y] := by
  rw [List.set_append_right _ _ (Nat.le_refl _), Nat.sub_self]; rfl
theorem get_set_ne {h : AH} {i j : Nat} {c : Cell} (hn : i ≠ j) : (h.set i c)[j]? = h[j]? := List.getElem?_set_ne hn
theorem get_lt {h : AH} {i : Nat} {c : Cell} (e : h[i]? = some c) : i < h.length := (List.getElem?_eq_some_iff.mp e).1
theorem get_set_eq {h : AH} {i : Nat} {c d : Cell} (e : h[i]? = some d) : (h.set i c)[i]? = some c := List.getElem?_set_self (get_lt e)
theorem get_app {h g : AH} {i : Nat} {c : Cell} (e : h[i]? = some c) : (h ++ g)[i]? = some c := by
  rw [List.getElem?_append_left (get_lt e)]; exact e
def NS : List Nat := ("abcdefghijklmnopqrstuvwxyz0123456789" : Str).cps.toList
def isNm (x : Str) : Bool := decide (1 ≤ x.length ∧ x.length ≤ 12) && x.cps.toList.all fun c => decide (c ∈ NS)
theorem lc_fm {α : Type} {wt : Option Nat} {all : List AV} {g : AV → AEnv → AH → Re AEnv} {tc : AT} {te : AE} {be : AEnv} {h : AH} {k f : α → AV} {p : α → Bool} (hw : okW h all wt = true) :
    ∀ (ys : List α) (acc : List AV), (∀ y ∈ ys, ∃ env, g (k y) be h = .ok env h ∧ tc env h = .ok (p y) h ∧ (p y = true → te env h = .ok (f y) h)) → lcL wt all g tc te be (ys.map k) acc h = .ok (acc ++ (ys.filter p).map f) h
  | [], acc, _ => by simp [lcL, hw]
  | y :: ys, acc, hs => by
    obtain ⟨env, e1, e2, e3⟩ := hs y (by simp)
    have ih := fun acc => lc_fm hw ys acc fun z hz => hs z (List.mem_cons_of_mem _ hz)
    cases hp : p y with
    | true => simp [lcL, hw, e1, e2, e3 hp, hp, ih]
    | false => simp [lcL, hw, e1, e2, hp, ih]
theorem lc_map {α : Type} {wt : Option Nat} {all : List AV} {g : AV → AEnv → AH → Re AEnv} {te : AE} {be : AEnv} {h : AH} {k f : α → AV} (hw : okW h all wt = true)
    (ys : List α) (acc : List AV) (hs : ∀ y ∈ ys, ∃ env, g (k y) be h = .ok env h ∧ te env h = .ok (f y) h) : lcL wt all g aYes te be (ys.map k) acc h = .ok (acc ++ ys.map f) h := by
  have := lc_fm (tc := aYes) (te := te) (f := f) (p := fun _ => true) hw ys acc fun y hy => by
    obtain ⟨env, e1, e2⟩ := hs y hy
    exact ⟨env, e1, rfl, fun _ => e2⟩
  rw [List.filter_eq_self.mpr (by simp)] at this
  exact this
theorem bls_map {α : Type} (f : α → Bool) : ∀ (xs : List α), blsOf (xs.map fun x => AV.bl (f x)) = some (xs.map f)
  | [] => rfl
  | x :: xs => by simp [bls_map f xs]
theorem ints_map {α : Type} (f : α → Int) : ∀ (xs : List α), intsOf (xs.map fun x => AV.int (f x)) = some (xs.map f)
  | [] => rfl
  | x :: xs => by simp [ints_map f xs]
theorem all_map {α : Type} (f : α → Bool) (xs : List α) : (xs.map f).all id = xs.all f := by rw [List.all_map]; rfl
theorem only_ok {x z : Str} {h : AH} (hx : x.length ≤ 100000) : m_has_only [.str x, .str z] h = .ok (.bl (x.cps.toList.all fun c => decide (c ∈ z.cps.toList))) h := by
  have hl : (strA x).length ≤ sizeLine := by
    unfold strA; rw [List.length_map, Array.length_toList]
    exact Nat.le_trans hx (by decide)
  have key : lcL none (strA x) (gN 0) aYes (a2 fInS (aVar 0) (aVar 1)) [none, some (.str z)] (strA x) [] h = .ok (x.cps.toList.map fun c => AV.bl (decide (c ∈ z.cps.toList))) h :=
    lc_map (k := fun c => AV.str ⟨#[c]⟩) okW_none x.cps.toList [] fun c hc => ⟨_, rfl, by simp⟩
  simp [m_has_only, b_has_only, bEnv, hl, key, bls_map, all_map]
theorem name_ok {x : Str} {h : AH} (hx : x.length ≤ 100000) : m_is_name [.str x] h = .ok (.bl (isNm x)) h := by
  have hl : x.length ≤ sizeLine := Nat.le_trans hx (by decide)
  unfold isNm
  by_cases h1 : 1 ≤ x.length ∧ x.length ≤ 12
  · have e1 : (1 : Int) ≤ (x.length : Int) := by omega
    have e2 : (x.length : Int) ≤ 12 := by omega
    simp [m_is_name, b_is_name, hl, only_ok hx, h1, e1, e2, NS]
  · by_cases e1 : (1 : Int) ≤ (x.length : Int)
    · have e2 : ¬ (x.length : Int) ≤ 12 := by omega
      simp [m_is_name, b_is_name, hl, e1, e2]
      intro a b; omega
    · simp [m_is_name, b_is_name, hl, e1]
      intro a b; omega
def CellarC (t : Int) (d l e : Nat) : Cell := .ins 8 [(18, .int t), (19, .ref d), (20, .ref l), (21, .ref e)]
section
variable {h : AH} {a d l e t c : Nat} {day : Int} {ks : List Key} {xs : List AV} {nm kd : Str} {fs : List (Nat × AV)}
theorem known_ok (h0 : h[a]? = some (CellarC day d l e)) (h1 : h[d]? = some (.dk ks xs)) (h2 : dval ks xs (.inr nm) = some (.ref t)) (h3 : h[t]? = some (.ins c fs)) (h4 : fs.lookup 0 = some (.str kd)) :
    m_Cellar_known [.ref a, .str nm, .str kd] h = .ok (.ref t) h := by
  simp [m_Cellar_known, b_Cellar_known, h0, CellarC, h1, h2, h3, h4, List.lookup]
theorem free_ok (h0 : h[a]? = some (CellarC day d l e)) (h1 : h[d]? = some (.dk ks xs)) (hn : isNm nm = true) (h2 : dval ks xs (.inr nm) = none) : m_Cellar_check_free [.ref a, .str nm] h = .ok .non h := by
  have hl : nm.length ≤ 100000 := by
    unfold isNm at hn
    simp at hn; omega
  simp [m_Cellar_check_free, b_Cellar_check_free, name_ok hl, hn, h0, CellarC, h1, h2, List.lookup]
theorem hold_ok (h0 : h[a]? = some (CellarC day d l e)) (h1 : h[d]? = some (.dk ks xs)) (h3 : h[t]? = some (.ins c fs)) (h4 : fs.lookup 1 = some (.str nm)) (hk : ks.length < sizeLine) :
    m_Cellar_hold [.ref a, .ref t] h = .ok .non (h.set d (.dk (dput ks xs (.inr nm) (.ref t)).1 (dput ks xs (.inr nm) (.ref t)).2)) := by
  simp [m_Cellar_hold, b_Cellar_hold, h0, CellarC, h1, h3, h4, List.lookup, hk]
theorem dput_new {j : Key} {y : AV} (hn : dval ks xs j = none) (hl : ks.length = xs.length) : dput ks xs j y = (ks ++ [j], xs ++ [y]) := by
  have : (ks.any fun k => decide (k = j)) = false := by
    induction ks generalizing xs with
    | nil => rfl
    | cons k ks ih =>
      cases xs with
      | nil => simp at hl
      | cons x xs =>
        unfold dval at hn
        split at hn
        · cases hn
        · rename_i hne
          rw [List.any_cons, ih hn (by simpa using hl)]
          simp [hne]
  unfold dput
  rw [this]; rfl
end
section
variable {h : AH} {nm : Str}
@[simp] theorem get_last (h : AH) (x : Cell) : (h ++ [x])[h.length]? = some x := by simp
theorem init_thing {kd : Str} {c : Nat} (hc0 : 0 ∈ flG c) (hc1 : 1 ∈ flG c) : m_Thing___init__ [.ref h.length, .str kd, .str nm] (h ++ [.ins c []]) = .ok .non (h ++ [.ins c [(0, .str kd), (1, .str nm)]]) := by
  simp [m_Thing___init__, b_Thing___init__, hc0, hc1]
theorem init_room {x y : AV} : m_Room___init__ [.ref h.length, .str nm, x, y] (h ++ [.ins 1 []]) = .ok .non (h ++ [.ins 1 [(0, .str "room"), (1, .str nm), (2, x), (3, y)]]) := by
  simp [m_Room___init__, b_Room___init__, init_thing, flG]
theorem init_batch {x : AV} : m_Batch___init__ [.ref h.length, .str nm, x] (h ++ [.ins 5 []]) = .ok .non (h ++ [.ins 5 [(0, .str "batch"), (1, .str nm), (10, x)]]) := by
  simp [m_Batch___init__, b_Batch___init__, init_thing, flG]
def wheelF (nm : Str) (sort shelf : Nat) (grams : Int) (place : Int) (td wd rd : Int) (gone : Bool) : List (Nat × AV) :=
  [(0, .str "wheel"), (1, .str nm), (11, .ref sort), (12, .ref shelf), (10, .int grams), (13, .int place), (14, .int td), (15, .int wd), (16, .int rd), (17, .bl gone)]
theorem init_wheel {sort shelf : Nat} {grams day : Int} : m_Wheel___init__ [.ref h.length, .str nm, .ref sort, .ref shelf, .int grams, .int day] (h ++ [.ins 6 []]) = .ok .non (h ++ [.ins 6 (wheelF nm sort shelf grams 0 day day day false)]) := by
  simp [m_Wheel___init__, b_Wheel___init__, init_thing, flG, wheelF]
end
end PM
set_option Elab.async false
set_option linter.all false
set_option maxRecDepth 100000
set_option maxHeartbeats 4000000
namespace PM
open PySem L2 Z
theorem map_inj {f : Char → Nat} (hf : ∀ x y, f x = f y → x = y) : ∀ {a b : List Char}, a.map f = b.map f → a = b
  | [], [], _ => rfl
  | [], _ :: _, h => by simp at h
  | _ :: _, [], h => by simp at h
  | x :: a, y :: b, h => by
    simp only [List.map_cons, List.cons.injEq] at h
    rw [hf x y h.1, map_inj hf h.2]
@[simp] theorem ofString_inj (a b : String) : Str.ofString a = Str.ofString b ↔ a = b := by
  refine ⟨fun h => ?_, fun h => by rw [h]⟩
  rw [Str.ofString_eq_toList, Str.ofString_eq_toList] at h
  have h1 : a.toList.map Char.toNat = b.toList.map Char.toNat := by
    have := congrArg (fun s : Str => s.cps.toList) h
    simpa using this
  apply String.toList_inj.mp
  exact map_inj (fun x y e => Char.ext (UInt32.toNat_inj.mp e)) h1
theorem seq_nx {s t : AS} {env env' : AEnv} {h h' : AH} (e : s env h = .nx env' h') : sSeq s t env h = t env' h' := by simp [e]
theorem seq_ex {s t : AS} {env env' : AEnv} {h h' : AH} {x : AV} (e : s env h = .nx env' h') (r : ∃ h2, t env' h' = .rt x h2) : ∃ h2, sSeq s t env h = .rt x h2 := by rw [seq_nx e]; exact r
theorem loop_nx {α : Type} {wt : Option Nat} {all : List AV} {g : AV → AEnv → AH → Re AEnv} {body : AS} {k : α → AV} {P : Nat → AEnv → AH → Prop}
    (hw : ∀ i env h, P i env h → okW h all wt = true) :
    ∀ (ys : List α) (i : Nat) (env : AEnv) (h : AH), P i env h →
      (∀ (j : Nat) y, ys[j]? = some y → ∀ env h, P (i + j) env h → ∃ e1 h1 e2 h2, g (k y) env h = .ok e1 h1 ∧ (body e1 h1 = .nx e2 h2 ∨ body e1 h1 = .ct e2 h2) ∧ P (i + j + 1) e2 h2) →
      ∃ env' h', loopL wt all g body (ys.map k) env h = .nx env' h' ∧ P (i + ys.length) env' h'
  | [], i, env, h, hp, hs => ⟨env, h, by simp [loopL, hw i env h hp], by simpa using hp⟩
  | y :: ys, i, env, h, hp, hs => by
    obtain ⟨e1, h1, e2, h2, q1, q2, q3⟩ := hs 0 y rfl env h hp
    obtain ⟨e3, h3, q4, q5⟩ := loop_nx hw ys (i + 1) e2 h2 q3 fun j z hj env h hp => by
      have := hs (j + 1) z (by simpa using hj) env h (by rw [show i + (j + 1) = i + 1 + j by omega]; exact hp)
      rw [show i + (j + 1) + 1 = i + 1 + j + 1 by omega] at this
      exact this
    refine ⟨e3, h3, ?_, by rw [List.length_cons, show i + (ys.length + 1) = i + 1 + ys.length by omega]; exact q5⟩
    rw [List.map_cons, loopL, if_pos (hw i env h hp), q1]
    rcases q2 with q2 | q2 <;> simp [q2, q4]
mutual
def okD : Nat → AV → Bool
  | _, .non => true | _, .bl _ => true | _, .int _ => true | _, .str _ => true
  | n, .tup xs => match n with | 0 => false | m + 1 => decide (xs.length ≤ 100000) && okDs m xs
  | n, .lst xs => match n with | 0 => false | m + 1 => decide (xs.length ≤ 100000) && okDs m xs
  | _, _ => false
def okDs : Nat → List AV → Bool
  | _, [] => true
  | n, x :: xs => okD n x && okDs n xs
end
theorem okDs_get {n : Nat} {x : AV} : ∀ {xs : List AV} {i : Nat}, okDs n xs = true → xs[i]? = some x → okD n x = true
  | [], _, _, e => by simp at e
  | y :: ys, 0, d, e => by
    simp only [okDs, Bool.and_eq_true] at d
    simp at e; exact e ▸ d.1
  | y :: ys, i + 1, d, e => by
    simp only [okDs, Bool.and_eq_true] at d
    exact okDs_get d.2 (by simpa using e)
def IsL (h : AH) (x : AV) (xs : List AV) : Prop := x = .lst xs ∨ ∃ k, x = .ref k ∧ h[k]? = some (.lst xs)
theorem same_lst {h : AH} {n : Nat} {x y : AV} {xs : List AV} (hl : xs.length ≤ 100000) (hx : IsL h x xs) (hy : IsL h y xs) (hs : ∀ i (_ : i < xs.length), m__law_same n [xs[i], xs[i]] h = .ok (.bl true) h) : m__law_same (n + 1) [x, y] h = .ok (.bl true) h := by
  have hl2 : xs.length ≤ sizeLine := Nat.le_trans hl (by decide)
  have hb : rng1 (.int (xs.length : Int)) h = .ok (Z.intsFrom 0 xs.length, none) h := rng1_nat (by omega)
  have ea : ∀ i (hi : i < xs.length), atI xs (i : Int) = some xs[i] := fun i hi => atI_nat (List.getElem?_eq_getElem hi)
  have hi : (Z.intsFrom 0 xs.length).length ≤ sizeLine := by rw [len_from]; exact hl2
  have key : lcL none (Z.intsFrom 0 xs.length) (gN 0) aYes (aC (m__law_same n) (aCons (a2 fIx (aVar 1) (aVar 0)) (aCons (a2 fIx (aVar 2) (aVar 0)) aNil))) [none, some x, some y] (Z.intsFrom 0 xs.length) [] h = .ok ([] ++ (List.range xs.length).map fun _ => AV.bl true) h := by
    refine lc_map (k := fun i : Nat => AV.int (0 + (i : Int))) okW_none (List.range xs.length) [] fun i hi => ?_
    have hi := List.mem_range.mp hi
    refine ⟨_, rfl, ?_⟩
    have := hs i hi
    rcases hx with rfl | ⟨k, rfl, ek⟩ <;> rcases hy with rfl | ⟨k', rfl, ek'⟩
    · simp [ea i hi, this]
    · simp [ea i hi, this, ek']
    · simp [ea i hi, this, ek]
    · simp [ea i hi, this, ek, ek']
  have kb : blsOf ((List.range xs.length).map fun _ => AV.bl true) = some ((List.range xs.length).map fun _ => true) := bls_map (fun _ : Nat => true) _
  rcases hx with rfl | ⟨k, rfl, ek⟩ <;> rcases hy with rfl | ⟨k', rfl, ek'⟩
  · simp [m__law_same, b__law_same, bEnv, hl2, hb, hi, key, kb]
  · simp [m__law_same, b__law_same, bEnv, hl2, hb, hi, key, kb, ek']
  · simp [m__law_same, b__law_same, bEnv, hl2, hb, hi, key, kb, ek]
  · simp [m__law_same, b__law_same, bEnv, hl2, hb, hi, key, kb, ek, ek']
theorem same_tup {h : AH} {n : Nat} {xs : List AV} (hl : xs.length ≤ 100000) (hs : ∀ i (_ : i < xs.length), m__law_same n [xs[i], xs[i]] h = .ok (.bl true) h) : m__law_same (n + 1) [.tup xs, .tup xs] h = .ok (.bl true) h := by
  have hl2 : xs.length ≤ sizeLine := Nat.le_trans hl (by decide)
  have hb : rng1 (.int (xs.length : Int)) h = .ok (Z.intsFrom 0 xs.length, none) h := rng1_nat (by omega)
  have ea : ∀ i (hi : i < xs.length), atI xs (i : Int) = some xs[i] := fun i hi => atI_nat (List.getElem?_eq_getElem hi)
  have hi : (Z.intsFrom 0 xs.length).length ≤ sizeLine := by rw [len_from]; exact hl2
  have key : lcL none (Z.intsFrom 0 xs.length) (gN 0) aYes (aC (m__law_same n) (aCons (a2 fIx (aVar 1) (aVar 0)) (aCons (a2 fIx (aVar 2) (aVar 0)) aNil))) [none, some (.tup xs), some (.tup xs)] (Z.intsFrom 0 xs.length) [] h = .ok ([] ++ (List.range xs.length).map fun _ => AV.bl true) h := by
    refine lc_map (k := fun i : Nat => AV.int (0 + (i : Int))) okW_none (List.range xs.length) [] fun i hi => ?_
    have hi := List.mem_range.mp hi
    refine ⟨_, rfl, ?_⟩
    have := hs i hi
    simp [ea i hi, this]
  have kb : blsOf ((List.range xs.length).map fun _ => AV.bl true) = some ((List.range xs.length).map fun _ => true) := bls_map (fun _ : Nat => true) _
  simp [m__law_same, b__law_same, bEnv, hl2, hb, hi, key, kb]
theorem same_self (h : AH) : ∀ (n : Nat) (x : AV), okD n x = true → m__law_same (n + 1) [x, x] h = .ok (.bl true) h
  | n, .non, _ => by simp [m__law_same, b__law_same]
  | n, .bl b, _ => by simp [m__law_same, b__law_same]
  | n, .int b, _ => by simp [m__law_same, b__law_same]
  | n, .str b, _ => by simp [m__law_same, b__law_same]
  | 0, .tup xs, d => by simp [okD] at d
  | 0, .lst xs, d => by simp [okD] at d
  | n + 1, .tup xs, d => by
    simp only [okD, Bool.and_eq_true, decide_eq_true_eq] at d
    exact same_tup d.1 fun i hi => same_self h n xs[i] (okDs_get d.2 (List.getElem?_eq_getElem hi))
  | n + 1, .lst xs, d => by
    simp only [okD, Bool.and_eq_true, decide_eq_true_eq] at d
    exact same_lst d.1 (.inl rfl) (.inl rfl) fun i hi => same_self h n xs[i] (okDs_get d.2 (List.getElem?_eq_getElem hi))
  | n, .dk _ _, d => by simp [okD] at d
  | n, .ref _, d => by simp [okD] at d
  | n, .kst _, d => by simp [okD] at d
  | n, .xc _, d => by simp [okD] at d
theorem same_ok {h : AH} {n : Nat} {x y : AV} {xs : List AV} (hl : xs.length ≤ 100000) (hx : IsL h x xs) (hy : IsL h y xs) (hd : okDs n xs = true) : m__law_same (n + 2) [x, y] h = .ok (.bl true) h :=
  same_lst hl hx hy fun i hi => same_self h n xs[i] (okDs_get hd (List.getElem?_eq_getElem hi))
structure Cel (h : AH) (a d l e : Nat) (day : Int) (ks : List Key) (xs ws es : List AV) : Prop where
  qc : h[a]? = some (CellarC day d l e)
  qd : h[d]? = some (.dk ks xs)
  ql : h[l]? = some (.lst ws)
  qe : h[e]? = some (.lst es)
  ne : l ≠ e
section
variable {h : AH} {a d l e : Nat} {day : Int} {ks : List Key} {xs ws es : List AV}
theorem ne_of_get {h : AH} {i j : Nat} {x y : Cell} (hi : h[i]? = some x) (hj : h[j]? = some y) (hn : x ≠ y) : i ≠ j := fun e => hn (by subst e; rw [hi] at hj; exact Option.some.inj hj)
theorem Cel.app (q : Cel h a d l e day ks xs ws es) (g : AH) : Cel (h ++ g) a d l e day ks xs ws es := ⟨get_app q.qc, get_app q.qd, get_app q.ql, get_app q.qe, q.ne⟩
theorem Cel.put (q : Cel h a d l e day ks xs ws es) {k c : Nat} {fs : List (Nat × AV)} (hk : h[k]? = some (.ins c fs)) (hc : c ≠ 8) (y : Cell) : Cel (h.set k y) a d l e day ks xs ws es :=
  ⟨by rw [get_set_ne (ne_of_get hk q.qc (by simp [CellarC, hc]))]; exact q.qc, by rw [get_set_ne (ne_of_get hk q.qd (by simp))]; exact q.qd, by rw [get_set_ne (ne_of_get hk q.ql (by simp))]; exact q.ql, by rw [get_set_ne (ne_of_get hk q.qe (by simp))]; exact q.qe, q.ne⟩
theorem Cel.put_d (q : Cel h a d l e day ks xs ws es) (ks' : List Key) (xs' : List AV) : Cel (h.set d (.dk ks' xs')) a d l e day ks' xs' ws es :=
  ⟨by rw [get_set_ne (ne_of_get q.qd q.qc (by simp [CellarC]))]; exact q.qc, get_set_eq q.qd, by rw [get_set_ne (ne_of_get q.qd q.ql (by simp))]; exact q.ql, by rw [get_set_ne (ne_of_get q.qd q.qe (by simp))]; exact q.qe, q.ne⟩
theorem Cel.put_l (q : Cel h a d l e day ks xs ws es) (ws' : List AV) : Cel (h.set l (.lst ws')) a d l e day ks xs ws' es :=
  ⟨by rw [get_set_ne (ne_of_get q.ql q.qc (by simp [CellarC]))]; exact q.qc, by rw [get_set_ne (ne_of_get q.ql q.qd (by simp))]; exact q.qd, get_set_eq q.ql, by rw [get_set_ne q.ne]; exact q.qe, q.ne⟩
theorem Cel.put_e (q : Cel h a d l e day ks xs ws es) (es' : List AV) : Cel (h.set e (.lst es')) a d l e day ks xs ws es' :=
  ⟨by rw [get_set_ne (ne_of_get q.qe q.qc (by simp [CellarC]))]; exact q.qc, by rw [get_set_ne (ne_of_get q.qe q.qd (by simp))]; exact q.qd, by rw [get_set_ne (Ne.symm q.ne)]; exact q.ql, get_set_eq q.qe, q.ne⟩
@[simp] theorem last_set' (h : AH) (i : Nat) (z x y : Cell) : (h.set i z ++ [x]).set h.length y = h.set i z ++ [y] := by
  have := last_set (h.set i z) x y
  rwa [List.length_set] at this
theorem init_wheel' {h : AH} {nm : Str} {i sort shelf : Nat} {z : Cell} {grams day : Int} : m_Wheel___init__ [.ref h.length, .str nm, .ref sort, .ref shelf, .int grams, .int day] (h.set i z ++ [.ins 6 []]) = .ok .non (h.set i z ++ [.ins 6 (wheelF nm sort shelf grams 0 day day day false)]) := by
  have := init_wheel (h := h.set i z) (nm := nm) (sort := sort) (shelf := shelf) (grams := grams) (day := day)
  rwa [List.length_set] at this
def sortF (nm : Str) (m : Bool) (tg wg : AV) (rs : List Str) (st : AV) : List (Nat × AV) := [(0, .str "sort"), (1, .str nm), (5, .bl m), (6, tg), (7, wg), (8, .lst (rs.map AV.str)), (9, st)]
def batchC (nm : Str) (left : Int) : Cell := .ins 5 [(0, .str "batch"), (1, .str nm), (10, .int left)]
def shelfC (nm : Str) (r : Nat) : Cell := .ins 2 [(0, .str "shelf"), (1, .str nm), (4, .ref r)]
def roomC (nm : Str) (x y : Int) : Cell := .ins 1 [(0, .str "room"), (1, .str nm), (2, .int x), (3, .int y)]
theorem stands_ok {h : AH} {f s r : Nat} {fnm sn rn : Str} {m : Bool} {tg wg st : AV} {rs : List Str} {x y : Int} {k : Nat} (hf : h[f]? = some (shelfC fnm r)) (hr : h[r]? = some (roomC rn x y)) (hs : h[s]? = some (.ins 3 (sortF sn m tg wg rs st))) (hl : rs.length ≤ 1000) (hk : k < 1000) :
    m_stands_at [.ref f, .ref s, .int k] h = .ok (.bl (decide (rs[k]? = some rn))) h := by
  have e1 : cutA (rs.map AV.str) (some (k : Int)) (some ((k : Int) + 1)) = (rs[k]?).toList.map AV.str := by
    have i1 : HT.sIx rs.length 0 (some (k : Int)) = min k rs.length := HT.sIx_nat _ _ _
    have i2 : HT.sIx rs.length rs.length (some ((k : Int) + 1)) = min (k + 1) rs.length := HT.sIx_nat _ _ (k + 1)
    unfold cutA
    rw [List.length_map, i1, i2]
    by_cases hlt : k < rs.length
    · rw [Nat.min_eq_left (by omega), Nat.min_eq_left (by omega), ← List.map_drop, List.drop_eq_getElem_cons hlt, List.getElem?_eq_getElem hlt, show k + 1 - k = 1 by omega]
      rfl
    · rw [Nat.min_eq_right (by omega), Nat.min_eq_right (by omega), List.getElem?_eq_none (by omega)]
      simp
  simp [m_stands_at, b_stands_at, hf, hr, hs, shelfC, roomC, sortF, List.lookup, e1]
  cases rs[k]? with
  | none => simp [inA]
  | some z =>
    simp [inA]
    by_cases e : z = rn <;> simp [e]
end
end PM
set_option Elab.async false
set_option linter.all false
set_option maxRecDepth 100000
set_option maxHeartbeats 4000000
namespace PM
open PySem L2 Z
section
variable {h : AH} {a d l e : Nat} {day : Int} {ks : List Key} {xs ws es : List AV}
variable {b s f r : Nat} {nm bn sn fnm rn : Str} {left g x y : Int} {m : Bool} {tg wg st : AV} {rs : List Str}
structure WPre (h : AH) (a d l e : Nat) (day : Int) (ks : List Key) (xs ws es : List AV) (b s f r : Nat) (nm bn sn fnm rn : Str) (left x y : Int) (m : Bool) (tg wg st : AV) (rs : List Str) : Prop where
  q : Cel h a d l e day ks xs ws es
  nmo : isNm nm = true
  fr : dval ks xs (.inr nm) = none
  kb : dval ks xs (.inr bn) = some (.ref b)
  hb : h[b]? = some (batchC bn left)
  kS : dval ks xs (.inr sn) = some (.ref s)
  hs : h[s]? = some (.ins 3 (sortF sn m tg wg rs st))
  kf : dval ks xs (.inr fnm) = some (.ref f)
  hf : h[f]? = some (shelfC fnm r)
  hr : h[r]? = some (roomC rn x y)
  rl : rs.length ≤ 1000
  sl : sn.length ≤ 1000
  fl : fnm.length ≤ 1000
theorem wheel_ok (w : WPre h a d l e day ks xs ws es b s f r nm bn sn fnm rn left x y m tg wg st rs) (h1 : 1 ≤ g) (h2 : g ≤ 1000000) (hr : rs[0]? = some rn) (h3 : g ≤ left) (hk : ks.length < 100000) (hx : ks.length = xs.length) (hws : ws.length < 100000) (hes : es.length < 100000) :
    m_Cellar_new_wheel [.ref a, .str nm, .str bn, .str sn, .str fnm, .int g] h = .ok .non ((((h.set b (batchC bn (left - g)) ++ [Cell.ins 6 (wheelF nm s f g 0 day day day false)]).set d (.dk (ks ++ [.inr nm]) (xs ++ [AV.ref h.length]))).set l (.lst (ws ++ [AV.ref h.length]))).set e (.lst (es ++ [AV.tup [.int day, .str "wheel", .str nm, .str bn, .str sn, .str fnm, .int g]]))) := by
  have e1 := free_ok w.q.qc w.q.qd w.nmo w.fr
  have e2 := known_ok (kd := "batch") w.q.qc w.q.qd w.kb w.hb rfl
  have e3 := known_ok (kd := "sort") w.q.qc w.q.qd w.kS w.hs rfl
  have e4 := known_ok (kd := "shelf") w.q.qc w.q.qd w.kf w.hf rfl
  have e0 := w.q.qc
  have e5 := grams_ok (h := h) h1 h2
  have e6 := stands_ok (k := 0) w.hf w.hr w.hs w.rl (by decide)
  rw [decide_eq_true hr] at e6
  simp only [Int.ofNat_zero, Int.natCast_zero] at e6
  have e7 := enough_ok (h := h) h3
  have e8 := w.hb
  have q1 := w.q.put w.hb (by decide) (batchC bn (left - g))
  have q2 := q1.app [Cell.ins 6 (wheelF nm s f g 0 day day day false)]
  have q3 := q2.put_d (ks ++ [.inr nm]) (xs ++ [AV.ref h.length])
  have q4 := q3.put_l (ws ++ [AV.ref h.length])
  have hz : (100000 : Nat) ≤ sizeLine := by decide
  have hkk : ks.length < sizeLine := by omega
  have hww : ws.length < sizeLine := by omega
  have hee : es.length < sizeLine := by omega
  have e9 := hold_ok (t := h.length) (nm := nm) q2.qc q2.qd (by have := get_last (h.set b (batchC bn (left - g))) (.ins 6 (wheelF nm s f g 0 day day day false)); rw [List.length_set] at this; exact this) rfl hkk
  rw [dput_new w.fr hx] at e9
  have f1 := q1.qc
  have f2 := q2.qc
  have f3 := q3.qc
  have f4 := q4.qc
  have f5 := q3.ql
  have f6 := q4.qe
  simp only [batchC, CellarC] at e0 e8 e9 f1 f2 f3 f4 f5 f6
  simp [m_Cellar_new_wheel, b_Cellar_new_wheel, e0, e1, e2, e3, e4, e5, e6, e7, e8, e9, f1, f2, f3, f4, f5, f6, hww, hee, batchC, List.lookup, flG, init_wheel']
def pt (z : Str × Int) : AV := .tup [.str z.1, .int z.2]
theorem okW_IsL {h : AH} {x : AV} {xs : List AV} (hx : IsL h x xs) : okW h xs (watch x) = true := by
  rcases hx with rfl | ⟨k, rfl, ek⟩
  · exact okW_none
  · exact okW_some ek
theorem lsq_IsL {h : AH} {x : AV} {xs : List AV} (hx : IsL h x xs) : lsqOf h x = some xs := by
  rcases hx with rfl | ⟨k, rfl, ek⟩
  · rfl
  · simp [ek]
theorem IsL.app {h g : AH} {x : AV} {xs : List AV} (hx : IsL h x xs) : IsL (h ++ g) x xs := by
  rcases hx with rfl | ⟨k, rfl, ek⟩
  · exact .inl rfl
  · exact .inr ⟨k, rfl, get_app ek⟩
def farmC (nm : Str) : Cell := .ins 0 [(0, .str "farm"), (1, .str nm)]
def isFarm (h : AH) (ks : List Key) (xs : List AV) (f : Str) : Prop := ∃ t, dval ks xs (.inr f) = some (.ref t) ∧ h[t]? = some (farmC f)
theorem batch_ok {p : AV} {ps : List (Str × Int)} (q : Cel h a d l e day ks xs ws es) (hn : isNm nm = true) (fr : dval ks xs (.inr nm) = none) (hp : IsL h p (ps.map pt)) (hf : ∀ z ∈ ps, isFarm h ks xs z.1) (hg : ∀ z ∈ ps, 1 ≤ z.2 ∧ z.2 ≤ 1000000) (hl : ps.length ≤ 1000) (hk : ks.length < 100000) (hx : ks.length = xs.length) (hes : es.length < 100000) (hpe : p ≠ .ref e) (hpd : p ≠ .ref d) :
    m_Cellar_new_batch [.ref a, .str nm, p] h = .ok .non (((h ++ [batchC nm (ps.map (·.2)).sum]).set d (.dk (ks ++ [.inr nm]) (xs ++ [AV.ref h.length]))).set e (.lst (es ++ [AV.tup [.int day, .str "batch", .str nm, .tup (ps.map pt)]]))) := by
  have hz : (100000 : Nat) ≤ sizeLine := by decide
  have e0 := q.qc
  have e1 := free_ok q.qc q.qd hn fr
  have e2 := lsq_IsL hp
  have e3 : ∃ env' h', loopL (watch p) (ps.map pt) (gT 2 (gCons' (gN 3) (gCons' (gN 4) gNil'))) (sDrop (aMeth 8 m_Cellar_known (aVar 0) (aCons (aVar 3) (aCons (aK (.str "farm")) aNil)))) (ps.map pt) [some (.ref a), some (.str nm), some p, none, none] h = .nx env' h' ∧ h' = h ∧ ∃ x3 x4, env' = [some (.ref a), some (.str nm), some p, x3, x4] := by
    refine loop_nx (P := fun _ env h' => h' = h ∧ ∃ x3 x4, env = [some (.ref a), some (.str nm), some p, x3, x4]) (fun i env h' ⟨hh, _⟩ => by rw [hh]; exact okW_IsL hp) ps 0 _ _ ⟨rfl, none, none, rfl⟩ ?_
    rintro j z hj env h' ⟨rfl, x3, x4, rfl⟩
    obtain ⟨t, k1, k2⟩ := hf z (List.mem_of_getElem? hj)
    have k3 := known_ok (kd := "farm") q.qc q.qd k1 k2 rfl
    exact ⟨_, _, _, _, rfl, .inl (by simp [e0, CellarC, k3]; exact ⟨rfl, rfl⟩), rfl, _, _, rfl⟩
  obtain ⟨env1, h1, l1, rfl, x3, x4, rfl⟩ := e3
  have e4 : ∃ env' h', loopL (watch p) (ps.map pt) (gT 2 (gCons' (gN 3) (gCons' (gN 4) gNil'))) (sDrop (aC m_check_grams (aCons (aVar 4) aNil))) (ps.map pt) [some (.ref a), some (.str nm), some p, x3, x4] h1 = .nx env' h' ∧ h' = h1 ∧ ∃ x3 x4, env' = [some (.ref a), some (.str nm), some p, x3, x4] := by
    refine loop_nx (P := fun _ env h' => h' = h1 ∧ ∃ x3 x4, env = [some (.ref a), some (.str nm), some p, x3, x4]) (fun i env h' ⟨hh, _⟩ => by rw [hh]; exact okW_IsL hp) ps 0 _ _ ⟨rfl, _, _, rfl⟩ ?_
    rintro j z hj env h' ⟨rfl, x3, x4, rfl⟩
    have k1 := hg z (List.mem_of_getElem? hj)
    have k3 := grams_ok (h := h') k1.1 k1.2
    exact ⟨_, _, _, _, rfl, .inl (by simp [k3]; exact ⟨rfl, rfl⟩), rfl, _, _, rfl⟩
  obtain ⟨env2, h2, l2, rfl, y3, y4, rfl⟩ := e4
  have hpl : ps.length ≤ sizeLine := by omega
  have e5 : lcL (watch p) (ps.map pt) (gT 2 (gCons' (gN 0) (gCons' (gN 1) gNil'))) aYes (aVar 1) [none, none] (ps.map pt) [] h2 = .ok ([] ++ ps.map fun z => AV.int z.2) h2 :=
    lc_map (okW_IsL hp) ps [] fun z hz => ⟨_, rfl, rfl⟩
  have e6 : intsOf (ps.map fun z => AV.int z.2) = some (ps.map (·.2)) := ints_map _ _
  have e7 : sumOk (ps.map (·.2)) = true := by
    unfold sumOk
    rw [Bool.and_eq_true, List.all_eq_true, decide_eq_true_eq, List.length_map]
    refine ⟨fun n hn => ?_, by omega⟩
    obtain ⟨z, hz, rfl⟩ := List.mem_map.mp hn
    have := hg z hz
    rw [Bool.and_eq_true, decide_eq_true_eq, decide_eq_true_eq]
    omega
  have q2 := q.app [batchC nm (ps.map (·.2)).sum]
  have q3 := q2.put_d (ks ++ [.inr nm]) (xs ++ [AV.ref h2.length])
  have hkk : ks.length < sizeLine := by omega
  have hee : es.length < sizeLine := by omega
  have e9 := hold_ok (t := h2.length) (nm := nm) q2.qc q2.qd (get_last _ _) rfl hkk
  rw [dput_new fr hx] at e9
  have f2 := q2.qc
  have f3 := q3.qc
  have f4 := q3.qe
  have f5 : seqOf ((h2 ++ [batchC nm (ps.map (·.2)).sum]).set d (.dk (ks ++ [.inr nm]) (xs ++ [AV.ref h2.length]))) p = some (ps.map pt) := by
    rcases hp with rfl | ⟨k, rfl, ek⟩
    · rfl
    · have : d ≠ k := fun z => hpd (by rw [z])
      simp only [seqOf]
      rw [get_set_ne this, get_app ek]
  simp only [batchC, CellarC] at e0 e9 f2 f3 f4 f5
  simp [m_Cellar_new_batch, b_Cellar_new_batch, e0, e1, e2, -lsqOf, -seqOf, -watch, l1, l2, hpl, bEnv, e5, e6, e7, e9, f2, f3, f4, f5, hee, batchC, List.lookup, init_batch]
end
end PM
set_option Elab.async false
set_option linter.all false
set_option maxRecDepth 100000
set_option maxHeartbeats 4000000
namespace PM
open PySem L2 Z
section
variable {h : AH} {a d l e : Nat} {day : Int} {ks : List Key} {xs ws es : List AV}
variable {w f f' s r : Nat} {nm fnm rn sn : Str} {g x y : Int} {p : Nat} {td wd rd : Int} {m : Bool} {tg wg st : AV} {rs : List Str}
structure MPre (h : AH) (a d l e : Nat) (day : Int) (ks : List Key) (xs ws es : List AV) (w f f' s r : Nat) (nm fnm rn sn : Str) (g : Int) (p : Nat) (td wd rd x y : Int) (m : Bool) (tg wg st : AV) (rs : List Str) : Prop where
  q : Cel h a d l e day ks xs ws es
  kw : dval ks xs (.inr nm) = some (.ref w)
  hw : h[w]? = some (.ins 6 (wheelF nm s f g (p : Int) td wd rd false))
  kf : dval ks xs (.inr fnm) = some (.ref f')
  hf : h[f']? = some (shelfC fnm r)
  hr : h[r]? = some (roomC rn x y)
  hs : h[s]? = some (.ins 3 (sortF sn m tg wg rs st))
  rl : rs.length ≤ 1000
  pl : p < 900
  nl : nm.length ≤ 1000
  fl : fnm.length ≤ 1000
end
structure Wh where
  nm : Str
  sort : Nat
  shelf : Nat
  grams : Int
  place : Int
  td : Int
  wd : Int
  rd : Int
  gone : Bool
def Wh.cell (w : Wh) : Cell := .ins 6 (wheelF w.nm w.sort w.shelf w.grams w.place w.td w.wd w.rd w.gone)
structure WR where
  k : Nat
  w : Wh
  fnm : Str
  r : Nat
  rn : Str
  dp : Int
  wm : Int
structure WR.ok (h : AH) (z : WR) : Prop where
  c : h[z.k]? = some z.w.cell
  f : h[z.w.shelf]? = some (shelfC z.fnm z.r)
  r : h[z.r]? = some (roomC z.rn z.dp z.wm)
  d0 : 0 ≤ z.dp
  d1 : z.dp ≤ 100
  w0 : 0 ≤ z.wm
  w1 : z.wm ≤ 40
def WR.loss (z : WR) : Int := z.w.grams * (100 - z.dp) * z.wm / 100000
def WR.next (z : WR) : WR := { z with w := { z.w with grams := z.w.grams - z.loss } }
def WR.row (z : WR) : AV := .tup [.str z.w.nm, .str z.rn, .str z.fnm, .int z.loss]
def rowsOf (zs : List WR) : List AV := (zs.filter fun z => !z.w.gone).map WR.row
def setAll : List WR → AH → AH
  | [], h => h
  | z :: zs, h => setAll zs (if z.w.gone then h else h.set z.k z.next.w.cell)
theorem setAll_len : ∀ (zs : List WR) (h : AH), (setAll zs h).length = h.length
  | [], h => rfl
  | z :: zs, h => by
    unfold setAll
    rw [setAll_len zs]
    split <;> simp
theorem WR.ok.put {h : AH} {z y : WR} (o : z.ok h) (oy : y.ok h) (hn : y.k ≠ z.k) (c : Cell) : z.ok (h.set y.k c) :=
  ⟨by rw [get_set_ne hn]; exact o.c, by rw [get_set_ne (ne_of_get oy.c o.f (by simp [Wh.cell, shelfC]))]; exact o.f, by rw [get_set_ne (ne_of_get oy.c o.r (by simp [Wh.cell, roomC]))]; exact o.r, o.d0, o.d1, o.w0, o.w1⟩
theorem WR.ok.app {h g : AH} {z : WR} (o : z.ok h) : z.ok (h ++ g) := ⟨get_app o.c, get_app o.f, get_app o.r, o.d0, o.d1, o.w0, o.w1⟩
theorem loss_ok {h : AH} {z : WR} (o : z.ok h) : m_night_loss [.ref z.k] h = .ok (.int z.loss) h := by
  have e1 := o.c
  have e2 := o.f
  have e3 := o.r
  simp only [Wh.cell, wheelF, shelfC, roomC] at e1 e2 e3
  have b1 := o.d0
  have b2 := o.d1
  have b3 := o.w0
  have b4 := o.w1
  have m1 : -18446744073709551616 < 100 - z.dp := by omega
  have m2 : 100 - z.dp < 18446744073709551616 := by omega
  have m3 : -18446744073709551616 < z.wm := by omega
  have m4 : z.wm < 18446744073709551616 := by omega
  simp [m_night_loss, b_night_loss, e1, e2, e3, List.lookup, WR.loss, m1, m2, m3, m4]
abbrev nightB : AS := (sIf (aNot (aB (aFld 17 (aVar 2))))
 (sSeq (sAsg (aC m_night_loss (aCons (aVar 2) aNil)) (gN 3))
 (sSeq (sFldAugA flG 10 fSub (aVar 2) (aVar 3))
 (sDrop (aMtL fAppend (aVar 1) (aCons (aTup (aCons (aFld 1 (aVar 2)) (aCons (aFld 1 (aFld 4 (aFld 12 (aVar 2)))) (aCons (aFld 1 (aFld 12 (aVar 2))) (aCons (aVar 3) aNil))))) aNil)))))
 sNext)
theorem night_step {h : AH} {z : WR} {a n : Nat} {rows : List AV} {x3 : Option AV} (o : z.ok h) (hn : h.length = n) (hr : rows.length < 100000) :
    ∃ x3', nightB [some (.ref a), some (.ref n), some (.ref z.k), x3] (h ++ [.lst rows]) = .nx [some (.ref a), some (.ref n), some (.ref z.k), x3'] ((if z.w.gone then h else h.set z.k z.next.w.cell) ++ [.lst (rows ++ rowsOf [z])]) := by
  subst hn
  have hk := get_lt o.c
  have o1 : z.ok (h ++ [Cell.lst rows]) := o.app
  have e0 := loss_ok o1
  have e1 := o1.c
  have hrr : rows.length < sizeLine := Nat.lt_of_lt_of_le hr (by decide)
  by_cases hg : z.w.gone = true
  · simp only [Wh.cell, wheelF] at e1
    exact ⟨x3, by simp [e1, hg, rowsOf, List.lookup]⟩
  · have hg : z.w.gone = false := by simpa using hg
    have s1 : ∀ c, (h ++ [Cell.lst rows]).set z.k c = h.set z.k c ++ [.lst rows] := fun c => List.set_append_left _ _ hk
    have g1 : ∀ c, (h.set z.k c ++ [Cell.lst rows])[z.k]? = some c := fun c => get_app (get_set_eq o.c)
    have o2 : ∀ c, (h.set z.k c ++ [Cell.lst rows])[z.w.shelf]? = some (shelfC z.fnm z.r) := fun c => get_app (by rw [get_set_ne (ne_of_get o.c o.f (by simp [Wh.cell, shelfC]))]; exact o.f)
    have o3 : ∀ c, (h.set z.k c ++ [Cell.lst rows])[z.r]? = some (roomC z.rn z.dp z.wm) := fun c => get_app (by rw [get_set_ne (ne_of_get o.c o.r (by simp [Wh.cell, roomC]))]; exact o.r)
    have l1 : ∀ c, (h.set z.k c ++ [Cell.lst rows])[h.length]? = some (.lst rows) := fun c => by have := get_last (h.set z.k c) (.lst rows); rwa [List.length_set] at this
    simp only [Wh.cell, wheelF, shelfC, roomC] at e1 o2 o3
    exact ⟨some (.int z.loss), by simp [e1, hg, e0, List.lookup, flG, s1, g1, o2, o3, l1, hrr, rowsOf, WR.row, WR.next, Wh.cell, wheelF]⟩
theorem rowsOf_cons (z : WR) (zs : List WR) : rowsOf (z :: zs) = rowsOf [z] ++ rowsOf zs := by
  unfold rowsOf
  rw [show z :: zs = [z] ++ zs from rfl, List.filter_append, List.map_append]
theorem rowsOf_len (zs : List WR) : (rowsOf zs).length ≤ zs.length := by
  unfold rowsOf
  rw [List.length_map]
  exact List.length_filter_le _ _
theorem night_loop {a l n : Nat} {all : List AV} : ∀ (zs : List WR) (h : AH) (rows : List AV) (x2 x3 : Option AV), h.length = n → h[l]? = some (.lst all) → (∀ z ∈ zs, z.ok h) → (zs.map (·.k)).Nodup → rows.length + zs.length < 100000 →
    ∃ x2' x3', loopL (some l) all (gN 2) nightB (zs.map fun z => AV.ref z.k) [some (.ref a), some (.ref n), x2, x3] (h ++ [.lst rows]) = .nx [some (.ref a), some (.ref n), x2', x3'] (setAll zs h ++ [.lst (rows ++ rowsOf zs)])
  | [], h, rows, x2, x3, hn, hl, _, _, _ => ⟨x2, x3, by simp [loopL, okW_some (get_app hl), setAll, rowsOf]⟩
  | z :: zs, h, rows, x2, x3, hn, hl, ho, hd, hr => by
    have oz := ho z (by simp)
    simp only [List.map_cons, List.nodup_cons, List.length_cons] at hd hr
    obtain ⟨x3', e1⟩ := night_step (a := a) (x3 := x3) oz hn (rows := rows) (by omega)
    have hr1 := rowsOf_len [z]
    obtain ⟨y2, y3, e2⟩ := night_loop (a := a) (l := l) (n := n) (all := all) zs (if z.w.gone then h else h.set z.k z.next.w.cell) (rows ++ rowsOf [z]) (some (.ref z.k)) x3' (by split <;> simp [hn]) (by
      split
      · exact hl
      · rw [get_set_ne (ne_of_get oz.c hl (by simp [Wh.cell]))]; exact hl) (fun y hy => by
      have hne : z.k ≠ y.k := fun e => hd.1 (e ▸ List.mem_map_of_mem hy)
      split
      · exact ho y (List.mem_cons_of_mem _ hy)
      · exact (ho y (List.mem_cons_of_mem _ hy)).put oz hne _) hd.2 (by simp only [List.length_append, List.length_cons, List.length_nil] at hr1 ⊢; omega)
    refine ⟨y2, y3, ?_⟩
    have hw : okW (h ++ [Cell.lst rows]) all (some l) = true := okW_some (get_app hl)
    rw [List.map_cons, loopL, if_pos hw]
    have eg : gN 2 (AV.ref z.k) [some (.ref a), some (.ref n), x2, x3] (h ++ [Cell.lst rows]) = .ok [some (.ref a), some (.ref n), some (.ref z.k), x3] (h ++ [.lst rows]) := rfl
    rw [eg]
    simp only [Re.to]
    rw [e1]
    simp only []
    rw [e2, rowsOf_cons z zs, ← List.append_assoc]
    rfl
theorem Cel.setAll {a d l e : Nat} {day : Int} {ks : List Key} {xs ws es : List AV} : ∀ {zs : List WR} {h : AH}, Cel h a d l e day ks xs ws es → (∀ z ∈ zs, z.ok h) → (zs.map (·.k)).Nodup → Cel (setAll zs h) a d l e day ks xs ws es
  | [], h, q, _, _ => q
  | z :: zs, h, q, ho, hd => by
    have oz := ho z (by simp)
    simp only [List.map_cons, List.nodup_cons] at hd
    unfold PM.setAll
    refine Cel.setAll ?_ (fun y hy => ?_) hd.2
    · split
      · exact q
      · exact q.put oz.c (by decide) _
    · have hne : z.k ≠ y.k := fun e => hd.1 (e ▸ List.mem_map_of_mem hy)
      split
      · exact ho y (List.mem_cons_of_mem _ hy)
      · exact (ho y (List.mem_cons_of_mem _ hy)).put oz hne _
def nightH (zs : List WR) (a d l e : Nat) (day : Int) (es : List AV) (h : AH) : AH :=
  (((setAll zs h) ++ [Cell.lst (rowsOf zs)]).set e (.lst (es ++ [AV.tup [.int day, .str "night", .tup (rowsOf zs)]]))).set a (CellarC (day + 1) d l e)
theorem pass_ok {h : AH} {a d l e : Nat} {day : Int} {ks : List Key} {xs es : List AV} {zs : List WR} (q : Cel h a d l e day ks xs (zs.map fun z => AV.ref z.k) es) (ho : ∀ z ∈ zs, z.ok h) (hd : (zs.map (·.k)).Nodup) (hz : zs.length < 1000) (hes : es.length < 100000) :
    m_Cellar_pass_night [.ref a] h = .ok .non (nightH zs a d l e day es h) := by
  obtain ⟨x2, x3, lp⟩ := night_loop (a := a) (l := l) (n := h.length) (all := zs.map fun z => AV.ref z.k) zs h [] none none rfl q.ql ho hd (by simp; omega)
  rw [List.nil_append] at lp
  dsimp only [nightB, aFld] at lp
  have q0 := q.app [.lst []]
  have q1 := (q.setAll ho hd).app [.lst (rowsOf zs)]
  have q2 := q1.put_e (es ++ [AV.tup [.int day, .str "night", .tup (rowsOf zs)]])
  have hee : es.length < sizeLine := Nat.lt_of_lt_of_le hes (by decide)
  have e0 := q0.qc
  have e1 := q0.ql
  have f0 := q1.qc
  have f1 := q1.qe
  have f2 := q2.qc
  have l1 : (setAll zs h ++ [Cell.lst (rowsOf zs)])[h.length]? = some (.lst (rowsOf zs)) := by
    have := get_last (setAll zs h) (.lst (rowsOf zs)); rwa [setAll_len] at this
  simp only [CellarC] at e0 f0 f2
  simp [m_Cellar_pass_night, b_Cellar_pass_night, e0, e1, lp, f0, f1, f2, l1, hee, List.lookup, flG, nightH, CellarC]
end PM
set_option Elab.async false
set_option linter.all false
set_option maxRecDepth 100000
set_option maxHeartbeats 4000000
namespace PM
open PySem L2 Z
end PM
set_option Elab.async false
set_option linter.all false
set_option maxRecDepth 100000
set_option maxHeartbeats 4000000
namespace PM
open PySem L2 Z
section
variable {h : AH} {a d l e : Nat} {day : Int} {ks : List Key} {xs ws es : List AV} {nm : Str} {m : Bool} {t1 t2 w1 w2 : Int} {p : AV} {ro : List (Str × Int × Int)}
end
end PM
set_option Elab.async false
set_option linter.all false
set_option maxRecDepth 100000
set_option maxHeartbeats 4000000
namespace PM
open PySem L2 Z
section
variable {h : AH} {a d l e : Nat} {day : Int} {ks : List Key} {xs ws es : List AV} {nm : Str}
theorem room_ok {x y : Int} (q : Cel h a d l e day ks xs ws es) (hn : isNm nm = true) (fr : dval ks xs (.inr nm) = none) (x0 : 0 ≤ x) (x1 : x ≤ 100) (y0 : 0 ≤ y) (y1 : y ≤ 40) (hk : ks.length < 100000) (hx : ks.length = xs.length) :
    m_Cellar_new_room [.ref a, .str nm, .int x, .int y] h = .ok .non ((h ++ [roomC nm x y]).set d (.dk (ks ++ [.inr nm]) (xs ++ [AV.ref h.length]))) := by
  have e0 := q.qc
  have e1 := free_ok q.qc q.qd hn fr
  have e2 := bounds_ok (h := h) x0 x1
  have e3 := bounds_ok (h := h) y0 y1
  have q2 := q.app [roomC nm x y]
  have hkk : ks.length < sizeLine := Nat.lt_of_lt_of_le hk (by decide)
  have e9 := hold_ok (t := h.length) (nm := nm) q2.qc q2.qd (get_last _ _) rfl hkk
  rw [dput_new fr hx] at e9
  have f2 := q2.qc
  simp only [CellarC, roomC] at e0 e9 f2
  simp [m_Cellar_new_room, b_Cellar_new_room, e0, e1, e2, e3, init_room, e9, f2, roomC]
theorem here_ok {w : Nat} {c : Nat} {fs : List (Nat × AV)} (hw : h[w]? = some (.ins c fs)) (hg : fs.lookup 17 = some (.bl false)) : m_check_here [.ref w] h = .ok .non h := by
  simp [m_check_here, b_check_here, hw, hg]
theorem weight_ok {w : Nat} {z : Wh} (q : Cel h a d l e day ks xs ws es) (kw : dval ks xs (.inr nm) = some (.ref w)) (hw : h[w]? = some z.cell) (hg : z.gone = false) : m_Cellar_weight [.ref a, .str nm] h = .ok (.int z.grams) h := by
  have e0 := q.qc
  simp only [Wh.cell] at hw
  have e1 := known_ok (kd := "wheel") q.qc q.qd kw hw rfl
  have e2 := here_ok hw (by rw [hg]; rfl)
  simp only [CellarC, wheelF] at e0 hw
  simp [m_Cellar_weight, b_Cellar_weight, e0, e1, e2, hw, List.lookup]
end
theorem eval_meth {c : Nat} {m : AF} {o : AE} {ma : AA} {env : AEnv} {h h1 : AH} {x : AV} {vs : List AV} {fs : List (Nat × AV)} {r : Re AV} (ho : o env h = .ok x h) (hi : insOf h x = some (c, fs)) (ha : ma env h = .ok vs h1) (hm : m (x :: vs) h1 = r) : aMeth c m o ma env h = r := by
  unfold aMeth
  rw [ho, Re.bind_ok, hi]
  simp only [if_true, ha, Re.bind_ok, hm]
theorem eval_call {m : AF} {ma : AA} {env : AEnv} {h h1 : AH} {vs : List AV} {r : Re AV} (ha : ma env h = .ok vs h1) (hm : m vs h1 = r) : aC m ma env h = r := by
  unfold aC
  rw [ha, Re.bind_ok, hm]
theorem drop_ok {e : AE} {env : AEnv} {h h1 : AH} {x : AV} (he : e env h = .ok x h1) : sDrop e env h = .nx env h1 := by
  unfold sDrop
  rw [he, Re.to_ok]
theorem set_ok {e : AE} {i : Nat} {env : AEnv} {h h1 : AH} {x : AV} (he : e env h = .ok x h1) : sAsg e (gN i) env h = .nx (env.set i (some x)) h1 := by
  unfold sAsg
  rw [he, Re.to_ok]; rfl
theorem from0 (n : Nat) : Z.intsFrom 0 n = (List.range n).map fun i : Nat => AV.int (i : Int) := by
  unfold Z.intsFrom
  simp
theorem for_rng {n i : Nat} {a : AE} {body : AS} {P : Nat → AEnv → AH → Prop} {env : AEnv} {h : AH} (hn : n ≤ 1000000) (ha : a env h = .ok (.int (n : Int)) h) (h0 : P 0 env h)
    (hs : ∀ j, j < n → ∀ env h, P j env h → ∃ e2 h2, body (env.set i (some (.int (j : Int)))) h = .nx e2 h2 ∧ P (j + 1) e2 h2) :
    ∃ e2 h2, sFor (iRange1 a) (gN i) body env h = .nx e2 h2 ∧ P n e2 h2 := by
  have hl := loop_nx (wt := none) (all := Z.intsFrom 0 n) (g := gN i) (body := body) (k := fun i : Nat => AV.int (i : Int)) (P := P) (fun _ _ _ _ => okW_none) (List.range n) 0 env h h0 (fun j y hj env h hP => by
    obtain ⟨hj1, hj2⟩ := List.getElem?_eq_some_iff.mp hj
    simp at hj1 hj2
    subst hj2
    rw [Nat.zero_add] at hP
    obtain ⟨e2, h2, q1, q2⟩ := hs j hj1 env h hP
    exact ⟨_, _, e2, h2, rfl, .inl q1, by rw [Nat.zero_add]; exact q2⟩)
  obtain ⟨e2, h2, q1, q2⟩ := hl
  rw [List.length_range, Nat.zero_add] at q2
  refine ⟨e2, h2, ?_, q2⟩
  unfold sFor iRange1
  rw [ha]
  simp only [Re.bind_ok]
  rw [rng1_nat hn]
  simp only [Re.to_ok]
  rw [from0] at q1 ⊢
  exact q1
theorem for_rng2 {lo n i : Nat} {a b : AE} {body : AS} {P : Nat → AEnv → AH → Prop} {env : AEnv} {h : AH} (hlo : lo ≤ 1000000) (hn : n ≤ 1000000) (ha : a env h = .ok (.int (lo : Int)) h) (hb : b env h = .ok (.int (n : Int)) h) (h0 : P 0 env h)
    (hs : ∀ j, lo + j < n → ∀ env h, P j env h → ∃ e2 h2, body (env.set i (some (.int ((lo + j : Nat) : Int)))) h = .nx e2 h2 ∧ P (j + 1) e2 h2) :
    ∃ e2 h2, sFor (iRange2 a b) (gN i) body env h = .nx e2 h2 ∧ P (n - lo) e2 h2 := by
  have hl := loop_nx (wt := none) (all := Z.intsFrom lo (n - lo)) (g := gN i) (body := body) (k := fun i : Nat => AV.int ((lo : Int) + (i : Int))) (P := P) (fun _ _ _ _ => okW_none) (List.range (n - lo)) 0 env h h0 (fun j y hj env h hP => by
    obtain ⟨hj1, hj2⟩ := List.getElem?_eq_some_iff.mp hj
    simp at hj1 hj2
    subst hj2
    rw [Nat.zero_add] at hP
    obtain ⟨e2, h2, q1, q2⟩ := hs j (by omega) env h hP
    rw [Int.natCast_add] at q1
    exact ⟨_, _, e2, h2, rfl, .inl q1, by rw [Nat.zero_add]; exact q2⟩)
  obtain ⟨e2, h2, q1, q2⟩ := hl
  rw [List.length_range, Nat.zero_add] at q2
  refine ⟨e2, h2, ?_, q2⟩
  unfold sFor iRange2
  rw [ha]
  simp only [Re.bind_ok, hb]
  rw [rng2_nat hlo hn]
  simp only [Re.to_ok]
  exact q1
mutual
theorem okD_succ : ∀ {n : Nat} {x : AV}, okD n x = true → okD (n + 1) x = true
  | _, .non, _ => rfl | _, .bl _, _ => rfl | _, .int _, _ => rfl | _, .str _, _ => rfl
  | 0, .tup xs, h => by simp [okD] at h
  | n + 1, .tup xs, h => by
    rw [okD] at h ⊢
    rw [Bool.and_eq_true] at h ⊢
    exact ⟨h.1, okDs_mono h.2⟩
  | 0, .lst xs, h => by simp [okD] at h
  | n + 1, .lst xs, h => by
    rw [okD] at h ⊢
    rw [Bool.and_eq_true] at h ⊢
    exact ⟨h.1, okDs_mono h.2⟩
  | _, .dk _ _, h => by simp [okD] at h
  | _, .ref _, h => by simp [okD] at h
  | _, .kst _, h => by simp [okD] at h
  | _, .xc _, h => by simp [okD] at h
theorem okDs_mono : ∀ {n : Nat} {xs : List AV}, okDs n xs = true → okDs (n + 1) xs = true
  | _, [], _ => by simp [okDs]
  | n, x :: xs, h => by
    rw [okDs, Bool.and_eq_true] at h ⊢
    exact ⟨okD_succ h.1, okDs_mono h.2⟩
end
theorem okDs_app {n : Nat} : ∀ {xs ys : List AV}, okDs n xs = true → okDs n ys = true → okDs n (xs ++ ys) = true
  | [], ys, _, h => h
  | x :: xs, ys, h1, h2 => by
    simp only [okDs, Bool.and_eq_true, List.cons_append] at h1 ⊢
    exact ⟨h1.1, okDs_app h1.2 h2⟩
theorem cut_app (a b : List AV) : cutA (a ++ b) (some (a.length : Int)) none = b := by
  have hz : ¬ (a.length : Int) < 0 := by omega
  simp [cutA, HT.sIx, hz]
theorem seq_assoc {s t r : AS} {env env' : AEnv} {h h' : AH} (e : sSeq s t env h = .nx env' h') : sSeq s (sSeq t r) env h = r env' h' := by
  cases hs : s env h with
  | nx e1 h1 =>
    rw [seq_nx hs] at e
    rw [seq_nx hs, seq_nx e]
  | _ => simp [hs] at e
theorem seq_assoc3 {s t u r : AS} {env env' : AEnv} {h h' : AH} (e : sSeq s (sSeq t u) env h = .nx env' h') : sSeq s (sSeq t (sSeq u r)) env h = r env' h' := by
  cases hs : s env h with
  | nx e1 h1 =>
    rw [seq_nx hs] at e
    rw [seq_nx hs, seq_assoc e]
  | _ => simp [hs] at e
theorem seq_assoc4 {s t u w r : AS} {env env' : AEnv} {h h' : AH} (e : sSeq s (sSeq t (sSeq u w)) env h = .nx env' h') : sSeq s (sSeq t (sSeq u (sSeq w r))) env h = r env' h' := by
  cases hs : s env h with
  | nx e1 h1 =>
    rw [seq_nx hs] at e
    rw [seq_nx hs, seq_assoc3 e]
  | _ => simp [hs] at e
end PM
set_option Elab.async false
set_option linter.all false
set_option maxRecDepth 100000
set_option maxHeartbeats 4000000
namespace PM
open PySem L2 Z
section
variable {h : AH} {a d l e : Nat} {day : Int} {ks : List Key} {xs ws es : List AV} {nm : Str} {w : Nat} {z : Wh} {g : Int}
variable {p : AV} {ps : List Int}
end
end PM
set_option Elab.async false
set_option linter.all false
set_option maxRecDepth 100000
set_option maxHeartbeats 4000000
namespace K15
open PySem L2 Z PM
def flT : Nat → List Nat
  | 0 => [0, 1]
  | 1 => [0, 1, 2, 3]
  | 2 => [0, 1, 4]
  | 3 => [0, 1, 5, 6, 7, 8, 9]
  | 5 => [0, 1, 10]
  | 6 => [0, 1, 11, 12, 10, 13, 14, 15, 16, 17]
  | 8 => [18, 19, 20, 21]
  | _ => []
def b__law_furnished : AS :=
 (sSeq (sAsg (aMake 8 m_Cellar___init__ aNil) (gN 4))
 (sSeq (sDrop (aMeth 8 m_Cellar_new_room (aVar 4) (aCons (aK (.str "r")) (aCons (aVar 1) (aCons (aVar 2) aNil)))))
 (sSeq (sDrop (aMeth 8 m_Cellar_new_shelf (aVar 4) (aCons (aK (.str "s")) (aCons (aK (.str "r")) aNil))))
 (sSeq (sDrop (aMeth 8 m_Cellar_new_shelf (aVar 4) (aCons (aK (.str "t")) (aCons (aK (.str "r")) aNil))))
 (sSeq (sDrop (aMeth 8 m_Cellar_new_sort (aVar 4) (aCons (aK (.str "kind")) (aCons (aK (.bl false)) (aCons (aTup (aCons (aK (.int 1)) (aCons (aK (.int 3)) aNil))) (aCons (aTup (aCons (aK (.int 2)) (aCons (aK (.int 4)) aNil))) (aCons (aLst (aCons (aTup (aCons (aK (.str "r")) (aCons (aK (.int 1)) (aCons (aK (.int 60)) aNil)))) aNil)) aNil)))))))
 (sSeq (sDrop (aMeth 8 m_Cellar_new_farm (aVar 4) (aCons (aK (.str "f")) aNil)))
 (sSeq (sFor (iRange1 (aC fLen (aCons (aVar 3) aNil))) (gN 5)
 (sSeq (sDrop (aMeth 8 m_Cellar_new_batch (aVar 4) (aCons (a2 fAddS (aK (.str "m")) (aC fStrI (aCons (aVar 5) aNil))) (aCons (aLst (aCons (aTup (aCons (aK (.str "f")) (aCons (a2 fIx (aVar 3) (aVar 5)) aNil))) aNil)) aNil))))
 (sDrop (aMeth 8 m_Cellar_new_wheel (aVar 4) (aCons (a2 fAddS (aK (.str "w")) (aC fStrI (aCons (a2 fSub (aK (.int 9)) (aVar 5)) aNil))) (aCons (a2 fAddS (aK (.str "m")) (aC fStrI (aCons (aVar 5) aNil))) (aCons (aK (.str "kind")) (aCons (a2 fIxS (aK (.str "st")) (a2 fMod (aVar 5) (aK (.int 2)))) (aCons (a2 fIx (aVar 3) (aVar 5)) aNil)))))))))
 (sRet (aVar 4)))))))))
def m__law_furnished : AF := fnZ 6 b__law_furnished
def b__law_night : AS :=
 (sSeq (sAsg (aLstC aNil) (gN 4))
 (sSeq (sFor (iRange1 (aC fLen (aCons (aVar 0) aNil))) (gN 5)
 (sSeq (sAsg (a2 fDiv (a2 fMul (a2 fMul (a2 fIx (aVar 0) (aVar 5)) (a2 fSub (aK (.int 100)) (aVar 2))) (aVar 3)) (aK (.int 100000))) (gN 6))
 (sSeq (sAsg (a2 fSub (a2 fIx (aVar 0) (aVar 5)) (aVar 6)) (gSubL (aVar 0) (aVar 5)))
 (sDrop (aMtL fAppend (aVar 4) (aCons (aTup (aCons (a2 fAddS (aK (.str "w")) (aC fStrI (aCons (a2 fSub (aK (.int 9)) (aVar 5)) aNil))) (aCons (aK (.str "r")) (aCons (a2 fIxS (aK (.str "st")) (a2 fMod (aVar 5) (aK (.int 2)))) (aCons (aVar 6) aNil))))) aNil))))))
 (sRet (aTup (aCons (aVar 1) (aCons (aK (.str "night")) (aCons (aC fTuple (aCons (aVar 4) aNil)) aNil)))))))
def m__law_night : AF := fnZ 7 b__law_night
def b_law : AS :=
 (sSeq (sAsg (a2 fMod (aC m__law_at (aCons (aVar 0) (aCons (aK (.int 0)) aNil))) (aK (.int 101))) (gN 1))
 (sSeq (sAsg (a2 fMod (aC m__law_at (aCons (aVar 0) (aCons (aK (.int 1)) aNil))) (aK (.int 41))) (gN 2))
 (sSeq (sAsg (aLstC aNil) (gN 3))
 (sSeq (sFor (iRange1 (a2 fAdd (aK (.int 1)) (a2 fMod (aC m__law_at (aCons (aVar 0) (aCons (aK (.int 2)) aNil))) (aK (.int 3))))) (gN 4)
 (sSeq (sAsg (aC m__law_at (aCons (aVar 0) (aCons (a2 fAdd (aK (.int 3)) (aVar 4)) aNil))) (gN 5))
 (sDrop (aMtL fAppend (aVar 3) (aCons (a2 fIx (aLst (aCons (a2 fAdd (aK (.int 1)) (a2 fMod (aVar 5) (aK (.int 1000000)))) (aCons (a2 fIx (aLst (aCons (aK (.int 1)) (aCons (aK (.int 999999)) (aCons (aK (.int 1000000)) aNil)))) (a2 fMod (aVar 5) (aK (.int 3)))) aNil))) (aC fInt1 (aCons (a2 fEq (a2 fMod (aC m__law_at (aCons (aVar 0) (aCons (aK (.int 7)) aNil))) (aK (.int 3))) (aK (.int 1))) aNil))) aNil)))))
 (sSeq (sAsg (aC m__law_furnished (aCons (aVar 0) (aCons (aVar 1) (aCons (aVar 2) (aCons (aVar 3) aNil))))) (gN 6))
 (sSeq (sAsg (aLstC aNil) (gN 7))
 (sSeq (sFor (iRange2 (aK (.int 8)) (aC fMin2 (aCons (aK (.int 38)) (aCons (aC fLen (aCons (aVar 0) aNil)) aNil)))) (gN 4)
 (sSeq (sAsg (a2 fIx (aVar 0) (aVar 4)) (gN 5))
 (sSeq (sAsg (a2 fIx (aLst (aCons (a2 fAdd (aK (.int 1)) (a2 fMod (aVar 5) (aK (.int 3)))) (aCons (aK (.int 30)) aNil))) (aC fInt1 (aCons (a2 fEq (a2 fMod (aVar 5) (aK (.int 9))) (aK (.int 8))) aNil))) (gN 8))
 (sSeq (sIf (aB (a2 fEq (a2 fMod (aVar 5) (aK (.int 4))) (aK (.int 3))))
 (sSeq (sAsg (aK (.int 1)) (gN 8))
 (sDrop (aMethD 8 m_Cellar_night (aVar 6) aNil [1])))
 (sDrop (aMeth 8 m_Cellar_night (aVar 6) (aCons (aVar 8) aNil))))
 (sSeq (sFor (iRange1 (aVar 8)) (gN 9)
 (sDrop (aMtL fAppend (aVar 7) (aCons (aC m__law_night (aCons (aVar 3) (aCons (aC fLen (aCons (aVar 7) aNil)) (aCons (aVar 1) (aCons (aVar 2) aNil))))) aNil))))
 (sSeq (sFor (iRange1 (aC fLen (aCons (aVar 3) aNil))) (gN 10)
 (sSeq (sAsg (aMeth 8 m_Cellar_weight (aVar 6) (aCons (a2 fAddS (aK (.str "w")) (aC fStrI (aCons (a2 fSub (aK (.int 9)) (aVar 10)) aNil))) aNil)) (gN 11))
 (sIf (aOr (aNot (aB (aC m__law_whole (aCons (aVar 11) aNil)))) (aB (a2 fNe (aVar 11) (a2 fIx (aVar 3) (aVar 10)))))
 (sRet (aK (.bl false)))
 sNext)))
 (sIf (aOr (aNot (aB (aC m__law_whole (aCons (aFld 18 (aVar 6)) aNil)))) (aB (a2 fNe (aFld 18 (aVar 6)) (aC fLen (aCons (aVar 7) aNil)))))
 (sRet (aK (.bl false)))
 sNext)))))))
 (sRet (aC (m__law_same 6) (aCons (aSl fSlL (aMeth 8 m_Cellar_book (aVar 6) aNil) (oSome (a2 fMul (aK (.int 2)) (aC fLen (aCons (aVar 3) aNil)))) oNone) (aCons (aVar 7) aNil)))))))))))
def m_law : AF := fnZ 12 b_law
end K15
set_option Elab.async false
set_option linter.all false
set_option maxRecDepth 100000
set_option maxHeartbeats 4000000
namespace K15
open PySem L2 Z PM
def mN (k : Nat) : Str := ("m" : Str) ++ Str.ofString (toString (k : Int))
def wN (k : Nat) : Str := ("w" : Str) ++ Str.ofString (toString (9 - (k : Int)))
def sN (k : Nat) : Str := if k % 2 = 0 then "s" else "t"
def KS (n : Nat) : List Key := [.inr "r", .inr "s", .inr "t", .inr "kind", .inr "f"] ++ (List.range n).flatMap fun k => [.inr (mN k), .inr (wN k)]
def XS (n : Nat) : List AV := [.ref 5, .ref 6, .ref 7, .ref 8, .ref 9] ++ (List.range n).flatMap fun k => [.ref (10 + 2 * k), .ref (11 + 2 * k)]
def WS (n : Nat) : List AV := (List.range n).map fun k => .ref (11 + 2 * k)
def Ent0 : Nat → List Int → List AV
  | _, [] => []
  | k, g :: r => .tup [.int 0, .str "batch", .str (mN k), .tup [.tup [.str "f", .int g]]] :: .tup [.int 0, .str "wheel", .str (wN k), .str (mN k), .str "kind", .str (sN k), .int g] :: Ent0 (k + 1) r
def whl (k : Nat) (g : Int) : Wh := ⟨wN k, 8, 6 + k % 2, g, 0, 0, 0, 0, false⟩
def WB : Nat → List Int → AH
  | _, [] => []
  | k, g :: r => batchC (mN k) 0 :: (whl k g).cell :: WB (k + 1) r
def srt : Cell := .ins 3 (sortF "kind" false (.tup [.int 1, .int 3]) (.tup [.int 2, .int 4]) ["r"] (.lst [.tup [.int 1, .int 60]]))
def HB (x y : Int) (lg : List Int) (day : Int) (n : Nat) (es : List AV) (g : AH) : AH :=
  .lst (lg.map AV.int) :: CellarC day 2 3 4 :: .dk (KS n) (XS n) :: .lst (WS n) :: .lst es :: roomC "r" x y :: shelfC "s" 5 :: shelfC "t" 5 :: srt :: farmC "f" :: g
def HH (x y : Int) (lg cg : List Int) (day : Int) (es dues : List AV) (g : AH) : AH := HB x y lg day cg.length es (WB 0 cg ++ .lst dues :: g)
def gok (lg : List Int) : Prop := ∀ g ∈ lg, 1 ≤ g ∧ g ≤ 1000000
theorem furn0 {x y : Int} {lg : List Int} (x0 : 0 ≤ x) (x1 : x ≤ 100) (y0 : 0 ≤ y) (y1 : y ≤ 40) {v : AV} : ∃ h1, (sSeq (sAsg (aMake 8 m_Cellar___init__ aNil) (gN 4))
  (sDrop (aMeth 8 m_Cellar_new_room (aVar 4) (aCons (aK (.str "r")) (aCons (aVar 1) (aCons (aVar 2) aNil)))))) [some v, some (.int x), some (.int y), some (.ref 0), none, none] [.lst (lg.map AV.int)] = .nx [some v, some (.int x), some (.int y), some (.ref 0), some (.ref 1), none] h1 ∧ h1 = [.lst (lg.map AV.int), CellarC 0 2 3 4, .dk [.inr "r"] [.ref 5], .lst [], .lst [], roomC "r" x y] := by
  refine ⟨_, ?_, rfl⟩
  refine (seq_nx (env' := [some v, some (.int x), some (.int y), some (.ref 0), some (.ref 1), none]) (h' := [.lst (lg.map AV.int), CellarC 0 2 3 4, .dk [] [], .lst [], .lst []]) ?_).trans ?_
  · rfl
  have q : Cel [.lst (lg.map AV.int), CellarC 0 2 3 4, .dk [] [], .lst [], .lst []] 1 2 3 4 0 [] [] [] [] := ⟨rfl, rfl, rfl, rfl, by decide⟩
  have e := room_ok (nm := "r") q (by decide +kernel) rfl x0 x1 y0 y1 (by decide) rfl
  have h0 : insOf [.lst (lg.map AV.int), CellarC 0 2 3 4, .dk [] [], .lst [], .lst []] (.ref 1) = some (8, [(18, .int 0), (19, .ref 2), (20, .ref 3), (21, .ref 4)]) := rfl
  simp [-insOf, h0, e]
theorem furn1 {x y : Int} {lg : List Int} {v : AV} : (sSeq (sDrop (aMeth 8 m_Cellar_new_shelf (aVar 4) (aCons (aK (.str "s")) (aCons (aK (.str "r")) aNil))))
 (sSeq (sDrop (aMeth 8 m_Cellar_new_shelf (aVar 4) (aCons (aK (.str "t")) (aCons (aK (.str "r")) aNil))))
 (sSeq (sDrop (aMeth 8 m_Cellar_new_sort (aVar 4) (aCons (aK (.str "kind")) (aCons (aK (.bl false)) (aCons (aTup (aCons (aK (.int 1)) (aCons (aK (.int 3)) aNil))) (aCons (aTup (aCons (aK (.int 2)) (aCons (aK (.int 4)) aNil))) (aCons (aLst (aCons (aTup (aCons (aK (.str "r")) (aCons (aK (.int 1)) (aCons (aK (.int 60)) aNil)))) aNil)) aNil)))))))
 (sDrop (aMeth 8 m_Cellar_new_farm (aVar 4) (aCons (aK (.str "f")) aNil))))))
  [some v, some (.int x), some (.int y), some (.ref 0), some (.ref 1), none] [.lst (lg.map AV.int), CellarC 0 2 3 4, .dk [.inr "r"] [.ref 5], .lst [], .lst [], roomC "r" x y] =
  .nx [some v, some (.int x), some (.int y), some (.ref 0), some (.ref 1), none] (HB x y lg 0 0 [] []) := by kernel_rfl
theorem dk_new {k : Nat} (hk : k < 3) : isNm (mN k) = true ∧ isNm (wN k) = true := by
  rcases (show k = 0 ∨ k = 1 ∨ k = 2 by omega) with rfl | rfl | rfl <;> decide +kernel
def HM (x y : Int) (lg : List Int) (k : Nat) (pre : List Int) (g left : Int) : AH :=
  .lst (lg.map AV.int) :: CellarC 0 2 3 4 :: .dk (KS k ++ [.inr (mN k)]) (XS k ++ [.ref (10 + 2 * k)]) :: .lst (WS k) :: .lst (Ent0 0 pre ++ [.tup [.int 0, .str "batch", .str (mN k), .tup [.tup [.str "f", .int g]]]]) :: roomC "r" x y :: shelfC "s" 5 :: shelfC "t" 5 :: srt :: farmC "f" :: (WB 0 pre ++ [batchC (mN k) left])
theorem more {x y : Int} {lg pre t : List Int} {k : Nat} {g : Int} {v : AV} (hk : k < 3) (hp : pre.length = k) (ht : k + t.length < 3) (hg : lg = pre ++ g :: t) (g1 : 1 ≤ g) (g2 : g ≤ 1000000) :
   (sSeq (sDrop (aMeth 8 m_Cellar_new_batch (aVar 4) (aCons (a2 fAddS (aK (.str "m")) (aC fStrI (aCons (aVar 5) aNil))) (aCons (aLst (aCons (aTup (aCons (aK (.str "f")) (aCons (a2 fIx (aVar 3) (aVar 5)) aNil))) aNil)) aNil))))
 (sDrop (aMeth 8 m_Cellar_new_wheel (aVar 4) (aCons (a2 fAddS (aK (.str "w")) (aC fStrI (aCons (a2 fSub (aK (.int 9)) (aVar 5)) aNil))) (aCons (a2 fAddS (aK (.str "m")) (aC fStrI (aCons (aVar 5) aNil))) (aCons (aK (.str "kind")) (aCons (a2 fIxS (aK (.str "st")) (a2 fMod (aVar 5) (aK (.int 2)))) (aCons (a2 fIx (aVar 3) (aVar 5)) aNil))))))))
   [some v, some (.int x), some (.int y), some (.ref 0), some (.ref 1), some (.int (k : Int))] (HB x y lg 0 k (Ent0 0 pre) (WB 0 pre)) =
   .nx [some v, some (.int x), some (.int y), some (.ref 0), some (.ref 1), some (.int (k : Int))] (HB x y lg 0 (k + 1) (Ent0 0 (pre ++ [g])) (WB 0 (pre ++ [g]))) := by
  subst hg
  rcases (show k = 0 ∨ k = 1 ∨ k = 2 by omega) with rfl | rfl | rfl
  · obtain rfl : pre = [] := List.length_eq_zero_iff.mp hp
    match t, ht with
    | [], _ =>
      have q0 : Cel (HB x y [g] 0 0 (Ent0 0 ([] : List Int)) (WB 0 ([] : List Int))) 1 2 3 4 0 (KS 0) (XS 0) (WS 0) (Ent0 0 ([] : List Int)) := ⟨rfl, rfl, rfl, rfl, by decide⟩
      have h1 := batch_ok (nm := mN 0) (p := .lst [.tup [.str "f", .int g]]) (ps := [("f", g)]) q0 (dk_new hk).1 (by kernel_rfl) (.inl rfl) (fun z hz => by
        rw [List.mem_singleton] at hz; subst hz
        exact ⟨9, by kernel_rfl, rfl⟩) (fun z hz => by
        rw [List.mem_singleton] at hz; subst hz
        exact ⟨g1, g2⟩) (by simp) (by decide) rfl (by simp [Ent0]) (by intro z; cases z) (by intro z; cases z)
      have e1 : ([("f", g)] : List (Str × Int)).map (·.2) = [g] := rfl
      have e2 : [g].sum = g := by simp
      rw [e1, e2] at h1
      have h2 : (((HB x y [g] 0 0 (Ent0 0 ([] : List Int)) (WB 0 ([] : List Int))) ++ [batchC (mN 0) g]).set 2 (.dk (KS 0 ++ [.inr (mN 0)]) (XS 0 ++ [AV.ref (HB x y [g] 0 0 (Ent0 0 ([] : List Int)) (WB 0 ([] : List Int))).length]))).set 4 (.lst (Ent0 0 ([] : List Int) ++ [AV.tup [.int 0, .str "batch", .str (mN 0), .tup (List.map pt [("f", g)])]])) = HM x y [g] 0 ([] : List Int) g g := rfl
      rw [h2] at h1
      have q1 : Cel (HM x y [g] 0 ([] : List Int) g g) 1 2 3 4 0 (KS 0 ++ [.inr (mN 0)]) (XS 0 ++ [.ref (10 + 2 * 0)]) (WS 0) (Ent0 0 ([] : List Int) ++ [.tup [.int 0, .str "batch", .str (mN 0), .tup [.tup [.str "f", .int g]]]]) := ⟨rfl, rfl, rfl, rfl, by decide⟩
      have h3 := wheel_ok (g := g) (nm := wN 0) (bn := mN 0) (sn := "kind") (fnm := sN 0) (rn := "r") (left := g) (b := 10 + 2 * 0) (s := 8) (f := 6 + 0 % 2) (r := 5) ⟨q1, (dk_new hk).2, by kernel_rfl, by kernel_rfl, rfl, by kernel_rfl, rfl, by kernel_rfl, by kernel_rfl, rfl, by decide, by decide, by decide⟩ g1 g2 rfl (Int.le_refl g) (by decide) rfl (by decide) (by simp [Ent0])
      rw [Int.sub_self] at h3
      have h4 : ((((HM x y [g] 0 ([] : List Int) g g).set (10 + 2 * 0) (batchC (mN 0) 0) ++ [Cell.ins 6 (wheelF (wN 0) 8 (6 + 0 % 2) g 0 0 0 0 false)]).set 2 (.dk (KS 0 ++ [.inr (mN 0)] ++ [.inr (wN 0)]) (XS 0 ++ [.ref (10 + 2 * 0)] ++ [AV.ref (HM x y [g] 0 ([] : List Int) g g).length]))).set 3 (.lst (WS 0 ++ [AV.ref (HM x y [g] 0 ([] : List Int) g g).length]))).set 4 (.lst (Ent0 0 ([] : List Int) ++ [.tup [.int 0, .str "batch", .str (mN 0), .tup [.tup [.str "f", .int g]]]] ++ [AV.tup [.int 0, .str "wheel", .str (wN 0), .str (mN 0), .str "kind", .str (sN 0), .int g]])) = HB x y [g] 0 (0 + 1) (Ent0 0 (([] : List Int) ++ [g])) (WB 0 (([] : List Int) ++ [g])) := by kernel_rfl
      rw [h4] at h3
      refine (seq_nx (env' := [some v, some (.int x), some (.int y), some (.ref 0), some (.ref 1), some (.int ((0 : Nat) : Int))]) (h' := HM x y [g] 0 ([] : List Int) g g) ?_).trans ?_
      · exact drop_ok (eval_meth (x := .ref 1) (vs := [.str (mN 0), .lst [.tup [.str "f", .int g]]]) (by kernel_rfl) (fs := [(18, .int 0), (19, .ref 2), (20, .ref 3), (21, .ref 4)]) (by kernel_rfl) (by kernel_rfl) h1)
      · exact drop_ok (eval_meth (x := .ref 1) (vs := [.str (wN 0), .str (mN 0), .str "kind", .str (sN 0), .int g]) (by kernel_rfl) (fs := [(18, .int 0), (19, .ref 2), (20, .ref 3), (21, .ref 4)]) (by kernel_rfl) (by kernel_rfl) h3)
    | [c], _ =>
      have q0 : Cel (HB x y [g, c] 0 0 (Ent0 0 ([] : List Int)) (WB 0 ([] : List Int))) 1 2 3 4 0 (KS 0) (XS 0) (WS 0) (Ent0 0 ([] : List Int)) := ⟨rfl, rfl, rfl, rfl, by decide⟩
      have h1 := batch_ok (nm := mN 0) (p := .lst [.tup [.str "f", .int g]]) (ps := [("f", g)]) q0 (dk_new hk).1 (by kernel_rfl) (.inl rfl) (fun z hz => by
        rw [List.mem_singleton] at hz; subst hz
        exact ⟨9, by kernel_rfl, rfl⟩) (fun z hz => by
        rw [List.mem_singleton] at hz; subst hz
        exact ⟨g1, g2⟩) (by simp) (by decide) rfl (by simp [Ent0]) (by intro z; cases z) (by intro z; cases z)
      have e1 : ([("f", g)] : List (Str × Int)).map (·.2) = [g] := rfl
      have e2 : [g].sum = g := by simp
      rw [e1, e2] at h1
      have h2 : (((HB x y [g, c] 0 0 (Ent0 0 ([] : List Int)) (WB 0 ([] : List Int))) ++ [batchC (mN 0) g]).set 2 (.dk (KS 0 ++ [.inr (mN 0)]) (XS 0 ++ [AV.ref (HB x y [g, c] 0 0 (Ent0 0 ([] : List Int)) (WB 0 ([] : List Int))).length]))).set 4 (.lst (Ent0 0 ([] : List Int) ++ [AV.tup [.int 0, .str "batch", .str (mN 0), .tup (List.map pt [("f", g)])]])) = HM x y [g, c] 0 ([] : List Int) g g := rfl
      rw [h2] at h1
      have q1 : Cel (HM x y [g, c] 0 ([] : List Int) g g) 1 2 3 4 0 (KS 0 ++ [.inr (mN 0)]) (XS 0 ++ [.ref (10 + 2 * 0)]) (WS 0) (Ent0 0 ([] : List Int) ++ [.tup [.int 0, .str "batch", .str (mN 0), .tup [.tup [.str "f", .int g]]]]) := ⟨rfl, rfl, rfl, rfl, by decide⟩
      have h3 := wheel_ok (g := g) (nm := wN 0) (bn := mN 0) (sn := "kind") (fnm := sN 0) (rn := "r") (left := g) (b := 10 + 2 * 0) (s := 8) (f := 6 + 0 % 2) (r := 5) ⟨q1, (dk_new hk).2, by kernel_rfl, by kernel_rfl, rfl, by kernel_rfl, rfl, by kernel_rfl, by kernel_rfl, rfl, by decide, by decide, by decide⟩ g1 g2 rfl (Int.le_refl g) (by decide) rfl (by decide) (by simp [Ent0])
      rw [Int.sub_self] at h3
      have h4 : ((((HM x y [g, c] 0 ([] : List Int) g g).set (10 + 2 * 0) (batchC (mN 0) 0) ++ [Cell.ins 6 (wheelF (wN 0) 8 (6 + 0 % 2) g 0 0 0 0 false)]).set 2 (.dk (KS 0 ++ [.inr (mN 0)] ++ [.inr (wN 0)]) (XS 0 ++ [.ref (10 + 2 * 0)] ++ [AV.ref (HM x y [g, c] 0 ([] : List Int) g g).length]))).set 3 (.lst (WS 0 ++ [AV.ref (HM x y [g, c] 0 ([] : List Int) g g).length]))).set 4 (.lst (Ent0 0 ([] : List Int) ++ [.tup [.int 0, .str "batch", .str (mN 0), .tup [.tup [.str "f", .int g]]]] ++ [AV.tup [.int 0, .str "wheel", .str (wN 0), .str (mN 0), .str "kind", .str (sN 0), .int g]])) = HB x y [g, c] 0 (0 + 1) (Ent0 0 (([] : List Int) ++ [g])) (WB 0 (([] : List Int) ++ [g])) := by kernel_rfl
      rw [h4] at h3
      refine (seq_nx (env' := [some v, some (.int x), some (.int y), some (.ref 0), some (.ref 1), some (.int ((0 : Nat) : Int))]) (h' := HM x y [g, c] 0 ([] : List Int) g g) ?_).trans ?_
      · exact drop_ok (eval_meth (x := .ref 1) (vs := [.str (mN 0), .lst [.tup [.str "f", .int g]]]) (by kernel_rfl) (fs := [(18, .int 0), (19, .ref 2), (20, .ref 3), (21, .ref 4)]) (by kernel_rfl) (by kernel_rfl) h1)
      · exact drop_ok (eval_meth (x := .ref 1) (vs := [.str (wN 0), .str (mN 0), .str "kind", .str (sN 0), .int g]) (by kernel_rfl) (fs := [(18, .int 0), (19, .ref 2), (20, .ref 3), (21, .ref 4)]) (by kernel_rfl) (by kernel_rfl) h3)
    | [c, d], _ =>
      have q0 : Cel (HB x y [g, c, d] 0 0 (Ent0 0 ([] : List Int)) (WB 0 ([] : List Int))) 1 2 3 4 0 (KS 0) (XS 0) (WS 0) (Ent0 0 ([] : List Int)) := ⟨rfl, rfl, rfl, rfl, by decide⟩
      have h1 := batch_ok (nm := mN 0) (p := .lst [.tup [.str "f", .int g]]) (ps := [("f", g)]) q0 (dk_new hk).1 (by kernel_rfl) (.inl rfl) (fun z hz => by
        rw [List.mem_singleton] at hz; subst hz
        exact ⟨9, by kernel_rfl, rfl⟩) (fun z hz => by
        rw [List.mem_singleton] at hz; subst hz
        exact ⟨g1, g2⟩) (by simp) (by decide) rfl (by simp [Ent0]) (by intro z; cases z) (by intro z; cases z)
      have e1 : ([("f", g)] : List (Str × Int)).map (·.2) = [g] := rfl
      have e2 : [g].sum = g := by simp
      rw [e1, e2] at h1
      have h2 : (((HB x y [g, c, d] 0 0 (Ent0 0 ([] : List Int)) (WB 0 ([] : List Int))) ++ [batchC (mN 0) g]).set 2 (.dk (KS 0 ++ [.inr (mN 0)]) (XS 0 ++ [AV.ref (HB x y [g, c, d] 0 0 (Ent0 0 ([] : List Int)) (WB 0 ([] : List Int))).length]))).set 4 (.lst (Ent0 0 ([] : List Int) ++ [AV.tup [.int 0, .str "batch", .str (mN 0), .tup (List.map pt [("f", g)])]])) = HM x y [g, c, d] 0 ([] : List Int) g g := rfl
      rw [h2] at h1
      have q1 : Cel (HM x y [g, c, d] 0 ([] : List Int) g g) 1 2 3 4 0 (KS 0 ++ [.inr (mN 0)]) (XS 0 ++ [.ref (10 + 2 * 0)]) (WS 0) (Ent0 0 ([] : List Int) ++ [.tup [.int 0, .str "batch", .str (mN 0), .tup [.tup [.str "f", .int g]]]]) := ⟨rfl, rfl, rfl, rfl, by decide⟩
      have h3 := wheel_ok (g := g) (nm := wN 0) (bn := mN 0) (sn := "kind") (fnm := sN 0) (rn := "r") (left := g) (b := 10 + 2 * 0) (s := 8) (f := 6 + 0 % 2) (r := 5) ⟨q1, (dk_new hk).2, by kernel_rfl, by kernel_rfl, rfl, by kernel_rfl, rfl, by kernel_rfl, by kernel_rfl, rfl, by decide, by decide, by decide⟩ g1 g2 rfl (Int.le_refl g) (by decide) rfl (by decide) (by simp [Ent0])
      rw [Int.sub_self] at h3
      have h4 : ((((HM x y [g, c, d] 0 ([] : List Int) g g).set (10 + 2 * 0) (batchC (mN 0) 0) ++ [Cell.ins 6 (wheelF (wN 0) 8 (6 + 0 % 2) g 0 0 0 0 false)]).set 2 (.dk (KS 0 ++ [.inr (mN 0)] ++ [.inr (wN 0)]) (XS 0 ++ [.ref (10 + 2 * 0)] ++ [AV.ref (HM x y [g, c, d] 0 ([] : List Int) g g).length]))).set 3 (.lst (WS 0 ++ [AV.ref (HM x y [g, c, d] 0 ([] : List Int) g g).length]))).set 4 (.lst (Ent0 0 ([] : List Int) ++ [.tup [.int 0, .str "batch", .str (mN 0), .tup [.tup [.str "f", .int g]]]] ++ [AV.tup [.int 0, .str "wheel", .str (wN 0), .str (mN 0), .str "kind", .str (sN 0), .int g]])) = HB x y [g, c, d] 0 (0 + 1) (Ent0 0 (([] : List Int) ++ [g])) (WB 0 (([] : List Int) ++ [g])) := by kernel_rfl
      rw [h4] at h3
      refine (seq_nx (env' := [some v, some (.int x), some (.int y), some (.ref 0), some (.ref 1), some (.int ((0 : Nat) : Int))]) (h' := HM x y [g, c, d] 0 ([] : List Int) g g) ?_).trans ?_
      · exact drop_ok (eval_meth (x := .ref 1) (vs := [.str (mN 0), .lst [.tup [.str "f", .int g]]]) (by kernel_rfl) (fs := [(18, .int 0), (19, .ref 2), (20, .ref 3), (21, .ref 4)]) (by kernel_rfl) (by kernel_rfl) h1)
      · exact drop_ok (eval_meth (x := .ref 1) (vs := [.str (wN 0), .str (mN 0), .str "kind", .str (sN 0), .int g]) (by kernel_rfl) (fs := [(18, .int 0), (19, .ref 2), (20, .ref 3), (21, .ref 4)]) (by kernel_rfl) (by kernel_rfl) h3)
  · match pre, hp, t, ht with
    | [a], _, [], _ =>
      have q0 : Cel (HB x y [a, g] 0 1 (Ent0 0 [a]) (WB 0 [a])) 1 2 3 4 0 (KS 1) (XS 1) (WS 1) (Ent0 0 [a]) := ⟨rfl, rfl, rfl, rfl, by decide⟩
      have h1 := batch_ok (nm := mN 1) (p := .lst [.tup [.str "f", .int g]]) (ps := [("f", g)]) q0 (dk_new hk).1 (by kernel_rfl) (.inl rfl) (fun z hz => by
        rw [List.mem_singleton] at hz; subst hz
        exact ⟨9, by kernel_rfl, rfl⟩) (fun z hz => by
        rw [List.mem_singleton] at hz; subst hz
        exact ⟨g1, g2⟩) (by simp) (by decide) rfl (by simp [Ent0]) (by intro z; cases z) (by intro z; cases z)
      have e1 : ([("f", g)] : List (Str × Int)).map (·.2) = [g] := rfl
      have e2 : [g].sum = g := by simp
      rw [e1, e2] at h1
      have h2 : (((HB x y [a, g] 0 1 (Ent0 0 [a]) (WB 0 [a])) ++ [batchC (mN 1) g]).set 2 (.dk (KS 1 ++ [.inr (mN 1)]) (XS 1 ++ [AV.ref (HB x y [a, g] 0 1 (Ent0 0 [a]) (WB 0 [a])).length]))).set 4 (.lst (Ent0 0 [a] ++ [AV.tup [.int 0, .str "batch", .str (mN 1), .tup (List.map pt [("f", g)])]])) = HM x y [a, g] 1 [a] g g := rfl
      rw [h2] at h1
      have q1 : Cel (HM x y [a, g] 1 [a] g g) 1 2 3 4 0 (KS 1 ++ [.inr (mN 1)]) (XS 1 ++ [.ref (10 + 2 * 1)]) (WS 1) (Ent0 0 [a] ++ [.tup [.int 0, .str "batch", .str (mN 1), .tup [.tup [.str "f", .int g]]]]) := ⟨rfl, rfl, rfl, rfl, by decide⟩
      have h3 := wheel_ok (g := g) (nm := wN 1) (bn := mN 1) (sn := "kind") (fnm := sN 1) (rn := "r") (left := g) (b := 10 + 2 * 1) (s := 8) (f := 6 + 1 % 2) (r := 5) ⟨q1, (dk_new hk).2, by kernel_rfl, by kernel_rfl, rfl, by kernel_rfl, rfl, by kernel_rfl, by kernel_rfl, rfl, by decide, by decide, by decide⟩ g1 g2 rfl (Int.le_refl g) (by decide) rfl (by decide) (by simp [Ent0])
      rw [Int.sub_self] at h3
      have h4 : ((((HM x y [a, g] 1 [a] g g).set (10 + 2 * 1) (batchC (mN 1) 0) ++ [Cell.ins 6 (wheelF (wN 1) 8 (6 + 1 % 2) g 0 0 0 0 false)]).set 2 (.dk (KS 1 ++ [.inr (mN 1)] ++ [.inr (wN 1)]) (XS 1 ++ [.ref (10 + 2 * 1)] ++ [AV.ref (HM x y [a, g] 1 [a] g g).length]))).set 3 (.lst (WS 1 ++ [AV.ref (HM x y [a, g] 1 [a] g g).length]))).set 4 (.lst (Ent0 0 [a] ++ [.tup [.int 0, .str "batch", .str (mN 1), .tup [.tup [.str "f", .int g]]]] ++ [AV.tup [.int 0, .str "wheel", .str (wN 1), .str (mN 1), .str "kind", .str (sN 1), .int g]])) = HB x y [a, g] 0 (1 + 1) (Ent0 0 ([a] ++ [g])) (WB 0 ([a] ++ [g])) := by kernel_rfl
      rw [h4] at h3
      refine (seq_nx (env' := [some v, some (.int x), some (.int y), some (.ref 0), some (.ref 1), some (.int ((1 : Nat) : Int))]) (h' := HM x y [a, g] 1 [a] g g) ?_).trans ?_
      · exact drop_ok (eval_meth (x := .ref 1) (vs := [.str (mN 1), .lst [.tup [.str "f", .int g]]]) (by kernel_rfl) (fs := [(18, .int 0), (19, .ref 2), (20, .ref 3), (21, .ref 4)]) (by kernel_rfl) (by kernel_rfl) h1)
      · exact drop_ok (eval_meth (x := .ref 1) (vs := [.str (wN 1), .str (mN 1), .str "kind", .str (sN 1), .int g]) (by kernel_rfl) (fs := [(18, .int 0), (19, .ref 2), (20, .ref 3), (21, .ref 4)]) (by kernel_rfl) (by kernel_rfl) h3)
    | [a], _, [c], _ =>
      have q0 : Cel (HB x y [a, g, c] 0 1 (Ent0 0 [a]) (WB 0 [a])) 1 2 3 4 0 (KS 1) (XS 1) (WS 1) (Ent0 0 [a]) := ⟨rfl, rfl, rfl, rfl, by decide⟩
      have h1 := batch_ok (nm := mN 1) (p := .lst [.tup [.str "f", .int g]]) (ps := [("f", g)]) q0 (dk_new hk).1 (by kernel_rfl) (.inl rfl) (fun z hz => by
        rw [List.mem_singleton] at hz; subst hz
        exact ⟨9, by kernel_rfl, rfl⟩) (fun z hz => by
        rw [List.mem_singleton] at hz; subst hz
        exact ⟨g1, g2⟩) (by simp) (by decide) rfl (by simp [Ent0]) (by intro z; cases z) (by intro z; cases z)
      have e1 : ([("f", g)] : List (Str × Int)).map (·.2) = [g] := rfl
      have e2 : [g].sum = g := by simp
      rw [e1, e2] at h1
      have h2 : (((HB x y [a, g, c] 0 1 (Ent0 0 [a]) (WB 0 [a])) ++ [batchC (mN 1) g]).set 2 (.dk (KS 1 ++ [.inr (mN 1)]) (XS 1 ++ [AV.ref (HB x y [a, g, c] 0 1 (Ent0 0 [a]) (WB 0 [a])).length]))).set 4 (.lst (Ent0 0 [a] ++ [AV.tup [.int 0, .str "batch", .str (mN 1), .tup (List.map pt [("f", g)])]])) = HM x y [a, g, c] 1 [a] g g := rfl
      rw [h2] at h1
      have q1 : Cel (HM x y [a, g, c] 1 [a] g g) 1 2 3 4 0 (KS 1 ++ [.inr (mN 1)]) (XS 1 ++ [.ref (10 + 2 * 1)]) (WS 1) (Ent0 0 [a] ++ [.tup [.int 0, .str "batch", .str (mN 1), .tup [.tup [.str "f", .int g]]]]) := ⟨rfl, rfl, rfl, rfl, by decide⟩
      have h3 := wheel_ok (g := g) (nm := wN 1) (bn := mN 1) (sn := "kind") (fnm := sN 1) (rn := "r") (left := g) (b := 10 + 2 * 1) (s := 8) (f := 6 + 1 % 2) (r := 5) ⟨q1, (dk_new hk).2, by kernel_rfl, by kernel_rfl, rfl, by kernel_rfl, rfl, by kernel_rfl, by kernel_rfl, rfl, by decide, by decide, by decide⟩ g1 g2 rfl (Int.le_refl g) (by decide) rfl (by decide) (by simp [Ent0])
      rw [Int.sub_self] at h3
      have h4 : ((((HM x y [a, g, c] 1 [a] g g).set (10 + 2 * 1) (batchC (mN 1) 0) ++ [Cell.ins 6 (wheelF (wN 1) 8 (6 + 1 % 2) g 0 0 0 0 false)]).set 2 (.dk (KS 1 ++ [.inr (mN 1)] ++ [.inr (wN 1)]) (XS 1 ++ [.ref (10 + 2 * 1)] ++ [AV.ref (HM x y [a, g, c] 1 [a] g g).length]))).set 3 (.lst (WS 1 ++ [AV.ref (HM x y [a, g, c] 1 [a] g g).length]))).set 4 (.lst (Ent0 0 [a] ++ [.tup [.int 0, .str "batch", .str (mN 1), .tup [.tup [.str "f", .int g]]]] ++ [AV.tup [.int 0, .str "wheel", .str (wN 1), .str (mN 1), .str "kind", .str (sN 1), .int g]])) = HB x y [a, g, c] 0 (1 + 1) (Ent0 0 ([a] ++ [g])) (WB 0 ([a] ++ [g])) := by kernel_rfl
      rw [h4] at h3
      refine (seq_nx (env' := [some v, some (.int x), some (.int y), some (.ref 0), some (.ref 1), some (.int ((1 : Nat) : Int))]) (h' := HM x y [a, g, c] 1 [a] g g) ?_).trans ?_
      · exact drop_ok (eval_meth (x := .ref 1) (vs := [.str (mN 1), .lst [.tup [.str "f", .int g]]]) (by kernel_rfl) (fs := [(18, .int 0), (19, .ref 2), (20, .ref 3), (21, .ref 4)]) (by kernel_rfl) (by kernel_rfl) h1)
      · exact drop_ok (eval_meth (x := .ref 1) (vs := [.str (wN 1), .str (mN 1), .str "kind", .str (sN 1), .int g]) (by kernel_rfl) (fs := [(18, .int 0), (19, .ref 2), (20, .ref 3), (21, .ref 4)]) (by kernel_rfl) (by kernel_rfl) h3)
    | [a], _, _ :: _ :: _, ht => simp at ht; omega
  · match pre, hp, t, ht with
    | [a, b], _, [], _ =>
      have q0 : Cel (HB x y [a, b, g] 0 2 (Ent0 0 [a, b]) (WB 0 [a, b])) 1 2 3 4 0 (KS 2) (XS 2) (WS 2) (Ent0 0 [a, b]) := ⟨rfl, rfl, rfl, rfl, by decide⟩
      have h1 := batch_ok (nm := mN 2) (p := .lst [.tup [.str "f", .int g]]) (ps := [("f", g)]) q0 (dk_new hk).1 (by kernel_rfl) (.inl rfl) (fun z hz => by
        rw [List.mem_singleton] at hz; subst hz
        exact ⟨9, by kernel_rfl, rfl⟩) (fun z hz => by
        rw [List.mem_singleton] at hz; subst hz
        exact ⟨g1, g2⟩) (by simp) (by decide) rfl (by simp [Ent0]) (by intro z; cases z) (by intro z; cases z)
      have e1 : ([("f", g)] : List (Str × Int)).map (·.2) = [g] := rfl
      have e2 : [g].sum = g := by simp
      rw [e1, e2] at h1
      have h2 : (((HB x y [a, b, g] 0 2 (Ent0 0 [a, b]) (WB 0 [a, b])) ++ [batchC (mN 2) g]).set 2 (.dk (KS 2 ++ [.inr (mN 2)]) (XS 2 ++ [AV.ref (HB x y [a, b, g] 0 2 (Ent0 0 [a, b]) (WB 0 [a, b])).length]))).set 4 (.lst (Ent0 0 [a, b] ++ [AV.tup [.int 0, .str "batch", .str (mN 2), .tup (List.map pt [("f", g)])]])) = HM x y [a, b, g] 2 [a, b] g g := rfl
      rw [h2] at h1
      have q1 : Cel (HM x y [a, b, g] 2 [a, b] g g) 1 2 3 4 0 (KS 2 ++ [.inr (mN 2)]) (XS 2 ++ [.ref (10 + 2 * 2)]) (WS 2) (Ent0 0 [a, b] ++ [.tup [.int 0, .str "batch", .str (mN 2), .tup [.tup [.str "f", .int g]]]]) := ⟨rfl, rfl, rfl, rfl, by decide⟩
      have h3 := wheel_ok (g := g) (nm := wN 2) (bn := mN 2) (sn := "kind") (fnm := sN 2) (rn := "r") (left := g) (b := 10 + 2 * 2) (s := 8) (f := 6 + 2 % 2) (r := 5) ⟨q1, (dk_new hk).2, by kernel_rfl, by kernel_rfl, rfl, by kernel_rfl, rfl, by kernel_rfl, by kernel_rfl, rfl, by decide, by decide, by decide⟩ g1 g2 rfl (Int.le_refl g) (by decide) rfl (by decide) (by simp [Ent0])
      rw [Int.sub_self] at h3
      have h4 : ((((HM x y [a, b, g] 2 [a, b] g g).set (10 + 2 * 2) (batchC (mN 2) 0) ++ [Cell.ins 6 (wheelF (wN 2) 8 (6 + 2 % 2) g 0 0 0 0 false)]).set 2 (.dk (KS 2 ++ [.inr (mN 2)] ++ [.inr (wN 2)]) (XS 2 ++ [.ref (10 + 2 * 2)] ++ [AV.ref (HM x y [a, b, g] 2 [a, b] g g).length]))).set 3 (.lst (WS 2 ++ [AV.ref (HM x y [a, b, g] 2 [a, b] g g).length]))).set 4 (.lst (Ent0 0 [a, b] ++ [.tup [.int 0, .str "batch", .str (mN 2), .tup [.tup [.str "f", .int g]]]] ++ [AV.tup [.int 0, .str "wheel", .str (wN 2), .str (mN 2), .str "kind", .str (sN 2), .int g]])) = HB x y [a, b, g] 0 (2 + 1) (Ent0 0 ([a, b] ++ [g])) (WB 0 ([a, b] ++ [g])) := by kernel_rfl
      rw [h4] at h3
      refine (seq_nx (env' := [some v, some (.int x), some (.int y), some (.ref 0), some (.ref 1), some (.int ((2 : Nat) : Int))]) (h' := HM x y [a, b, g] 2 [a, b] g g) ?_).trans ?_
      · exact drop_ok (eval_meth (x := .ref 1) (vs := [.str (mN 2), .lst [.tup [.str "f", .int g]]]) (by kernel_rfl) (fs := [(18, .int 0), (19, .ref 2), (20, .ref 3), (21, .ref 4)]) (by kernel_rfl) (by kernel_rfl) h1)
      · exact drop_ok (eval_meth (x := .ref 1) (vs := [.str (wN 2), .str (mN 2), .str "kind", .str (sN 2), .int g]) (by kernel_rfl) (fs := [(18, .int 0), (19, .ref 2), (20, .ref 3), (21, .ref 4)]) (by kernel_rfl) (by kernel_rfl) h3)
    | [a, b], _, _ :: _, ht => simp at ht; omega
end K15
set_option Elab.async false
set_option linter.all false
set_option maxRecDepth 100000
set_option maxHeartbeats 4000000
namespace K15
open PySem L2 Z PM
theorem furnished {x y : Int} {lg : List Int} {v : AV} (x0 : 0 ≤ x) (x1 : x ≤ 100) (y0 : 0 ≤ y) (y1 : y ≤ 40) (hl : lg.length ≤ 3) (hg : gok lg) :
    m__law_furnished [v, .int x, .int y, .ref 0] [.lst (lg.map AV.int)] = .ok (.ref 1) (HB x y lg 0 lg.length (Ent0 0 lg) (WB 0 lg)) := by
  suffices hh : b__law_furnished [some v, some (.int x), some (.int y), some (.ref 0), none, none] [.lst (lg.map AV.int)] = .rt (.ref 1) (HB x y lg 0 lg.length (Ent0 0 lg) (WB 0 lg)) by
    simp [m__law_furnished, hh]
  obtain ⟨h1, f0, rfl⟩ := furn0 (lg := lg) (v := v) x0 x1 y0 y1
  have f1 := furn1 (x := x) (y := y) (lg := lg) (v := v)
  unfold b__law_furnished
  refine (seq_assoc f0).trans ?_
  refine (seq_assoc4 f1).trans ?_
  have hl2 := for_rng (n := lg.length) (i := 5) (a := aC fLen (aCons (aVar 3) aNil))
      (body := (sSeq (sDrop (aMeth 8 m_Cellar_new_batch (aVar 4) (aCons (a2 fAddS (aK (.str "m")) (aC fStrI (aCons (aVar 5) aNil))) (aCons (aLst (aCons (aTup (aCons (aK (.str "f")) (aCons (a2 fIx (aVar 3) (aVar 5)) aNil))) aNil)) aNil))))
 (sDrop (aMeth 8 m_Cellar_new_wheel (aVar 4) (aCons (a2 fAddS (aK (.str "w")) (aC fStrI (aCons (a2 fSub (aK (.int 9)) (aVar 5)) aNil))) (aCons (a2 fAddS (aK (.str "m")) (aC fStrI (aCons (aVar 5) aNil))) (aCons (aK (.str "kind")) (aCons (a2 fIxS (aK (.str "st")) (a2 fMod (aVar 5) (aK (.int 2)))) (aCons (a2 fIx (aVar 3) (aVar 5)) aNil)))))))))
      (P := fun i env h => (∃ z, env = [some v, some (.int x), some (.int y), some (.ref 0), some (.ref 1), z]) ∧ h = HB x y lg 0 i (Ent0 0 (lg.take i)) (WB 0 (lg.take i)))
      (env := [some v, some (.int x), some (.int y), some (.ref 0), some (.ref 1), none]) (h := HB x y lg 0 0 [] []) (by omega) (by simp [HB]) ⟨⟨_, rfl⟩, rfl⟩ (fun j hj env h hJ => by
        obtain ⟨⟨z, rfl⟩, rfl⟩ := hJ
        have hs : lg = lg.take j ++ lg[j] :: lg.drop (j + 1) := by
          rw [← List.drop_eq_getElem_cons hj, List.take_append_drop]
        have hm := more (x := x) (y := y) (v := v) (k := j) (by omega) (by simp; omega) (by simp; omega) hs (hg _ (List.getElem_mem hj)).1 (hg _ (List.getElem_mem hj)).2
        have ht : lg.take j ++ [lg[j]] = lg.take (j + 1) := by simp
        rw [ht] at hm
        exact ⟨_, _, hm, ⟨_, rfl⟩, rfl⟩)
  obtain ⟨env2, h2, l2, ⟨z, rfl⟩, rfl⟩ := hl2
  rw [List.take_length] at l2
  exact (seq_nx l2).trans rfl
def lossE (x y g : Int) : Int := g * (100 - x) * y / 100000
def nxt (x y g : Int) : Int := g - lossE x y g
def rows (x y : Int) : Nat → List Int → List AV
  | _, [] => []
  | k, g :: r => .tup [.str (wN k), .str "r", .str (sN k), .int (lossE x y g)] :: rows x y (k + 1) r
def ent (x y : Int) (cg : List Int) (day : Int) : AV := .tup [.int day, .str "night", .tup (rows x y 0 cg)]
def adv (x y : Int) : Nat → List Int → List Int
  | 0, cg => cg
  | t + 1, cg => (adv x y t cg).map (nxt x y)
def ens (x y : Int) : Nat → List Int → Int → List AV
  | 0, _, _ => []
  | t + 1, cg, day => ens x y t cg day ++ [ent x y (adv x y t cg) (day + (t : Int))]
theorem adv_len {x y : Int} {cg : List Int} : ∀ t, (adv x y t cg).length = cg.length
  | 0 => rfl
  | t + 1 => by simp [adv, adv_len t]
theorem ens_len {x y : Int} {cg : List Int} {day : Int} : ∀ t, (ens x y t cg day).length = t
  | 0 => rfl
  | t + 1 => by simp [ens, ens_len t]
theorem rows_ok {x y : Int} : ∀ (cg : List Int) (k : Nat), okDs 1 (rows x y k cg) = true
  | [], _ => rfl
  | g :: r, k => by simp [rows, okDs, okD, rows_ok r (k + 1)]
theorem rows_len {x y : Int} : ∀ (cg : List Int) (k : Nat), (rows x y k cg).length = cg.length
  | [], _ => rfl
  | g :: r, k => by simp [rows, rows_len r (k + 1)]
theorem okDs_app {n : Nat} : ∀ {xs ys : List AV}, okDs n xs = true → okDs n ys = true → okDs n (xs ++ ys) = true
  | [], ys, _, h => h
  | x :: xs, ys, h1, h2 => by
    simp only [okDs, Bool.and_eq_true, List.cons_append] at h1 ⊢
    exact ⟨h1.1, okDs_app h1.2 h2⟩
theorem ens_ok {x y : Int} {cg : List Int} {day : Int} (hc : cg.length ≤ 3) : ∀ t, okDs 3 (ens x y t cg day) = true
  | 0 => rfl
  | t + 1 => okDs_app (ens_ok hc t) (by
    have := rows_ok (x := x) (y := y) (adv x y t cg) 0
    have h2 := rows_len (x := x) (y := y) (adv x y t cg) 0
    rw [adv_len] at h2
    simp [ent, okDs, okD, this, h2]; try omega)
def zs (x y : Int) : Nat → List Int → List WR
  | _, [] => []
  | k, g :: r => ⟨11 + 2 * k, whl k g, sN k, 5, "r", x, y⟩ :: zs x y (k + 1) r
section
variable {x y day : Int} {lg cg : List Int} {es dues : List AV} {g : AH}
theorem cel (hn : cg.length = 1 ∨ cg.length = 2 ∨ cg.length = 3) : Cel (HH x y lg cg day es dues g) 1 2 3 4 day (KS cg.length) (XS cg.length) (WS cg.length) es := ⟨rfl, rfl, rfl, rfl, by decide⟩
theorem len3 {l : List Int} (hn : l.length = 1 ∨ l.length = 2 ∨ l.length = 3) : (∃ a, l = [a]) ∨ (∃ a b, l = [a, b]) ∨ ∃ a b c, l = [a, b, c] := by
  match l, hn with
  | [a], _ => exact .inl ⟨a, rfl⟩
  | [a, b], _ => exact .inr (.inl ⟨a, b, rfl⟩)
  | [a, b, c], _ => exact .inr (.inr ⟨a, b, c, rfl⟩)
  | _ :: _ :: _ :: _ :: _, h => simp at h
theorem pass (hn : cg.length = 1 ∨ cg.length = 2 ∨ cg.length = 3) (x0 : 0 ≤ x) (x1 : x ≤ 100) (y0 : 0 ≤ y) (y1 : y ≤ 40) (hes : es.length < 100000) :
    m_Cellar_pass_night [.ref 1] (HH x y lg cg day es dues g) = .ok .non (HH x y lg (cg.map (nxt x y)) (day + 1) (es ++ [ent x y cg day]) dues (g ++ [.lst (rows x y 0 cg)])) := by
  have q := cel (x := x) (y := y) (day := day) (lg := lg) (es := es) (dues := dues) (g := g) hn
  rcases len3 hn with ⟨a, rfl⟩ | ⟨a, b, rfl⟩ | ⟨a, b, c, rfl⟩
  · have e := pass_ok (zs := zs x y 0 [a]) q (by
      intro z hz
      simp only [zs, List.mem_cons, List.not_mem_nil, or_false] at hz
      subst hz
      exact ⟨rfl, rfl, rfl, x0, x1, y0, y1⟩) (by simp [zs]) (by simp [zs]) hes
    rw [e]; rfl
  · have e := pass_ok (zs := zs x y 0 [a, b]) q (by
      intro z hz
      simp only [zs, List.mem_cons, List.not_mem_nil, or_false] at hz
      rcases hz with rfl | rfl <;> exact ⟨rfl, rfl, rfl, x0, x1, y0, y1⟩) (by simp [zs]) (by simp [zs]) hes
    rw [e]; rfl
  · have e := pass_ok (zs := zs x y 0 [a, b, c]) q (by
      intro z hz
      simp only [zs, List.mem_cons, List.not_mem_nil, or_false] at hz
      rcases hz with rfl | rfl | rfl <;> exact ⟨rfl, rfl, rfl, x0, x1, y0, y1⟩) (by simp [zs]) (by simp [zs]) hes
    rw [e]; rfl
theorem nights {t : Nat} (ht : 1 ≤ t) (ht2 : t ≤ 30) (hn : cg.length = 1 ∨ cg.length = 2 ∨ cg.length = 3) (x0 : 0 ≤ x) (x1 : x ≤ 100) (y0 : 0 ≤ y) (y1 : y ≤ 40) (hes : es.length < 50000) :
    ∃ g', m_Cellar_night [.ref 1, .int (t : Int)] (HH x y lg cg day es dues g) = .ok .non (HH x y lg (adv x y t cg) (day + (t : Int)) (es ++ ens x y t cg day) dues g') := by
  have e1 := bounds_ok (n := (t : Int)) (a := 1) (b := 30) (h := HH x y lg cg day es dues g) (by omega) (by omega)
  have hl := for_rng (n := t) (i := 2) (a := aVar 1) (body := sDrop (aMeth 8 m_Cellar_pass_night (aVar 0) aNil))
    (P := fun i env h => (∃ z, env = [some (.ref 1), some (.int (t : Int)), z]) ∧ ∃ g', h = HH x y lg (adv x y i cg) (day + (i : Int)) (es ++ ens x y i cg day) dues g')
    (env := [some (.ref 1), some (.int (t : Int)), none]) (h := HH x y lg cg day es dues g) (by omega) rfl ⟨⟨_, rfl⟩, g, by simp [adv, ens]⟩ (fun j hj env h hP => by
      obtain ⟨⟨z, rfl⟩, g', rfl⟩ := hP
      have e := pass (x := x) (y := y) (day := day + (j : Int)) (lg := lg) (cg := adv x y j cg) (es := es ++ ens x y j cg day) (dues := dues) (g := g') (by rw [adv_len]; exact hn) x0 x1 y0 y1 (by rw [List.length_append, ens_len]; omega)
      refine ⟨[some (.ref 1), some (.int (t : Int)), some (.int (j : Int))], _, drop_ok (eval_meth (x := .ref 1) (vs := []) rfl (fs := [(18, .int (day + (j : Int))), (19, .ref 2), (20, .ref 3), (21, .ref 4)]) rfl rfl e), ⟨_, rfl⟩, g' ++ [.lst (rows x y 0 (adv x y j cg))], ?_⟩
      rw [List.append_assoc, Int.add_assoc]; rfl)
  obtain ⟨e2, h2, l2, ⟨z, rfl⟩, g', rfl⟩ := hl
  refine ⟨g', ?_⟩
  have hb : b_Cellar_night [some (.ref 1), some (.int (t : Int)), none] (HH x y lg cg day es dues g) = .nx [some (.ref 1), some (.int (t : Int)), z] (HH x y lg (adv x y t cg) (day + (t : Int)) (es ++ ens x y t cg day) dues g') := by
    unfold b_Cellar_night
    exact (seq_nx (drop_ok (eval_call (vs := [.int (t : Int), .int 1, .int 30]) rfl e1))).trans l2
  simp [m_Cellar_night, hb]
theorem weight {j : Nat} (hj : j < cg.length) (hn : cg.length = 1 ∨ cg.length = 2 ∨ cg.length = 3) : m_Cellar_weight [.ref 1, .str (wN j)] (HH x y lg cg day es dues g) = .ok (.int (cg.getD j 0)) (HH x y lg cg day es dues g) := by
  have q := cel (x := x) (y := y) (day := day) (lg := lg) (es := es) (dues := dues) (g := g) hn
  rcases len3 hn with ⟨a, rfl⟩ | ⟨a, b, rfl⟩ | ⟨a, b, c, rfl⟩
  · rcases (show j = 0 by simp at hj; omega) with rfl
    exact weight_ok (w := 11) (z := whl 0 a) q (by kernel_rfl) rfl rfl
  · rcases (show j = 0 ∨ j = 1 by simp at hj; omega) with rfl | rfl
    · exact weight_ok (w := 11) (z := whl 0 a) q (by kernel_rfl) rfl rfl
    · exact weight_ok (w := 13) (z := whl 1 b) q (by kernel_rfl) rfl rfl
  · rcases (show j = 0 ∨ j = 1 ∨ j = 2 by simp at hj; omega) with rfl | rfl | rfl
    · exact weight_ok (w := 11) (z := whl 0 a) q (by kernel_rfl) rfl rfl
    · exact weight_ok (w := 13) (z := whl 1 b) q (by kernel_rfl) rfl rfl
    · exact weight_ok (w := 15) (z := whl 2 c) q (by kernel_rfl) rfl rfl
theorem hh_app {c : Cell} : HH x y lg cg day es dues (g ++ [c]) = HH x y lg cg day es dues g ++ [c] := by simp [HH, HB]
theorem hh_len {lg' : List Int} : (HH x y lg' cg day es dues g).length = (HH x y lg cg day es dues g).length := by simp [HH, HB]
theorem hh_last {lg' : List Int} {R : List AV} : (HH x y lg' cg day es dues (g ++ [.lst R]))[(HH x y lg cg day es dues g).length]? = some (.lst R) := by
  rw [hh_app, ← hh_len (lg := lg) (lg' := lg')]; exact get_last _ _
theorem hh_slast {lg' : List Int} {R R' : List AV} : (HH x y lg' cg day es dues (g ++ [.lst R])).set (HH x y lg cg day es dues g).length (.lst R') = HH x y lg' cg day es dues (g ++ [.lst R']) := by
  rw [hh_app, ← hh_len (lg := lg) (lg' := lg'), last_set, ← hh_app]
theorem rows_app {x y : Int} : ∀ (cg : List Int) (k : Nat) (c : Int), rows x y k (cg ++ [c]) = rows x y k cg ++ [.tup [.str (wN (k + cg.length)), .str "r", .str (sN (k + cg.length)), .int (lossE x y c)]]
  | [], k, c => rfl
  | a :: r, k, c => by
    simp only [List.cons_append, rows, rows_app r (k + 1) c, List.length_cons]
    rw [show k + 1 + r.length = k + (r.length + 1) by omega]
theorem lstep (x0 : 0 ≤ x) (x1 : x ≤ 100) (y0 : 0 ≤ y) (y1 : y ≤ 40) {L L' : List Int} {R : List AV} {D c : Int} {j : Nat} {z : Option AV} (hj3 : j < 3) (hix : atI (L.map AV.int) (j : Int) = some (.int c)) (hsx : ixN (L.map AV.int).length (j : Int) = some j) (hst : (L.map AV.int).set j (.int (c - lossE x y c)) = L'.map AV.int) (hR : R.length < sizeLine) :
   (sSeq (sAsg (a2 fDiv (a2 fMul (a2 fMul (a2 fIx (aVar 0) (aVar 5)) (a2 fSub (aK (.int 100)) (aVar 2))) (aVar 3)) (aK (.int 100000))) (gN 6))
 (sSeq (sAsg (a2 fSub (a2 fIx (aVar 0) (aVar 5)) (aVar 6)) (gSubL (aVar 0) (aVar 5)))
 (sDrop (aMtL fAppend (aVar 4) (aCons (aTup (aCons (a2 fAddS (aK (.str "w")) (aC fStrI (aCons (a2 fSub (aK (.int 9)) (aVar 5)) aNil))) (aCons (aK (.str "r")) (aCons (a2 fIxS (aK (.str "st")) (a2 fMod (aVar 5) (aK (.int 2)))) (aCons (aVar 6) aNil))))) aNil)))))
   [some (.ref 0), some (.int D), some (.int x), some (.int y), some (.ref (HH x y lg cg day es dues g).length), some (.int (j : Int)), z] (HH x y L cg day es dues (g ++ [.lst R]))
   = .nx [some (.ref 0), some (.int D), some (.int x), some (.int y), some (.ref (HH x y lg cg day es dues g).length), some (.int (j : Int)), some (.int (lossE x y c))] (HH x y L' cg day es dues (g ++ [.lst (R ++ [.tup [.str (wN j), .str "r", .str (sN j), .int (lossE x y c)]])])) := by
  have m1 : -18446744073709551616 < 100 - x := by omega
  have m2 : 100 - x < 18446744073709551616 := by omega
  have m3 : -18446744073709551616 < y := by omega
  have m4 : y < 18446744073709551616 := by omega
  have hargs : ∀ (N : Nat) (l : Int) (h : AH), (aCons (aTup (aCons (a2 fAddS (aK (.str "w")) (aC fStrI (aCons (a2 fSub (aK (.int 9)) (aVar 5)) aNil))) (aCons (aK (.str "r")) (aCons (a2 fIxS (aK (.str "st")) (a2 fMod (aVar 5) (aK (.int 2)))) (aCons (aVar 6) aNil))))) aNil) [some (.ref 0), some (.int D), some (.int x), some (.int y), some (.ref N), some (.int (j : Int)), some (.int l)] h = .ok [.tup [.str (wN j), .str "r", .str (sN j), .int l]] h := by
    intro N l h
    rcases (show j = 0 ∨ j = 1 ∨ j = 2 by omega) with rfl | rfl | rfl <;> kernel_rfl
  have h0 : ∀ G, (HH x y L cg day es dues G)[0]? = some (.lst (L.map AV.int)) := fun _ => rfl
  have s0 : ∀ G, (HH x y L cg day es dues G).set 0 (.lst (L'.map AV.int)) = HH x y L' cg day es dues G := fun _ => rfl
  have hl1 := hh_last (x := x) (y := y) (lg := lg) (cg := cg) (day := day) (es := es) (dues := dues) (g := g) (lg' := L') (R := R)
  have hl2 := fun R' => hh_slast (x := x) (y := y) (lg := lg) (cg := cg) (day := day) (es := es) (dues := dues) (g := g) (lg' := L') (R := R) (R' := R')
  have hl3 := hargs (HH x y lg cg day es dues g).length
  rw [← hst] at s0
  clear hst hargs
  generalize L.map AV.int = M at *
  generalize (HH x y lg cg day es dues g).length = N at *
  generalize e1 : HH x y L cg day es dues (g ++ [.lst R]) = H1 at *
  have h0' := h0 (g ++ [.lst R])
  have s0' := s0 (g ++ [.lst R])
  rw [e1] at h0' s0'
  refine (seq_nx (set_ok (x := .int (lossE x y c)) (h1 := H1) ?_)).trans ?_
  · simp [h0', hix, m1, m2, m3, m4, lossE]
  refine (seq_nx (env' := [some (.ref 0), some (.int D), some (.int x), some (.int y), some (.ref N), some (.int (j : Int)), some (.int (lossE x y c))]) (h' := HH x y L' cg day es dues (g ++ [.lst R])) ?_).trans ?_
  · simp [h0', hix, hsx, s0']
  · refine drop_ok (x := .non) ?_
    generalize e2 : HH x y L' cg day es dues (g ++ [.lst R]) = H2 at *
    unfold aMtL
    simp [-aCons, hl3, hl1, hl2, hR]
theorem lnight (x0 : 0 ≤ x) (x1 : x ≤ 100) (y0 : 0 ≤ y) (y1 : y ≤ 40) {D : Int} (hn : lg.length = 1 ∨ lg.length = 2 ∨ lg.length = 3) :
    m__law_night [.ref 0, .int D, .int x, .int y] (HH x y lg cg day es dues g) = .ok (ent x y lg D) (HH x y (lg.map (nxt x y)) cg day es dues (g ++ [.lst (rows x y 0 lg)])) := by
  have hz : (11 : Nat) < sizeLine := by decide
  have hl := for_rng (n := lg.length) (i := 5) (a := aC fLen (aCons (aVar 0) aNil)) (body := (sSeq (sAsg (a2 fDiv (a2 fMul (a2 fMul (a2 fIx (aVar 0) (aVar 5)) (a2 fSub (aK (.int 100)) (aVar 2))) (aVar 3)) (aK (.int 100000))) (gN 6))
 (sSeq (sAsg (a2 fSub (a2 fIx (aVar 0) (aVar 5)) (aVar 6)) (gSubL (aVar 0) (aVar 5)))
 (sDrop (aMtL fAppend (aVar 4) (aCons (aTup (aCons (a2 fAddS (aK (.str "w")) (aC fStrI (aCons (a2 fSub (aK (.int 9)) (aVar 5)) aNil))) (aCons (aK (.str "r")) (aCons (a2 fIxS (aK (.str "st")) (a2 fMod (aVar 5) (aK (.int 2)))) (aCons (aVar 6) aNil))))) aNil))))))
    (P := fun i env h => (∃ z u, env = [some (.ref 0), some (.int D), some (.int x), some (.int y), some (.ref (HH x y lg cg day es dues g).length), z, u]) ∧ h = HH x y ((lg.take i).map (nxt x y) ++ lg.drop i) cg day es dues (g ++ [.lst (rows x y 0 (lg.take i))]))
    (env := [some (.ref 0), some (.int D), some (.int x), some (.int y), some (.ref (HH x y lg cg day es dues g).length), none, none]) (h := HH x y lg cg day es dues (g ++ [.lst []])) (by omega) (by simp [HH, HB]) ⟨⟨_, _, rfl⟩, rfl⟩ (fun j hj env h hP => by
      obtain ⟨⟨z, u, rfl⟩, rfl⟩ := hP
      have hj3 : j < 3 := by omega
      have htl : (lg.take j).length = j := by simp; omega
      have hL : (((lg.take j).map (nxt x y) ++ lg.drop j)).map AV.int = ((lg.take j).map (nxt x y)).map AV.int ++ AV.int lg[j] :: (lg.drop (j + 1)).map AV.int := by
        rw [List.map_append, List.drop_eq_getElem_cons hj, List.map_cons]
      have hA : (((lg.take j).map (nxt x y)).map AV.int).length = j := by simp; omega
      have hix : atI (((lg.take j).map (nxt x y) ++ lg.drop j).map AV.int) (j : Int) = some (.int lg[j]) := by
        refine atI_nat ?_
        rw [hL, List.getElem?_append_right (by omega), hA, Nat.sub_self]; rfl
      have hsx : ixN (((lg.take j).map (nxt x y) ++ lg.drop j).map AV.int).length (j : Int) = some j := by
        have : j < (((lg.take j).map (nxt x y) ++ lg.drop j).map AV.int).length := by simp; omega
        unfold ixN
        rw [if_pos (by omega), if_pos (by omega)]; simp
      have hst : ((((lg.take j).map (nxt x y) ++ lg.drop j).map AV.int)).set j (.int (lg[j] - lossE x y lg[j])) = ((lg.take (j + 1)).map (nxt x y) ++ lg.drop (j + 1)).map AV.int := by
        rw [hL, List.set_append_right _ _ (by omega), hA, Nat.sub_self]
        have : lg.take (j + 1) = lg.take j ++ [lg[j]] := by simp
        rw [this, List.map_append, List.map_append, List.map_append, List.append_assoc]
        rfl
      refine ⟨[some (.ref 0), some (.int D), some (.int x), some (.int y), some (.ref (HH x y lg cg day es dues g).length), some (.int (j : Int)), some (.int (lossE x y lg[j]))], HH x y ((lg.take (j + 1)).map (nxt x y) ++ lg.drop (j + 1)) cg day es dues (g ++ [.lst (rows x y 0 (lg.take (j + 1)))]), ?_, ⟨_, _, rfl⟩, rfl⟩
      have hrl : (rows x y 0 (lg.take j)).length < sizeLine := by rw [rows_len]; exact Nat.lt_of_lt_of_le (show (lg.take j).length < 3 by omega) (by decide)
      have ht : lg.take (j + 1) = lg.take j ++ [lg[j]] := by simp
      have := lstep (lg := lg) (cg := cg) (day := day) (es := es) (dues := dues) (g := g) (D := D) (z := u) x0 x1 y0 y1 hj3 hix hsx hst hrl
      have hr : rows x y 0 (lg.take (j + 1)) = rows x y 0 (lg.take j) ++ [.tup [.str (wN j), .str "r", .str (sN j), .int (lossE x y lg[j])]] := by
        rw [ht, rows_app, htl, Nat.zero_add]
      rw [hr]
      exact this)
  obtain ⟨e2, h2, l2, ⟨z, u, rfl⟩, rfl⟩ := hl
  rw [List.take_length, List.drop_length, List.append_nil] at l2
  have hb : b__law_night [some (.ref 0), some (.int D), some (.int x), some (.int y), none, none, none] (HH x y lg cg day es dues g) = .rt (ent x y lg D) (HH x y (lg.map (nxt x y)) cg day es dues (g ++ [.lst (rows x y 0 lg)])) := by
    unfold b__law_night
    refine (seq_nx (env' := [some (.ref 0), some (.int D), some (.int x), some (.int y), some (.ref (HH x y lg cg day es dues g).length), none, none]) (h' := HH x y lg cg day es dues (g ++ [.lst []])) ?_).trans ?_
    · rw [hh_app]; rfl
    refine (seq_nx l2).trans ?_
    have hrl : (rows x y 0 lg).length ≤ sizeLine := by rw [rows_len]; exact Nat.le_trans (show lg.length ≤ 3 by omega) (by decide)
    have := hh_last (x := x) (y := y) (lg := lg) (cg := cg) (day := day) (es := es) (dues := dues) (g := g) (lg' := lg.map (nxt x y)) (R := rows x y 0 lg)
    simp [this, hrl, ent]
  simp [m__law_night, hb]
theorem hh_du (hn : cg.length = 1 ∨ cg.length = 2 ∨ cg.length = 3) : (HH x y lg cg day es dues g)[10 + 2 * cg.length]? = some (.lst dues) := by
  rcases len3 hn with ⟨a, rfl⟩ | ⟨a, b, rfl⟩ | ⟨a, b, c, rfl⟩ <;> rfl
theorem hh_sdu (hn : cg.length = 1 ∨ cg.length = 2 ∨ cg.length = 3) {d2 : List AV} : (HH x y lg cg day es dues g).set (10 + 2 * cg.length) (.lst d2) = HH x y lg cg day es d2 g := by
  rcases len3 hn with ⟨a, rfl⟩ | ⟨a, b, rfl⟩ | ⟨a, b, c, rfl⟩ <;> rfl
theorem dstep (x0 : 0 ≤ x) (x1 : x ≤ 100) (y0 : 0 ≤ y) (y1 : y ≤ 40) (hn : lg.length = 1 ∨ lg.length = 2 ∨ lg.length = 3) (hc : cg.length = lg.length) (hd : dues.length < 100000) {v z4 z5 z8 z9 z10 z11 : Option AV} {t : Option AV} :
    (sDrop (aMtL fAppend (aVar 7) (aCons (aC m__law_night (aCons (aVar 3) (aCons (aC fLen (aCons (aVar 7) aNil)) (aCons (aVar 1) (aCons (aVar 2) aNil))))) aNil))) [v, some (.int x), some (.int y), some (.ref 0), z4, z5, some (.ref 1), some (.ref (10 + 2 * lg.length)), z8, z9, z10, z11] (HH x y lg cg day es dues g)
    = .nx [v, some (.int x), some (.int y), some (.ref 0), z4, z5, some (.ref 1), some (.ref (10 + 2 * lg.length)), z8, z9, z10, z11] (HH x y (lg.map (nxt x y)) cg day es (dues ++ [ent x y lg (dues.length : Int)]) (g ++ [.lst (rows x y 0 lg)])) := by
  have e := lnight (x := x) (y := y) (lg := lg) (cg := cg) (day := day) (es := es) (dues := dues) (g := g) x0 x1 y0 y1 (D := (dues.length : Int)) hn
  have h1 := hh_du (x := x) (y := y) (lg := lg) (cg := cg) (day := day) (es := es) (dues := dues) (g := g) (by rw [hc]; exact hn)
  have h2 := hh_du (x := x) (y := y) (lg := lg.map (nxt x y)) (cg := cg) (day := day) (es := es) (dues := dues) (g := g ++ [.lst (rows x y 0 lg)]) (by rw [hc]; exact hn)
  have h3 := hh_sdu (x := x) (y := y) (lg := lg.map (nxt x y)) (cg := cg) (day := day) (es := es) (dues := dues) (g := g ++ [.lst (rows x y 0 lg)]) (d2 := dues ++ [ent x y lg (dues.length : Int)]) (by rw [hc]; exact hn)
  rw [hc] at h1 h2 h3
  have hd1 : dues.length < sizeLine := Nat.lt_of_lt_of_le hd (by decide)
  have hd2 : dues.length ≤ sizeLine := Nat.le_of_lt hd1
  generalize HH x y lg cg day es dues g = H1 at *
  generalize HH x y (lg.map (nxt x y)) cg day es dues (g ++ [.lst (rows x y 0 lg)]) = H2 at *
  simp [h1, e, h2, h3, hd1]
theorem wloop {v z4 z5 z8 z9 z10 z11 : Option AV} {k : Option AV} (hn : lg.length = 1 ∨ lg.length = 2 ∨ lg.length = 3) : ∃ e2,
    sFor (iRange1 (aC fLen (aCons (aVar 3) aNil))) (gN 10)
 (sSeq (sAsg (aMeth 8 m_Cellar_weight (aVar 6) (aCons (a2 fAddS (aK (.str "w")) (aC fStrI (aCons (a2 fSub (aK (.int 9)) (aVar 10)) aNil))) aNil)) (gN 11))
 (sIf (aOr (aNot (aB (aC m__law_whole (aCons (aVar 11) aNil)))) (aB (a2 fNe (aVar 11) (a2 fIx (aVar 3) (aVar 10)))))
 (sRet (aK (.bl false)))
 sNext)) [v, some (.int x), some (.int y), some (.ref 0), z4, z5, some (.ref 1), some (.ref (10 + 2 * lg.length)), z8, z9, z10, z11] (HH x y lg lg day es dues g) = .nx e2 (HH x y lg lg day es dues g) ∧ ∃ u10 u11, e2 = [v, some (.int x), some (.int y), some (.ref 0), z4, z5, some (.ref 1), some (.ref (10 + 2 * lg.length)), z8, z9, u10, u11] := by
  have h0 : (HH x y lg lg day es dues g)[0]? = some (.lst (lg.map AV.int)) := rfl
  have hl := for_rng (n := lg.length) (i := 10) (a := aC fLen (aCons (aVar 3) aNil)) (body := (sSeq (sAsg (aMeth 8 m_Cellar_weight (aVar 6) (aCons (a2 fAddS (aK (.str "w")) (aC fStrI (aCons (a2 fSub (aK (.int 9)) (aVar 10)) aNil))) aNil)) (gN 11))
 (sIf (aOr (aNot (aB (aC m__law_whole (aCons (aVar 11) aNil)))) (aB (a2 fNe (aVar 11) (a2 fIx (aVar 3) (aVar 10)))))
 (sRet (aK (.bl false)))
 sNext)))
   (P := fun i env h => (∃ u10 u11, env = [v, some (.int x), some (.int y), some (.ref 0), z4, z5, some (.ref 1), some (.ref (10 + 2 * lg.length)), z8, z9, u10, u11]) ∧ h = HH x y lg lg day es dues g)
   (env := [v, some (.int x), some (.int y), some (.ref 0), z4, z5, some (.ref 1), some (.ref (10 + 2 * lg.length)), z8, z9, z10, z11]) (h := HH x y lg lg day es dues g) (by omega) (by simp [h0]) ⟨⟨_, _, rfl⟩, rfl⟩ (fun j hj env h hP => by
      obtain ⟨⟨u10, u11, rfl⟩, rfl⟩ := hP
      have e := weight (x := x) (y := y) (day := day) (lg := lg) (es := es) (dues := dues) (g := g) (j := j) hj hn
      have hix : atI (lg.map AV.int) (j : Int) = some (.int (lg.getD j 0)) := atI_nat (by simp [hj])
      generalize lg.getD j 0 = c at e hix
      have hargs : ∀ N h, (aCons (a2 fAddS (aK (.str "w")) (aC fStrI (aCons (a2 fSub (aK (.int 9)) (aVar 10)) aNil))) aNil) [v, some (.int x), some (.int y), some (.ref 0), z4, z5, some (.ref 1), some (.ref N), z8, z9, some (.int (j : Int)), u11] h = .ok [.str (wN j)] h := by
        intro N h
        rcases (show j = 0 ∨ j = 1 ∨ j = 2 by omega) with rfl | rfl | rfl <;> kernel_rfl
      have hi : insOf (HH x y lg lg day es dues g) (.ref 1) = some (8, [(18, .int day), (19, .ref 2), (20, .ref 3), (21, .ref 4)]) := rfl
      have hs := set_ok (i := 11) (eval_meth (c := 8) (m := m_Cellar_weight) (o := aVar 6) (env := [v, some (.int x), some (.int y), some (.ref 0), z4, z5, some (.ref 1), some (.ref (10 + 2 * lg.length)), z8, z9, some (.int (j : Int)), u11]) rfl hi (hargs _ _) e)
      generalize HH x y lg lg day es dues g = H at *
      refine ⟨_, _, (seq_nx hs).trans ?_, ⟨some (.int (j : Int)), some (.int c), rfl⟩, rfl⟩
      simp [m__law_whole, b__law_whole, h0, hix, isiB, tyA])
  obtain ⟨e2, h2, l2, ⟨u10, u11, rfl⟩, rfl⟩ := hl
  exact ⟨_, l2, _, _, rfl⟩
end
end K15
set_option Elab.async false
set_option linter.all false
set_option maxRecDepth 100000
set_option maxHeartbeats 4000000
namespace K15
open PySem L2 Z PM
def gB : AS := (sSeq (sAsg (aC m__law_at (aCons (aVar 0) (aCons (a2 fAdd (aK (.int 3)) (aVar 4)) aNil))) (gN 5))
 (sDrop (aMtL fAppend (aVar 3) (aCons (a2 fIx (aLst (aCons (a2 fAdd (aK (.int 1)) (a2 fMod (aVar 5) (aK (.int 1000000)))) (aCons (a2 fIx (aLst (aCons (aK (.int 1)) (aCons (aK (.int 999999)) (aCons (aK (.int 1000000)) aNil)))) (a2 fMod (aVar 5) (aK (.int 3)))) aNil))) (aC fInt1 (aCons (a2 fEq (a2 fMod (aC m__law_at (aCons (aVar 0) (aCons (aK (.int 7)) aNil))) (aK (.int 3))) (aK (.int 1))) aNil))) aNil))))
theorem gstep {ns : List Int} {x y : AV} {l : List Int} {z5 : Option AV} {j : Nat} (hl : l.length < 1000) : ∃ c g, 1 ≤ g ∧ g ≤ 1000000 ∧
    gB [some (.kst (ns.map AV.int)), some x, some y, some (.ref 0), some (.int (j : Int)), z5, none, none, none, none, none, none] [.lst (l.map AV.int)] = .nx [some (.kst (ns.map AV.int)), some x, some y, some (.ref 0), some (.int (j : Int)), some (.int c), none, none, none, none, none, none] [.lst ((l ++ [g]).map AV.int)] := by
  have c1 : ∀ h, m__law_at [AV.kst (List.map AV.int ns), AV.int (3 + (j : Int))] h = Re.ok (AV.int (cz ns (3 + j))) h := fun h => at_ok ns (3 + j) h
  have c7 : ∀ h, m__law_at [AV.kst (List.map AV.int ns), AV.int 7] h = Re.ok (AV.int (cz ns 7)) h := fun h => at_ok ns 7 h
  generalize cz ns (3 + j) = c at c1
  generalize cz ns 7 = d at c7
  have hll : l.length < sizeLine := Nat.lt_of_lt_of_le hl (by decide)
  have t3 : ∀ a b : AV, ∃ k, True := fun _ _ => ⟨0, trivial⟩
  obtain ⟨g2, hg2, q2⟩ : ∃ g2, (1 ≤ g2 ∧ g2 ≤ 1000000) ∧ atI [AV.int 1, AV.int 999999, AV.int 1000000] (c % 3) = some (.int g2) := by
    rcases (show c % 3 = 0 ∨ c % 3 = 1 ∨ c % 3 = 2 by omega) with h | h | h <;> rw [h]
    · exact ⟨1, by decide, rfl⟩
    · exact ⟨999999, by decide, rfl⟩
    · exact ⟨1000000, by decide, rfl⟩
  have a0 : ∀ u w : AV, atI [u, w] 0 = some u := fun _ _ => rfl
  have a1 : ∀ u w : AV, atI [u, w] 1 = some w := fun _ _ => rfl
  by_cases hd : d % 3 = 1
  · refine ⟨c, g2, hg2.1, hg2.2, ?_⟩
    simp [gB, c1, c7, hd, q2, a0, a1, hll]
  · refine ⟨c, 1 + c % 1000000, by omega, by omega, ?_⟩
    simp [gB, c1, c7, hd, q2, a0, a1, hll]
def lB : AS := (sSeq (sAsg (a2 fIx (aVar 0) (aVar 4)) (gN 5))
 (sSeq (sAsg (a2 fIx (aLst (aCons (a2 fAdd (aK (.int 1)) (a2 fMod (aVar 5) (aK (.int 3)))) (aCons (aK (.int 30)) aNil))) (aC fInt1 (aCons (a2 fEq (a2 fMod (aVar 5) (aK (.int 9))) (aK (.int 8))) aNil))) (gN 8))
 (sSeq (sIf (aB (a2 fEq (a2 fMod (aVar 5) (aK (.int 4))) (aK (.int 3))))
 (sSeq (sAsg (aK (.int 1)) (gN 8))
 (sDrop (aMethD 8 m_Cellar_night (aVar 6) aNil [1])))
 (sDrop (aMeth 8 m_Cellar_night (aVar 6) (aCons (aVar 8) aNil))))
 (sSeq (sFor (iRange1 (aVar 8)) (gN 9)
 (sDrop (aMtL fAppend (aVar 7) (aCons (aC m__law_night (aCons (aVar 3) (aCons (aC fLen (aCons (aVar 7) aNil)) (aCons (aVar 1) (aCons (aVar 2) aNil))))) aNil))))
 (sSeq (sFor (iRange1 (aC fLen (aCons (aVar 3) aNil))) (gN 10)
 (sSeq (sAsg (aMeth 8 m_Cellar_weight (aVar 6) (aCons (a2 fAddS (aK (.str "w")) (aC fStrI (aCons (a2 fSub (aK (.int 9)) (aVar 10)) aNil))) aNil)) (gN 11))
 (sIf (aOr (aNot (aB (aC m__law_whole (aCons (aVar 11) aNil)))) (aB (a2 fNe (aVar 11) (a2 fIx (aVar 3) (aVar 10)))))
 (sRet (aK (.bl false)))
 sNext)))
 (sIf (aOr (aNot (aB (aC m__law_whole (aCons (aFld 18 (aVar 6)) aNil)))) (aB (a2 fNe (aFld 18 (aVar 6)) (aC fLen (aCons (aVar 7) aNil)))))
 (sRet (aK (.bl false)))
 sNext))))))
def JJ (ns : List Int) (x y : Int) (n : Nat) (e0 : List AV) (i : Nat) (env : AEnv) (h : AH) : Prop :=
  ∃ (cg : List Int) (dues : List AV) (g : AH) (z4 z5 z8 z9 z10 z11 : Option AV), cg.length = n ∧ dues.length ≤ 30 * i ∧ okDs 3 dues = true ∧ h = HH x y cg cg (dues.length : Int) (e0 ++ dues) dues g ∧
   env = [some (.kst (ns.map AV.int)), some (.int x), some (.int y), some (.ref 0), z4, z5, some (.ref 1), some (.ref (10 + 2 * n)), z8, z9, z10, z11]
theorem lstepM {ns : List Int} {x y : Int} {n : Nat} {e0 : List AV} {i j : Nat} {env : AEnv} {h : AH} (x0 : 0 ≤ x) (x1 : x ≤ 100) (y0 : 0 ≤ y) (y1 : y ≤ 40) (hn : n = 1 ∨ n = 2 ∨ n = 3) (he : e0.length ≤ 6) (hi : i ≤ 30) (hj : j < ns.length) (hJ : JJ ns x y n e0 i env h) :
    ∃ e2 h2, lB (env.set 4 (some (.int (j : Int)))) h = .nx e2 h2 ∧ JJ ns x y n e0 (i + 1) e2 h2 := by
  obtain ⟨cg, dues, g, z4, z5, z8, z9, z10, z11, rfl, hd, hok, rfl, rfl⟩ := hJ
  have hc : atI (ns.map AV.int) (j : Int) = some (.int (cz ns j)) := cz_at hj
  generalize cz ns j = c at hc
  obtain ⟨t, ht1, ht2, hA⟩ : ∃ t : Nat, 1 ≤ t ∧ t ≤ 30 ∧ (∀ g', m_Cellar_night [.ref 1, .int (t : Int)] (HH x y cg cg (dues.length : Int) (e0 ++ dues) dues g) = .ok .non (HH x y cg (adv x y t cg) ((dues.length : Int) + (t : Int)) (e0 ++ dues ++ ens x y t cg (dues.length : Int)) dues g') →
      (sSeq (sAsg (a2 fIx (aVar 0) (aVar 4)) (gN 5))
       (sSeq (sAsg (a2 fIx (aLst (aCons (a2 fAdd (aK (.int 1)) (a2 fMod (aVar 5) (aK (.int 3)))) (aCons (aK (.int 30)) aNil))) (aC fInt1 (aCons (a2 fEq (a2 fMod (aVar 5) (aK (.int 9))) (aK (.int 8))) aNil))) (gN 8))
       (sIf (aB (a2 fEq (a2 fMod (aVar 5) (aK (.int 4))) (aK (.int 3))))
       (sSeq (sAsg (aK (.int 1)) (gN 8))
       (sDrop (aMethD 8 m_Cellar_night (aVar 6) aNil [1])))
       (sDrop (aMeth 8 m_Cellar_night (aVar 6) (aCons (aVar 8) aNil))))))
       [some (.kst (ns.map AV.int)), some (.int x), some (.int y), some (.ref 0), some (.int (j : Int)), z5, some (.ref 1), some (.ref (10 + 2 * cg.length)), z8, z9, z10, z11] (HH x y cg cg (dues.length : Int) (e0 ++ dues) dues g)
       = .nx [some (.kst (ns.map AV.int)), some (.int x), some (.int y), some (.ref 0), some (.int (j : Int)), some (.int c), some (.ref 1), some (.ref (10 + 2 * cg.length)), some (.int (t : Int)), z9, z10, z11] (HH x y cg (adv x y t cg) ((dues.length : Int) + (t : Int)) (e0 ++ dues ++ ens x y t cg (dues.length : Int)) dues g')) := by
    have h1 : (HH x y cg cg (dues.length : Int) (e0 ++ dues) dues g)[1]? = some (.ins 8 [(18, .int (dues.length : Int)), (19, .ref 2), (20, .ref 3), (21, .ref 4)]) := rfl
    generalize HH x y cg cg (dues.length : Int) (e0 ++ dues) dues g = H at *
    have a0 : ∀ u w : AV, atI [u, w] 0 = some u := fun _ _ => rfl
    have a1 : ∀ u w : AV, atI [u, w] 1 = some w := fun _ _ => rfl
    by_cases h4 : c % 4 = 3
    · refine ⟨1, by decide, by decide, fun g' e => ?_⟩
      generalize HH x y cg (adv x y 1 cg) ((dues.length : Int) + ((1 : Nat) : Int)) (e0 ++ dues ++ ens x y 1 cg (dues.length : Int)) dues g' = H' at *
      have e : m_Cellar_night [.ref 1, .int 1] H = .ok .non H' := e
      by_cases h9 : c % 9 = 8 <;> simp [hc, h4, h9, a0, a1, h1, e]
    · by_cases h9 : c % 9 = 8
      · refine ⟨30, by decide, by decide, fun g' e => ?_⟩
        generalize HH x y cg (adv x y 30 cg) ((dues.length : Int) + ((30 : Nat) : Int)) (e0 ++ dues ++ ens x y 30 cg (dues.length : Int)) dues g' = H' at *
        have e : m_Cellar_night [.ref 1, .int 30] H = .ok .non H' := e
        simp [hc, h4, h9, a0, a1, h1, e]
      · refine ⟨(1 + c % 3).toNat, by omega, by omega, fun g' e => ?_⟩
        have ez : (((1 + c % 3).toNat : Nat) : Int) = 1 + c % 3 := by omega
        generalize HH x y cg (adv x y (1 + c % 3).toNat cg) ((dues.length : Int) + (((1 + c % 3).toNat : Nat) : Int)) (e0 ++ dues ++ ens x y (1 + c % 3).toNat cg (dues.length : Int)) dues g' = H' at *
        rw [ez] at e ⊢
        simp [hc, h4, h9, a0, a1, h1, e]
  obtain ⟨g', en⟩ := nights (x := x) (y := y) (day := (dues.length : Int)) (lg := cg) (cg := cg) (es := e0 ++ dues) (dues := dues) (g := g) ht1 ht2 hn x0 x1 y0 y1 (by simp; omega)
  have hA := hA g' en
  have hl := for_rng (n := t) (i := 9) (a := aVar 8) (body := (sDrop (aMtL fAppend (aVar 7) (aCons (aC m__law_night (aCons (aVar 3) (aCons (aC fLen (aCons (aVar 7) aNil)) (aCons (aVar 1) (aCons (aVar 2) aNil))))) aNil))))
    (P := fun i env h => ∃ z9 g2, env = [some (.kst (ns.map AV.int)), some (.int x), some (.int y), some (.ref 0), some (.int (j : Int)), some (.int c), some (.ref 1), some (.ref (10 + 2 * cg.length)), some (.int (t : Int)), z9, z10, z11] ∧ h = HH x y (adv x y i cg) (adv x y t cg) ((dues.length : Int) + (t : Int)) (e0 ++ dues ++ ens x y t cg (dues.length : Int)) (dues ++ ens x y i cg (dues.length : Int)) g2)
    (env := [some (.kst (ns.map AV.int)), some (.int x), some (.int y), some (.ref 0), some (.int (j : Int)), some (.int c), some (.ref 1), some (.ref (10 + 2 * cg.length)), some (.int (t : Int)), z9, z10, z11])
    (h := HH x y cg (adv x y t cg) ((dues.length : Int) + (t : Int)) (e0 ++ dues ++ ens x y t cg (dues.length : Int)) dues g') (by omega) rfl ⟨z9, g', rfl, by simp [adv, ens]⟩ (fun i2 hi2 env h hP => by
      obtain ⟨w9, g2, rfl, rfl⟩ := hP
      have hal := adv_len (x := x) (y := y) (cg := cg) i2
      have hal2 := adv_len (x := x) (y := y) (cg := cg) t
      have e := dstep (x := x) (y := y) (lg := adv x y i2 cg) (cg := adv x y t cg) (day := (dues.length : Int) + (t : Int)) (es := e0 ++ dues ++ ens x y t cg (dues.length : Int)) (dues := dues ++ ens x y i2 cg (dues.length : Int)) (g := g2) x0 x1 y0 y1 (by rw [hal]; exact hn) (by rw [hal, hal2]) (by rw [List.length_append, ens_len]; omega)
        (v := some (.kst (ns.map AV.int))) (z4 := some (.int (j : Int))) (z5 := some (.int c)) (z8 := some (.int (t : Int))) (z9 := some (.int (i2 : Int))) (z10 := z10) (z11 := z11) (t := none)
      rw [hal] at e
      refine ⟨_, _, e, some (.int (i2 : Int)), g2 ++ [.lst (rows x y 0 (adv x y i2 cg))], rfl, ?_⟩
      simp only [ens, adv, List.append_assoc, List.length_append, ens_len, Int.natCast_add])
  obtain ⟨e3, h3, l3, w9, g3, rfl, rfl⟩ := hl
  have hal := adv_len (x := x) (y := y) (cg := cg) t
  have hdl : (dues ++ ens x y t cg (dues.length : Int)).length = dues.length + t := by rw [List.length_append, ens_len]
  obtain ⟨e4, l4, u10, u11, rfl⟩ := wloop (x := x) (y := y) (lg := adv x y t cg) (day := (dues.length : Int) + (t : Int)) (es := e0 ++ dues ++ ens x y t cg (dues.length : Int)) (dues := dues ++ ens x y t cg (dues.length : Int)) (g := g3) (v := some (.kst (ns.map AV.int))) (z4 := some (.int (j : Int))) (z5 := some (.int c)) (z8 := some (.int (t : Int))) (z9 := w9) (z10 := z10) (z11 := z11) (k := none) (by rw [hal]; exact hn)
  rw [hal] at l4
  refine ⟨[some (.kst (ns.map AV.int)), some (.int x), some (.int y), some (.ref 0), some (.int (j : Int)), some (.int c), some (.ref 1), some (.ref (10 + 2 * cg.length)), some (.int (t : Int)), w9, u10, u11], _, ?_, adv x y t cg, dues ++ ens x y t cg (dues.length : Int), g3, _, _, _, _, _, _, hal, by rw [hdl]; omega, okDs_app hok (ens_ok (by omega) t), rfl, rfl⟩
  unfold lB
  refine (seq_assoc3 hA).trans ?_
  refine (seq_nx l3).trans ?_
  refine (seq_nx l4).trans ?_
  have hdu := hh_du (x := x) (y := y) (lg := adv x y t cg) (cg := adv x y t cg) (day := (dues.length : Int) + (t : Int)) (es := e0 ++ dues ++ ens x y t cg (dues.length : Int)) (dues := dues ++ ens x y t cg (dues.length : Int)) (g := g3) (by rw [hal]; exact hn)
  rw [hal] at hdu
  have h1 : (HH x y (adv x y t cg) (adv x y t cg) ((dues.length : Int) + (t : Int)) (e0 ++ dues ++ ens x y t cg (dues.length : Int)) (dues ++ ens x y t cg (dues.length : Int)) g3)[1]? = some (.ins 8 [(18, .int ((dues.length : Int) + (t : Int))), (19, .ref 2), (20, .ref 3), (21, .ref 4)]) := rfl
  have hH : HH x y (adv x y t cg) (adv x y t cg) ((dues.length : Int) + (t : Int)) (e0 ++ dues ++ ens x y t cg (dues.length : Int)) (dues ++ ens x y t cg (dues.length : Int)) g3 = HH x y (adv x y t cg) (adv x y t cg) ((dues ++ ens x y t cg (dues.length : Int)).length : Int) (e0 ++ (dues ++ ens x y t cg (dues.length : Int))) (dues ++ ens x y t cg (dues.length : Int)) g3 := by
    rw [hdl, Int.natCast_add, List.append_assoc]
  rw [← hH]
  have hll : (dues ++ ens x y t cg (dues.length : Int)).length ≤ sizeLine := Nat.le_trans (show _ ≤ 100000 by rw [hdl]; omega) (by decide)
  have hde : ((dues ++ ens x y t cg (dues.length : Int)).length : Int) = (dues.length : Int) + (t : Int) := by rw [hdl, Int.natCast_add]
  generalize HH x y (adv x y t cg) (adv x y t cg) ((dues.length : Int) + (t : Int)) (e0 ++ dues ++ ens x y t cg (dues.length : Int)) (dues ++ ens x y t cg (dues.length : Int)) g3 = H at *
  generalize dues ++ ens x y t cg (dues.length : Int) = D at *
  simp [m__law_whole, b__law_whole, h1, hdu, hde, hll, isiB, tyA, List.lookup]
theorem law_true : ∀ ns : List Int, ns.length ≤ 63 → ∃ h, m_law [.kst (ns.map AV.int)] [] = .ok (.bl true) h := by
  intro ns hns
  suffices hh : ∃ h, b_law [some (.kst (ns.map AV.int)), none, none, none, none, none, none, none, none, none, none, none] [] = .rt (.bl true) h by
    obtain ⟨h, e⟩ := hh
    exact ⟨h, by simp [m_law, e]⟩
  have c0 : ∀ h, m__law_at [AV.kst (List.map AV.int ns), AV.int 0] h = Re.ok (AV.int (cz ns 0)) h := fun h => at_ok ns 0 h
  have c1 : ∀ h, m__law_at [AV.kst (List.map AV.int ns), AV.int 1] h = Re.ok (AV.int (cz ns 1)) h := fun h => at_ok ns 1 h
  have c2 : ∀ h, m__law_at [AV.kst (List.map AV.int ns), AV.int 2] h = Re.ok (AV.int (cz ns 2)) h := fun h => at_ok ns 2 h
  generalize cz ns 0 = d0 at c0
  generalize cz ns 1 = d1 at c1
  generalize cz ns 2 = d2 at c2
  obtain ⟨x, hx⟩ : ∃ x, x = d0 % 101 := ⟨_, rfl⟩
  obtain ⟨y, hy⟩ : ∃ y, y = d1 % 41 := ⟨_, rfl⟩
  obtain ⟨n, hn⟩ : ∃ n : Nat, (n : Int) = 1 + d2 % 3 := ⟨(1 + d2 % 3).toNat, by omega⟩
  have hn3 : n = 1 ∨ n = 2 ∨ n = 3 := by omega
  unfold b_law
  refine seq_ex (env' := [some (.kst (ns.map AV.int)), some (.int x), none, none, none, none, none, none, none, none, none, none]) (h' := []) (by simp [c0, hx]) ?_
  refine seq_ex (env' := [some (.kst (ns.map AV.int)), some (.int x), some (.int y), none, none, none, none, none, none, none, none, none]) (h' := []) (by simp [c1, hy]) ?_
  refine seq_ex (env' := [some (.kst (ns.map AV.int)), some (.int x), some (.int y), some (.ref 0), none, none, none, none, none, none, none, none]) (h' := [.lst []]) rfl ?_
  have hl := for_rng (n := n) (i := 4) (a := (a2 fAdd (aK (.int 1)) (a2 fMod (aC m__law_at (aCons (aVar 0) (aCons (aK (.int 2)) aNil))) (aK (.int 3))))) (body := gB)
    (P := fun i env h => ∃ l : List Int, l.length = i ∧ gok l ∧ h = [.lst (l.map AV.int)] ∧ ∃ z4 z5, env = [some (.kst (ns.map AV.int)), some (.int x), some (.int y), some (.ref 0), z4, z5, none, none, none, none, none, none])
    (env := [some (.kst (ns.map AV.int)), some (.int x), some (.int y), some (.ref 0), none, none, none, none, none, none, none, none]) (h := [.lst []]) (by omega) (by simp [c2, hn]) ⟨[], rfl, by simp [gok], rfl, _, _, rfl⟩ (fun j hj env h hP => by
      obtain ⟨l, rfl, hg, rfl, z4, z5, rfl⟩ := hP
      obtain ⟨c, g, g1, g2, e⟩ := gstep (ns := ns) (x := .int x) (y := .int y) (l := l) (z5 := z5) (j := l.length) (by omega)
      refine ⟨_, _, e, l ++ [g], by simp, ?_, rfl, _, _, rfl⟩
      intro u hu
      rcases List.mem_append.mp hu with hu | hu
      · exact hg u hu
      · rw [List.mem_singleton] at hu; subst hu; exact ⟨g1, g2⟩)
  obtain ⟨e2, h2, l2, lg, hlen, hg, rfl, z4, z5, rfl⟩ := hl
  refine seq_ex l2 ?_
  subst hlen
  have hf := furnished (x := x) (y := y) (lg := lg) (v := .kst (ns.map AV.int)) (by omega) (by omega) (by omega) (by omega) (by omega) hg
  refine seq_ex (env' := [some (.kst (ns.map AV.int)), some (.int x), some (.int y), some (.ref 0), z4, z5, some (.ref 1), none, none, none, none, none]) (h' := HB x y lg 0 lg.length (Ent0 0 lg) (WB 0 lg)) (set_ok (eval_call rfl hf)) ?_
  refine seq_ex (env' := [some (.kst (ns.map AV.int)), some (.int x), some (.int y), some (.ref 0), z4, z5, some (.ref 1), some (.ref (10 + 2 * lg.length)), none, none, none, none]) (h' := HH x y lg lg 0 (Ent0 0 lg ++ []) [] []) (by
    rw [List.append_nil]
    rcases len3 hn3 with ⟨a, rfl⟩ | ⟨a, b, rfl⟩ | ⟨a, b, c, rfl⟩ <;> rfl) ?_
  have he0 : (Ent0 0 lg).length ≤ 6 := by
    rcases len3 hn3 with ⟨a, rfl⟩ | ⟨a, b, rfl⟩ | ⟨a, b, c, rfl⟩ <;> simp [Ent0]
  obtain ⟨m, hm⟩ : ∃ m : Nat, m = min 38 ns.length := ⟨_, rfl⟩
  have hl := for_rng2 (lo := 8) (n := m) (i := 4) (a := aK (.int 8)) (b := (aC fMin2 (aCons (aK (.int 38)) (aCons (aC fLen (aCons (aVar 0) aNil)) aNil)))) (body := lB) (P := JJ ns x y lg.length (Ent0 0 lg))
    (env := [some (.kst (ns.map AV.int)), some (.int x), some (.int y), some (.ref 0), z4, z5, some (.ref 1), some (.ref (10 + 2 * lg.length)), none, none, none, none]) (h := HH x y lg lg 0 (Ent0 0 lg ++ []) [] []) (by omega) (by omega) rfl (by
      subst hm
      by_cases h : ns.length < 38
      · have : ((ns.length : Nat) : Int) < 38 := by omega
        simp [this]; omega
      · have : ¬ ((ns.length : Nat) : Int) < 38 := by omega
        simp [this]; omega) ⟨lg, [], [], _, _, _, _, _, _, rfl, by simp, rfl, rfl, rfl⟩ (fun j hj env h hP => by
      have := lstepM (i := j) (j := 8 + j) (x := x) (y := y) (e0 := Ent0 0 lg) (by omega) (by omega) (by omega) (by omega) hn3 he0 (by omega) (by omega) hP
      exact this)
  obtain ⟨e3, h3, l3, cg, dues, g, w4, w5, w8, w9, w10, w11, hcl, hdl, hok, rfl, rfl⟩ := hl
  refine seq_ex l3 ?_
  have hcn : cg.length = 1 ∨ cg.length = 2 ∨ cg.length = 3 := by rw [hcl]; exact hn3
  have q := cel (x := x) (y := y) (lg := cg) (cg := cg) (day := (dues.length : Int)) (es := Ent0 0 lg ++ dues) (dues := dues) (g := g) hcn
  have hdu := hh_du (x := x) (y := y) (lg := cg) (cg := cg) (day := (dues.length : Int)) (es := Ent0 0 lg ++ dues) (dues := dues) (g := g) hcn
  rw [hcl] at hdu
  have h0 : (HH x y cg cg (dues.length : Int) (Ent0 0 lg ++ dues) dues g)[0]? = some (.lst (cg.map AV.int)) := rfl
  have h1 := q.qc
  have h4 := q.qe
  have hb : m_Cellar_book [.ref 1] (HH x y cg cg (dues.length : Int) (Ent0 0 lg ++ dues) dues g) = .ok (.lst (Ent0 0 lg ++ dues)) (HH x y cg cg (dues.length : Int) (Ent0 0 lg ++ dues) dues g) := by
    have h1' := h1
    simp only [CellarC] at h1'
    simp [m_Cellar_book, b_Cellar_book, h1', h4, List.lookup]
  have hE : (Ent0 0 lg).length = 2 * lg.length := by
    rcases len3 hn3 with ⟨a, rfl⟩ | ⟨a, b, rfl⟩ | ⟨a, b, c, rfl⟩ <;> rfl
  have hcut : cutA (Ent0 0 lg ++ dues) (some (2 * (lg.length : Int))) none = dues := by
    have : (2 * (lg.length : Int)) = ((Ent0 0 lg).length : Int) := by rw [hE]; omega
    rw [this]
    exact cut_app _ _
  have hlc : (cg.map AV.int).length = lg.length := by simp [hcl]
  have hsm := same_ok (h := HH x y cg cg (dues.length : Int) (Ent0 0 lg ++ dues) dues g) (n := 4) (x := .lst dues) (y := .ref (10 + 2 * lg.length)) (xs := dues) (by omega) (.inl rfl) (.inr ⟨_, rfl, hdu⟩) (okDs_mono hok)
  have hle : (Ent0 0 lg ++ dues).length ≤ sizeLine := Nat.le_trans (show _ ≤ 100000 by rw [List.length_append]; omega) (by decide)
  refine ⟨HH x y cg cg (dues.length : Int) (Ent0 0 lg ++ dues) dues g, ?_⟩
  simp only [CellarC] at h1
  have hlc2 : lg.length ≤ sizeLine := Nat.le_trans (show _ ≤ 3 by omega) (by decide)
  generalize HH x y cg cg (dues.length : Int) (Ent0 0 lg ++ dues) dues g = H at *
  generalize cg.map AV.int = M at *
  simp [h1, hb, h0, hlc, hcut, hsm]
end K15
set_option Elab.async false
set_option linter.all false
set_option maxRecDepth 100000
set_option maxHeartbeats 4000000
namespace K15
open PySem L2 Z PM
def top (i : Nat) : Stmt := PySem.Challenge.pw_curdcellar_k15_night_losses.main.body.getD i (.Pass ⟨0, 0, 0, 0⟩)
abbrev sc_Cellar_stmt : Stmt := top 35
abbrev s_Cellar_weight : Stmt := inClass (top 35) 22
abbrev s_Cellar_book : Stmt := inClass (top 35) 21
abbrev s_Cellar_pass_night : Stmt := inClass (top 35) 17
abbrev s_Cellar_night : Stmt := inClass (top 35) 16
abbrev s_Cellar_new_wheel : Stmt := inClass (top 35) 11
abbrev s_Cellar_new_batch : Stmt := inClass (top 35) 10
abbrev s_Cellar_new_farm : Stmt := inClass (top 35) 7
abbrev s_Cellar_new_sort : Stmt := inClass (top 35) 6
abbrev s_Cellar_new_shelf : Stmt := inClass (top 35) 5
abbrev s_Cellar_new_room : Stmt := inClass (top 35) 4
abbrev s_Cellar_hold : Stmt := inClass (top 35) 3
abbrev s_Cellar_known : Stmt := inClass (top 35) 2
abbrev s_Cellar_check_free : Stmt := inClass (top 35) 1
abbrev s_Cellar___init__ : Stmt := inClass (top 35) 0
abbrev sc_Wheel_stmt : Stmt := top 16
abbrev s_Wheel___init__ : Stmt := inClass (top 16) 0
abbrev sc_Batch_stmt : Stmt := top 15
abbrev s_Batch___init__ : Stmt := inClass (top 15) 0
abbrev sc_Sort_stmt : Stmt := top 14
abbrev s_Sort___init__ : Stmt := inClass (top 14) 0
abbrev sc_Shelf_stmt : Stmt := top 13
abbrev s_Shelf___init__ : Stmt := inClass (top 13) 0
abbrev sc_Room_stmt : Stmt := top 12
abbrev s_Room___init__ : Stmt := inClass (top 12) 0
abbrev sc_Thing_stmt : Stmt := top 11
abbrev s_Thing___init__ : Stmt := inClass (top 11) 0
abbrev s_stands_at : Stmt := top 17
abbrev s_night_loss : Stmt := top 18
abbrev s_has_only : Stmt := top 22
abbrev s_is_name : Stmt := top 23
abbrev s_check_bounds : Stmt := top 30
abbrev s_check_grams : Stmt := top 31
abbrev s_check_gap : Stmt := top 32
abbrev s_check_here : Stmt := top 33
abbrev s_check_enough : Stmt := top 34
abbrev s__law_at : Stmt := top 37
abbrev s__law_whole : Stmt := top 38
abbrev s__law_same : Stmt := top 39
abbrev s__law_furnished : Stmt := top 40
abbrev s__law_night : Stmt := top 41
abbrev s_law : Stmt := top 42
def c_NAME_SIGNS : Str := "abcdefghijklmnopqrstuvwxyz0123456789"
structure Adr where
  a_stands_at : Addr
  fd_stands_at : FuncData
  a_night_loss : Addr
  fd_night_loss : FuncData
  a_has_only : Addr
  fd_has_only : FuncData
  a_is_name : Addr
  fd_is_name : FuncData
  a_check_bounds : Addr
  fd_check_bounds : FuncData
  a_check_grams : Addr
  fd_check_grams : FuncData
  a_check_gap : Addr
  fd_check_gap : FuncData
  a_check_here : Addr
  fd_check_here : FuncData
  a_check_enough : Addr
  fd_check_enough : FuncData
  a__law_at : Addr
  fd__law_at : FuncData
  a__law_whole : Addr
  fd__law_whole : FuncData
  a__law_same : Addr
  fd__law_same : FuncData
  a__law_furnished : Addr
  fd__law_furnished : FuncData
  a__law_night : Addr
  fd__law_night : FuncData
  a_law : Addr
  fd_law : FuncData
  c_Thing : Addr
  a_Thing___init__ : Addr
  fd_Thing___init__ : FuncData
  c_Room : Addr
  a_Room___init__ : Addr
  fd_Room___init__ : FuncData
  c_Shelf : Addr
  a_Shelf___init__ : Addr
  fd_Shelf___init__ : FuncData
  c_Sort : Addr
  a_Sort___init__ : Addr
  fd_Sort___init__ : FuncData
  c_Batch : Addr
  a_Batch___init__ : Addr
  fd_Batch___init__ : FuncData
  c_Wheel : Addr
  a_Wheel___init__ : Addr
  fd_Wheel___init__ : FuncData
  c_Cellar : Addr
  a_Cellar___init__ : Addr
  fd_Cellar___init__ : FuncData
  a_Cellar_check_free : Addr
  fd_Cellar_check_free : FuncData
  a_Cellar_known : Addr
  fd_Cellar_known : FuncData
  a_Cellar_hold : Addr
  fd_Cellar_hold : FuncData
  a_Cellar_new_room : Addr
  fd_Cellar_new_room : FuncData
  a_Cellar_new_shelf : Addr
  fd_Cellar_new_shelf : FuncData
  a_Cellar_new_sort : Addr
  fd_Cellar_new_sort : FuncData
  a_Cellar_new_farm : Addr
  fd_Cellar_new_farm : FuncData
  a_Cellar_new_batch : Addr
  fd_Cellar_new_batch : FuncData
  a_Cellar_new_wheel : Addr
  fd_Cellar_new_wheel : FuncData
  a_Cellar_night : Addr
  fd_Cellar_night : FuncData
  a_Cellar_pass_night : Addr
  fd_Cellar_pass_night : FuncData
  a_Cellar_book : Addr
  fd_Cellar_book : FuncData
  a_Cellar_weight : Addr
  fd_Cellar_weight : FuncData
  c_CellarError : Addr
  c_BadName : Addr
  c_Taken : Addr
  c_Unknown : Addr
  c_BadNumber : Addr
  c_Gone : Addr
  c_WrongRoom : Addr
  c_TooMuch : Addr
structure Txt (K : PySem.W.Frag) (mg : Str → Option Value) (A : Adr) : Prop where
  F_stands_at : Fun K "stands_at" "stands_at" s_stands_at A.a_stands_at A.fd_stands_at
  d_stands_at : mg "stands_at" = some (.ref A.a_stands_at)
  b_stands_at : Binds K A.fd_stands_at ["shelf", "recipe", "place"] []
  F_night_loss : Fun K "night_loss" "night_loss" s_night_loss A.a_night_loss A.fd_night_loss
  d_night_loss : mg "night_loss" = some (.ref A.a_night_loss)
  b_night_loss : Binds K A.fd_night_loss ["wheel"] []
  F_has_only : Fun K "has_only" "has_only" s_has_only A.a_has_only A.fd_has_only
  d_has_only : mg "has_only" = some (.ref A.a_has_only)
  b_has_only : Binds K A.fd_has_only ["text", "signs"] []
  F_is_name : Fun K "is_name" "is_name" s_is_name A.a_is_name A.fd_is_name
  d_is_name : mg "is_name" = some (.ref A.a_is_name)
  b_is_name : Binds K A.fd_is_name ["text"] []
  F_check_bounds : Fun K "check_bounds" "check_bounds" s_check_bounds A.a_check_bounds A.fd_check_bounds
  d_check_bounds : mg "check_bounds" = some (.ref A.a_check_bounds)
  b_check_bounds : Binds K A.fd_check_bounds ["number", "least", "most"] []
  F_check_grams : Fun K "check_grams" "check_grams" s_check_grams A.a_check_grams A.fd_check_grams
  d_check_grams : mg "check_grams" = some (.ref A.a_check_grams)
  b_check_grams : Binds K A.fd_check_grams ["grams"] []
  F_check_gap : Fun K "check_gap" "check_gap" s_check_gap A.a_check_gap A.fd_check_gap
  d_check_gap : mg "check_gap" = some (.ref A.a_check_gap)
  b_check_gap : Binds K A.fd_check_gap ["least", "most"] []
  F_check_here : Fun K "check_here" "check_here" s_check_here A.a_check_here A.fd_check_here
  d_check_here : mg "check_here" = some (.ref A.a_check_here)
  b_check_here : Binds K A.fd_check_here ["thing"] []
  F_check_enough : Fun K "check_enough" "check_enough" s_check_enough A.a_check_enough A.fd_check_enough
  d_check_enough : mg "check_enough" = some (.ref A.a_check_enough)
  b_check_enough : Binds K A.fd_check_enough ["grams", "there"] []
  F__law_at : Fun K "_law_at" "_law_at" s__law_at A.a__law_at A.fd__law_at
  d__law_at : mg "_law_at" = some (.ref A.a__law_at)
  b__law_at : Binds K A.fd__law_at ["_law_script", "_law_k"] []
  F__law_whole : Fun K "_law_whole" "_law_whole" s__law_whole A.a__law_whole A.fd__law_whole
  d__law_whole : mg "_law_whole" = some (.ref A.a__law_whole)
  b__law_whole : Binds K A.fd__law_whole ["_law_found"] []
  F__law_same : Fun K "_law_same" "_law_same" s__law_same A.a__law_same A.fd__law_same
  d__law_same : mg "_law_same" = some (.ref A.a__law_same)
  b__law_same : Binds K A.fd__law_same ["_law_found", "_law_due"] []
  F__law_furnished : Fun K "_law_furnished" "_law_furnished" s__law_furnished A.a__law_furnished A.fd__law_furnished
  d__law_furnished : mg "_law_furnished" = some (.ref A.a__law_furnished)
  b__law_furnished : Binds K A.fd__law_furnished ["_law_script", "_law_damp", "_law_warmth", "_law_grams"] []
  F__law_night : Fun K "_law_night" "_law_night" s__law_night A.a__law_night A.fd__law_night
  d__law_night : mg "_law_night" = some (.ref A.a__law_night)
  b__law_night : Binds K A.fd__law_night ["_law_grams", "_law_day", "_law_damp", "_law_warmth"] []
  F_law : Fun K "law" "law" s_law A.a_law A.fd_law
  d_law : mg "law" = some (.ref A.a_law)
  b_law : Binds K A.fd_law ["_law_script"] []
  n_len : mg "len" = none
  n_all : mg "all" = none
  n_min : mg "min" = none
  n_range : mg "range" = none
  n_int : mg "int" = none
  n_bool : mg "bool" = none
  n_str : mg "str" = none
  n_list : mg "list" = none
  n_tuple : mg "tuple" = none
  n_isinstance : mg "isinstance" = none
  n_sum : mg "sum" = none
  n_ValueError : mg "ValueError" = none
  n_set : mg "set" = none
  c_Thing : mg "Thing" = some (.ref A.c_Thing)
  Cls_Thing : Cls K A.c_Thing
  F_Thing___init__ : Fun K "__init__" "Thing.__init__" s_Thing___init__ A.a_Thing___init__ A.fd_Thing___init__
  b_Thing___init__ : Binds K A.fd_Thing___init__ ["self", "kind", "name"] []
  mk_Thing : Mk K A.c_Thing A.a_Thing___init__
  na_Thing_kind : NoAttr K A.c_Thing "kind"
  na_Thing_name : NoAttr K A.c_Thing "name"
  B_Thing___init__ : Base K A.c_Thing "__init__" A.a_Thing___init__
  c_Room : mg "Room" = some (.ref A.c_Room)
  Cls_Room : Cls K A.c_Room
  F_Room___init__ : Fun K "__init__" "Room.__init__" s_Room___init__ A.a_Room___init__ A.fd_Room___init__
  b_Room___init__ : Binds K A.fd_Room___init__ ["self", "name", "damp", "warmth"] []
  mk_Room : Mk K A.c_Room A.a_Room___init__
  na_Room_kind : NoAttr K A.c_Room "kind"
  na_Room_name : NoAttr K A.c_Room "name"
  na_Room_damp : NoAttr K A.c_Room "damp"
  na_Room_warmth : NoAttr K A.c_Room "warmth"
  c_Shelf : mg "Shelf" = some (.ref A.c_Shelf)
  Cls_Shelf : Cls K A.c_Shelf
  F_Shelf___init__ : Fun K "__init__" "Shelf.__init__" s_Shelf___init__ A.a_Shelf___init__ A.fd_Shelf___init__
  b_Shelf___init__ : Binds K A.fd_Shelf___init__ ["self", "name", "room"] []
  mk_Shelf : Mk K A.c_Shelf A.a_Shelf___init__
  na_Shelf_kind : NoAttr K A.c_Shelf "kind"
  na_Shelf_name : NoAttr K A.c_Shelf "name"
  na_Shelf_room : NoAttr K A.c_Shelf "room"
  c_Sort : mg "Sort" = some (.ref A.c_Sort)
  Cls_Sort : Cls K A.c_Sort
  F_Sort___init__ : Fun K "__init__" "Sort.__init__" s_Sort___init__ A.a_Sort___init__ A.fd_Sort___init__
  b_Sort___init__ : Binds K A.fd_Sort___init__ ["self", "name", "mouldy", "turn_gap", "wash_gap", "route"] []
  mk_Sort : Mk K A.c_Sort A.a_Sort___init__
  na_Sort_kind : NoAttr K A.c_Sort "kind"
  na_Sort_name : NoAttr K A.c_Sort "name"
  na_Sort_mouldy : NoAttr K A.c_Sort "mouldy"
  na_Sort_turn_gap : NoAttr K A.c_Sort "turn_gap"
  na_Sort_wash_gap : NoAttr K A.c_Sort "wash_gap"
  na_Sort_rooms : NoAttr K A.c_Sort "rooms"
  na_Sort_stays : NoAttr K A.c_Sort "stays"
  c_Batch : mg "Batch" = some (.ref A.c_Batch)
  Cls_Batch : Cls K A.c_Batch
  F_Batch___init__ : Fun K "__init__" "Batch.__init__" s_Batch___init__ A.a_Batch___init__ A.fd_Batch___init__
  b_Batch___init__ : Binds K A.fd_Batch___init__ ["self", "name", "grams"] []
  mk_Batch : Mk K A.c_Batch A.a_Batch___init__
  na_Batch_kind : NoAttr K A.c_Batch "kind"
  na_Batch_name : NoAttr K A.c_Batch "name"
  na_Batch_grams : NoAttr K A.c_Batch "grams"
  c_Wheel : mg "Wheel" = some (.ref A.c_Wheel)
  Cls_Wheel : Cls K A.c_Wheel
  F_Wheel___init__ : Fun K "__init__" "Wheel.__init__" s_Wheel___init__ A.a_Wheel___init__ A.fd_Wheel___init__
  b_Wheel___init__ : Binds K A.fd_Wheel___init__ ["self", "name", "recipe", "shelf", "grams", "day"] []
  mk_Wheel : Mk K A.c_Wheel A.a_Wheel___init__
  na_Wheel_kind : NoAttr K A.c_Wheel "kind"
  na_Wheel_name : NoAttr K A.c_Wheel "name"
  na_Wheel_recipe : NoAttr K A.c_Wheel "recipe"
  na_Wheel_shelf : NoAttr K A.c_Wheel "shelf"
  na_Wheel_grams : NoAttr K A.c_Wheel "grams"
  na_Wheel_place : NoAttr K A.c_Wheel "place"
  na_Wheel_turn_day : NoAttr K A.c_Wheel "turn_day"
  na_Wheel_wash_day : NoAttr K A.c_Wheel "wash_day"
  na_Wheel_room_day : NoAttr K A.c_Wheel "room_day"
  na_Wheel_gone : NoAttr K A.c_Wheel "gone"
  c_Cellar : mg "Cellar" = some (.ref A.c_Cellar)
  Cls_Cellar : Cls K A.c_Cellar
  F_Cellar___init__ : Fun K "__init__" "Cellar.__init__" s_Cellar___init__ A.a_Cellar___init__ A.fd_Cellar___init__
  b_Cellar___init__ : Binds K A.fd_Cellar___init__ ["self"] []
  mk_Cellar : Mk K A.c_Cellar A.a_Cellar___init__
  F_Cellar_check_free : Fun K "check_free" "Cellar.check_free" s_Cellar_check_free A.a_Cellar_check_free A.fd_Cellar_check_free
  b_Cellar_check_free : Binds K A.fd_Cellar_check_free ["self", "name"] []
  m_Cellar_check_free : Meth K A.c_Cellar "check_free" A.a_Cellar_check_free
  F_Cellar_known : Fun K "known" "Cellar.known" s_Cellar_known A.a_Cellar_known A.fd_Cellar_known
  b_Cellar_known : Binds K A.fd_Cellar_known ["self", "name", "kind"] []
  m_Cellar_known : Meth K A.c_Cellar "known" A.a_Cellar_known
  F_Cellar_hold : Fun K "hold" "Cellar.hold" s_Cellar_hold A.a_Cellar_hold A.fd_Cellar_hold
  b_Cellar_hold : Binds K A.fd_Cellar_hold ["self", "thing"] []
  m_Cellar_hold : Meth K A.c_Cellar "hold" A.a_Cellar_hold
  F_Cellar_new_room : Fun K "new_room" "Cellar.new_room" s_Cellar_new_room A.a_Cellar_new_room A.fd_Cellar_new_room
  b_Cellar_new_room : Binds K A.fd_Cellar_new_room ["self", "name", "damp", "warmth"] []
  m_Cellar_new_room : Meth K A.c_Cellar "new_room" A.a_Cellar_new_room
  F_Cellar_new_shelf : Fun K "new_shelf" "Cellar.new_shelf" s_Cellar_new_shelf A.a_Cellar_new_shelf A.fd_Cellar_new_shelf
  b_Cellar_new_shelf : Binds K A.fd_Cellar_new_shelf ["self", "name", "room"] []
  m_Cellar_new_shelf : Meth K A.c_Cellar "new_shelf" A.a_Cellar_new_shelf
  F_Cellar_new_sort : Fun K "new_sort" "Cellar.new_sort" s_Cellar_new_sort A.a_Cellar_new_sort A.fd_Cellar_new_sort
  b_Cellar_new_sort : Binds K A.fd_Cellar_new_sort ["self", "name", "mouldy", "turn_gap", "wash_gap", "route"] []
  m_Cellar_new_sort : Meth K A.c_Cellar "new_sort" A.a_Cellar_new_sort
  F_Cellar_new_farm : Fun K "new_farm" "Cellar.new_farm" s_Cellar_new_farm A.a_Cellar_new_farm A.fd_Cellar_new_farm
  b_Cellar_new_farm : Binds K A.fd_Cellar_new_farm ["self", "name"] []
  m_Cellar_new_farm : Meth K A.c_Cellar "new_farm" A.a_Cellar_new_farm
  F_Cellar_new_batch : Fun K "new_batch" "Cellar.new_batch" s_Cellar_new_batch A.a_Cellar_new_batch A.fd_Cellar_new_batch
  b_Cellar_new_batch : Binds K A.fd_Cellar_new_batch ["self", "name", "parts"] []
  m_Cellar_new_batch : Meth K A.c_Cellar "new_batch" A.a_Cellar_new_batch
  F_Cellar_new_wheel : Fun K "new_wheel" "Cellar.new_wheel" s_Cellar_new_wheel A.a_Cellar_new_wheel A.fd_Cellar_new_wheel
  b_Cellar_new_wheel : Binds K A.fd_Cellar_new_wheel ["self", "name", "batch", "sort", "shelf", "grams"] []
  m_Cellar_new_wheel : Meth K A.c_Cellar "new_wheel" A.a_Cellar_new_wheel
  F_Cellar_night : ∃ dt items, FunD K "night" "Cellar.night" s_Cellar_night A.a_Cellar_night A.fd_Cellar_night dt items
  bd_Cellar_night : ∃ ds, Vals [V.int 1] ds ∧ Binds K A.fd_Cellar_night ["self", "times"] ds
  b_Cellar_night : Binds K A.fd_Cellar_night ["self", "times"] []
  m_Cellar_night : Meth K A.c_Cellar "night" A.a_Cellar_night
  F_Cellar_pass_night : Fun K "pass_night" "Cellar.pass_night" s_Cellar_pass_night A.a_Cellar_pass_night A.fd_Cellar_pass_night
  b_Cellar_pass_night : Binds K A.fd_Cellar_pass_night ["self"] []
  m_Cellar_pass_night : Meth K A.c_Cellar "pass_night" A.a_Cellar_pass_night
  F_Cellar_book : Fun K "book" "Cellar.book" s_Cellar_book A.a_Cellar_book A.fd_Cellar_book
  b_Cellar_book : Binds K A.fd_Cellar_book ["self"] []
  m_Cellar_book : Meth K A.c_Cellar "book" A.a_Cellar_book
  F_Cellar_weight : Fun K "weight" "Cellar.weight" s_Cellar_weight A.a_Cellar_weight A.fd_Cellar_weight
  b_Cellar_weight : Binds K A.fd_Cellar_weight ["self", "wheel"] []
  m_Cellar_weight : Meth K A.c_Cellar "weight" A.a_Cellar_weight
  na_Cellar_today : NoAttr K A.c_Cellar "today"
  na_Cellar_things : NoAttr K A.c_Cellar "things"
  na_Cellar_wheels : NoAttr K A.c_Cellar "wheels"
  na_Cellar_entries : NoAttr K A.c_Cellar "entries"
  c_CellarError : mg "CellarError" = some (.ref A.c_CellarError)
  C_CellarError : ClsK K A.c_CellarError
  c_BadName : mg "BadName" = some (.ref A.c_BadName)
  C_BadName : ClsK K A.c_BadName
  c_Taken : mg "Taken" = some (.ref A.c_Taken)
  C_Taken : ClsK K A.c_Taken
  c_Unknown : mg "Unknown" = some (.ref A.c_Unknown)
  C_Unknown : ClsK K A.c_Unknown
  c_BadNumber : mg "BadNumber" = some (.ref A.c_BadNumber)
  C_BadNumber : ClsK K A.c_BadNumber
  c_Gone : mg "Gone" = some (.ref A.c_Gone)
  C_Gone : ClsK K A.c_Gone
  c_WrongRoom : mg "WrongRoom" = some (.ref A.c_WrongRoom)
  C_WrongRoom : ClsK K A.c_WrongRoom
  c_TooMuch : mg "TooMuch" = some (.ref A.c_TooMuch)
  C_TooMuch : ClsK K A.c_TooMuch
  x_BadName : PySem.W.excIn K A.c_BadName bmVE "ValueError.__new__" = true
  e_BadName : ExcK K A.c_BadName
  v_BadName : PySem.W.subIn K (.ref A.c_BadName) (.type "ValueError") = some true
  s_BadName_CellarError : PySem.W.subIn K (.ref A.c_BadName) (.ref A.c_CellarError) = some true
  s_BadName_BadName : PySem.W.subIn K (.ref A.c_BadName) (.ref A.c_BadName) = some true
  s_BadName_Taken : PySem.W.subIn K (.ref A.c_BadName) (.ref A.c_Taken) = some false
  s_BadName_Unknown : PySem.W.subIn K (.ref A.c_BadName) (.ref A.c_Unknown) = some false
  s_BadName_BadNumber : PySem.W.subIn K (.ref A.c_BadName) (.ref A.c_BadNumber) = some false
  s_BadName_Gone : PySem.W.subIn K (.ref A.c_BadName) (.ref A.c_Gone) = some false
  s_BadName_WrongRoom : PySem.W.subIn K (.ref A.c_BadName) (.ref A.c_WrongRoom) = some false
  s_BadName_TooMuch : PySem.W.subIn K (.ref A.c_BadName) (.ref A.c_TooMuch) = some false
  x_Taken : PySem.W.excIn K A.c_Taken bmVE "ValueError.__new__" = true
  e_Taken : ExcK K A.c_Taken
  v_Taken : PySem.W.subIn K (.ref A.c_Taken) (.type "ValueError") = some true
  s_Taken_CellarError : PySem.W.subIn K (.ref A.c_Taken) (.ref A.c_CellarError) = some true
  s_Taken_BadName : PySem.W.subIn K (.ref A.c_Taken) (.ref A.c_BadName) = some false
  s_Taken_Taken : PySem.W.subIn K (.ref A.c_Taken) (.ref A.c_Taken) = some true
  s_Taken_Unknown : PySem.W.subIn K (.ref A.c_Taken) (.ref A.c_Unknown) = some false
  s_Taken_BadNumber : PySem.W.subIn K (.ref A.c_Taken) (.ref A.c_BadNumber) = some false
  s_Taken_Gone : PySem.W.subIn K (.ref A.c_Taken) (.ref A.c_Gone) = some false
  s_Taken_WrongRoom : PySem.W.subIn K (.ref A.c_Taken) (.ref A.c_WrongRoom) = some false
  s_Taken_TooMuch : PySem.W.subIn K (.ref A.c_Taken) (.ref A.c_TooMuch) = some false
  x_Unknown : PySem.W.excIn K A.c_Unknown bmVE "ValueError.__new__" = true
  e_Unknown : ExcK K A.c_Unknown
  v_Unknown : PySem.W.subIn K (.ref A.c_Unknown) (.type "ValueError") = some true
  s_Unknown_CellarError : PySem.W.subIn K (.ref A.c_Unknown) (.ref A.c_CellarError) = some true
  s_Unknown_BadName : PySem.W.subIn K (.ref A.c_Unknown) (.ref A.c_BadName) = some false
  s_Unknown_Taken : PySem.W.subIn K (.ref A.c_Unknown) (.ref A.c_Taken) = some false
  s_Unknown_Unknown : PySem.W.subIn K (.ref A.c_Unknown) (.ref A.c_Unknown) = some true
  s_Unknown_BadNumber : PySem.W.subIn K (.ref A.c_Unknown) (.ref A.c_BadNumber) = some false
  s_Unknown_Gone : PySem.W.subIn K (.ref A.c_Unknown) (.ref A.c_Gone) = some false
  s_Unknown_WrongRoom : PySem.W.subIn K (.ref A.c_Unknown) (.ref A.c_WrongRoom) = some false
  s_Unknown_TooMuch : PySem.W.subIn K (.ref A.c_Unknown) (.ref A.c_TooMuch) = some false
  x_BadNumber : PySem.W.excIn K A.c_BadNumber bmVE "ValueError.__new__" = true
  e_BadNumber : ExcK K A.c_BadNumber
  v_BadNumber : PySem.W.subIn K (.ref A.c_BadNumber) (.type "ValueError") = some true
  s_BadNumber_CellarError : PySem.W.subIn K (.ref A.c_BadNumber) (.ref A.c_CellarError) = some true
  s_BadNumber_BadName : PySem.W.subIn K (.ref A.c_BadNumber) (.ref A.c_BadName) = some false
  s_BadNumber_Taken : PySem.W.subIn K (.ref A.c_BadNumber) (.ref A.c_Taken) = some false
  s_BadNumber_Unknown : PySem.W.subIn K (.ref A.c_BadNumber) (.ref A.c_Unknown) = some false
  s_BadNumber_BadNumber : PySem.W.subIn K (.ref A.c_BadNumber) (.ref A.c_BadNumber) = some true
  s_BadNumber_Gone : PySem.W.subIn K (.ref A.c_BadNumber) (.ref A.c_Gone) = some false
  s_BadNumber_WrongRoom : PySem.W.subIn K (.ref A.c_BadNumber) (.ref A.c_WrongRoom) = some false
  s_BadNumber_TooMuch : PySem.W.subIn K (.ref A.c_BadNumber) (.ref A.c_TooMuch) = some false
  x_Gone : PySem.W.excIn K A.c_Gone bmVE "ValueError.__new__" = true
  e_Gone : ExcK K A.c_Gone
  v_Gone : PySem.W.subIn K (.ref A.c_Gone) (.type "ValueError") = some true
  s_Gone_CellarError : PySem.W.subIn K (.ref A.c_Gone) (.ref A.c_CellarError) = some true
  s_Gone_BadName : PySem.W.subIn K (.ref A.c_Gone) (.ref A.c_BadName) = some false
  s_Gone_Taken : PySem.W.subIn K (.ref A.c_Gone) (.ref A.c_Taken) = some false
  s_Gone_Unknown : PySem.W.subIn K (.ref A.c_Gone) (.ref A.c_Unknown) = some false
  s_Gone_BadNumber : PySem.W.subIn K (.ref A.c_Gone) (.ref A.c_BadNumber) = some false
  s_Gone_Gone : PySem.W.subIn K (.ref A.c_Gone) (.ref A.c_Gone) = some true
  s_Gone_WrongRoom : PySem.W.subIn K (.ref A.c_Gone) (.ref A.c_WrongRoom) = some false
  s_Gone_TooMuch : PySem.W.subIn K (.ref A.c_Gone) (.ref A.c_TooMuch) = some false
  x_WrongRoom : PySem.W.excIn K A.c_WrongRoom bmVE "ValueError.__new__" = true
  e_WrongRoom : ExcK K A.c_WrongRoom
  v_WrongRoom : PySem.W.subIn K (.ref A.c_WrongRoom) (.type "ValueError") = some true
  s_WrongRoom_CellarError : PySem.W.subIn K (.ref A.c_WrongRoom) (.ref A.c_CellarError) = some true
  s_WrongRoom_BadName : PySem.W.subIn K (.ref A.c_WrongRoom) (.ref A.c_BadName) = some false
  s_WrongRoom_Taken : PySem.W.subIn K (.ref A.c_WrongRoom) (.ref A.c_Taken) = some false
  s_WrongRoom_Unknown : PySem.W.subIn K (.ref A.c_WrongRoom) (.ref A.c_Unknown) = some false
  s_WrongRoom_BadNumber : PySem.W.subIn K (.ref A.c_WrongRoom) (.ref A.c_BadNumber) = some false
  s_WrongRoom_Gone : PySem.W.subIn K (.ref A.c_WrongRoom) (.ref A.c_Gone) = some false
  s_WrongRoom_WrongRoom : PySem.W.subIn K (.ref A.c_WrongRoom) (.ref A.c_WrongRoom) = some true
  s_WrongRoom_TooMuch : PySem.W.subIn K (.ref A.c_WrongRoom) (.ref A.c_TooMuch) = some false
  x_TooMuch : PySem.W.excIn K A.c_TooMuch bmVE "ValueError.__new__" = true
  e_TooMuch : ExcK K A.c_TooMuch
  v_TooMuch : PySem.W.subIn K (.ref A.c_TooMuch) (.type "ValueError") = some true
  s_TooMuch_CellarError : PySem.W.subIn K (.ref A.c_TooMuch) (.ref A.c_CellarError) = some true
  s_TooMuch_BadName : PySem.W.subIn K (.ref A.c_TooMuch) (.ref A.c_BadName) = some false
  s_TooMuch_Taken : PySem.W.subIn K (.ref A.c_TooMuch) (.ref A.c_Taken) = some false
  s_TooMuch_Unknown : PySem.W.subIn K (.ref A.c_TooMuch) (.ref A.c_Unknown) = some false
  s_TooMuch_BadNumber : PySem.W.subIn K (.ref A.c_TooMuch) (.ref A.c_BadNumber) = some false
  s_TooMuch_Gone : PySem.W.subIn K (.ref A.c_TooMuch) (.ref A.c_Gone) = some false
  s_TooMuch_WrongRoom : PySem.W.subIn K (.ref A.c_TooMuch) (.ref A.c_WrongRoom) = some false
  s_TooMuch_TooMuch : PySem.W.subIn K (.ref A.c_TooMuch) (.ref A.c_TooMuch) = some true
  g_NAME_SIGNS : ∃ t, mg "NAME_SIGNS" = some (.str c_NAME_SIGNS t)
  g_LONGEST_NAME : ∃ t, mg "LONGEST_NAME" = some (.int 12 t)
  g_MOST_DAMP : ∃ t, mg "MOST_DAMP" = some (.int 100 t)
  g_MOST_WARMTH : ∃ t, mg "MOST_WARMTH" = some (.int 40 t)
  g_LONGEST_GAP : ∃ t, mg "LONGEST_GAP" = some (.int 60 t)
  g_MOST_GRAMS : ∃ t, mg "MOST_GRAMS" = some (.int 1000000 t)
  g_MOST_NIGHTS : ∃ t, mg "MOST_NIGHTS" = some (.int 30 t)
theorem sc_stands_at : FnScope ["shelf", "recipe", "place"] ["shelf", "recipe", "place"] (defScope s_stands_at) := ⟨rfl, rfl, rfl, by decide +kernel, rfl, by decide +kernel, by decide +kernel⟩
theorem sc_night_loss : FnScope ["wheel", "room"] ["wheel"] (defScope s_night_loss) := ⟨rfl, rfl, rfl, by decide +kernel, rfl, by decide +kernel, by decide +kernel⟩
theorem sc_has_only : FnScope ["text", "signs"] ["text", "signs"] (defScope s_has_only) := ⟨rfl, rfl, rfl, by decide +kernel, rfl, by decide +kernel, by decide +kernel⟩
theorem sc_is_name : FnScope ["text"] ["text"] (defScope s_is_name) := ⟨rfl, rfl, rfl, by decide +kernel, rfl, by decide +kernel, by decide +kernel⟩
theorem sc_check_bounds : FnScope ["number", "least", "most"] ["number", "least", "most"] (defScope s_check_bounds) := ⟨rfl, rfl, rfl, by decide +kernel, rfl, by decide +kernel, by decide +kernel⟩
theorem sc_check_grams : FnScope ["grams"] ["grams"] (defScope s_check_grams) := ⟨rfl, rfl, rfl, by decide +kernel, rfl, by decide +kernel, by decide +kernel⟩
theorem sc_check_gap : FnScope ["least", "most"] ["least", "most"] (defScope s_check_gap) := ⟨rfl, rfl, rfl, by decide +kernel, rfl, by decide +kernel, by decide +kernel⟩
theorem sc_check_here : FnScope ["thing"] ["thing"] (defScope s_check_here) := ⟨rfl, rfl, rfl, by decide +kernel, rfl, by decide +kernel, by decide +kernel⟩
theorem sc_check_enough : FnScope ["grams", "there"] ["grams", "there"] (defScope s_check_enough) := ⟨rfl, rfl, rfl, by decide +kernel, rfl, by decide +kernel, by decide +kernel⟩
theorem sc__law_at : FnScope ["_law_script", "_law_k"] ["_law_script", "_law_k"] (defScope s__law_at) := ⟨rfl, rfl, rfl, by decide +kernel, rfl, by decide +kernel, by decide +kernel⟩
theorem sc__law_whole : FnScope ["_law_found"] ["_law_found"] (defScope s__law_whole) := ⟨rfl, rfl, rfl, by decide +kernel, rfl, by decide +kernel, by decide +kernel⟩
theorem sc__law_same : FnScope ["_law_found", "_law_due", "_law_alike"] ["_law_found", "_law_due"] (defScope s__law_same) := ⟨rfl, rfl, rfl, by decide +kernel, rfl, by decide +kernel, by decide +kernel⟩
theorem sc__law_furnished : FnScope ["_law_script", "_law_damp", "_law_warmth", "_law_grams", "_law_cellar", "_law_k"] ["_law_script", "_law_damp", "_law_warmth", "_law_grams"] (defScope s__law_furnished) := ⟨rfl, rfl, rfl, by decide +kernel, rfl, by decide +kernel, by decide +kernel⟩
theorem sc__law_night : FnScope ["_law_grams", "_law_day", "_law_damp", "_law_warmth", "_law_rows", "_law_k", "_law_loss"] ["_law_grams", "_law_day", "_law_damp", "_law_warmth"] (defScope s__law_night) := ⟨rfl, rfl, rfl, by decide +kernel, rfl, by decide +kernel, by decide +kernel⟩
theorem sc_law : FnScope ["_law_script", "_law_damp", "_law_warmth", "_law_grams", "_law_k", "_law_cell", "_law_cellar", "_law_due", "_law_times", "_law_night_here", "_law_j", "_law_found"] ["_law_script"] (defScope s_law) := ⟨rfl, rfl, rfl, by decide +kernel, rfl, by decide +kernel, by decide +kernel⟩
theorem sc_Thing___init__ : FnScope ["self", "kind", "name"] ["self", "kind", "name"] (defScope s_Thing___init__) := ⟨rfl, rfl, rfl, by decide +kernel, rfl, by decide +kernel, by decide +kernel⟩
theorem sc_Room___init__ : FnScope ["self", "name", "damp", "warmth"] ["self", "name", "damp", "warmth"] (defScope s_Room___init__) := ⟨rfl, rfl, rfl, by decide +kernel, rfl, by decide +kernel, by decide +kernel⟩
theorem sc_Shelf___init__ : FnScope ["self", "name", "room"] ["self", "name", "room"] (defScope s_Shelf___init__) := ⟨rfl, rfl, rfl, by decide +kernel, rfl, by decide +kernel, by decide +kernel⟩
theorem sc_Sort___init__ : FnScope ["self", "name", "mouldy", "turn_gap", "wash_gap", "route"] ["self", "name", "mouldy", "turn_gap", "wash_gap", "route"] (defScope s_Sort___init__) := ⟨rfl, rfl, rfl, by decide +kernel, rfl, by decide +kernel, by decide +kernel⟩
theorem sc_Batch___init__ : FnScope ["self", "name", "grams"] ["self", "name", "grams"] (defScope s_Batch___init__) := ⟨rfl, rfl, rfl, by decide +kernel, rfl, by decide +kernel, by decide +kernel⟩
theorem sc_Wheel___init__ : FnScope ["self", "name", "recipe", "shelf", "grams", "day"] ["self", "name", "recipe", "shelf", "grams", "day"] (defScope s_Wheel___init__) := ⟨rfl, rfl, rfl, by decide +kernel, rfl, by decide +kernel, by decide +kernel⟩
theorem sc_Cellar___init__ : FnScope ["self"] ["self"] (defScope s_Cellar___init__) := ⟨rfl, rfl, rfl, by decide +kernel, rfl, by decide +kernel, by decide +kernel⟩
theorem sc_Cellar_check_free : FnScope ["self", "name"] ["self", "name"] (defScope s_Cellar_check_free) := ⟨rfl, rfl, rfl, by decide +kernel, rfl, by decide +kernel, by decide +kernel⟩
theorem sc_Cellar_known : FnScope ["self", "name", "kind", "thing"] ["self", "name", "kind"] (defScope s_Cellar_known) := ⟨rfl, rfl, rfl, by decide +kernel, rfl, by decide +kernel, by decide +kernel⟩
theorem sc_Cellar_hold : FnScope ["self", "thing"] ["self", "thing"] (defScope s_Cellar_hold) := ⟨rfl, rfl, rfl, by decide +kernel, rfl, by decide +kernel, by decide +kernel⟩
theorem sc_Cellar_new_room : FnScope ["self", "name", "damp", "warmth"] ["self", "name", "damp", "warmth"] (defScope s_Cellar_new_room) := ⟨rfl, rfl, rfl, by decide +kernel, rfl, by decide +kernel, by decide +kernel⟩
theorem sc_Cellar_new_shelf : FnScope ["self", "name", "room"] ["self", "name", "room"] (defScope s_Cellar_new_shelf) := ⟨rfl, rfl, rfl, by decide +kernel, rfl, by decide +kernel, by decide +kernel⟩
theorem sc_Cellar_new_sort : FnScope ["self", "name", "mouldy", "turn_gap", "wash_gap", "route", "rooms", "gap"] ["self", "name", "mouldy", "turn_gap", "wash_gap", "route"] (defScope s_Cellar_new_sort) := ⟨rfl, rfl, rfl, by decide +kernel, rfl, by decide +kernel, by decide +kernel⟩
theorem sc_Cellar_new_farm : FnScope ["self", "name"] ["self", "name"] (defScope s_Cellar_new_farm) := ⟨rfl, rfl, rfl, by decide +kernel, rfl, by decide +kernel, by decide +kernel⟩
theorem sc_Cellar_new_batch : FnScope ["self", "name", "parts", "farm", "grams"] ["self", "name", "parts"] (defScope s_Cellar_new_batch) := ⟨rfl, rfl, rfl, by decide +kernel, rfl, by decide +kernel, by decide +kernel⟩
theorem sc_Cellar_new_wheel : FnScope ["self", "name", "batch", "sort", "shelf", "grams", "source", "recipe", "lies_on", "wheel"] ["self", "name", "batch", "sort", "shelf", "grams"] (defScope s_Cellar_new_wheel) := ⟨rfl, rfl, rfl, by decide +kernel, rfl, by decide +kernel, by decide +kernel⟩
theorem sc_Cellar_night : FnScope ["self", "times", "passed"] ["self", "times"] (defScope s_Cellar_night) := ⟨rfl, rfl, rfl, by decide +kernel, rfl, by decide +kernel, by decide +kernel⟩
theorem sc_Cellar_pass_night : FnScope ["self", "rows", "wheel", "loss"] ["self"] (defScope s_Cellar_pass_night) := ⟨rfl, rfl, rfl, by decide +kernel, rfl, by decide +kernel, by decide +kernel⟩
theorem sc_Cellar_book : FnScope ["self"] ["self"] (defScope s_Cellar_book) := ⟨rfl, rfl, rfl, by decide +kernel, rfl, by decide +kernel, by decide +kernel⟩
theorem sc_Cellar_weight : FnScope ["self", "wheel", "weighed"] ["self", "wheel"] (defScope s_Cellar_weight) := ⟨rfl, rfl, rfl, by decide +kernel, rfl, by decide +kernel, by decide +kernel⟩
def clT (A : Adr) : Nat → Addr := fun n => match n with | 0 => A.c_Thing | 1 => A.c_Room | 2 => A.c_Shelf | 3 => A.c_Sort | 5 => A.c_Batch | 6 => A.c_Wheel | 8 => A.c_Cellar | 20 => A.c_CellarError | 21 => A.c_BadName | 22 => A.c_Taken | 23 => A.c_Unknown | 24 => A.c_BadNumber | 25 => A.c_Gone | 26 => A.c_WrongRoom | 28 => A.c_TooMuch | _ => 0
def fnT : Nat → Str := fun n => match n with | 0 => "kind" | 1 => "name" | 2 => "damp" | 3 => "warmth" | 4 => "room" | 5 => "mouldy" | 6 => "turn_gap" | 7 => "wash_gap" | 8 => "rooms" | 9 => "stays" | 10 => "grams" | 11 => "recipe" | 12 => "shelf" | 13 => "place" | 14 => "turn_day" | 15 => "wash_day" | 16 => "room_day" | 17 => "gone" | 18 => "today" | 19 => "things" | 20 => "wheels" | 21 => "entries" | _ => ""
theorem injT (c i j : Nat) (hi : i ∈ flT c) (hj : j ∈ flT c) (e : fnT i = fnT j) : i = j := by
  have all : ∀ i ∈ ([0, 1, 2, 3, 4, 5, 6, 7, 8, 9, 10, 11, 12, 13, 14, 15, 16, 17, 18, 19, 20, 21] : List Nat), ∀ j ∈ ([0, 1, 2, 3, 4, 5, 6, 7, 8, 9, 10, 11, 12, 13, 14, 15, 16, 17, 18, 19, 20, 21] : List Nat), fnT i = fnT j → i = j := by decide +kernel
  have lt : ∀ c i, i ∈ flT c → i ∈ ([0, 1, 2, 3, 4, 5, 6, 7, 8, 9, 10, 11, 12, 13, 14, 15, 16, 17, 18, 19, 20, 21] : List Nat) := by
    intro c i h
    unfold flT at h
    split at h <;> simp at h ⊢ <;> omega
  exact all i (lt c i hi) j (lt c j hj) e
section
variable {P : Program} {w : World} {K : PySem.W.Frag} {mg : Str → Option Value} {base : Heap} {A : Adr}
theorem fldT (T : Txt K mg A) (c i : Nat) (h : i ∈ flT c) : Cls K (clT A c) ∧ NoAttr K (clT A c) (fnT i) := by
  unfold flT at h
  split at h
  · simp only [List.mem_cons, List.not_mem_nil, or_false] at h
    rcases h with rfl | rfl
    · exact ⟨T.Cls_Thing, T.na_Thing_kind⟩
    · exact ⟨T.Cls_Thing, T.na_Thing_name⟩
  · simp only [List.mem_cons, List.not_mem_nil, or_false] at h
    rcases h with rfl | rfl | rfl | rfl
    · exact ⟨T.Cls_Room, T.na_Room_kind⟩
    · exact ⟨T.Cls_Room, T.na_Room_name⟩
    · exact ⟨T.Cls_Room, T.na_Room_damp⟩
    · exact ⟨T.Cls_Room, T.na_Room_warmth⟩
  · simp only [List.mem_cons, List.not_mem_nil, or_false] at h
    rcases h with rfl | rfl | rfl
    · exact ⟨T.Cls_Shelf, T.na_Shelf_kind⟩
    · exact ⟨T.Cls_Shelf, T.na_Shelf_name⟩
    · exact ⟨T.Cls_Shelf, T.na_Shelf_room⟩
  · simp only [List.mem_cons, List.not_mem_nil, or_false] at h
    rcases h with rfl | rfl | rfl | rfl | rfl | rfl | rfl
    · exact ⟨T.Cls_Sort, T.na_Sort_kind⟩
    · exact ⟨T.Cls_Sort, T.na_Sort_name⟩
    · exact ⟨T.Cls_Sort, T.na_Sort_mouldy⟩
    · exact ⟨T.Cls_Sort, T.na_Sort_turn_gap⟩
    · exact ⟨T.Cls_Sort, T.na_Sort_wash_gap⟩
    · exact ⟨T.Cls_Sort, T.na_Sort_rooms⟩
    · exact ⟨T.Cls_Sort, T.na_Sort_stays⟩
  · simp only [List.mem_cons, List.not_mem_nil, or_false] at h
    rcases h with rfl | rfl | rfl
    · exact ⟨T.Cls_Batch, T.na_Batch_kind⟩
    · exact ⟨T.Cls_Batch, T.na_Batch_name⟩
    · exact ⟨T.Cls_Batch, T.na_Batch_grams⟩
  · simp only [List.mem_cons, List.not_mem_nil, or_false] at h
    rcases h with rfl | rfl | rfl | rfl | rfl | rfl | rfl | rfl | rfl | rfl
    · exact ⟨T.Cls_Wheel, T.na_Wheel_kind⟩
    · exact ⟨T.Cls_Wheel, T.na_Wheel_name⟩
    · exact ⟨T.Cls_Wheel, T.na_Wheel_recipe⟩
    · exact ⟨T.Cls_Wheel, T.na_Wheel_shelf⟩
    · exact ⟨T.Cls_Wheel, T.na_Wheel_grams⟩
    · exact ⟨T.Cls_Wheel, T.na_Wheel_place⟩
    · exact ⟨T.Cls_Wheel, T.na_Wheel_turn_day⟩
    · exact ⟨T.Cls_Wheel, T.na_Wheel_wash_day⟩
    · exact ⟨T.Cls_Wheel, T.na_Wheel_room_day⟩
    · exact ⟨T.Cls_Wheel, T.na_Wheel_gone⟩
  · simp only [List.mem_cons, List.not_mem_nil, or_false] at h
    rcases h with rfl | rfl | rfl | rfl
    · exact ⟨T.Cls_Cellar, T.na_Cellar_today⟩
    · exact ⟨T.Cls_Cellar, T.na_Cellar_things⟩
    · exact ⟨T.Cls_Cellar, T.na_Cellar_wheels⟩
    · exact ⟨T.Cls_Cellar, T.na_Cellar_entries⟩
  · simp at h
def ctOf (T : Txt K mg A) : Ct := ⟨K, clT A, fnT, flT, injT, fldT T, flG, none⟩
theorem z_stands_at (T : Txt K mg A) : FnOk P w K mg base (CX1 P w) 1 A.a_stands_at A.fd_stands_at ["shelf", "recipe", "place"] (spZ (ctOf T) 3 m_stands_at) := by
  refine T.F_stands_at.okR sc_stands_at (fun vs H Q E h => spZ_len h) (fun cdv A' outer s H vs Q E hr h => ?_)
  have nd := sc_stands_at.nd
  have hu := hu_of hr
  exact ⟨_, (pss_one (ps_ret (pe_cmpR op_in_seqZ (pe_fld (pe_fld (pv 0) rfl) rfl) (pe_slice sl_listZ (pe_fld (pv 1) rfl) (po_some (pv 2)) (po_some (pe_op op_add (pv 2) pe_int))) rfl))), fn_body (C := ctOf T) ((ss_ret (se_op s2_in (se_fld rfl (se_fld rfl se_var)) (se_sl s3_list (se_fld rfl se_var) (so_some se_var) (so_some (se_op s2_add se_var se_int)))))) rfl h⟩
theorem z_night_loss (T : Txt K mg A) : FnOk P w K mg base (CX1 P w) 1 A.a_night_loss A.fd_night_loss ["wheel"] (spZ (ctOf T) 1 m_night_loss) := by
  refine T.F_night_loss.okR sc_night_loss (fun vs H Q E h => spZ_len h) (fun cdv A' outer s H vs Q E hr h => ?_)
  have nd := sc_night_loss.nd
  have hu := hu_of hr
  exact ⟨_, (pss_cons (ps_set (i := 1) nd rfl (Or.inl rfl) (pe_fld (pe_fld (pv 0) rfl) rfl))
 (pss_one (ps_ret (pe_op op_fdiv (pe_op op_mul (pe_op op_mul (pe_fld (pv 0) rfl) (pe_op op_sub pe_int (pe_fld (pv 1) rfl))) (pe_fld (pv 1) rfl)) pe_int)))), fn_body (C := ctOf T) ((ss_seq (ss_asg (se_fld rfl (se_fld rfl se_var)) sg_name)
 (ss_ret (se_op s2_div (se_op s2_mul (se_op s2_mul (se_fld rfl se_var) (se_op s2_sub se_int (se_fld rfl se_var))) (se_fld rfl se_var)) se_int)))) rfl h⟩
theorem z_has_only (T : Txt K mg A) : FnOk P w K mg base (CX1 P w) 1 A.a_has_only A.fd_has_only ["text", "signs"] (spZ (ctOf T) 2 m_has_only) := by
  refine T.F_has_only.okR sc_has_only (fun vs H Q E h => spZ_len h) (fun cdv A' outer s H vs Q E hr h => ?_)
  have nd := sc_has_only.nd
  have hu := hu_of hr
  exact ⟨_, (pss_one (ps_ret (pe_callB (call_allZ rfl) rfl T.n_all PyProof.Rows.boot_all (pa_cons (pe_lc (osc := defScope s_has_only) (N0 := ["text", "signs"]) rfl rfl rfl (own := ["sign"]) (fv := [("signs", 1)]) ⟨rfl, by decide +kernel, by decide +kernel, by decide +kernel, by decide +kernel, by decide +kernel⟩ (pi_str (pv 0)) (fun _ _ _ => (pg_name (i := 0) (show (["sign", "signs"] : List Str).Nodup by decide +kernel) rfl (Or.inl rfl) (hf := Or.inr rfl))) (fun _ _ _ => pts_nil) (fun _ _ _ => (pe_cmpR op_in_one (pv 0) (pv 1) rfl))) pa_nil)))), fn_body (C := ctOf T) ((ss_ret (se_cb sc_all (sa_cons (se_lc (own := ["sign"]) (fv := [("signs", 1)]) (si_str se_var) sgo_name st_yes (se_op s2_inS se_var se_var)) sa_nil)))) rfl h⟩
theorem z_is_name (T : Txt K mg A) : FnOk P w K mg base (CX1 P w) 2 A.a_is_name A.fd_is_name ["text"] (spZ (ctOf T) 1 m_is_name) := by
  have G_has_only : FnOk P w K mg base (CX1 P w) 1 A.a_has_only A.fd_has_only ["text", "signs"] (spZ (ctOf T) 2 m_has_only) := z_has_only T
  refine T.F_is_name.okR sc_is_name (fun vs H Q E h => spZ_len h) (fun cdv A' outer s H vs Q E hr h => ?_)
  have nd := sc_is_name.nd
  have hu := hu_of hr
  exact ⟨_, (pss_one (ps_ret (pe_and (pe_chain op_le op_le pe_int (pe_callB call_lenZ rfl T.n_len PySem.boot_len (pa_cons (pv 0) pa_nil)) (pe_globI rfl T.g_LONGEST_NAME)) (pe_one (pe_call G_has_only (hr.mono (by decide)) rfl T.d_has_only T.F_has_only.kp T.b_has_only .nil out_of.passes (pa_cons (pv 0) (pa_cons (pe_globS rfl T.g_NAME_SIGNS) pa_nil))))))), fn_body (C := ctOf T) ((ss_ret (se_and (se_chain s2_le s2_le se_int (se_cb sc_len (sa_cons se_var sa_nil)) se_int) (se_call (sa_cons se_var (sa_cons se_str sa_nil)))))) rfl h⟩
theorem z_check_bounds (T : Txt K mg A) : FnOk P w K mg base (CX1 P w) 1 A.a_check_bounds A.fd_check_bounds ["number", "least", "most"] (spZ (ctOf T) 3 m_check_bounds) := by
  refine T.F_check_bounds.okR sc_check_bounds (fun vs H Q E h => spZ_len h) (fun cdv A' outer s H vs Q E hr h => ?_)
  have nd := sc_check_bounds.nd
  have hu := hu_of hr
  exact ⟨_, (pss_one (ps_if (pt_not (pt_chain op_le op_le (pv 1) (pv 0) (pv 2)))
 (pss_one (ps_raise out_of hr.hd rfl T.c_BadNumber T.x_BadNumber PySem.F.excBase_ValueError rfl PySem.F.excBase_ValueError (pa_cons (pe_fstr (pj_cons pe_str (pj_cons (pe_fmtI (pv 1)) (pj_cons pe_str (pj_cons (pe_fmtI (pv 2)) (pj_cons pe_str (pj_cons (pe_fmtI (pv 0)) pj_nil))))))) pa_nil)))
 pss_nil)), fn_body (C := ctOf T) ((ss_if (st_not (st_test (se_chain s2_le s2_le se_var se_var se_var)))
 (ss_raise (c := 24) (ms_fstr (sjm_lit (sjm_int se_var (sjm_lit (sjm_int se_var (sjm_lit (sjm_int se_var sjm_nil)))))) (by decide +kernel)))
 ss_next)) rfl h⟩
theorem z_check_grams (T : Txt K mg A) : FnOk P w K mg base (CX1 P w) 2 A.a_check_grams A.fd_check_grams ["grams"] (spZ (ctOf T) 1 m_check_grams) := by
  have G_check_bounds : FnOk P w K mg base (CX1 P w) 1 A.a_check_bounds A.fd_check_bounds ["number", "least", "most"] (spZ (ctOf T) 3 m_check_bounds) := z_check_bounds T
  refine T.F_check_grams.okR sc_check_grams (fun vs H Q E h => spZ_len h) (fun cdv A' outer s H vs Q E hr h => ?_)
  have nd := sc_check_grams.nd
  have hu := hu_of hr
  exact ⟨_, (pss_one (ps_expr (pe_call G_check_bounds (hr.mono (by decide)) rfl T.d_check_bounds T.F_check_bounds.kp T.b_check_bounds .nil out_of.passes (pa_cons (pv 0) (pa_cons pe_int (pa_cons (pe_globI rfl T.g_MOST_GRAMS) pa_nil)))))), fn_body (C := ctOf T) ((ss_drop (se_call (sa_cons se_var (sa_cons se_int (sa_cons se_int sa_nil)))))) rfl h⟩
theorem z_check_gap (T : Txt K mg A) : FnOk P w K mg base (CX1 P w) 2 A.a_check_gap A.fd_check_gap ["least", "most"] (spZ (ctOf T) 2 m_check_gap) := by
  have G_check_bounds : FnOk P w K mg base (CX1 P w) 1 A.a_check_bounds A.fd_check_bounds ["number", "least", "most"] (spZ (ctOf T) 3 m_check_bounds) := z_check_bounds T
  refine T.F_check_gap.okR sc_check_gap (fun vs H Q E h => spZ_len h) (fun cdv A' outer s H vs Q E hr h => ?_)
  have nd := sc_check_gap.nd
  have hu := hu_of hr
  exact ⟨_, (pss_cons (ps_expr (pe_call G_check_bounds (hr.mono (by decide)) rfl T.d_check_bounds T.F_check_bounds.kp T.b_check_bounds .nil out_of.passes (pa_cons (pv 1) (pa_cons pe_int (pa_cons (pe_globI rfl T.g_LONGEST_GAP) pa_nil)))))
 (pss_one (ps_expr (pe_call G_check_bounds (hr.mono (by decide)) rfl T.d_check_bounds T.F_check_bounds.kp T.b_check_bounds .nil out_of.passes (pa_cons (pv 0) (pa_cons pe_int (pa_cons (pv 1) pa_nil))))))), fn_body (C := ctOf T) ((ss_seq (ss_drop (se_call (sa_cons se_var (sa_cons se_int (sa_cons se_int sa_nil)))))
 (ss_drop (se_call (sa_cons se_var (sa_cons se_int (sa_cons se_var sa_nil))))))) rfl h⟩
theorem z_check_here (T : Txt K mg A) : FnOk P w K mg base (CX1 P w) 1 A.a_check_here A.fd_check_here ["thing"] (spZ (ctOf T) 1 m_check_here) := by
  refine T.F_check_here.okR sc_check_here (fun vs H Q E h => spZ_len h) (fun cdv A' outer s H vs Q E hr h => ?_)
  have nd := sc_check_here.nd
  have hu := hu_of hr
  exact ⟨_, (pss_one (ps_if (pt_val (pe_fld (pv 0) rfl))
 (pss_one (ps_raise out_of hr.hd rfl T.c_Gone T.x_Gone PySem.F.excBase_ValueError rfl PySem.F.excBase_ValueError (pa_cons (pe_op op_add_str pe_str (pe_fld (pv 0) rfl)) pa_nil)))
 pss_nil)), fn_body (C := ctOf T) ((ss_if (st_b (se_fld rfl se_var))
 (ss_raise (c := 25) (ms_add (by decide +kernel) (se_fld rfl se_var)))
 ss_next)) rfl h⟩
theorem z_check_enough (T : Txt K mg A) : FnOk P w K mg base (CX1 P w) 1 A.a_check_enough A.fd_check_enough ["grams", "there"] (spZ (ctOf T) 2 m_check_enough) := by
  refine T.F_check_enough.okR sc_check_enough (fun vs H Q E h => spZ_len h) (fun cdv A' outer s H vs Q E hr h => ?_)
  have nd := sc_check_enough.nd
  have hu := hu_of hr
  exact ⟨_, (pss_one (ps_if (pt_cmpR op_gt (pv 0) (pv 1) (nomark _))
 (pss_one (ps_raise out_of hr.hd rfl T.c_TooMuch T.x_TooMuch PySem.F.excBase_ValueError rfl PySem.F.excBase_ValueError (pa_cons (pe_fstr (pj_cons (pe_fmtI (pv 0)) (pj_cons pe_str (pj_cons (pe_fmtI (pv 1)) (pj_cons pe_str pj_nil))))) pa_nil)))
 pss_nil)), fn_body (C := ctOf T) ((ss_if (st_test (se_op s2_gt se_var se_var))
 (ss_raise (c := 28) (ms_fstr (sjm_int se_var (sjm_lit (sjm_int se_var (sjm_lit sjm_nil)))) (by decide +kernel)))
 ss_next)) rfl h⟩
theorem z__law_at (T : Txt K mg A) : FnOk P w K mg base (CX1 P w) 1 A.a__law_at A.fd__law_at ["_law_script", "_law_k"] (spZ (ctOf T) 2 m__law_at) := by
  refine T.F__law_at.okR sc__law_at (fun vs H Q E h => spZ_len h) (fun cdv A' outer s H vs Q E hr h => ?_)
  have nd := sc__law_at.nd
  have hu := hu_of hr
  exact ⟨_, (pss_cons (ps_if (pt_cmpR op_lt (pv 1) (pe_callB call_lenZ rfl T.n_len PySem.boot_len (pa_cons (pv 0) pa_nil)) (nomark _))
 (pss_one (ps_ret (pe_ix ix_seq (pv 0) (pv 1) (fun _ _ => rfl))))
 pss_nil)
 (pss_one (ps_ret pe_int))), fn_body (C := ctOf T) ((ss_seq (ss_if (st_test (se_op s2_lt se_var (se_cb sc_len (sa_cons se_var sa_nil))))
 (ss_ret (se_op s2_ix se_var se_var))
 ss_next)
 (ss_ret se_int))) rfl h⟩
theorem z__law_whole (T : Txt K mg A) : FnOk P w K mg base (CX1 P w) 1 A.a__law_whole A.fd__law_whole ["_law_found"] (spZ (ctOf T) 1 m__law_whole) := by
  refine T.F__law_whole.okR sc__law_whole (fun vs H Q E h => spZ_len h) (fun cdv A' outer s H vs Q E hr h => ?_)
  have nd := sc__law_whole.nd
  have hu := hu_of hr
  exact ⟨_, (pss_one (ps_ret (pe_and (pe_callB call_isiZ rfl T.n_isinstance PyProof.Rows.boot_isinstance (pa_cons (pv 0) (pa_cons (pe_bltn (v := .ty "int") rfl T.n_int PyProof.Rows.boot_int rfl) pa_nil))) (pe_one (pe_not (pe_callB call_isiZ rfl T.n_isinstance PyProof.Rows.boot_isinstance (pa_cons (pv 0) (pa_cons (pe_bltn (v := .ty "bool") rfl T.n_bool PyProof.Rows.boot_bool rfl) pa_nil)))))))), fn_body (C := ctOf T) ((ss_ret (se_and (se_isi .int rfl (by intro z; cases z) se_var) (se_not (se_isi .bool rfl (by intro z; cases z) se_var))))) rfl h⟩
theorem zr__law_same (T : Txt K mg A) : ∀ n, FnOk P w K mg base (CX1 P w) (n + 0) A.a__law_same A.fd__law_same ["_law_found", "_law_due"] (spZ (ctOf T) 2 (m__law_same n))
  | 0 => fn_no rfl
  | n + 1 => by
    have G__law_same : FnOk P w K mg base (CX1 P w) (n + 0) A.a__law_same A.fd__law_same ["_law_found", "_law_due"] (spZ (ctOf T) 2 (m__law_same n)) := zr__law_same T n
    refine T.F__law_same.okR sc__law_same (fun vs H Q E h => spZ_len h) (fun cdv A' outer s H vs Q E hr h => ?_)
    have nd := sc__law_same.nd
    have hu := hu_of hr
    exact ⟨_, (pss_cons (ps_if (pt_val (pe_callB call_isiTZ rfl T.n_isinstance PyProof.Rows.boot_isinstance (pa_cons (pv 1) (pa_cons (pe_tup (pa_cons (pe_bltn (v := .ty "list") rfl T.n_list PyProof.Rows.boot_list rfl) (pa_cons (pe_bltn (v := .ty "tuple") rfl T.n_tuple PyProof.Rows.boot_tuple rfl) pa_nil))) pa_nil))))
 (pss_cons (ps_if (PW.pt (pw_or (pt_cmpR op_ne (pe_callB call_isiZ rfl T.n_isinstance PyProof.Rows.boot_isinstance (pa_cons (pv 0) (pa_cons (pe_bltn (v := .ty "list") rfl T.n_list PyProof.Rows.boot_list rfl) pa_nil))) (pe_callB call_isiZ rfl T.n_isinstance PyProof.Rows.boot_isinstance (pa_cons (pv 1) (pa_cons (pe_bltn (v := .ty "list") rfl T.n_list PyProof.Rows.boot_list rfl) pa_nil))) (nomark _)) (pw_or1 (pt_cmpR op_ne (pe_callB call_isiZ rfl T.n_isinstance PyProof.Rows.boot_isinstance (pa_cons (pv 0) (pa_cons (pe_bltn (v := .ty "tuple") rfl T.n_tuple PyProof.Rows.boot_tuple rfl) pa_nil))) (pe_callB call_isiZ rfl T.n_isinstance PyProof.Rows.boot_isinstance (pa_cons (pv 1) (pa_cons (pe_bltn (v := .ty "tuple") rfl T.n_tuple PyProof.Rows.boot_tuple rfl) pa_nil))) (nomark _)))))
 (pss_one (ps_ret pe_bl))
 pss_nil)
 (pss_one (ps_ret (pe_and (pe_cmpR op_eq (pe_callB call_lenZ rfl T.n_len PySem.boot_len (pa_cons (pv 0) pa_nil)) (pe_callB call_lenZ rfl T.n_len PySem.boot_len (pa_cons (pv 1) pa_nil)) (nomark _)) (pe_one (pe_callB (call_allZ rfl) rfl T.n_all PyProof.Rows.boot_all (pa_cons (pe_lc (osc := defScope s__law_same) (N0 := ["_law_found", "_law_due", "_law_alike"]) rfl rfl rfl (own := ["_law_k"]) (fv := [("_law_found", 0), ("_law_due", 1)]) ⟨rfl, by decide +kernel, by decide +kernel, by decide +kernel, by decide +kernel, by decide +kernel⟩ (pi_range1 rfl T.n_range (pa_cons (pe_callB call_lenZ rfl T.n_len PySem.boot_len (pa_cons (pv 1) pa_nil)) pa_nil)) (fun _ _ _ => (pg_name (i := 0) (show (["_law_k", "_law_found", "_law_due"] : List Str).Nodup by decide +kernel) rfl (Or.inl rfl) (hf := Or.inr rfl))) (fun _ _ _ => pts_nil) (fun _ _ _ => (pe_call G__law_same hr rfl T.d__law_same T.F__law_same.kp T.b__law_same .nil pass_none (pa_cons (pe_ix (ix_seqK (K := K) rfl) (pv 1) (pv 0) (fun _ _ => rfl)) (pa_cons (pe_ix (ix_seqK (K := K) rfl) (pv 2) (pv 0) (fun _ _ => rfl)) pa_nil))))) pa_nil)))))))
 pss_nil)
 (pss_cons (ps_set (i := 2) nd rfl (Or.inl rfl) (pe_and (pe_cmpR op_eq (pe_callB call_isiZ rfl T.n_isinstance PyProof.Rows.boot_isinstance (pa_cons (pv 0) (pa_cons (pe_bltn (v := .ty "int") rfl T.n_int PyProof.Rows.boot_int rfl) pa_nil))) (pe_callB call_isiZ rfl T.n_isinstance PyProof.Rows.boot_isinstance (pa_cons (pv 1) (pa_cons (pe_bltn (v := .ty "int") rfl T.n_int PyProof.Rows.boot_int rfl) pa_nil))) (nomark _)) (pe_one (pe_cmpR op_eq (pe_callB call_isiZ rfl T.n_isinstance PyProof.Rows.boot_isinstance (pa_cons (pv 0) (pa_cons (pe_bltn (v := .ty "bool") rfl T.n_bool PyProof.Rows.boot_bool rfl) pa_nil))) (pe_callB call_isiZ rfl T.n_isinstance PyProof.Rows.boot_isinstance (pa_cons (pv 1) (pa_cons (pe_bltn (v := .ty "bool") rfl T.n_bool PyProof.Rows.boot_bool rfl) pa_nil))) (nomark _)))))
 (pss_one (ps_ret (pe_and (pv 2) (pe_and (pe_cmpR op_eq (pe_callB call_isiZ rfl T.n_isinstance PyProof.Rows.boot_isinstance (pa_cons (pv 0) (pa_cons (pe_bltn (v := .ty "str") rfl T.n_str PyProof.Rows.boot_str rfl) pa_nil))) (pe_callB call_isiZ rfl T.n_isinstance PyProof.Rows.boot_isinstance (pa_cons (pv 1) (pa_cons (pe_bltn (v := .ty "str") rfl T.n_str PyProof.Rows.boot_str rfl) pa_nil))) (nomark _)) (pe_one (pe_cmpR op_eq (pv 0) (pv 1) (nomark _))))))))), fn_body (C := ctOf T) ((ss_seq (ss_if (st_b (se_isiLT se_var))
 (ss_seq (ss_if (st_or (st_test (se_op s2_ne (se_isi .list rfl (by intro z; cases z) se_var) (se_isi .list rfl (by intro z; cases z) se_var))) (st_test (se_op s2_ne (se_isi .tuple rfl (by intro z; cases z) se_var) (se_isi .tuple rfl (by intro z; cases z) se_var))))
 (ss_ret se_bl)
 ss_next)
 (ss_ret (se_and (se_op s2_eq (se_cb sc_len (sa_cons se_var sa_nil)) (se_cb sc_len (sa_cons se_var sa_nil))) (se_cb sc_all (sa_cons (se_lc (own := ["_law_k"]) (fv := [("_law_found", 0), ("_law_due", 1)]) (si_range1 (se_cb sc_len (sa_cons se_var sa_nil))) sgo_name st_yes (se_call (sa_cons (se_op s2_ix se_var se_var) (sa_cons (se_op s2_ix se_var se_var) sa_nil)))) sa_nil)))))
 ss_next)
 (ss_seq (ss_asg (se_and (se_op s2_eq (se_isi .int rfl (by intro z; cases z) se_var) (se_isi .int rfl (by intro z; cases z) se_var)) (se_op s2_eq (se_isi .bool rfl (by intro z; cases z) se_var) (se_isi .bool rfl (by intro z; cases z) se_var))) sg_name)
 (ss_ret (se_and se_var (se_and (se_op s2_eq (se_isi .str rfl (by intro z; cases z) se_var) (se_isi .str rfl (by intro z; cases z) se_var)) (se_op s2_eq se_var se_var))))))) rfl h⟩
theorem z__law_same (T : Txt K mg A) (k : Nat) : FnOk P w K mg base (CX1 P w) (k + 0) A.a__law_same A.fd__law_same ["_law_found", "_law_due"] (spZ (ctOf T) 2 (m__law_same k)) := zr__law_same T k
theorem z_Cellar___init__ (T : Txt K mg A) : FnOk P w K mg base (CX1 P w) 1 A.a_Cellar___init__ A.fd_Cellar___init__ ["self"] (spZ (ctOf T) 1 m_Cellar___init__) := by
  refine T.F_Cellar___init__.okR sc_Cellar___init__ (fun vs H Q E h => spZ_len h) (fun cdv A' outer s H vs Q E hr h => ?_)
  have nd := sc_Cellar___init__.nd
  have hu := hu_of hr
  exact ⟨_, (pss_cons (ps_fld (pv 0) pe_int rfl)
 (pss_cons (ps_fld (pv 0) pe_dnewK rfl)
 (pss_cons (ps_fld (pv 0) (pe_lst pa_nil) rfl)
 (pss_one (ps_fld (pv 0) (pe_lst pa_nil) rfl))))), fn_body (C := ctOf T) ((ss_seq (ss_fld (i := 18) rfl se_var se_int)
 (ss_seq (ss_fld (i := 19) rfl se_var se_dnewC)
 (ss_seq (ss_fld (i := 20) rfl se_var (se_lstC sa_nil))
 (ss_fld (i := 21) rfl se_var (se_lstC sa_nil)))))) rfl h⟩
theorem z_Thing___init__ (T : Txt K mg A) : FnOk P w K mg base (CX1 P w) 1 A.a_Thing___init__ A.fd_Thing___init__ ["self", "kind", "name"] (spZ (ctOf T) 3 m_Thing___init__) := by
  refine T.F_Thing___init__.okR sc_Thing___init__ (fun vs H Q E h => spZ_len h) (fun cdv A' outer s H vs Q E hr h => ?_)
  have nd := sc_Thing___init__.nd
  have hu := hu_of hr
  exact ⟨_, (pss_cons (ps_fld (pv 0) (pv 1) rfl)
 (pss_one (ps_fld (pv 0) (pv 2) rfl))), fn_body (C := ctOf T) ((ss_seq (ss_fld (i := 0) rfl se_var se_var)
 (ss_fld (i := 1) rfl se_var se_var))) rfl h⟩
theorem z_Batch___init__ (T : Txt K mg A) : FnOk P w K mg base (CX1 P w) 3 A.a_Batch___init__ A.fd_Batch___init__ ["self", "name", "grams"] (spZ (ctOf T) 3 m_Batch___init__) := by
  have G_Thing___init__ : FnOk P w K mg base (CX1 P w) 1 A.a_Thing___init__ A.fd_Thing___init__ ["self", "kind", "name"] (spZ (ctOf T) 3 m_Thing___init__) := z_Thing___init__ T
  refine T.F_Batch___init__.okR sc_Batch___init__ (fun vs H Q E h => spZ_len h) (fun cdv A' outer s H vs Q E hr h => ?_)
  have nd := sc_Batch___init__.nd
  have hu := hu_of hr
  exact ⟨_, (pss_cons (ps_expr (pe_base rfl T.c_Thing T.B_Thing___init__ G_Thing___init__ (hr.mono (by decide)) T.b_Thing___init__ .nil out_of.passes (pa_cons (pv 0) (pa_cons pe_str (pa_cons (pv 1) pa_nil)))))
 (pss_one (ps_fld (pv 0) (pv 2) rfl))), fn_body (C := ctOf T) ((ss_seq (ss_drop (se_call (sa_cons se_var (sa_cons se_str (sa_cons se_var sa_nil)))))
 (ss_fld (i := 10) rfl se_var se_var))) rfl h⟩
theorem z_Cellar_check_free (T : Txt K mg A) : FnOk P w K mg base (CX1 P w) 3 A.a_Cellar_check_free A.fd_Cellar_check_free ["self", "name"] (spZ (ctOf T) 2 m_Cellar_check_free) := by
  have G_is_name : FnOk P w K mg base (CX1 P w) 2 A.a_is_name A.fd_is_name ["text"] (spZ (ctOf T) 1 m_is_name) := z_is_name T
  refine T.F_Cellar_check_free.okR sc_Cellar_check_free (fun vs H Q E h => spZ_len h) (fun cdv A' outer s H vs Q E hr h => ?_)
  have nd := sc_Cellar_check_free.nd
  have hu := hu_of hr
  exact ⟨_, (pss_cons (ps_if (pt_not (pt_val (pe_call G_is_name (hr.mono (by decide)) rfl T.d_is_name T.F_is_name.kp T.b_is_name .nil out_of.passes (pa_cons (pv 1) pa_nil))))
 (pss_one (ps_raise out_of hr.hd rfl T.c_BadName T.x_BadName PySem.F.excBase_ValueError rfl PySem.F.excBase_ValueError (pa_cons (pe_fstr (pj_cons pe_str (pj_cons (pe_fmtR (pv 1)) pj_nil))) pa_nil)))
 pss_nil)
 (pss_one (ps_if (pt_cmp (pc_din hu (pv 1) (pe_fld (pv 0) rfl)))
 (pss_one (ps_raise out_of hr.hd rfl T.c_Taken T.x_Taken PySem.F.excBase_ValueError rfl PySem.F.excBase_ValueError (pa_cons (pe_fstr (pj_cons pe_str (pj_cons (pe_fmtS (pv 1)) pj_nil))) pa_nil)))
 pss_nil))), fn_body (C := ctOf T) ((ss_seq (ss_if (st_not (st_b (se_call (sa_cons se_var sa_nil))))
 (ss_raise (c := 21) (ms_fstr (sjm_lit (sjm_rep se_var sjm_nil)) (by decide +kernel)))
 ss_next)
 (ss_if (st_b (se_din se_var (se_fld rfl se_var)))
 (ss_raise (c := 22) (ms_fstr (sjm_lit (sjm_str se_var sjm_nil)) (by decide +kernel)))
 ss_next))) rfl h⟩
theorem z_Cellar_hold (T : Txt K mg A) : FnOk P w K mg base (CX1 P w) 1 A.a_Cellar_hold A.fd_Cellar_hold ["self", "thing"] (spZ (ctOf T) 2 m_Cellar_hold) := by
  refine T.F_Cellar_hold.okR sc_Cellar_hold (fun vs H Q E h => spZ_len h) (fun cdv A' outer s H vs Q E hr h => ?_)
  have nd := sc_Cellar_hold.nd
  have hu := hu_of hr
  exact ⟨_, (pss_one (ps_dput hu (pe_fld (pv 0) rfl) (pe_fld (pv 1) rfl) (pv 1) rfl)), fn_body (C := ctOf T) ((ss_dput (se_fld rfl se_var) (se_fld rfl se_var) se_var)) rfl h⟩
theorem z_Cellar_known (T : Txt K mg A) : FnOk P w K mg base (CX1 P w) 1 A.a_Cellar_known A.fd_Cellar_known ["self", "name", "kind"] (spZ (ctOf T) 3 m_Cellar_known) := by
  refine T.F_Cellar_known.okR sc_Cellar_known (fun vs H Q E h => spZ_len h) (fun cdv A' outer s H vs Q E hr h => ?_)
  have nd := sc_Cellar_known.nd
  have hu := hu_of hr
  exact ⟨_, (pss_cons (ps_set (i := 3) nd rfl (Or.inl rfl) (pe_dget1 hu (pe_fld (pv 0) rfl) (pv 1) ⟨rfl, rfl, rfl, rfl⟩))
 (pss_cons (ps_if (PW.pt (pw_or (pt_cmp (pc_isN (pv 3))) (pw_or1 (pt_cmpR op_ne (pe_fld (pv 3) rfl) (pv 2) (nomark _)))))
 (pss_one (ps_raise out_of hr.hd rfl T.c_Unknown T.x_Unknown PySem.F.excBase_ValueError rfl PySem.F.excBase_ValueError (pa_cons (pe_fstr (pj_cons pe_str (pj_cons (pe_fmtS (pv 2)) (pj_cons pe_str (pj_cons (pe_fmtR (pv 1)) pj_nil))))) pa_nil)))
 pss_nil)
 (pss_one (ps_ret (pv 3))))), fn_body (C := ctOf T) ((ss_seq (ss_asg (se_dget1 (se_fld rfl se_var) se_var) sg_name)
 (ss_seq (ss_if (st_or (st_b (se_isN se_var)) (st_test (se_op s2_ne (se_fld rfl se_var) se_var)))
 (ss_raise (c := 23) (ms_fstr (sjm_lit (sjm_str se_var (sjm_lit (sjm_rep se_var sjm_nil)))) (by decide +kernel)))
 ss_next)
 (ss_ret se_var)))) rfl h⟩
theorem z_Cellar_new_batch (T : Txt K mg A) : FnOk P w K mg base (CX1 P w) 5 A.a_Cellar_new_batch A.fd_Cellar_new_batch ["self", "name", "parts"] (spZ (ctOf T) 3 m_Cellar_new_batch) := by
  have G_Batch___init__ : FnOk P w K mg base (CX1 P w) 3 A.a_Batch___init__ A.fd_Batch___init__ ["self", "name", "grams"] (spZ (ctOf T) 3 m_Batch___init__) := z_Batch___init__ T
  have G_Cellar_check_free : FnOk P w K mg base (CX1 P w) 3 A.a_Cellar_check_free A.fd_Cellar_check_free ["self", "name"] (spZ (ctOf T) 2 m_Cellar_check_free) := z_Cellar_check_free T
  have G_Cellar_hold : FnOk P w K mg base (CX1 P w) 1 A.a_Cellar_hold A.fd_Cellar_hold ["self", "thing"] (spZ (ctOf T) 2 m_Cellar_hold) := z_Cellar_hold T
  have G_Cellar_known : FnOk P w K mg base (CX1 P w) 1 A.a_Cellar_known A.fd_Cellar_known ["self", "name", "kind"] (spZ (ctOf T) 3 m_Cellar_known) := z_Cellar_known T
  have G_check_grams : FnOk P w K mg base (CX1 P w) 2 A.a_check_grams A.fd_check_grams ["grams"] (spZ (ctOf T) 1 m_check_grams) := z_check_grams T
  refine T.F_Cellar_new_batch.okR sc_Cellar_new_batch (fun vs H Q E h => spZ_len h) (fun cdv A' outer s H vs Q E hr h => ?_)
  have nd := sc_Cellar_new_batch.nd
  have hu := hu_of hr
  exact ⟨_, (pss_cons (ps_expr (pe_meth (pv 0) T.Cls_Cellar T.m_Cellar_check_free G_Cellar_check_free (hr.mono (by decide)) T.b_Cellar_check_free .nil out_of.passes (pa_cons (pv 1) pa_nil)))
 (pss_cons (ps_for PassesOwn.leaving rfl (pi_list (pv 2)) (pg_tup rfl (pgs_cons (pg_name (i := 3) nd rfl (Or.inl rfl)) (pgs_cons (pg_name (i := 4) nd rfl (Or.inl rfl)) pgs_nil)))
 (pss_one (ps_expr (pe_meth (pv 0) T.Cls_Cellar T.m_Cellar_known G_Cellar_known (hr.mono (by decide)) T.b_Cellar_known .nil out_of.passes (pa_cons (pv 3) (pa_cons pe_str pa_nil))))))
 (pss_cons (ps_for PassesOwn.leaving rfl (pi_list (pv 2)) (pg_tup rfl (pgs_cons (pg_name (i := 3) nd rfl (Or.inl rfl)) (pgs_cons (pg_name (i := 4) nd rfl (Or.inl rfl)) pgs_nil)))
 (pss_one (ps_expr (pe_call G_check_grams (hr.mono (by decide)) rfl T.d_check_grams T.F_check_grams.kp T.b_check_grams .nil out_of.passes (pa_cons (pv 4) pa_nil)))))
 (pss_cons (ps_expr (pe_meth (pv 0) T.Cls_Cellar T.m_Cellar_hold G_Cellar_hold (hr.mono (by decide)) T.b_Cellar_hold .nil out_of.passes (pa_cons (pe_make T.mk_Batch G_Batch___init__ (hr.mono (by decide)) rfl T.c_Batch T.b_Batch___init__ .nil out_of.passes (pa_cons (pv 1) (pa_cons (pe_callB (call_sumZ rfl) rfl T.n_sum PyProof.Rows.boot_sum (pa_cons (pe_lc (osc := defScope s_Cellar_new_batch) (N0 := ["self", "name", "parts", "farm", "grams"]) rfl rfl rfl (own := ["farm", "grams"]) (fv := []) ⟨rfl, by decide +kernel, by decide +kernel, by decide +kernel, by decide +kernel, by decide +kernel⟩ (pi_list (pv 2)) (fun _ _ _ => (pg_tupK (K := K) (n := 2) rfl rfl rfl (pgs_cons (pg_name (i := 0) (show (["farm", "grams"] : List Str).Nodup by decide +kernel) rfl (Or.inl rfl) (hf := Or.inr rfl)) (pgs_cons (pg_name (i := 1) (show (["farm", "grams"] : List Str).Nodup by decide +kernel) rfl (Or.inl rfl) (hf := Or.inr rfl)) pgs_nil)))) (fun _ _ _ => pts_nil) (fun _ _ _ => (pv 1))) pa_nil)) pa_nil))) pa_nil)))
 (pss_one (ps_expr (pe_bm PySem.F.plainAttrs_list PySem.F.slot_list_append PySem.F.type_list_append mt_append (pe_fld (pv 0) rfl) (pa_cons (pe_tup (pa_cons (pe_fld (pv 0) rfl) (pa_cons pe_str (pa_cons (pv 1) (pa_cons (pe_callTy call_tupleZ rfl T.n_tuple PyProof.Rows.boot_tuple (pa_cons (pv 2) pa_nil)) pa_nil))))) pa_nil)))))))), fn_body (C := ctOf T) ((ss_seq (ss_drop (se_meth (c := 8) (show ∀ i ∈ flT 8, fnT i ≠ "check_free" by decide +kernel) se_var (sa_cons se_var sa_nil)))
 (ss_seq (ss_for (si_list se_var) (sg_tup (sgs_cons sg_name (sgs_cons sg_name sgs_nil)))
 (ss_drop (se_meth (c := 8) (show ∀ i ∈ flT 8, fnT i ≠ "known" by decide +kernel) se_var (sa_cons se_var (sa_cons se_str sa_nil)))))
 (ss_seq (ss_for (si_list se_var) (sg_tup (sgs_cons sg_name (sgs_cons sg_name sgs_nil)))
 (ss_drop (se_call (sa_cons se_var sa_nil))))
 (ss_seq (ss_drop (se_meth (c := 8) (show ∀ i ∈ flT 8, fnT i ≠ "hold" by decide +kernel) se_var (sa_cons (se_make (c := 5) rfl (sa_cons se_var (sa_cons (se_cb sc_sum (sa_cons (se_lc (own := ["farm", "grams"]) (fv := []) (si_list se_var) (sgo_tup (sgos_cons sgo_name (sgos_cons sgo_name sgos_nil))) st_yes se_var) sa_nil)) sa_nil))) sa_nil)))
 (ss_drop (se_bmL sm_append (se_fld rfl se_var) (sa_cons (se_tup (sa_cons (se_fld rfl se_var) (sa_cons se_str (sa_cons se_var (sa_cons (se_cb sc_tuple (sa_cons se_var sa_nil)) sa_nil))))) sa_nil)))))))) rfl h⟩
theorem z_Cellar_new_farm (T : Txt K mg A) : FnOk P w K mg base (CX1 P w) 4 A.a_Cellar_new_farm A.fd_Cellar_new_farm ["self", "name"] (spZ (ctOf T) 2 m_Cellar_new_farm) := by
  have G_Cellar_check_free : FnOk P w K mg base (CX1 P w) 3 A.a_Cellar_check_free A.fd_Cellar_check_free ["self", "name"] (spZ (ctOf T) 2 m_Cellar_check_free) := z_Cellar_check_free T
  have G_Cellar_hold : FnOk P w K mg base (CX1 P w) 1 A.a_Cellar_hold A.fd_Cellar_hold ["self", "thing"] (spZ (ctOf T) 2 m_Cellar_hold) := z_Cellar_hold T
  have G_Thing___init__ : FnOk P w K mg base (CX1 P w) 1 A.a_Thing___init__ A.fd_Thing___init__ ["self", "kind", "name"] (spZ (ctOf T) 3 m_Thing___init__) := z_Thing___init__ T
  refine T.F_Cellar_new_farm.okR sc_Cellar_new_farm (fun vs H Q E h => spZ_len h) (fun cdv A' outer s H vs Q E hr h => ?_)
  have nd := sc_Cellar_new_farm.nd
  have hu := hu_of hr
  exact ⟨_, (pss_cons (ps_expr (pe_meth (pv 0) T.Cls_Cellar T.m_Cellar_check_free G_Cellar_check_free (hr.mono (by decide)) T.b_Cellar_check_free .nil out_of.passes (pa_cons (pv 1) pa_nil)))
 (pss_one (ps_expr (pe_meth (pv 0) T.Cls_Cellar T.m_Cellar_hold G_Cellar_hold (hr.mono (by decide)) T.b_Cellar_hold .nil out_of.passes (pa_cons (pe_make T.mk_Thing G_Thing___init__ (hr.mono (by decide)) rfl T.c_Thing T.b_Thing___init__ .nil out_of.passes (pa_cons pe_str (pa_cons (pv 1) pa_nil))) pa_nil))))), fn_body (C := ctOf T) ((ss_seq (ss_drop (se_meth (c := 8) (show ∀ i ∈ flT 8, fnT i ≠ "check_free" by decide +kernel) se_var (sa_cons se_var sa_nil)))
 (ss_drop (se_meth (c := 8) (show ∀ i ∈ flT 8, fnT i ≠ "hold" by decide +kernel) se_var (sa_cons (se_make (c := 0) rfl (sa_cons se_str (sa_cons se_var sa_nil))) sa_nil))))) rfl h⟩
theorem z_Room___init__ (T : Txt K mg A) : FnOk P w K mg base (CX1 P w) 3 A.a_Room___init__ A.fd_Room___init__ ["self", "name", "damp", "warmth"] (spZ (ctOf T) 4 m_Room___init__) := by
  have G_Thing___init__ : FnOk P w K mg base (CX1 P w) 1 A.a_Thing___init__ A.fd_Thing___init__ ["self", "kind", "name"] (spZ (ctOf T) 3 m_Thing___init__) := z_Thing___init__ T
  refine T.F_Room___init__.okR sc_Room___init__ (fun vs H Q E h => spZ_len h) (fun cdv A' outer s H vs Q E hr h => ?_)
  have nd := sc_Room___init__.nd
  have hu := hu_of hr
  exact ⟨_, (pss_cons (ps_expr (pe_base rfl T.c_Thing T.B_Thing___init__ G_Thing___init__ (hr.mono (by decide)) T.b_Thing___init__ .nil out_of.passes (pa_cons (pv 0) (pa_cons pe_str (pa_cons (pv 1) pa_nil)))))
 (pss_cons (ps_fld (pv 0) (pv 2) rfl)
 (pss_one (ps_fld (pv 0) (pv 3) rfl)))), fn_body (C := ctOf T) ((ss_seq (ss_drop (se_call (sa_cons se_var (sa_cons se_str (sa_cons se_var sa_nil)))))
 (ss_seq (ss_fld (i := 2) rfl se_var se_var)
 (ss_fld (i := 3) rfl se_var se_var)))) rfl h⟩
theorem z_Cellar_new_room (T : Txt K mg A) : FnOk P w K mg base (CX1 P w) 5 A.a_Cellar_new_room A.fd_Cellar_new_room ["self", "name", "damp", "warmth"] (spZ (ctOf T) 4 m_Cellar_new_room) := by
  have G_Cellar_check_free : FnOk P w K mg base (CX1 P w) 3 A.a_Cellar_check_free A.fd_Cellar_check_free ["self", "name"] (spZ (ctOf T) 2 m_Cellar_check_free) := z_Cellar_check_free T
  have G_Cellar_hold : FnOk P w K mg base (CX1 P w) 1 A.a_Cellar_hold A.fd_Cellar_hold ["self", "thing"] (spZ (ctOf T) 2 m_Cellar_hold) := z_Cellar_hold T
  have G_Room___init__ : FnOk P w K mg base (CX1 P w) 3 A.a_Room___init__ A.fd_Room___init__ ["self", "name", "damp", "warmth"] (spZ (ctOf T) 4 m_Room___init__) := z_Room___init__ T
  have G_check_bounds : FnOk P w K mg base (CX1 P w) 1 A.a_check_bounds A.fd_check_bounds ["number", "least", "most"] (spZ (ctOf T) 3 m_check_bounds) := z_check_bounds T
  refine T.F_Cellar_new_room.okR sc_Cellar_new_room (fun vs H Q E h => spZ_len h) (fun cdv A' outer s H vs Q E hr h => ?_)
  have nd := sc_Cellar_new_room.nd
  have hu := hu_of hr
  exact ⟨_, (pss_cons (ps_expr (pe_meth (pv 0) T.Cls_Cellar T.m_Cellar_check_free G_Cellar_check_free (hr.mono (by decide)) T.b_Cellar_check_free .nil out_of.passes (pa_cons (pv 1) pa_nil)))
 (pss_cons (ps_expr (pe_call G_check_bounds (hr.mono (by decide)) rfl T.d_check_bounds T.F_check_bounds.kp T.b_check_bounds .nil out_of.passes (pa_cons (pv 2) (pa_cons pe_int (pa_cons (pe_globI rfl T.g_MOST_DAMP) pa_nil)))))
 (pss_cons (ps_expr (pe_call G_check_bounds (hr.mono (by decide)) rfl T.d_check_bounds T.F_check_bounds.kp T.b_check_bounds .nil out_of.passes (pa_cons (pv 3) (pa_cons pe_int (pa_cons (pe_globI rfl T.g_MOST_WARMTH) pa_nil)))))
 (pss_one (ps_expr (pe_meth (pv 0) T.Cls_Cellar T.m_Cellar_hold G_Cellar_hold (hr.mono (by decide)) T.b_Cellar_hold .nil out_of.passes (pa_cons (pe_make T.mk_Room G_Room___init__ (hr.mono (by decide)) rfl T.c_Room T.b_Room___init__ .nil out_of.passes (pa_cons (pv 1) (pa_cons (pv 2) (pa_cons (pv 3) pa_nil)))) pa_nil))))))), fn_body (C := ctOf T) ((ss_seq (ss_drop (se_meth (c := 8) (show ∀ i ∈ flT 8, fnT i ≠ "check_free" by decide +kernel) se_var (sa_cons se_var sa_nil)))
 (ss_seq (ss_drop (se_call (sa_cons se_var (sa_cons se_int (sa_cons se_int sa_nil)))))
 (ss_seq (ss_drop (se_call (sa_cons se_var (sa_cons se_int (sa_cons se_int sa_nil)))))
 (ss_drop (se_meth (c := 8) (show ∀ i ∈ flT 8, fnT i ≠ "hold" by decide +kernel) se_var (sa_cons (se_make (c := 1) rfl (sa_cons se_var (sa_cons se_var (sa_cons se_var sa_nil)))) sa_nil))))))) rfl h⟩
theorem z_Shelf___init__ (T : Txt K mg A) : FnOk P w K mg base (CX1 P w) 3 A.a_Shelf___init__ A.fd_Shelf___init__ ["self", "name", "room"] (spZ (ctOf T) 3 m_Shelf___init__) := by
  have G_Thing___init__ : FnOk P w K mg base (CX1 P w) 1 A.a_Thing___init__ A.fd_Thing___init__ ["self", "kind", "name"] (spZ (ctOf T) 3 m_Thing___init__) := z_Thing___init__ T
  refine T.F_Shelf___init__.okR sc_Shelf___init__ (fun vs H Q E h => spZ_len h) (fun cdv A' outer s H vs Q E hr h => ?_)
  have nd := sc_Shelf___init__.nd
  have hu := hu_of hr
  exact ⟨_, (pss_cons (ps_expr (pe_base rfl T.c_Thing T.B_Thing___init__ G_Thing___init__ (hr.mono (by decide)) T.b_Thing___init__ .nil out_of.passes (pa_cons (pv 0) (pa_cons pe_str (pa_cons (pv 1) pa_nil)))))
 (pss_one (ps_fld (pv 0) (pv 2) rfl))), fn_body (C := ctOf T) ((ss_seq (ss_drop (se_call (sa_cons se_var (sa_cons se_str (sa_cons se_var sa_nil)))))
 (ss_fld (i := 4) rfl se_var se_var))) rfl h⟩
theorem z_Cellar_new_shelf (T : Txt K mg A) : FnOk P w K mg base (CX1 P w) 5 A.a_Cellar_new_shelf A.fd_Cellar_new_shelf ["self", "name", "room"] (spZ (ctOf T) 3 m_Cellar_new_shelf) := by
  have G_Cellar_check_free : FnOk P w K mg base (CX1 P w) 3 A.a_Cellar_check_free A.fd_Cellar_check_free ["self", "name"] (spZ (ctOf T) 2 m_Cellar_check_free) := z_Cellar_check_free T
  have G_Cellar_hold : FnOk P w K mg base (CX1 P w) 1 A.a_Cellar_hold A.fd_Cellar_hold ["self", "thing"] (spZ (ctOf T) 2 m_Cellar_hold) := z_Cellar_hold T
  have G_Cellar_known : FnOk P w K mg base (CX1 P w) 1 A.a_Cellar_known A.fd_Cellar_known ["self", "name", "kind"] (spZ (ctOf T) 3 m_Cellar_known) := z_Cellar_known T
  have G_Shelf___init__ : FnOk P w K mg base (CX1 P w) 3 A.a_Shelf___init__ A.fd_Shelf___init__ ["self", "name", "room"] (spZ (ctOf T) 3 m_Shelf___init__) := z_Shelf___init__ T
  refine T.F_Cellar_new_shelf.okR sc_Cellar_new_shelf (fun vs H Q E h => spZ_len h) (fun cdv A' outer s H vs Q E hr h => ?_)
  have nd := sc_Cellar_new_shelf.nd
  have hu := hu_of hr
  exact ⟨_, (pss_cons (ps_expr (pe_meth (pv 0) T.Cls_Cellar T.m_Cellar_check_free G_Cellar_check_free (hr.mono (by decide)) T.b_Cellar_check_free .nil out_of.passes (pa_cons (pv 1) pa_nil)))
 (pss_one (ps_expr (pe_meth (pv 0) T.Cls_Cellar T.m_Cellar_hold G_Cellar_hold (hr.mono (by decide)) T.b_Cellar_hold .nil out_of.passes (pa_cons (pe_make T.mk_Shelf G_Shelf___init__ (hr.mono (by decide)) rfl T.c_Shelf T.b_Shelf___init__ .nil out_of.passes (pa_cons (pv 1) (pa_cons (pe_meth (pv 0) T.Cls_Cellar T.m_Cellar_known G_Cellar_known (hr.mono (by decide)) T.b_Cellar_known .nil out_of.passes (pa_cons (pv 2) (pa_cons pe_str pa_nil))) pa_nil))) pa_nil))))), fn_body (C := ctOf T) ((ss_seq (ss_drop (se_meth (c := 8) (show ∀ i ∈ flT 8, fnT i ≠ "check_free" by decide +kernel) se_var (sa_cons se_var sa_nil)))
 (ss_drop (se_meth (c := 8) (show ∀ i ∈ flT 8, fnT i ≠ "hold" by decide +kernel) se_var (sa_cons (se_make (c := 2) rfl (sa_cons se_var (sa_cons (se_meth (c := 8) (show ∀ i ∈ flT 8, fnT i ≠ "known" by decide +kernel) se_var (sa_cons se_var (sa_cons se_str sa_nil))) sa_nil))) sa_nil))))) rfl h⟩
theorem z_Sort___init__ (T : Txt K mg A) : FnOk P w K mg base (CX1 P w) 3 A.a_Sort___init__ A.fd_Sort___init__ ["self", "name", "mouldy", "turn_gap", "wash_gap", "route"] (spZ (ctOf T) 6 m_Sort___init__) := by
  have G_Thing___init__ : FnOk P w K mg base (CX1 P w) 1 A.a_Thing___init__ A.fd_Thing___init__ ["self", "kind", "name"] (spZ (ctOf T) 3 m_Thing___init__) := z_Thing___init__ T
  refine T.F_Sort___init__.okR sc_Sort___init__ (fun vs H Q E h => spZ_len h) (fun cdv A' outer s H vs Q E hr h => ?_)
  have nd := sc_Sort___init__.nd
  have hu := hu_of hr
  exact ⟨_, (pss_cons (ps_expr (pe_base rfl T.c_Thing T.B_Thing___init__ G_Thing___init__ (hr.mono (by decide)) T.b_Thing___init__ .nil out_of.passes (pa_cons (pv 0) (pa_cons pe_str (pa_cons (pv 1) pa_nil)))))
 (pss_cons (ps_fld (pv 0) (pv 2) rfl)
 (pss_cons (ps_fld (pv 0) (pv 3) rfl)
 (pss_cons (ps_fld (pv 0) (pv 4) rfl)
 (pss_cons (ps_fld (pv 0) (pe_lc (osc := defScope s_Sort___init__) (N0 := ["self", "name", "mouldy", "turn_gap", "wash_gap", "route"]) rfl rfl rfl (own := ["room", "least", "most"]) (fv := []) ⟨rfl, by decide +kernel, by decide +kernel, by decide +kernel, by decide +kernel, by decide +kernel⟩ (pi_list (pv 5)) (fun _ _ _ => (pg_tupK (K := K) (n := 3) rfl rfl rfl (pgs_cons (pg_name (i := 0) (show (["room", "least", "most"] : List Str).Nodup by decide +kernel) rfl (Or.inl rfl) (hf := Or.inr rfl)) (pgs_cons (pg_name (i := 1) (show (["room", "least", "most"] : List Str).Nodup by decide +kernel) rfl (Or.inl rfl) (hf := Or.inr rfl)) (pgs_cons (pg_name (i := 2) (show (["room", "least", "most"] : List Str).Nodup by decide +kernel) rfl (Or.inl rfl) (hf := Or.inr rfl)) pgs_nil))))) (fun _ _ _ => pts_nil) (fun _ _ _ => (pv 0))) rfl)
 (pss_one (ps_fld (pv 0) (pe_lc (osc := defScope s_Sort___init__) (N0 := ["self", "name", "mouldy", "turn_gap", "wash_gap", "route"]) rfl rfl rfl (own := ["room", "least", "most"]) (fv := []) ⟨rfl, by decide +kernel, by decide +kernel, by decide +kernel, by decide +kernel, by decide +kernel⟩ (pi_list (pv 5)) (fun _ _ _ => (pg_tupK (K := K) (n := 3) rfl rfl rfl (pgs_cons (pg_name (i := 0) (show (["room", "least", "most"] : List Str).Nodup by decide +kernel) rfl (Or.inl rfl) (hf := Or.inr rfl)) (pgs_cons (pg_name (i := 1) (show (["room", "least", "most"] : List Str).Nodup by decide +kernel) rfl (Or.inl rfl) (hf := Or.inr rfl)) (pgs_cons (pg_name (i := 2) (show (["room", "least", "most"] : List Str).Nodup by decide +kernel) rfl (Or.inl rfl) (hf := Or.inr rfl)) pgs_nil))))) (fun _ _ _ => pts_nil) (fun _ _ _ => (pe_tup (pa_cons (pv 1) (pa_cons (pv 2) pa_nil))))) rfl))))))), fn_body (C := ctOf T) ((ss_seq (ss_drop (se_call (sa_cons se_var (sa_cons se_str (sa_cons se_var sa_nil)))))
 (ss_seq (ss_fld (i := 5) rfl se_var se_var)
 (ss_seq (ss_fld (i := 6) rfl se_var se_var)
 (ss_seq (ss_fld (i := 7) rfl se_var se_var)
 (ss_seq (ss_fld (i := 8) rfl se_var (se_lc (own := ["room", "least", "most"]) (fv := []) (si_list se_var) (sgo_tup (sgos_cons sgo_name (sgos_cons sgo_name (sgos_cons sgo_name sgos_nil)))) st_yes se_var))
 (ss_fld (i := 9) rfl se_var (se_lc (own := ["room", "least", "most"]) (fv := []) (si_list se_var) (sgo_tup (sgos_cons sgo_name (sgos_cons sgo_name (sgos_cons sgo_name sgos_nil)))) st_yes (se_tup (sa_cons se_var (sa_cons se_var sa_nil))))))))))) rfl h⟩
theorem z_Cellar_new_sort (T : Txt K mg A) : FnOk P w K mg base (CX1 P w) 5 A.a_Cellar_new_sort A.fd_Cellar_new_sort ["self", "name", "mouldy", "turn_gap", "wash_gap", "route"] (spZ (ctOf T) 6 m_Cellar_new_sort) := by
  have G_Cellar_check_free : FnOk P w K mg base (CX1 P w) 3 A.a_Cellar_check_free A.fd_Cellar_check_free ["self", "name"] (spZ (ctOf T) 2 m_Cellar_check_free) := z_Cellar_check_free T
  have G_Cellar_hold : FnOk P w K mg base (CX1 P w) 1 A.a_Cellar_hold A.fd_Cellar_hold ["self", "thing"] (spZ (ctOf T) 2 m_Cellar_hold) := z_Cellar_hold T
  have G_Cellar_known : FnOk P w K mg base (CX1 P w) 1 A.a_Cellar_known A.fd_Cellar_known ["self", "name", "kind"] (spZ (ctOf T) 3 m_Cellar_known) := z_Cellar_known T
  have G_Sort___init__ : FnOk P w K mg base (CX1 P w) 3 A.a_Sort___init__ A.fd_Sort___init__ ["self", "name", "mouldy", "turn_gap", "wash_gap", "route"] (spZ (ctOf T) 6 m_Sort___init__) := z_Sort___init__ T
  have G_check_gap : FnOk P w K mg base (CX1 P w) 2 A.a_check_gap A.fd_check_gap ["least", "most"] (spZ (ctOf T) 2 m_check_gap) := z_check_gap T
  refine T.F_Cellar_new_sort.okR sc_Cellar_new_sort (fun vs H Q E h => spZ_len h) (fun cdv A' outer s H vs Q E hr h => ?_)
  have nd := sc_Cellar_new_sort.nd
  have hu := hu_of hr
  exact ⟨_, (pss_cons (ps_expr (pe_meth (pv 0) T.Cls_Cellar T.m_Cellar_check_free G_Cellar_check_free (hr.mono (by decide)) T.b_Cellar_check_free .nil out_of.passes (pa_cons (pv 1) pa_nil)))
 (pss_cons (ps_setLc (osc := defScope s_Cellar_new_sort) (N0 := ["self", "name", "mouldy", "turn_gap", "wash_gap", "route", "rooms", "gap"]) (i := 6) rfl rfl rfl nd rfl (Or.inl rfl) (own := ["room", "least", "most"]) (fv := [("self", 0)]) ⟨rfl, by decide +kernel, by decide +kernel, by decide +kernel, by decide +kernel, by decide +kernel⟩ (pi_list (pv 5)) (fun _ _ _ => (pg_tupK (K := K) (n := 3) rfl rfl rfl (pgs_cons (pg_name (i := 0) (show (["room", "least", "most", "self"] : List Str).Nodup by decide +kernel) rfl (Or.inl rfl) (hf := Or.inr rfl)) (pgs_cons (pg_name (i := 1) (show (["room", "least", "most", "self"] : List Str).Nodup by decide +kernel) rfl (Or.inl rfl) (hf := Or.inr rfl)) (pgs_cons (pg_name (i := 2) (show (["room", "least", "most", "self"] : List Str).Nodup by decide +kernel) rfl (Or.inl rfl) (hf := Or.inr rfl)) pgs_nil))))) (fun _ _ _ => pts_nil) (fun _ _ _ => (pe_fldK (K := K) rfl (pe_meth (pv 3) T.Cls_Cellar T.m_Cellar_known G_Cellar_known (hr.mono (by decide)) T.b_Cellar_known .nil pass_none (pa_cons (pv 0) (pa_cons pe_str pa_nil))) rfl)))
 (pss_cons (ps_for PassesOwn.leaving rfl (pi_list (pe_op op_catR (pe_lst (pa_cons (pv 3) (pa_cons (pv 4) pa_nil))) (pe_lc (osc := defScope s_Cellar_new_sort) (N0 := ["self", "name", "mouldy", "turn_gap", "wash_gap", "route", "rooms", "gap"]) rfl rfl rfl (own := ["room", "least", "most"]) (fv := []) ⟨rfl, by decide +kernel, by decide +kernel, by decide +kernel, by decide +kernel, by decide +kernel⟩ (pi_list (pv 5)) (fun _ _ _ => (pg_tupK (K := K) (n := 3) rfl rfl rfl (pgs_cons (pg_name (i := 0) (show (["room", "least", "most"] : List Str).Nodup by decide +kernel) rfl (Or.inl rfl) (hf := Or.inr rfl)) (pgs_cons (pg_name (i := 1) (show (["room", "least", "most"] : List Str).Nodup by decide +kernel) rfl (Or.inl rfl) (hf := Or.inr rfl)) (pgs_cons (pg_name (i := 2) (show (["room", "least", "most"] : List Str).Nodup by decide +kernel) rfl (Or.inl rfl) (hf := Or.inr rfl)) pgs_nil))))) (fun _ _ _ => pts_nil) (fun _ _ _ => (pe_tup (pa_cons (pv 1) (pa_cons (pv 2) pa_nil))))))) (pg_name (i := 7) nd rfl (Or.inl rfl))
 (pss_one (ps_expr (pe_call G_check_gap (hr.mono (by decide)) rfl T.d_check_gap T.F_check_gap.kp T.b_check_gap .nil out_of.passes (pa_cons (pe_ix ix_seq (pv 7) pe_int (fun _ _ => rfl)) (pa_cons (pe_ix ix_seq (pv 7) pe_int (fun _ _ => rfl)) pa_nil))))))
 (pss_cons (ps_if (pt_cmpR op_lt (pe_callB call_lenS rfl T.n_len PySem.boot_len (pa_cons (pe_callTy (call_setS rfl) rfl T.n_set PyProof.Rows.boot_set (pa_cons (pv 6) pa_nil)) pa_nil)) (pe_callB call_lenZ rfl T.n_len PySem.boot_len (pa_cons (pv 6) pa_nil)) (nomark _))
 (pss_one (ps_raise out_of hr.hd rfl T.c_WrongRoom T.x_WrongRoom PySem.F.excBase_ValueError rfl PySem.F.excBase_ValueError (pa_cons pe_str pa_nil)))
 pss_nil)
 (pss_one (ps_expr (pe_meth (pv 0) T.Cls_Cellar T.m_Cellar_hold G_Cellar_hold (hr.mono (by decide)) T.b_Cellar_hold .nil out_of.passes (pa_cons (pe_make T.mk_Sort G_Sort___init__ (hr.mono (by decide)) rfl T.c_Sort T.b_Sort___init__ .nil out_of.passes (pa_cons (pv 1) (pa_cons (pv 2) (pa_cons (pv 3) (pa_cons (pv 4) (pa_cons (pv 5) pa_nil)))))) pa_nil)))))))), fn_body (C := ctOf T) ((ss_seq (ss_drop (se_meth (c := 8) (show ∀ i ∈ flT 8, fnT i ≠ "check_free" by decide +kernel) se_var (sa_cons se_var sa_nil)))
 (ss_seq (ss_asg (se_lc (own := ["room", "least", "most"]) (fv := [("self", 0)]) (si_list se_var) (sgo_tup (sgos_cons sgo_name (sgos_cons sgo_name (sgos_cons sgo_name sgos_nil)))) st_yes (se_fld rfl (se_meth (c := 8) (show ∀ i ∈ flT 8, fnT i ≠ "known" by decide +kernel) se_var (sa_cons se_var (sa_cons se_str sa_nil))))) sg_name)
 (ss_seq (ss_for (si_list (se_op s2_cat (se_lst (sa_cons se_var (sa_cons se_var sa_nil))) (se_lc (own := ["room", "least", "most"]) (fv := []) (si_list se_var) (sgo_tup (sgos_cons sgo_name (sgos_cons sgo_name (sgos_cons sgo_name sgos_nil)))) st_yes (se_tup (sa_cons se_var (sa_cons se_var sa_nil)))))) sg_name
 (ss_drop (se_call (sa_cons (se_op s2_ix se_var se_int) (sa_cons (se_op s2_ix se_var se_int) sa_nil)))))
 (ss_seq (ss_if (st_test (se_op s2_lt (se_lenset se_var) (se_cb sc_len (sa_cons se_var sa_nil))))
 (ss_raise (c := 26) ms_lit)
 ss_next)
 (ss_drop (se_meth (c := 8) (show ∀ i ∈ flT 8, fnT i ≠ "hold" by decide +kernel) se_var (sa_cons (se_make (c := 3) rfl (sa_cons se_var (sa_cons se_var (sa_cons se_var (sa_cons se_var (sa_cons se_var sa_nil)))))) sa_nil)))))))) rfl h⟩
theorem z_Wheel___init__ (T : Txt K mg A) : FnOk P w K mg base (CX1 P w) 3 A.a_Wheel___init__ A.fd_Wheel___init__ ["self", "name", "recipe", "shelf", "grams", "day"] (spZ (ctOf T) 6 m_Wheel___init__) := by
  have G_Thing___init__ : FnOk P w K mg base (CX1 P w) 1 A.a_Thing___init__ A.fd_Thing___init__ ["self", "kind", "name"] (spZ (ctOf T) 3 m_Thing___init__) := z_Thing___init__ T
  refine T.F_Wheel___init__.okR sc_Wheel___init__ (fun vs H Q E h => spZ_len h) (fun cdv A' outer s H vs Q E hr h => ?_)
  have nd := sc_Wheel___init__.nd
  have hu := hu_of hr
  exact ⟨_, (pss_cons (ps_expr (pe_base rfl T.c_Thing T.B_Thing___init__ G_Thing___init__ (hr.mono (by decide)) T.b_Thing___init__ .nil out_of.passes (pa_cons (pv 0) (pa_cons pe_str (pa_cons (pv 1) pa_nil)))))
 (pss_cons (ps_fld (pv 0) (pv 2) rfl)
 (pss_cons (ps_fld (pv 0) (pv 3) rfl)
 (pss_cons (ps_fld (pv 0) (pv 4) rfl)
 (pss_cons (ps_fld (pv 0) pe_int rfl)
 (pss_cons (ps_fld (pv 0) (pv 5) rfl)
 (pss_cons (ps_fld (pv 0) (pv 5) rfl)
 (pss_cons (ps_fld (pv 0) (pv 5) rfl)
 (pss_one (ps_fld (pv 0) pe_bl rfl)))))))))), fn_body (C := ctOf T) ((ss_seq (ss_drop (se_call (sa_cons se_var (sa_cons se_str (sa_cons se_var sa_nil)))))
 (ss_seq (ss_fld (i := 11) rfl se_var se_var)
 (ss_seq (ss_fld (i := 12) rfl se_var se_var)
 (ss_seq (ss_fld (i := 10) rfl se_var se_var)
 (ss_seq (ss_fld (i := 13) rfl se_var se_int)
 (ss_seq (ss_fld (i := 14) rfl se_var se_var)
 (ss_seq (ss_fld (i := 15) rfl se_var se_var)
 (ss_seq (ss_fld (i := 16) rfl se_var se_var)
 (ss_fld (i := 17) rfl se_var se_bl)))))))))) rfl h⟩
theorem z_Cellar_new_wheel (T : Txt K mg A) : FnOk P w K mg base (CX1 P w) 5 A.a_Cellar_new_wheel A.fd_Cellar_new_wheel ["self", "name", "batch", "sort", "shelf", "grams"] (spZ (ctOf T) 6 m_Cellar_new_wheel) := by
  have G_Cellar_check_free : FnOk P w K mg base (CX1 P w) 3 A.a_Cellar_check_free A.fd_Cellar_check_free ["self", "name"] (spZ (ctOf T) 2 m_Cellar_check_free) := z_Cellar_check_free T
  have G_Cellar_hold : FnOk P w K mg base (CX1 P w) 1 A.a_Cellar_hold A.fd_Cellar_hold ["self", "thing"] (spZ (ctOf T) 2 m_Cellar_hold) := z_Cellar_hold T
  have G_Cellar_known : FnOk P w K mg base (CX1 P w) 1 A.a_Cellar_known A.fd_Cellar_known ["self", "name", "kind"] (spZ (ctOf T) 3 m_Cellar_known) := z_Cellar_known T
  have G_Wheel___init__ : FnOk P w K mg base (CX1 P w) 3 A.a_Wheel___init__ A.fd_Wheel___init__ ["self", "name", "recipe", "shelf", "grams", "day"] (spZ (ctOf T) 6 m_Wheel___init__) := z_Wheel___init__ T
  have G_check_enough : FnOk P w K mg base (CX1 P w) 1 A.a_check_enough A.fd_check_enough ["grams", "there"] (spZ (ctOf T) 2 m_check_enough) := z_check_enough T
  have G_check_grams : FnOk P w K mg base (CX1 P w) 2 A.a_check_grams A.fd_check_grams ["grams"] (spZ (ctOf T) 1 m_check_grams) := z_check_grams T
  have G_stands_at : FnOk P w K mg base (CX1 P w) 1 A.a_stands_at A.fd_stands_at ["shelf", "recipe", "place"] (spZ (ctOf T) 3 m_stands_at) := z_stands_at T
  refine T.F_Cellar_new_wheel.okR sc_Cellar_new_wheel (fun vs H Q E h => spZ_len h) (fun cdv A' outer s H vs Q E hr h => ?_)
  have nd := sc_Cellar_new_wheel.nd
  have hu := hu_of hr
  exact ⟨_, (pss_cons (ps_expr (pe_meth (pv 0) T.Cls_Cellar T.m_Cellar_check_free G_Cellar_check_free (hr.mono (by decide)) T.b_Cellar_check_free .nil out_of.passes (pa_cons (pv 1) pa_nil)))
 (pss_cons (ps_set (i := 6) nd rfl (Or.inl rfl) (pe_meth (pv 0) T.Cls_Cellar T.m_Cellar_known G_Cellar_known (hr.mono (by decide)) T.b_Cellar_known .nil out_of.passes (pa_cons (pv 2) (pa_cons pe_str pa_nil))))
 (pss_cons (ps_set (i := 7) nd rfl (Or.inl rfl) (pe_meth (pv 0) T.Cls_Cellar T.m_Cellar_known G_Cellar_known (hr.mono (by decide)) T.b_Cellar_known .nil out_of.passes (pa_cons (pv 3) (pa_cons pe_str pa_nil))))
 (pss_cons (ps_set (i := 8) nd rfl (Or.inl rfl) (pe_meth (pv 0) T.Cls_Cellar T.m_Cellar_known G_Cellar_known (hr.mono (by decide)) T.b_Cellar_known .nil out_of.passes (pa_cons (pv 4) (pa_cons pe_str pa_nil))))
 (pss_cons (ps_expr (pe_call G_check_grams (hr.mono (by decide)) rfl T.d_check_grams T.F_check_grams.kp T.b_check_grams .nil out_of.passes (pa_cons (pv 5) pa_nil)))
 (pss_cons (ps_if (pt_not (pt_val (pe_call G_stands_at (hr.mono (by decide)) rfl T.d_stands_at T.F_stands_at.kp T.b_stands_at .nil out_of.passes (pa_cons (pv 8) (pa_cons (pv 7) (pa_cons pe_int pa_nil))))))
 (pss_one (ps_raise out_of hr.hd rfl T.c_WrongRoom T.x_WrongRoom PySem.F.excBase_ValueError rfl PySem.F.excBase_ValueError (pa_cons (pe_fstr (pj_cons pe_str (pj_cons (pe_fmtS (pv 3)) (pj_cons pe_str (pj_cons (pe_fmtS (pv 4)) pj_nil))))) pa_nil)))
 pss_nil)
 (pss_cons (ps_expr (pe_call G_check_enough (hr.mono (by decide)) rfl T.d_check_enough T.F_check_enough.kp T.b_check_enough .nil out_of.passes (pa_cons (pv 5) (pa_cons (pe_fld (pv 6) rfl) pa_nil))))
 (pss_cons (ps_fldaug (pv 6) (pv 5) in_sub)
 (pss_cons (ps_set (i := 9) nd rfl (Or.inl rfl) (pe_make T.mk_Wheel G_Wheel___init__ (hr.mono (by decide)) rfl T.c_Wheel T.b_Wheel___init__ .nil out_of.passes (pa_cons (pv 1) (pa_cons (pv 7) (pa_cons (pv 8) (pa_cons (pv 5) (pa_cons (pe_fld (pv 0) rfl) pa_nil)))))))
 (pss_cons (ps_expr (pe_meth (pv 0) T.Cls_Cellar T.m_Cellar_hold G_Cellar_hold (hr.mono (by decide)) T.b_Cellar_hold .nil out_of.passes (pa_cons (pv 9) pa_nil)))
 (pss_cons (ps_expr (pe_bm PySem.F.plainAttrs_list PySem.F.slot_list_append PySem.F.type_list_append mt_append (pe_fld (pv 0) rfl) (pa_cons (pv 9) pa_nil)))
 (pss_one (ps_expr (pe_bm PySem.F.plainAttrs_list PySem.F.slot_list_append PySem.F.type_list_append mt_append (pe_fld (pv 0) rfl) (pa_cons (pe_tup (pa_cons (pe_fld (pv 0) rfl) (pa_cons pe_str (pa_cons (pv 1) (pa_cons (pv 2) (pa_cons (pv 3) (pa_cons (pv 4) (pa_cons (pv 5) pa_nil)))))))) pa_nil))))))))))))))), fn_body (C := ctOf T) ((ss_seq (ss_drop (se_meth (c := 8) (show ∀ i ∈ flT 8, fnT i ≠ "check_free" by decide +kernel) se_var (sa_cons se_var sa_nil)))
 (ss_seq (ss_asg (se_meth (c := 8) (show ∀ i ∈ flT 8, fnT i ≠ "known" by decide +kernel) se_var (sa_cons se_var (sa_cons se_str sa_nil))) sg_name)
 (ss_seq (ss_asg (se_meth (c := 8) (show ∀ i ∈ flT 8, fnT i ≠ "known" by decide +kernel) se_var (sa_cons se_var (sa_cons se_str sa_nil))) sg_name)
 (ss_seq (ss_asg (se_meth (c := 8) (show ∀ i ∈ flT 8, fnT i ≠ "known" by decide +kernel) se_var (sa_cons se_var (sa_cons se_str sa_nil))) sg_name)
 (ss_seq (ss_drop (se_call (sa_cons se_var sa_nil)))
 (ss_seq (ss_if (st_not (st_b (se_call (sa_cons se_var (sa_cons se_var (sa_cons se_int sa_nil))))))
 (ss_raise (c := 26) (ms_fstr (sjm_lit (sjm_str se_var (sjm_lit (sjm_str se_var sjm_nil)))) (by decide +kernel)))
 ss_next)
 (ss_seq (ss_drop (se_call (sa_cons se_var (sa_cons (se_fld rfl se_var) sa_nil))))
 (ss_seq (ss_fldaug (i := 10) rfl s2_rSub se_var se_var)
 (ss_seq (ss_asg (se_make (c := 6) rfl (sa_cons se_var (sa_cons se_var (sa_cons se_var (sa_cons se_var (sa_cons (se_fld rfl se_var) sa_nil)))))) sg_name)
 (ss_seq (ss_drop (se_meth (c := 8) (show ∀ i ∈ flT 8, fnT i ≠ "hold" by decide +kernel) se_var (sa_cons se_var sa_nil)))
 (ss_seq (ss_drop (se_bmL sm_append (se_fld rfl se_var) (sa_cons se_var sa_nil)))
 (ss_drop (se_bmL sm_append (se_fld rfl se_var) (sa_cons (se_tup (sa_cons (se_fld rfl se_var) (sa_cons se_str (sa_cons se_var (sa_cons se_var (sa_cons se_var (sa_cons se_var (sa_cons se_var sa_nil)))))))) sa_nil))))))))))))))) rfl h⟩
theorem z__law_furnished (T : Txt K mg A) : FnOk P w K mg base (CX1 P w) 6 A.a__law_furnished A.fd__law_furnished ["_law_script", "_law_damp", "_law_warmth", "_law_grams"] (spZ (ctOf T) 4 m__law_furnished) := by
  have G_Cellar___init__ : FnOk P w K mg base (CX1 P w) 1 A.a_Cellar___init__ A.fd_Cellar___init__ ["self"] (spZ (ctOf T) 1 m_Cellar___init__) := z_Cellar___init__ T
  have G_Cellar_new_batch : FnOk P w K mg base (CX1 P w) 5 A.a_Cellar_new_batch A.fd_Cellar_new_batch ["self", "name", "parts"] (spZ (ctOf T) 3 m_Cellar_new_batch) := z_Cellar_new_batch T
  have G_Cellar_new_farm : FnOk P w K mg base (CX1 P w) 4 A.a_Cellar_new_farm A.fd_Cellar_new_farm ["self", "name"] (spZ (ctOf T) 2 m_Cellar_new_farm) := z_Cellar_new_farm T
  have G_Cellar_new_room : FnOk P w K mg base (CX1 P w) 5 A.a_Cellar_new_room A.fd_Cellar_new_room ["self", "name", "damp", "warmth"] (spZ (ctOf T) 4 m_Cellar_new_room) := z_Cellar_new_room T
  have G_Cellar_new_shelf : FnOk P w K mg base (CX1 P w) 5 A.a_Cellar_new_shelf A.fd_Cellar_new_shelf ["self", "name", "room"] (spZ (ctOf T) 3 m_Cellar_new_shelf) := z_Cellar_new_shelf T
  have G_Cellar_new_sort : FnOk P w K mg base (CX1 P w) 5 A.a_Cellar_new_sort A.fd_Cellar_new_sort ["self", "name", "mouldy", "turn_gap", "wash_gap", "route"] (spZ (ctOf T) 6 m_Cellar_new_sort) := z_Cellar_new_sort T
  have G_Cellar_new_wheel : FnOk P w K mg base (CX1 P w) 5 A.a_Cellar_new_wheel A.fd_Cellar_new_wheel ["self", "name", "batch", "sort", "shelf", "grams"] (spZ (ctOf T) 6 m_Cellar_new_wheel) := z_Cellar_new_wheel T
  refine T.F__law_furnished.okR sc__law_furnished (fun vs H Q E h => spZ_len h) (fun cdv A' outer s H vs Q E hr h => ?_)
  have nd := sc__law_furnished.nd
  have hu := hu_of hr
  exact ⟨_, (pss_cons (ps_set (i := 4) nd rfl (Or.inl rfl) (pe_make0 T.mk_Cellar G_Cellar___init__ (hr.mono (by decide)) rfl T.c_Cellar T.b_Cellar___init__ .nil out_of.passes))
 (pss_cons (ps_expr (pe_meth (pv 4) T.Cls_Cellar T.m_Cellar_new_room G_Cellar_new_room (hr.mono (by decide)) T.b_Cellar_new_room .nil out_of.passes (pa_cons pe_str (pa_cons (pv 1) (pa_cons (pv 2) pa_nil)))))
 (pss_cons (ps_expr (pe_meth (pv 4) T.Cls_Cellar T.m_Cellar_new_shelf G_Cellar_new_shelf (hr.mono (by decide)) T.b_Cellar_new_shelf .nil out_of.passes (pa_cons pe_str (pa_cons pe_str pa_nil))))
 (pss_cons (ps_expr (pe_meth (pv 4) T.Cls_Cellar T.m_Cellar_new_shelf G_Cellar_new_shelf (hr.mono (by decide)) T.b_Cellar_new_shelf .nil out_of.passes (pa_cons pe_str (pa_cons pe_str pa_nil))))
 (pss_cons (ps_expr (pe_meth (pv 4) T.Cls_Cellar T.m_Cellar_new_sort G_Cellar_new_sort (hr.mono (by decide)) T.b_Cellar_new_sort .nil out_of.passes (pa_cons pe_str (pa_cons pe_bl (pa_cons (pe_tup (pa_cons pe_int (pa_cons pe_int pa_nil))) (pa_cons (pe_tup (pa_cons pe_int (pa_cons pe_int pa_nil))) (pa_cons (pe_lst (pa_cons (pe_tup (pa_cons pe_str (pa_cons pe_int (pa_cons pe_int pa_nil)))) pa_nil)) pa_nil)))))))
 (pss_cons (ps_expr (pe_meth (pv 4) T.Cls_Cellar T.m_Cellar_new_farm G_Cellar_new_farm (hr.mono (by decide)) T.b_Cellar_new_farm .nil out_of.passes (pa_cons pe_str pa_nil)))
 (pss_cons (ps_for PassesOwn.leaving rfl (pi_range1 rfl T.n_range (pa_cons (pe_callB call_lenZ rfl T.n_len PySem.boot_len (pa_cons (pv 3) pa_nil)) pa_nil)) (pg_name (i := 5) nd rfl (Or.inl rfl))
 (pss_cons (ps_expr (pe_meth (pv 4) T.Cls_Cellar T.m_Cellar_new_batch G_Cellar_new_batch (hr.mono (by decide)) T.b_Cellar_new_batch .nil out_of.passes (pa_cons (pe_op op_add_str pe_str (pe_callTy call_strZ rfl T.n_str PyProof.Rows.boot_str (pa_cons (pv 5) pa_nil))) (pa_cons (pe_lst (pa_cons (pe_tup (pa_cons pe_str (pa_cons (pe_ix ix_seq (pv 3) (pv 5) (fun _ _ => rfl)) pa_nil))) pa_nil)) pa_nil))))
 (pss_one (ps_expr (pe_meth (pv 4) T.Cls_Cellar T.m_Cellar_new_wheel G_Cellar_new_wheel (hr.mono (by decide)) T.b_Cellar_new_wheel .nil out_of.passes (pa_cons (pe_op op_add_str pe_str (pe_callTy call_strZ rfl T.n_str PyProof.Rows.boot_str (pa_cons (pe_op op_sub pe_int (pv 5)) pa_nil))) (pa_cons (pe_op op_add_str pe_str (pe_callTy call_strZ rfl T.n_str PyProof.Rows.boot_str (pa_cons (pv 5) pa_nil))) (pa_cons pe_str (pa_cons (pe_ix ix_str pe_str (pe_op op_mod (pv 5) pe_int) (fun _ _ => rfl)) (pa_cons (pe_ix ix_seq (pv 3) (pv 5) (fun _ _ => rfl)) pa_nil))))))))))
 (pss_one (ps_ret (pv 4)))))))))), fn_body (C := ctOf T) ((ss_seq (ss_asg (se_make (c := 8) rfl sa_nil) sg_name)
 (ss_seq (ss_drop (se_meth (c := 8) (show ∀ i ∈ flT 8, fnT i ≠ "new_room" by decide +kernel) se_var (sa_cons se_str (sa_cons se_var (sa_cons se_var sa_nil)))))
 (ss_seq (ss_drop (se_meth (c := 8) (show ∀ i ∈ flT 8, fnT i ≠ "new_shelf" by decide +kernel) se_var (sa_cons se_str (sa_cons se_str sa_nil))))
 (ss_seq (ss_drop (se_meth (c := 8) (show ∀ i ∈ flT 8, fnT i ≠ "new_shelf" by decide +kernel) se_var (sa_cons se_str (sa_cons se_str sa_nil))))
 (ss_seq (ss_drop (se_meth (c := 8) (show ∀ i ∈ flT 8, fnT i ≠ "new_sort" by decide +kernel) se_var (sa_cons se_str (sa_cons se_bl (sa_cons (se_tup (sa_cons se_int (sa_cons se_int sa_nil))) (sa_cons (se_tup (sa_cons se_int (sa_cons se_int sa_nil))) (sa_cons (se_lst (sa_cons (se_tup (sa_cons se_str (sa_cons se_int (sa_cons se_int sa_nil)))) sa_nil)) sa_nil)))))))
 (ss_seq (ss_drop (se_meth (c := 8) (show ∀ i ∈ flT 8, fnT i ≠ "new_farm" by decide +kernel) se_var (sa_cons se_str sa_nil)))
 (ss_seq (ss_for (si_range1 (se_cb sc_len (sa_cons se_var sa_nil))) sg_name
 (ss_seq (ss_drop (se_meth (c := 8) (show ∀ i ∈ flT 8, fnT i ≠ "new_batch" by decide +kernel) se_var (sa_cons (se_op s2_addS se_str (se_cb sc_strI (sa_cons se_var sa_nil))) (sa_cons (se_lst (sa_cons (se_tup (sa_cons se_str (sa_cons (se_op s2_ix se_var se_var) sa_nil))) sa_nil)) sa_nil))))
 (ss_drop (se_meth (c := 8) (show ∀ i ∈ flT 8, fnT i ≠ "new_wheel" by decide +kernel) se_var (sa_cons (se_op s2_addS se_str (se_cb sc_strI (sa_cons (se_op s2_sub se_int se_var) sa_nil))) (sa_cons (se_op s2_addS se_str (se_cb sc_strI (sa_cons se_var sa_nil))) (sa_cons se_str (sa_cons (se_op s2_ixS se_str (se_op s2_mod se_var se_int)) (sa_cons (se_op s2_ix se_var se_var) sa_nil)))))))))
 (ss_ret se_var))))))))) rfl h⟩
theorem z__law_night (T : Txt K mg A) : FnOk P w K mg base (CX1 P w) 1 A.a__law_night A.fd__law_night ["_law_grams", "_law_day", "_law_damp", "_law_warmth"] (spZ (ctOf T) 4 m__law_night) := by
  refine T.F__law_night.okR sc__law_night (fun vs H Q E h => spZ_len h) (fun cdv A' outer s H vs Q E hr h => ?_)
  have nd := sc__law_night.nd
  have hu := hu_of hr
  exact ⟨_, (pss_cons (ps_set (i := 4) nd rfl (Or.inl rfl) (pe_lst pa_nil))
 (pss_cons (ps_for PassesOwn.leaving rfl (pi_range1 rfl T.n_range (pa_cons (pe_callB call_lenZ rfl T.n_len PySem.boot_len (pa_cons (pv 0) pa_nil)) pa_nil)) (pg_name (i := 5) nd rfl (Or.inl rfl))
 (pss_cons (ps_set (i := 6) nd rfl (Or.inl rfl) (pe_op op_fdiv (pe_op op_mul (pe_op op_mul (pe_ix ix_seq (pv 0) (pv 5) (fun _ _ => rfl)) (pe_op op_sub pe_int (pv 2))) (pv 3)) pe_int))
 (pss_cons (ps_asg (pe_op op_sub (pe_ix ix_seq (pv 0) (pv 5) (fun _ _ => rfl)) (pv 6)) (pg_sub (pv 0) (pv 5) set_list))
 (pss_one (ps_expr (pe_bm PySem.F.plainAttrs_list PySem.F.slot_list_append PySem.F.type_list_append mt_append (pv 4) (pa_cons (pe_tup (pa_cons (pe_op op_add_str pe_str (pe_callTy call_strZ rfl T.n_str PyProof.Rows.boot_str (pa_cons (pe_op op_sub pe_int (pv 5)) pa_nil))) (pa_cons pe_str (pa_cons (pe_ix ix_str pe_str (pe_op op_mod (pv 5) pe_int) (fun _ _ => rfl)) (pa_cons (pv 6) pa_nil))))) pa_nil)))))))
 (pss_one (ps_ret (pe_tup (pa_cons (pv 1) (pa_cons pe_str (pa_cons (pe_callTy call_tupleZ rfl T.n_tuple PyProof.Rows.boot_tuple (pa_cons (pv 4) pa_nil)) pa_nil)))))))), fn_body (C := ctOf T) ((ss_seq (ss_asg (se_lstC sa_nil) sg_name)
 (ss_seq (ss_for (si_range1 (se_cb sc_len (sa_cons se_var sa_nil))) sg_name
 (ss_seq (ss_asg (se_op s2_div (se_op s2_mul (se_op s2_mul (se_op s2_ix se_var se_var) (se_op s2_sub se_int se_var)) se_var) se_int) sg_name)
 (ss_seq (ss_asg (se_op s2_sub (se_op s2_ix se_var se_var) se_var) (sg_subL se_var se_var))
 (ss_drop (se_bmL sm_append se_var (sa_cons (se_tup (sa_cons (se_op s2_addS se_str (se_cb sc_strI (sa_cons (se_op s2_sub se_int se_var) sa_nil))) (sa_cons se_str (sa_cons (se_op s2_ixS se_str (se_op s2_mod se_var se_int)) (sa_cons se_var sa_nil))))) sa_nil))))))
 (ss_ret (se_tup (sa_cons se_var (sa_cons se_str (sa_cons (se_cb sc_tuple (sa_cons se_var sa_nil)) sa_nil)))))))) rfl h⟩
theorem z_Cellar_pass_night (T : Txt K mg A) : FnOk P w K mg base (CX1 P w) 2 A.a_Cellar_pass_night A.fd_Cellar_pass_night ["self"] (spZ (ctOf T) 1 m_Cellar_pass_night) := by
  have G_night_loss : FnOk P w K mg base (CX1 P w) 1 A.a_night_loss A.fd_night_loss ["wheel"] (spZ (ctOf T) 1 m_night_loss) := z_night_loss T
  refine T.F_Cellar_pass_night.okR sc_Cellar_pass_night (fun vs H Q E h => spZ_len h) (fun cdv A' outer s H vs Q E hr h => ?_)
  have nd := sc_Cellar_pass_night.nd
  have hu := hu_of hr
  exact ⟨_, (pss_cons (ps_set (i := 1) nd rfl (Or.inl rfl) (pe_lst pa_nil))
 (pss_cons (ps_for PassesOwn.leaving rfl (pi_list (pe_fld (pv 0) rfl)) (pg_name (i := 2) nd rfl (Or.inl rfl))
 (pss_one (ps_if (pt_not (pt_val (pe_fld (pv 2) rfl)))
 (pss_cons (ps_set (i := 3) nd rfl (Or.inl rfl) (pe_call G_night_loss (hr.mono (by decide)) rfl T.d_night_loss T.F_night_loss.kp T.b_night_loss .nil out_of.passes (pa_cons (pv 2) pa_nil)))
 (pss_cons (ps_fldaug (pv 2) (pv 3) in_sub)
 (pss_one (ps_expr (pe_bm PySem.F.plainAttrs_list PySem.F.slot_list_append PySem.F.type_list_append mt_append (pv 1) (pa_cons (pe_tup (pa_cons (pe_fld (pv 2) rfl) (pa_cons (pe_fld (pe_fld (pe_fld (pv 2) rfl) rfl) rfl) (pa_cons (pe_fld (pe_fld (pv 2) rfl) rfl) (pa_cons (pv 3) pa_nil))))) pa_nil))))))
 pss_nil)))
 (pss_cons (ps_expr (pe_bm PySem.F.plainAttrs_list PySem.F.slot_list_append PySem.F.type_list_append mt_append (pe_fld (pv 0) rfl) (pa_cons (pe_tup (pa_cons (pe_fld (pv 0) rfl) (pa_cons pe_str (pa_cons (pe_callTy call_tupleZ rfl T.n_tuple PyProof.Rows.boot_tuple (pa_cons (pv 1) pa_nil)) pa_nil)))) pa_nil)))
 (pss_one (ps_fldaug (pv 0) pe_int in_add))))), fn_body (C := ctOf T) ((ss_seq (ss_asg (se_lstC sa_nil) sg_name)
 (ss_seq (ss_for (si_list (se_fld rfl se_var)) sg_name
 (ss_if (st_not (st_b (se_fld rfl se_var)))
 (ss_seq (ss_asg (se_call (sa_cons se_var sa_nil)) sg_name)
 (ss_seq (ss_fldaug (i := 10) rfl s2_rSub se_var se_var)
 (ss_drop (se_bmL sm_append se_var (sa_cons (se_tup (sa_cons (se_fld rfl se_var) (sa_cons (se_fld rfl (se_fld rfl (se_fld rfl se_var))) (sa_cons (se_fld rfl (se_fld rfl se_var)) (sa_cons se_var sa_nil))))) sa_nil)))))
 ss_next))
 (ss_seq (ss_drop (se_bmL sm_append (se_fld rfl se_var) (sa_cons (se_tup (sa_cons (se_fld rfl se_var) (sa_cons se_str (sa_cons (se_cb sc_tuple (sa_cons se_var sa_nil)) sa_nil)))) sa_nil)))
 (ss_fldaug (i := 18) rfl s2_rAdd se_var se_int))))) rfl h⟩
theorem z_Cellar_night (T : Txt K mg A) : FnOk P w K mg base (CX1 P w) 3 A.a_Cellar_night A.fd_Cellar_night ["self", "times"] (spZ (ctOf T) 2 m_Cellar_night) := by
  have G_Cellar_pass_night : FnOk P w K mg base (CX1 P w) 2 A.a_Cellar_pass_night A.fd_Cellar_pass_night ["self"] (spZ (ctOf T) 1 m_Cellar_pass_night) := z_Cellar_pass_night T
  have G_check_bounds : FnOk P w K mg base (CX1 P w) 1 A.a_check_bounds A.fd_check_bounds ["number", "least", "most"] (spZ (ctOf T) 3 m_check_bounds) := z_check_bounds T
  refine T.F_Cellar_night.choose_spec.choose_spec.okR sc_Cellar_night (fun vs H Q E h => spZ_len h) (fun cdv A' outer s H vs Q E hr h => ?_)
  have nd := sc_Cellar_night.nd
  have hu := hu_of hr
  exact ⟨_, (pss_cons (ps_expr (pe_call G_check_bounds (hr.mono (by decide)) rfl T.d_check_bounds T.F_check_bounds.kp T.b_check_bounds .nil out_of.passes (pa_cons (pv 1) (pa_cons pe_int (pa_cons (pe_globI rfl T.g_MOST_NIGHTS) pa_nil)))))
 (pss_one (ps_for PassesOwn.leaving rfl (pi_range1 rfl T.n_range (pa_cons (pv 1) pa_nil)) (pg_name (i := 2) nd rfl (Or.inl rfl))
 (pss_one (ps_expr (pe_meth0 (pv 0) T.Cls_Cellar T.m_Cellar_pass_night G_Cellar_pass_night (hr.mono (by decide)) T.b_Cellar_pass_night .nil out_of.passes)))))), fn_body (C := ctOf T) ((ss_seq (ss_drop (se_call (sa_cons se_var (sa_cons se_int (sa_cons se_int sa_nil)))))
 (ss_for (si_range1 se_var) sg_name
 (ss_drop (se_meth (c := 8) (show ∀ i ∈ flT 8, fnT i ≠ "pass_night" by decide +kernel) se_var sa_nil))))) rfl h⟩
theorem z_Cellar_book (T : Txt K mg A) : FnOk P w K mg base (CX1 P w) 1 A.a_Cellar_book A.fd_Cellar_book ["self"] (spZ (ctOf T) 1 m_Cellar_book) := by
  refine T.F_Cellar_book.okR sc_Cellar_book (fun vs H Q E h => spZ_len h) (fun cdv A' outer s H vs Q E hr h => ?_)
  have nd := sc_Cellar_book.nd
  have hu := hu_of hr
  exact ⟨_, (pss_one (ps_ret (pe_callTy call_listZ rfl T.n_list PyProof.Rows.boot_list (pa_cons (pe_fld (pv 0) rfl) pa_nil)))), fn_body (C := ctOf T) ((ss_ret (se_cb sc_list (sa_cons (se_fld rfl se_var) sa_nil)))) rfl h⟩
theorem z_Cellar_weight (T : Txt K mg A) : FnOk P w K mg base (CX1 P w) 2 A.a_Cellar_weight A.fd_Cellar_weight ["self", "wheel"] (spZ (ctOf T) 2 m_Cellar_weight) := by
  have G_Cellar_known : FnOk P w K mg base (CX1 P w) 1 A.a_Cellar_known A.fd_Cellar_known ["self", "name", "kind"] (spZ (ctOf T) 3 m_Cellar_known) := z_Cellar_known T
  have G_check_here : FnOk P w K mg base (CX1 P w) 1 A.a_check_here A.fd_check_here ["thing"] (spZ (ctOf T) 1 m_check_here) := z_check_here T
  refine T.F_Cellar_weight.okR sc_Cellar_weight (fun vs H Q E h => spZ_len h) (fun cdv A' outer s H vs Q E hr h => ?_)
  have nd := sc_Cellar_weight.nd
  have hu := hu_of hr
  exact ⟨_, (pss_cons (ps_set (i := 2) nd rfl (Or.inl rfl) (pe_meth (pv 0) T.Cls_Cellar T.m_Cellar_known G_Cellar_known (hr.mono (by decide)) T.b_Cellar_known .nil out_of.passes (pa_cons (pv 1) (pa_cons pe_str pa_nil))))
 (pss_cons (ps_expr (pe_call G_check_here (hr.mono (by decide)) rfl T.d_check_here T.F_check_here.kp T.b_check_here .nil out_of.passes (pa_cons (pv 2) pa_nil)))
 (pss_one (ps_ret (pe_fld (pv 2) rfl))))), fn_body (C := ctOf T) ((ss_seq (ss_asg (se_meth (c := 8) (show ∀ i ∈ flT 8, fnT i ≠ "known" by decide +kernel) se_var (sa_cons se_var (sa_cons se_str sa_nil))) sg_name)
 (ss_seq (ss_drop (se_call (sa_cons se_var sa_nil)))
 (ss_ret (se_fld rfl se_var))))) rfl h⟩
end
end K15
set_option Elab.async false
set_option linter.all false
set_option maxRecDepth 100000
set_option maxHeartbeats 4000000
namespace K15
open PySem L2 Z PM
section
variable {P : Program} {w : World} {K : PySem.W.Frag} {mg : Str → Option Value} {base : Heap} {A : Adr}
theorem ok_law (T : Txt K mg A) : FnOk P w K mg base CX0 7 A.a_law A.fd_law ["_law_script"] (spLaw K) := by
  have G_Cellar_book : FnOk P w K mg base (CX1 P w) 1 A.a_Cellar_book A.fd_Cellar_book ["self"] (spZ (ctOf T) 1 m_Cellar_book) := z_Cellar_book T
  have G_Cellar_night : FnOk P w K mg base (CX1 P w) 3 A.a_Cellar_night A.fd_Cellar_night ["self", "times"] (spZ (ctOf T) 2 m_Cellar_night) := z_Cellar_night T
  have G_Cellar_weight : FnOk P w K mg base (CX1 P w) 2 A.a_Cellar_weight A.fd_Cellar_weight ["self", "wheel"] (spZ (ctOf T) 2 m_Cellar_weight) := z_Cellar_weight T
  have G__law_at : FnOk P w K mg base (CX1 P w) 1 A.a__law_at A.fd__law_at ["_law_script", "_law_k"] (spZ (ctOf T) 2 m__law_at) := z__law_at T
  have G__law_furnished : FnOk P w K mg base (CX1 P w) 6 A.a__law_furnished A.fd__law_furnished ["_law_script", "_law_damp", "_law_warmth", "_law_grams"] (spZ (ctOf T) 4 m__law_furnished) := z__law_furnished T
  have G__law_night : FnOk P w K mg base (CX1 P w) 1 A.a__law_night A.fd__law_night ["_law_grams", "_law_day", "_law_damp", "_law_warmth"] (spZ (ctOf T) 4 m__law_night) := z__law_night T
  have G__law_same : FnOk P w K mg base (CX1 P w) 6 A.a__law_same A.fd__law_same ["_law_found", "_law_due"] (spZ (ctOf T) 2 (m__law_same 6)) := z__law_same T 6
  have G__law_whole : FnOk P w K mg base (CX1 P w) 1 A.a__law_whole A.fd__law_whole ["_law_found"] (spZ (ctOf T) 1 m__law_whole) := z__law_whole T
  refine T.F_law.ok sc_law (fun vs H Q E h => ?_) (fun cdv A' outer s H vs Q E hr h => ?_)
  · obtain ⟨a, ns, rfl, _⟩ := h
    rfl
  · have nd := sc_law.nd
    have hu := hu_of hr
    exact ⟨_, (pss_cons (ps_set (i := 1) nd rfl (Or.inl rfl) (pe_op op_mod (pe_call G__law_at (hr.mono (by decide)) rfl T.d__law_at T.F__law_at.kp T.b__law_at .nil pass_none (pa_cons (pv 0) (pa_cons pe_int pa_nil))) pe_int))
 (pss_cons (ps_set (i := 2) nd rfl (Or.inl rfl) (pe_op op_mod (pe_call G__law_at (hr.mono (by decide)) rfl T.d__law_at T.F__law_at.kp T.b__law_at .nil pass_none (pa_cons (pv 0) (pa_cons pe_int pa_nil))) pe_int))
 (pss_cons (ps_set (i := 3) nd rfl (Or.inl rfl) (pe_lst pa_nil))
 (pss_cons (ps_for PassesOwn.never rfl (pi_range1 rfl T.n_range (pa_cons (pe_op op_add pe_int (pe_op op_mod (pe_call G__law_at (hr.mono (by decide)) rfl T.d__law_at T.F__law_at.kp T.b__law_at .nil pass_none (pa_cons (pv 0) (pa_cons pe_int pa_nil))) pe_int)) pa_nil)) (pg_name (i := 4) nd rfl (Or.inl rfl))
 (pss_cons (ps_set (i := 5) nd rfl (Or.inl rfl) (pe_call G__law_at (hr.mono (by decide)) rfl T.d__law_at T.F__law_at.kp T.b__law_at .nil pass_none (pa_cons (pv 0) (pa_cons (pe_op op_add pe_int (pv 4)) pa_nil))))
 (pss_one (ps_expr (pe_bm PySem.F.plainAttrs_list PySem.F.slot_list_append PySem.F.type_list_append mt_append (pv 3) (pa_cons (pe_ix ix_seq (pe_lst (pa_cons (pe_op op_add pe_int (pe_op op_mod (pv 5) pe_int)) (pa_cons (pe_ix ix_seq (pe_lst (pa_cons pe_int (pa_cons pe_int (pa_cons pe_int pa_nil)))) (pe_op op_mod (pv 5) pe_int) (fun _ _ => rfl)) pa_nil))) (pe_callTy call_int1Z rfl T.n_int PyProof.Rows.boot_int (pa_cons (pe_cmpR op_eq (pe_op op_mod (pe_call G__law_at (hr.mono (by decide)) rfl T.d__law_at T.F__law_at.kp T.b__law_at .nil pass_none (pa_cons (pv 0) (pa_cons pe_int pa_nil))) pe_int) pe_int (nomark _)) pa_nil)) (fun _ _ => rfl)) pa_nil))))))
 (pss_cons (ps_set (i := 6) nd rfl (Or.inl rfl) (pe_call G__law_furnished (hr.mono (by decide)) rfl T.d__law_furnished T.F__law_furnished.kp T.b__law_furnished .nil pass_none (pa_cons (pv 0) (pa_cons (pv 1) (pa_cons (pv 2) (pa_cons (pv 3) pa_nil))))))
 (pss_cons (ps_set (i := 7) nd rfl (Or.inl rfl) (pe_lst pa_nil))
 (pss_cons (ps_for PassesOwn.never rfl (pi_range2 rfl T.n_range (pa_cons pe_int (pa_cons (pe_callB (call_min2Z rfl) rfl T.n_min PyProof.Rows.boot_min (pa_cons pe_int (pa_cons (pe_callB call_lenZ rfl T.n_len PySem.boot_len (pa_cons (pv 0) pa_nil)) pa_nil))) pa_nil))) (pg_name (i := 4) nd rfl (Or.inl rfl))
 (pss_cons (ps_set (i := 5) nd rfl (Or.inl rfl) (pe_ix ix_seq (pv 0) (pv 4) (fun _ _ => rfl)))
 (pss_cons (ps_set (i := 8) nd rfl (Or.inl rfl) (pe_ix ix_seq (pe_lst (pa_cons (pe_op op_add pe_int (pe_op op_mod (pv 5) pe_int)) (pa_cons pe_int pa_nil))) (pe_callTy call_int1Z rfl T.n_int PyProof.Rows.boot_int (pa_cons (pe_cmpR op_eq (pe_op op_mod (pv 5) pe_int) pe_int (nomark _)) pa_nil)) (fun _ _ => rfl)))
 (pss_cons (ps_if (pt_cmpR op_eq (pe_op op_mod (pv 5) pe_int) pe_int (nomark _))
 (pss_cons (ps_set (i := 8) nd rfl (Or.inl rfl) pe_int)
 (pss_one (ps_expr (pe_meth0 (pv 6) T.Cls_Cellar T.m_Cellar_night G_Cellar_night (hr.mono (by decide)) T.bd_Cellar_night.choose_spec.2 T.bd_Cellar_night.choose_spec.1 pass_none))))
 (pss_one (ps_expr (pe_meth (pv 6) T.Cls_Cellar T.m_Cellar_night G_Cellar_night (hr.mono (by decide)) T.b_Cellar_night .nil pass_none (pa_cons (pv 8) pa_nil)))))
 (pss_cons (ps_for PassesOwn.never rfl (pi_range1 rfl T.n_range (pa_cons (pv 8) pa_nil)) (pg_name (i := 9) nd rfl (Or.inl rfl))
 (pss_one (ps_expr (pe_bm PySem.F.plainAttrs_list PySem.F.slot_list_append PySem.F.type_list_append mt_append (pv 7) (pa_cons (pe_call G__law_night (hr.mono (by decide)) rfl T.d__law_night T.F__law_night.kp T.b__law_night .nil pass_none (pa_cons (pv 3) (pa_cons (pe_callB call_lenZ rfl T.n_len PySem.boot_len (pa_cons (pv 7) pa_nil)) (pa_cons (pv 1) (pa_cons (pv 2) pa_nil))))) pa_nil)))))
 (pss_cons (ps_for PassesOwn.never rfl (pi_range1 rfl T.n_range (pa_cons (pe_callB call_lenZ rfl T.n_len PySem.boot_len (pa_cons (pv 3) pa_nil)) pa_nil)) (pg_name (i := 10) nd rfl (Or.inl rfl))
 (pss_cons (ps_set (i := 11) nd rfl (Or.inl rfl) (pe_meth (pv 6) T.Cls_Cellar T.m_Cellar_weight G_Cellar_weight (hr.mono (by decide)) T.b_Cellar_weight .nil pass_none (pa_cons (pe_op op_add_str pe_str (pe_callTy call_strZ rfl T.n_str PyProof.Rows.boot_str (pa_cons (pe_op op_sub pe_int (pv 10)) pa_nil))) pa_nil)))
 (pss_one (ps_if (PW.pt (pw_or (pt_not (pt_val (pe_call G__law_whole (hr.mono (by decide)) rfl T.d__law_whole T.F__law_whole.kp T.b__law_whole .nil pass_none (pa_cons (pv 11) pa_nil)))) (pw_or1 (pt_cmpR op_ne (pv 11) (pe_ix ix_seq (pv 3) (pv 10) (fun _ _ => rfl)) (nomark _)))))
 (pss_one (ps_ret pe_bl))
 pss_nil))))
 (pss_one (ps_if (PW.pt (pw_or (pt_not (pt_val (pe_call G__law_whole (hr.mono (by decide)) rfl T.d__law_whole T.F__law_whole.kp T.b__law_whole .nil pass_none (pa_cons (pe_fld (pv 6) rfl) pa_nil)))) (pw_or1 (pt_cmpR op_ne (pe_fld (pv 6) rfl) (pe_callB call_lenZ rfl T.n_len PySem.boot_len (pa_cons (pv 7) pa_nil)) (nomark _)))))
 (pss_one (ps_ret pe_bl))
 pss_nil))))))))
 (pss_one (ps_ret (pe_call G__law_same (hr.mono (by decide)) rfl T.d__law_same T.F__law_same.kp T.b__law_same .nil pass_none (pa_cons (pe_slice sl_listZ (pe_meth0 (pv 6) T.Cls_Cellar T.m_Cellar_book G_Cellar_book (hr.mono (by decide)) T.b_Cellar_book .nil pass_none) (po_some (pe_op op_mul pe_int (pe_callB call_lenZ rfl T.n_len PySem.boot_len (pa_cons (pv 3) pa_nil)))) po_none) (pa_cons (pv 7) pa_nil)))))))))))), fn_body (C := ctOf T) (E := E0) ((ss_seq (ss_asg (se_op s2_mod (se_call (sa_cons se_var (sa_cons se_int sa_nil))) se_int) sg_name)
 (ss_seq (ss_asg (se_op s2_mod (se_call (sa_cons se_var (sa_cons se_int sa_nil))) se_int) sg_name)
 (ss_seq (ss_asg (se_lstC sa_nil) sg_name)
 (ss_seq (ss_for (si_range1 (se_op s2_add se_int (se_op s2_mod (se_call (sa_cons se_var (sa_cons se_int sa_nil))) se_int))) sg_name
 (ss_seq (ss_asg (se_call (sa_cons se_var (sa_cons (se_op s2_add se_int se_var) sa_nil))) sg_name)
 (ss_drop (se_bmL sm_append se_var (sa_cons (se_op s2_ix (se_lst (sa_cons (se_op s2_add se_int (se_op s2_mod se_var se_int)) (sa_cons (se_op s2_ix (se_lst (sa_cons se_int (sa_cons se_int (sa_cons se_int sa_nil)))) (se_op s2_mod se_var se_int)) sa_nil))) (se_cb sc_int1 (sa_cons (se_op s2_eq (se_op s2_mod (se_call (sa_cons se_var (sa_cons se_int sa_nil))) se_int) se_int) sa_nil))) sa_nil)))))
 (ss_seq (ss_asg (se_call (sa_cons se_var (sa_cons se_var (sa_cons se_var (sa_cons se_var sa_nil))))) sg_name)
 (ss_seq (ss_asg (se_lstC sa_nil) sg_name)
 (ss_seq (ss_for (si_range2 se_int (se_cb sc_min2 (sa_cons se_int (sa_cons (se_cb sc_len (sa_cons se_var sa_nil)) sa_nil)))) sg_name
 (ss_seq (ss_asg (se_op s2_ix se_var se_var) sg_name)
 (ss_seq (ss_asg (se_op s2_ix (se_lst (sa_cons (se_op s2_add se_int (se_op s2_mod se_var se_int)) (sa_cons se_int sa_nil))) (se_cb sc_int1 (sa_cons (se_op s2_eq (se_op s2_mod se_var se_int) se_int) sa_nil))) sg_name)
 (ss_seq (ss_if (st_test (se_op s2_eq (se_op s2_mod se_var se_int) se_int))
 (ss_seq (ss_asg se_int sg_name)
 (ss_drop (se_methD (c := 8) [1] (show ∀ i ∈ flT 8, fnT i ≠ "night" by decide +kernel) se_var sa_nil)))
 (ss_drop (se_meth (c := 8) (show ∀ i ∈ flT 8, fnT i ≠ "night" by decide +kernel) se_var (sa_cons se_var sa_nil))))
 (ss_seq (ss_for (si_range1 se_var) sg_name
 (ss_drop (se_bmL sm_append se_var (sa_cons (se_call (sa_cons se_var (sa_cons (se_cb sc_len (sa_cons se_var sa_nil)) (sa_cons se_var (sa_cons se_var sa_nil))))) sa_nil))))
 (ss_seq (ss_for (si_range1 (se_cb sc_len (sa_cons se_var sa_nil))) sg_name
 (ss_seq (ss_asg (se_meth (c := 8) (show ∀ i ∈ flT 8, fnT i ≠ "weight" by decide +kernel) se_var (sa_cons (se_op s2_addS se_str (se_cb sc_strI (sa_cons (se_op s2_sub se_int se_var) sa_nil))) sa_nil)) sg_name)
 (ss_if (st_or (st_not (st_b (se_call (sa_cons se_var sa_nil)))) (st_test (se_op s2_ne se_var (se_op s2_ix se_var se_var))))
 (ss_ret se_bl)
 ss_next)))
 (ss_if (st_or (st_not (st_b (se_call (sa_cons (se_fld rfl se_var) sa_nil)))) (st_test (se_op s2_ne (se_fld rfl se_var) (se_cb sc_len (sa_cons se_var sa_nil)))))
 (ss_ret se_bl)
 ss_next)))))))
 (ss_ret (se_call (sa_cons (se_sl s3_list (se_meth (c := 8) (show ∀ i ∈ flT 8, fnT i ≠ "book" by decide +kernel) se_var sa_nil) (so_some (se_op s2_mul se_int (se_cb sc_len (sa_cons se_var sa_nil)))) so_none) (sa_cons se_var sa_nil)))))))))))) rfl (law_start (C := ctOf T) rfl law_true h)⟩
end
theorem all_mk {l : PySem.W.OpenLaw} {w : World} {K : PySem.W.Frag} {h : Heap} {mg : Str → Option Value} {fa : Addr} (X : K.In h) (G : h.Ns mainGlobals mg) (hfa : mg "law" = some (.ref fa))
    {f1 : Addr} {od1 an1 : Option Addr} {sl1 : Array (Option Value)} {oc1 kV1 dc1 pm1 cd1 ct1 : Value}
    {f2 : Addr} {od2 an2 : Option Addr} {sl2 : Array (Option Value)} {oc2 kV2 dc2 pm2 cd2 ct2 : Value}
    {f3 : Addr} {od3 an3 : Option Addr} {sl3 : Array (Option Value)} {oc3 kV3 dc3 pm3 cd3 ct3 : Value}
    {f4 : Addr} {od4 an4 : Option Addr} {sl4 : Array (Option Value)} {oc4 kV4 dc4 pm4 cd4 ct4 : Value}
    {f5 : Addr} {od5 an5 : Option Addr} {sl5 : Array (Option Value)} {oc5 kV5 dc5 pm5 cd5 ct5 : Value}
    {f6 : Addr} {od6 an6 : Option Addr} {sl6 : Array (Option Value)} {oc6 kV6 dc6 pm6 cd6 ct6 : Value}
    {f7 : Addr} {od7 an7 : Option Addr} {sl7 : Array (Option Value)} {oc7 kV7 dc7 pm7 cd7 ct7 : Value}
    {f8 : Addr} {od8 an8 : Option Addr} {sl8 : Array (Option Value)} {oc8 kV8 dc8 pm8 cd8 ct8 : Value}
    {f9 : Addr} {od9 an9 : Option Addr} {sl9 : Array (Option Value)} {oc9 kV9 dc9 pm9 cd9 ct9 : Value}
    {f10 : Addr} {od10 an10 : Option Addr} {sl10 : Array (Option Value)} {oc10 kV10 dc10 pm10 cd10 ct10 : Value}
    {f11 : Addr} {od11 an11 : Option Addr} {sl11 : Array (Option Value)} {oc11 kV11 dc11 pm11 cd11 ct11 : Value}
    {f12 : Addr} {od12 an12 : Option Addr} {sl12 : Array (Option Value)} {oc12 kV12 dc12 pm12 cd12 ct12 : Value}
    {f13 : Addr} {od13 an13 : Option Addr} {sl13 : Array (Option Value)} {oc13 kV13 dc13 pm13 cd13 ct13 : Value}
    {f14 : Addr} {od14 an14 : Option Addr} {sl14 : Array (Option Value)} {oc14 kV14 dc14 pm14 cd14 ct14 : Value}
    {f15 : Addr} {od15 an15 : Option Addr} {sl15 : Array (Option Value)} {oc15 kV15 dc15 pm15 cd15 ct15 : Value}
    {t_NAME_SIGNS : Tok}
    {t_LONGEST_NAME : Tok}
    {t_MOST_DAMP : Tok}
    {t_MOST_WARMTH : Tok}
    {t_LONGEST_GAP : Tok}
    {t_MOST_GRAMS : Tok}
    {t_MOST_NIGHTS : Tok}
    {c_Thing : Addr}
    {f_Thing___init__ : Addr} {od_Thing___init__ an_Thing___init__ : Option Addr} {sl_Thing___init__ : Array (Option Value)} {oc_Thing___init__ kV_Thing___init__ dc_Thing___init__ pm_Thing___init__ cd_Thing___init__ ct_Thing___init__ : Value}
    {c_Room : Addr}
    {f_Room___init__ : Addr} {od_Room___init__ an_Room___init__ : Option Addr} {sl_Room___init__ : Array (Option Value)} {oc_Room___init__ kV_Room___init__ dc_Room___init__ pm_Room___init__ cd_Room___init__ ct_Room___init__ : Value}
    {c_Shelf : Addr}
    {f_Shelf___init__ : Addr} {od_Shelf___init__ an_Shelf___init__ : Option Addr} {sl_Shelf___init__ : Array (Option Value)} {oc_Shelf___init__ kV_Shelf___init__ dc_Shelf___init__ pm_Shelf___init__ cd_Shelf___init__ ct_Shelf___init__ : Value}
    {c_Sort : Addr}
    {f_Sort___init__ : Addr} {od_Sort___init__ an_Sort___init__ : Option Addr} {sl_Sort___init__ : Array (Option Value)} {oc_Sort___init__ kV_Sort___init__ dc_Sort___init__ pm_Sort___init__ cd_Sort___init__ ct_Sort___init__ : Value}
    {c_Batch : Addr}
    {f_Batch___init__ : Addr} {od_Batch___init__ an_Batch___init__ : Option Addr} {sl_Batch___init__ : Array (Option Value)} {oc_Batch___init__ kV_Batch___init__ dc_Batch___init__ pm_Batch___init__ cd_Batch___init__ ct_Batch___init__ : Value}
    {c_Wheel : Addr}
    {f_Wheel___init__ : Addr} {od_Wheel___init__ an_Wheel___init__ : Option Addr} {sl_Wheel___init__ : Array (Option Value)} {oc_Wheel___init__ kV_Wheel___init__ dc_Wheel___init__ pm_Wheel___init__ cd_Wheel___init__ ct_Wheel___init__ : Value}
    {c_Cellar : Addr}
    {f_Cellar___init__ : Addr} {od_Cellar___init__ an_Cellar___init__ : Option Addr} {sl_Cellar___init__ : Array (Option Value)} {oc_Cellar___init__ kV_Cellar___init__ dc_Cellar___init__ pm_Cellar___init__ cd_Cellar___init__ ct_Cellar___init__ : Value}
    {f_Cellar_check_free : Addr} {od_Cellar_check_free an_Cellar_check_free : Option Addr} {sl_Cellar_check_free : Array (Option Value)} {oc_Cellar_check_free kV_Cellar_check_free dc_Cellar_check_free pm_Cellar_check_free cd_Cellar_check_free ct_Cellar_check_free : Value}
    {f_Cellar_known : Addr} {od_Cellar_known an_Cellar_known : Option Addr} {sl_Cellar_known : Array (Option Value)} {oc_Cellar_known kV_Cellar_known dc_Cellar_known pm_Cellar_known cd_Cellar_known ct_Cellar_known : Value}
    {f_Cellar_hold : Addr} {od_Cellar_hold an_Cellar_hold : Option Addr} {sl_Cellar_hold : Array (Option Value)} {oc_Cellar_hold kV_Cellar_hold dc_Cellar_hold pm_Cellar_hold cd_Cellar_hold ct_Cellar_hold : Value}
    {f_Cellar_new_room : Addr} {od_Cellar_new_room an_Cellar_new_room : Option Addr} {sl_Cellar_new_room : Array (Option Value)} {oc_Cellar_new_room kV_Cellar_new_room dc_Cellar_new_room pm_Cellar_new_room cd_Cellar_new_room ct_Cellar_new_room : Value}
    {f_Cellar_new_shelf : Addr} {od_Cellar_new_shelf an_Cellar_new_shelf : Option Addr} {sl_Cellar_new_shelf : Array (Option Value)} {oc_Cellar_new_shelf kV_Cellar_new_shelf dc_Cellar_new_shelf pm_Cellar_new_shelf cd_Cellar_new_shelf ct_Cellar_new_shelf : Value}
    {f_Cellar_new_sort : Addr} {od_Cellar_new_sort an_Cellar_new_sort : Option Addr} {sl_Cellar_new_sort : Array (Option Value)} {oc_Cellar_new_sort kV_Cellar_new_sort dc_Cellar_new_sort pm_Cellar_new_sort cd_Cellar_new_sort ct_Cellar_new_sort : Value}
    {f_Cellar_new_farm : Addr} {od_Cellar_new_farm an_Cellar_new_farm : Option Addr} {sl_Cellar_new_farm : Array (Option Value)} {oc_Cellar_new_farm kV_Cellar_new_farm dc_Cellar_new_farm pm_Cellar_new_farm cd_Cellar_new_farm ct_Cellar_new_farm : Value}
    {f_Cellar_new_batch : Addr} {od_Cellar_new_batch an_Cellar_new_batch : Option Addr} {sl_Cellar_new_batch : Array (Option Value)} {oc_Cellar_new_batch kV_Cellar_new_batch dc_Cellar_new_batch pm_Cellar_new_batch cd_Cellar_new_batch ct_Cellar_new_batch : Value}
    {f_Cellar_new_wheel : Addr} {od_Cellar_new_wheel an_Cellar_new_wheel : Option Addr} {sl_Cellar_new_wheel : Array (Option Value)} {oc_Cellar_new_wheel kV_Cellar_new_wheel dc_Cellar_new_wheel pm_Cellar_new_wheel cd_Cellar_new_wheel ct_Cellar_new_wheel : Value}
    {f_Cellar_night : Addr} {od_Cellar_night an_Cellar_night : Option Addr} {sl_Cellar_night : Array (Option Value)} {oc_Cellar_night kV_Cellar_night dc_Cellar_night pm_Cellar_night cd_Cellar_night ct_Cellar_night : Value}
    {dt_Cellar_night : Addr} {dx_Cellar_night : Value} {dy_Cellar_night : Option Addr} {dn_Cellar_night : Nat} {ds_Cellar_night : Array (Option Value)} {tk_Cellar_night : Tok}
    {f_Cellar_pass_night : Addr} {od_Cellar_pass_night an_Cellar_pass_night : Option Addr} {sl_Cellar_pass_night : Array (Option Value)} {oc_Cellar_pass_night kV_Cellar_pass_night dc_Cellar_pass_night pm_Cellar_pass_night cd_Cellar_pass_night ct_Cellar_pass_night : Value}
    {f_Cellar_book : Addr} {od_Cellar_book an_Cellar_book : Option Addr} {sl_Cellar_book : Array (Option Value)} {oc_Cellar_book kV_Cellar_book dc_Cellar_book pm_Cellar_book cd_Cellar_book ct_Cellar_book : Value}
    {f_Cellar_weight : Addr} {od_Cellar_weight an_Cellar_weight : Option Addr} {sl_Cellar_weight : Array (Option Value)} {oc_Cellar_weight kV_Cellar_weight dc_Cellar_weight pm_Cellar_weight cd_Cellar_weight ct_Cellar_weight : Value}
    {c_CellarError : Addr}
    {c_BadName : Addr}
    {c_Taken : Addr}
    {c_Unknown : Addr}
    {c_BadNumber : Addr}
    {c_Gone : Addr}
    {c_WrongRoom : Addr}
    {c_TooMuch : Addr}
    (a1 : PySem.W.nsIn K mainGlobals "stands_at" = some (some (.ref f1))) (l1 : K.lookup f1 = some ⟨oc1, od1, .func (PySem.W.fnOf "stands_at" "stands_at" (defArgs s_stands_at) (defBody s_stands_at) (defScope s_stands_at) .none kV1 dc1 pm1 an1 cd1 ct1), sl1⟩) (c1 : PySem.W.codeIn K cd1 "stands_at" = true) (k1 : PySem.W.keepIn K (.ref f1) = true)
    (a2 : PySem.W.nsIn K mainGlobals "night_loss" = some (some (.ref f2))) (l2 : K.lookup f2 = some ⟨oc2, od2, .func (PySem.W.fnOf "night_loss" "night_loss" (defArgs s_night_loss) (defBody s_night_loss) (defScope s_night_loss) .none kV2 dc2 pm2 an2 cd2 ct2), sl2⟩) (c2 : PySem.W.codeIn K cd2 "night_loss" = true) (k2 : PySem.W.keepIn K (.ref f2) = true)
    (a3 : PySem.W.nsIn K mainGlobals "has_only" = some (some (.ref f3))) (l3 : K.lookup f3 = some ⟨oc3, od3, .func (PySem.W.fnOf "has_only" "has_only" (defArgs s_has_only) (defBody s_has_only) (defScope s_has_only) .none kV3 dc3 pm3 an3 cd3 ct3), sl3⟩) (c3 : PySem.W.codeIn K cd3 "has_only" = true) (k3 : PySem.W.keepIn K (.ref f3) = true)
    (a4 : PySem.W.nsIn K mainGlobals "is_name" = some (some (.ref f4))) (l4 : K.lookup f4 = some ⟨oc4, od4, .func (PySem.W.fnOf "is_name" "is_name" (defArgs s_is_name) (defBody s_is_name) (defScope s_is_name) .none kV4 dc4 pm4 an4 cd4 ct4), sl4⟩) (c4 : PySem.W.codeIn K cd4 "is_name" = true) (k4 : PySem.W.keepIn K (.ref f4) = true)
    (a5 : PySem.W.nsIn K mainGlobals "check_bounds" = some (some (.ref f5))) (l5 : K.lookup f5 = some ⟨oc5, od5, .func (PySem.W.fnOf "check_bounds" "check_bounds" (defArgs s_check_bounds) (defBody s_check_bounds) (defScope s_check_bounds) .none kV5 dc5 pm5 an5 cd5 ct5), sl5⟩) (c5 : PySem.W.codeIn K cd5 "check_bounds" = true) (k5 : PySem.W.keepIn K (.ref f5) = true)
    (a6 : PySem.W.nsIn K mainGlobals "check_grams" = some (some (.ref f6))) (l6 : K.lookup f6 = some ⟨oc6, od6, .func (PySem.W.fnOf "check_grams" "check_grams" (defArgs s_check_grams) (defBody s_check_grams) (defScope s_check_grams) .none kV6 dc6 pm6 an6 cd6 ct6), sl6⟩) (c6 : PySem.W.codeIn K cd6 "check_grams" = true) (k6 : PySem.W.keepIn K (.ref f6) = true)
    (a7 : PySem.W.nsIn K mainGlobals "check_gap" = some (some (.ref f7))) (l7 : K.lookup f7 = some ⟨oc7, od7, .func (PySem.W.fnOf "check_gap" "check_gap" (defArgs s_check_gap) (defBody s_check_gap) (defScope s_check_gap) .none kV7 dc7 pm7 an7 cd7 ct7), sl7⟩) (c7 : PySem.W.codeIn K cd7 "check_gap" = true) (k7 : PySem.W.keepIn K (.ref f7) = true)
    (a8 : PySem.W.nsIn K mainGlobals "check_here" = some (some (.ref f8))) (l8 : K.lookup f8 = some ⟨oc8, od8, .func (PySem.W.fnOf "check_here" "check_here" (defArgs s_check_here) (defBody s_check_here) (defScope s_check_here) .none kV8 dc8 pm8 an8 cd8 ct8), sl8⟩) (c8 : PySem.W.codeIn K cd8 "check_here" = true) (k8 : PySem.W.keepIn K (.ref f8) = true)
    (a9 : PySem.W.nsIn K mainGlobals "check_enough" = some (some (.ref f9))) (l9 : K.lookup f9 = some ⟨oc9, od9, .func (PySem.W.fnOf "check_enough" "check_enough" (defArgs s_check_enough) (defBody s_check_enough) (defScope s_check_enough) .none kV9 dc9 pm9 an9 cd9 ct9), sl9⟩) (c9 : PySem.W.codeIn K cd9 "check_enough" = true) (k9 : PySem.W.keepIn K (.ref f9) = true)
    (a10 : PySem.W.nsIn K mainGlobals "_law_at" = some (some (.ref f10))) (l10 : K.lookup f10 = some ⟨oc10, od10, .func (PySem.W.fnOf "_law_at" "_law_at" (defArgs s__law_at) (defBody s__law_at) (defScope s__law_at) .none kV10 dc10 pm10 an10 cd10 ct10), sl10⟩) (c10 : PySem.W.codeIn K cd10 "_law_at" = true) (k10 : PySem.W.keepIn K (.ref f10) = true)
    (a11 : PySem.W.nsIn K mainGlobals "_law_whole" = some (some (.ref f11))) (l11 : K.lookup f11 = some ⟨oc11, od11, .func (PySem.W.fnOf "_law_whole" "_law_whole" (defArgs s__law_whole) (defBody s__law_whole) (defScope s__law_whole) .none kV11 dc11 pm11 an11 cd11 ct11), sl11⟩) (c11 : PySem.W.codeIn K cd11 "_law_whole" = true) (k11 : PySem.W.keepIn K (.ref f11) = true)
    (a12 : PySem.W.nsIn K mainGlobals "_law_same" = some (some (.ref f12))) (l12 : K.lookup f12 = some ⟨oc12, od12, .func (PySem.W.fnOf "_law_same" "_law_same" (defArgs s__law_same) (defBody s__law_same) (defScope s__law_same) .none kV12 dc12 pm12 an12 cd12 ct12), sl12⟩) (c12 : PySem.W.codeIn K cd12 "_law_same" = true) (k12 : PySem.W.keepIn K (.ref f12) = true)
    (a13 : PySem.W.nsIn K mainGlobals "_law_furnished" = some (some (.ref f13))) (l13 : K.lookup f13 = some ⟨oc13, od13, .func (PySem.W.fnOf "_law_furnished" "_law_furnished" (defArgs s__law_furnished) (defBody s__law_furnished) (defScope s__law_furnished) .none kV13 dc13 pm13 an13 cd13 ct13), sl13⟩) (c13 : PySem.W.codeIn K cd13 "_law_furnished" = true) (k13 : PySem.W.keepIn K (.ref f13) = true)
    (a14 : PySem.W.nsIn K mainGlobals "_law_night" = some (some (.ref f14))) (l14 : K.lookup f14 = some ⟨oc14, od14, .func (PySem.W.fnOf "_law_night" "_law_night" (defArgs s__law_night) (defBody s__law_night) (defScope s__law_night) .none kV14 dc14 pm14 an14 cd14 ct14), sl14⟩) (c14 : PySem.W.codeIn K cd14 "_law_night" = true) (k14 : PySem.W.keepIn K (.ref f14) = true)
    (a15 : PySem.W.nsIn K mainGlobals "law" = some (some (.ref f15))) (l15 : K.lookup f15 = some ⟨oc15, od15, .func (PySem.W.fnOf "law" "law" (defArgs s_law) (defBody s_law) (defScope s_law) .none kV15 dc15 pm15 an15 cd15 ct15), sl15⟩) (c15 : PySem.W.codeIn K cd15 "law" = true) (k15 : PySem.W.keepIn K (.ref f15) = true)
    (z_len : PySem.W.nsIn K mainGlobals "len" = some none)
    (z_all : PySem.W.nsIn K mainGlobals "all" = some none)
    (z_min : PySem.W.nsIn K mainGlobals "min" = some none)
    (z_range : PySem.W.nsIn K mainGlobals "range" = some none)
    (z_int : PySem.W.nsIn K mainGlobals "int" = some none)
    (z_bool : PySem.W.nsIn K mainGlobals "bool" = some none)
    (z_str : PySem.W.nsIn K mainGlobals "str" = some none)
    (z_list : PySem.W.nsIn K mainGlobals "list" = some none)
    (z_tuple : PySem.W.nsIn K mainGlobals "tuple" = some none)
    (z_isinstance : PySem.W.nsIn K mainGlobals "isinstance" = some none)
    (z_sum : PySem.W.nsIn K mainGlobals "sum" = some none)
    (z_ValueError : PySem.W.nsIn K mainGlobals "ValueError" = some none)
    (z_set : PySem.W.nsIn K mainGlobals "set" = some none)
    (g_NAME_SIGNS : PySem.W.nsIn K mainGlobals "NAME_SIGNS" = some (some (.str c_NAME_SIGNS t_NAME_SIGNS)))
    (g_LONGEST_NAME : PySem.W.nsIn K mainGlobals "LONGEST_NAME" = some (some (.int 12 t_LONGEST_NAME)))
    (g_MOST_DAMP : PySem.W.nsIn K mainGlobals "MOST_DAMP" = some (some (.int 100 t_MOST_DAMP)))
    (g_MOST_WARMTH : PySem.W.nsIn K mainGlobals "MOST_WARMTH" = some (some (.int 40 t_MOST_WARMTH)))
    (g_LONGEST_GAP : PySem.W.nsIn K mainGlobals "LONGEST_GAP" = some (some (.int 60 t_LONGEST_GAP)))
    (g_MOST_GRAMS : PySem.W.nsIn K mainGlobals "MOST_GRAMS" = some (some (.int 1000000 t_MOST_GRAMS)))
    (g_MOST_NIGHTS : PySem.W.nsIn K mainGlobals "MOST_NIGHTS" = some (some (.int 30 t_MOST_NIGHTS)))
    (cn_Thing : PySem.W.nsIn K mainGlobals "Thing" = some (some (.ref c_Thing))) (pg_Thing : PySem.W.plainGet K c_Thing Str.empty = true) (hd_Thing : PySem.W.hasDictIn K c_Thing = true) (po_Thing : PySem.W.plainOver K c_Thing = true) (sa_Thing : PySem.W.findIn K (.ref c_Thing) "__setattr__" = some (some (.builtin "object.__setattr__"))) (ma_Thing : PySem.W.makesIn K c_Thing = true) (kp_Thing : PySem.W.keepIn K (.ref c_Thing) = true)
    (a_Thing___init__ : PySem.W.findIn K (.ref c_Thing) "__init__" = some (some (.ref f_Thing___init__))) (l_Thing___init__ : K.lookup f_Thing___init__ = some ⟨oc_Thing___init__, od_Thing___init__, .func (PySem.W.fnOf "__init__" "Thing.__init__" (defArgs s_Thing___init__) (defBody s_Thing___init__) (defScope s_Thing___init__) .none kV_Thing___init__ dc_Thing___init__ pm_Thing___init__ an_Thing___init__ cd_Thing___init__ ct_Thing___init__), sl_Thing___init__⟩) (c_Thing___init__ : PySem.W.codeIn K cd_Thing___init__ "Thing.__init__" = true) (k_Thing___init__ : PySem.W.keepIn K (.ref f_Thing___init__) = true) (i_Thing___init__ : PySem.W.isFn K (.ref f_Thing___init__) = true)
    (na_Thing_kind : PySem.W.findIn K (.ref c_Thing) "kind" = some none)
    (na_Thing_name : PySem.W.findIn K (.ref c_Thing) "name" = some none)
    (bs_Thing___init__ : PySem.W.specialIn K (.ref c_Thing) "__getattribute__" = some (some (.builtin "type.__getattribute__"))) (br_Thing___init__ : PySem.W.readsIn K c_Thing (.type "type") = true) (bf_Thing___init__ : PySem.W.findCls K (.ref c_Thing) (.type "type") "__init__" = some (.val (.ref f_Thing___init__)))
    (cn_Room : PySem.W.nsIn K mainGlobals "Room" = some (some (.ref c_Room))) (pg_Room : PySem.W.plainGet K c_Room Str.empty = true) (hd_Room : PySem.W.hasDictIn K c_Room = true) (po_Room : PySem.W.plainOver K c_Room = true) (sa_Room : PySem.W.findIn K (.ref c_Room) "__setattr__" = some (some (.builtin "object.__setattr__"))) (ma_Room : PySem.W.makesIn K c_Room = true) (kp_Room : PySem.W.keepIn K (.ref c_Room) = true)
    (a_Room___init__ : PySem.W.findIn K (.ref c_Room) "__init__" = some (some (.ref f_Room___init__))) (l_Room___init__ : K.lookup f_Room___init__ = some ⟨oc_Room___init__, od_Room___init__, .func (PySem.W.fnOf "__init__" "Room.__init__" (defArgs s_Room___init__) (defBody s_Room___init__) (defScope s_Room___init__) .none kV_Room___init__ dc_Room___init__ pm_Room___init__ an_Room___init__ cd_Room___init__ ct_Room___init__), sl_Room___init__⟩) (c_Room___init__ : PySem.W.codeIn K cd_Room___init__ "Room.__init__" = true) (k_Room___init__ : PySem.W.keepIn K (.ref f_Room___init__) = true) (i_Room___init__ : PySem.W.isFn K (.ref f_Room___init__) = true)
    (na_Room_kind : PySem.W.findIn K (.ref c_Room) "kind" = some none)
    (na_Room_name : PySem.W.findIn K (.ref c_Room) "name" = some none)
    (na_Room_damp : PySem.W.findIn K (.ref c_Room) "damp" = some none)
    (na_Room_warmth : PySem.W.findIn K (.ref c_Room) "warmth" = some none)
    (cn_Shelf : PySem.W.nsIn K mainGlobals "Shelf" = some (some (.ref c_Shelf))) (pg_Shelf : PySem.W.plainGet K c_Shelf Str.empty = true) (hd_Shelf : PySem.W.hasDictIn K c_Shelf = true) (po_Shelf : PySem.W.plainOver K c_Shelf = true) (sa_Shelf : PySem.W.findIn K (.ref c_Shelf) "__setattr__" = some (some (.builtin "object.__setattr__"))) (ma_Shelf : PySem.W.makesIn K c_Shelf = true) (kp_Shelf : PySem.W.keepIn K (.ref c_Shelf) = true)
    (a_Shelf___init__ : PySem.W.findIn K (.ref c_Shelf) "__init__" = some (some (.ref f_Shelf___init__))) (l_Shelf___init__ : K.lookup f_Shelf___init__ = some ⟨oc_Shelf___init__, od_Shelf___init__, .func (PySem.W.fnOf "__init__" "Shelf.__init__" (defArgs s_Shelf___init__) (defBody s_Shelf___init__) (defScope s_Shelf___init__) .none kV_Shelf___init__ dc_Shelf___init__ pm_Shelf___init__ an_Shelf___init__ cd_Shelf___init__ ct_Shelf___init__), sl_Shelf___init__⟩) (c_Shelf___init__ : PySem.W.codeIn K cd_Shelf___init__ "Shelf.__init__" = true) (k_Shelf___init__ : PySem.W.keepIn K (.ref f_Shelf___init__) = true) (i_Shelf___init__ : PySem.W.isFn K (.ref f_Shelf___init__) = true)
    (na_Shelf_kind : PySem.W.findIn K (.ref c_Shelf) "kind" = some none)
    (na_Shelf_name : PySem.W.findIn K (.ref c_Shelf) "name" = some none)
    (na_Shelf_room : PySem.W.findIn K (.ref c_Shelf) "room" = some none)
    (cn_Sort : PySem.W.nsIn K mainGlobals "Sort" = some (some (.ref c_Sort))) (pg_Sort : PySem.W.plainGet K c_Sort Str.empty = true) (hd_Sort : PySem.W.hasDictIn K c_Sort = true) (po_Sort : PySem.W.plainOver K c_Sort = true) (sa_Sort : PySem.W.findIn K (.ref c_Sort) "__setattr__" = some (some (.builtin "object.__setattr__"))) (ma_Sort : PySem.W.makesIn K c_Sort = true) (kp_Sort : PySem.W.keepIn K (.ref c_Sort) = true)
    (a_Sort___init__ : PySem.W.findIn K (.ref c_Sort) "__init__" = some (some (.ref f_Sort___init__))) (l_Sort___init__ : K.lookup f_Sort___init__ = some ⟨oc_Sort___init__, od_Sort___init__, .func (PySem.W.fnOf "__init__" "Sort.__init__" (defArgs s_Sort___init__) (defBody s_Sort___init__) (defScope s_Sort___init__) .none kV_Sort___init__ dc_Sort___init__ pm_Sort___init__ an_Sort___init__ cd_Sort___init__ ct_Sort___init__), sl_Sort___init__⟩) (c_Sort___init__ : PySem.W.codeIn K cd_Sort___init__ "Sort.__init__" = true) (k_Sort___init__ : PySem.W.keepIn K (.ref f_Sort___init__) = true) (i_Sort___init__ : PySem.W.isFn K (.ref f_Sort___init__) = true)
    (na_Sort_kind : PySem.W.findIn K (.ref c_Sort) "kind" = some none)
    (na_Sort_name : PySem.W.findIn K (.ref c_Sort) "name" = some none)
    (na_Sort_mouldy : PySem.W.findIn K (.ref c_Sort) "mouldy" = some none)
    (na_Sort_turn_gap : PySem.W.findIn K (.ref c_Sort) "turn_gap" = some none)
    (na_Sort_wash_gap : PySem.W.findIn K (.ref c_Sort) "wash_gap" = some none)
    (na_Sort_rooms : PySem.W.findIn K (.ref c_Sort) "rooms" = some none)
    (na_Sort_stays : PySem.W.findIn K (.ref c_Sort) "stays" = some none)
    (cn_Batch : PySem.W.nsIn K mainGlobals "Batch" = some (some (.ref c_Batch))) (pg_Batch : PySem.W.plainGet K c_Batch Str.empty = true) (hd_Batch : PySem.W.hasDictIn K c_Batch = true) (po_Batch : PySem.W.plainOver K c_Batch = true) (sa_Batch : PySem.W.findIn K (.ref c_Batch) "__setattr__" = some (some (.builtin "object.__setattr__"))) (ma_Batch : PySem.W.makesIn K c_Batch = true) (kp_Batch : PySem.W.keepIn K (.ref c_Batch) = true)
    (a_Batch___init__ : PySem.W.findIn K (.ref c_Batch) "__init__" = some (some (.ref f_Batch___init__))) (l_Batch___init__ : K.lookup f_Batch___init__ = some ⟨oc_Batch___init__, od_Batch___init__, .func (PySem.W.fnOf "__init__" "Batch.__init__" (defArgs s_Batch___init__) (defBody s_Batch___init__) (defScope s_Batch___init__) .none kV_Batch___init__ dc_Batch___init__ pm_Batch___init__ an_Batch___init__ cd_Batch___init__ ct_Batch___init__), sl_Batch___init__⟩) (c_Batch___init__ : PySem.W.codeIn K cd_Batch___init__ "Batch.__init__" = true) (k_Batch___init__ : PySem.W.keepIn K (.ref f_Batch___init__) = true) (i_Batch___init__ : PySem.W.isFn K (.ref f_Batch___init__) = true)
    (na_Batch_kind : PySem.W.findIn K (.ref c_Batch) "kind" = some none)
    (na_Batch_name : PySem.W.findIn K (.ref c_Batch) "name" = some none)
    (na_Batch_grams : PySem.W.findIn K (.ref c_Batch) "grams" = some none)
    (cn_Wheel : PySem.W.nsIn K mainGlobals "Wheel" = some (some (.ref c_Wheel))) (pg_Wheel : PySem.W.plainGet K c_Wheel Str.empty = true) (hd_Wheel : PySem.W.hasDictIn K c_Wheel = true) (po_Wheel : PySem.W.plainOver K c_Wheel = true) (sa_Wheel : PySem.W.findIn K (.ref c_Wheel) "__setattr__" = some (some (.builtin "object.__setattr__"))) (ma_Wheel : PySem.W.makesIn K c_Wheel = true) (kp_Wheel : PySem.W.keepIn K (.ref c_Wheel) = true)
    (a_Wheel___init__ : PySem.W.findIn K (.ref c_Wheel) "__init__" = some (some (.ref f_Wheel___init__))) (l_Wheel___init__ : K.lookup f_Wheel___init__ = some ⟨oc_Wheel___init__, od_Wheel___init__, .func (PySem.W.fnOf "__init__" "Wheel.__init__" (defArgs s_Wheel___init__) (defBody s_Wheel___init__) (defScope s_Wheel___init__) .none kV_Wheel___init__ dc_Wheel___init__ pm_Wheel___init__ an_Wheel___init__ cd_Wheel___init__ ct_Wheel___init__), sl_Wheel___init__⟩) (c_Wheel___init__ : PySem.W.codeIn K cd_Wheel___init__ "Wheel.__init__" = true) (k_Wheel___init__ : PySem.W.keepIn K (.ref f_Wheel___init__) = true) (i_Wheel___init__ : PySem.W.isFn K (.ref f_Wheel___init__) = true)
    (na_Wheel_kind : PySem.W.findIn K (.ref c_Wheel) "kind" = some none)
    (na_Wheel_name : PySem.W.findIn K (.ref c_Wheel) "name" = some none)
    (na_Wheel_recipe : PySem.W.findIn K (.ref c_Wheel) "recipe" = some none)
    (na_Wheel_shelf : PySem.W.findIn K (.ref c_Wheel) "shelf" = some none)
    (na_Wheel_grams : PySem.W.findIn K (.ref c_Wheel) "grams" = some none)
    (na_Wheel_place : PySem.W.findIn K (.ref c_Wheel) "place" = some none)
    (na_Wheel_turn_day : PySem.W.findIn K (.ref c_Wheel) "turn_day" = some none)
    (na_Wheel_wash_day : PySem.W.findIn K (.ref c_Wheel) "wash_day" = some none)
    (na_Wheel_room_day : PySem.W.findIn K (.ref c_Wheel) "room_day" = some none)
    (na_Wheel_gone : PySem.W.findIn K (.ref c_Wheel) "gone" = some none)
    (cn_Cellar : PySem.W.nsIn K mainGlobals "Cellar" = some (some (.ref c_Cellar))) (pg_Cellar : PySem.W.plainGet K c_Cellar Str.empty = true) (hd_Cellar : PySem.W.hasDictIn K c_Cellar = true) (po_Cellar : PySem.W.plainOver K c_Cellar = true) (sa_Cellar : PySem.W.findIn K (.ref c_Cellar) "__setattr__" = some (some (.builtin "object.__setattr__"))) (ma_Cellar : PySem.W.makesIn K c_Cellar = true) (kp_Cellar : PySem.W.keepIn K (.ref c_Cellar) = true)
    (a_Cellar___init__ : PySem.W.findIn K (.ref c_Cellar) "__init__" = some (some (.ref f_Cellar___init__))) (l_Cellar___init__ : K.lookup f_Cellar___init__ = some ⟨oc_Cellar___init__, od_Cellar___init__, .func (PySem.W.fnOf "__init__" "Cellar.__init__" (defArgs s_Cellar___init__) (defBody s_Cellar___init__) (defScope s_Cellar___init__) .none kV_Cellar___init__ dc_Cellar___init__ pm_Cellar___init__ an_Cellar___init__ cd_Cellar___init__ ct_Cellar___init__), sl_Cellar___init__⟩) (c_Cellar___init__ : PySem.W.codeIn K cd_Cellar___init__ "Cellar.__init__" = true) (k_Cellar___init__ : PySem.W.keepIn K (.ref f_Cellar___init__) = true) (i_Cellar___init__ : PySem.W.isFn K (.ref f_Cellar___init__) = true)
    (a_Cellar_check_free : PySem.W.findIn K (.ref c_Cellar) "check_free" = some (some (.ref f_Cellar_check_free))) (l_Cellar_check_free : K.lookup f_Cellar_check_free = some ⟨oc_Cellar_check_free, od_Cellar_check_free, .func (PySem.W.fnOf "check_free" "Cellar.check_free" (defArgs s_Cellar_check_free) (defBody s_Cellar_check_free) (defScope s_Cellar_check_free) .none kV_Cellar_check_free dc_Cellar_check_free pm_Cellar_check_free an_Cellar_check_free cd_Cellar_check_free ct_Cellar_check_free), sl_Cellar_check_free⟩) (c_Cellar_check_free : PySem.W.codeIn K cd_Cellar_check_free "Cellar.check_free" = true) (k_Cellar_check_free : PySem.W.keepIn K (.ref f_Cellar_check_free) = true) (i_Cellar_check_free : PySem.W.isFn K (.ref f_Cellar_check_free) = true)
    (a_Cellar_known : PySem.W.findIn K (.ref c_Cellar) "known" = some (some (.ref f_Cellar_known))) (l_Cellar_known : K.lookup f_Cellar_known = some ⟨oc_Cellar_known, od_Cellar_known, .func (PySem.W.fnOf "known" "Cellar.known" (defArgs s_Cellar_known) (defBody s_Cellar_known) (defScope s_Cellar_known) .none kV_Cellar_known dc_Cellar_known pm_Cellar_known an_Cellar_known cd_Cellar_known ct_Cellar_known), sl_Cellar_known⟩) (c_Cellar_known : PySem.W.codeIn K cd_Cellar_known "Cellar.known" = true) (k_Cellar_known : PySem.W.keepIn K (.ref f_Cellar_known) = true) (i_Cellar_known : PySem.W.isFn K (.ref f_Cellar_known) = true)
    (a_Cellar_hold : PySem.W.findIn K (.ref c_Cellar) "hold" = some (some (.ref f_Cellar_hold))) (l_Cellar_hold : K.lookup f_Cellar_hold = some ⟨oc_Cellar_hold, od_Cellar_hold, .func (PySem.W.fnOf "hold" "Cellar.hold" (defArgs s_Cellar_hold) (defBody s_Cellar_hold) (defScope s_Cellar_hold) .none kV_Cellar_hold dc_Cellar_hold pm_Cellar_hold an_Cellar_hold cd_Cellar_hold ct_Cellar_hold), sl_Cellar_hold⟩) (c_Cellar_hold : PySem.W.codeIn K cd_Cellar_hold "Cellar.hold" = true) (k_Cellar_hold : PySem.W.keepIn K (.ref f_Cellar_hold) = true) (i_Cellar_hold : PySem.W.isFn K (.ref f_Cellar_hold) = true)
    (a_Cellar_new_room : PySem.W.findIn K (.ref c_Cellar) "new_room" = some (some (.ref f_Cellar_new_room))) (l_Cellar_new_room : K.lookup f_Cellar_new_room = some ⟨oc_Cellar_new_room, od_Cellar_new_room, .func (PySem.W.fnOf "new_room" "Cellar.new_room" (defArgs s_Cellar_new_room) (defBody s_Cellar_new_room) (defScope s_Cellar_new_room) .none kV_Cellar_new_room dc_Cellar_new_room pm_Cellar_new_room an_Cellar_new_room cd_Cellar_new_room ct_Cellar_new_room), sl_Cellar_new_room⟩) (c_Cellar_new_room : PySem.W.codeIn K cd_Cellar_new_room "Cellar.new_room" = true) (k_Cellar_new_room : PySem.W.keepIn K (.ref f_Cellar_new_room) = true) (i_Cellar_new_room : PySem.W.isFn K (.ref f_Cellar_new_room) = true)
    (a_Cellar_new_shelf : PySem.W.findIn K (.ref c_Cellar) "new_shelf" = some (some (.ref f_Cellar_new_shelf))) (l_Cellar_new_shelf : K.lookup f_Cellar_new_shelf = some ⟨oc_Cellar_new_shelf, od_Cellar_new_shelf, .func (PySem.W.fnOf "new_shelf" "Cellar.new_shelf" (defArgs s_Cellar_new_shelf) (defBody s_Cellar_new_shelf) (defScope s_Cellar_new_shelf) .none kV_Cellar_new_shelf dc_Cellar_new_shelf pm_Cellar_new_shelf an_Cellar_new_shelf cd_Cellar_new_shelf ct_Cellar_new_shelf), sl_Cellar_new_shelf⟩) (c_Cellar_new_shelf : PySem.W.codeIn K cd_Cellar_new_shelf "Cellar.new_shelf" = true) (k_Cellar_new_shelf : PySem.W.keepIn K (.ref f_Cellar_new_shelf) = true) (i_Cellar_new_shelf : PySem.W.isFn K (.ref f_Cellar_new_shelf) = true)
    (a_Cellar_new_sort : PySem.W.findIn K (.ref c_Cellar) "new_sort" = some (some (.ref f_Cellar_new_sort))) (l_Cellar_new_sort : K.lookup f_Cellar_new_sort = some ⟨oc_Cellar_new_sort, od_Cellar_new_sort, .func (PySem.W.fnOf "new_sort" "Cellar.new_sort" (defArgs s_Cellar_new_sort) (defBody s_Cellar_new_sort) (defScope s_Cellar_new_sort) .none kV_Cellar_new_sort dc_Cellar_new_sort pm_Cellar_new_sort an_Cellar_new_sort cd_Cellar_new_sort ct_Cellar_new_sort), sl_Cellar_new_sort⟩) (c_Cellar_new_sort : PySem.W.codeIn K cd_Cellar_new_sort "Cellar.new_sort" = true) (k_Cellar_new_sort : PySem.W.keepIn K (.ref f_Cellar_new_sort) = true) (i_Cellar_new_sort : PySem.W.isFn K (.ref f_Cellar_new_sort) = true)
    (a_Cellar_new_farm : PySem.W.findIn K (.ref c_Cellar) "new_farm" = some (some (.ref f_Cellar_new_farm))) (l_Cellar_new_farm : K.lookup f_Cellar_new_farm = some ⟨oc_Cellar_new_farm, od_Cellar_new_farm, .func (PySem.W.fnOf "new_farm" "Cellar.new_farm" (defArgs s_Cellar_new_farm) (defBody s_Cellar_new_farm) (defScope s_Cellar_new_farm) .none kV_Cellar_new_farm dc_Cellar_new_farm pm_Cellar_new_farm an_Cellar_new_farm cd_Cellar_new_farm ct_Cellar_new_farm), sl_Cellar_new_farm⟩) (c_Cellar_new_farm : PySem.W.codeIn K cd_Cellar_new_farm "Cellar.new_farm" = true) (k_Cellar_new_farm : PySem.W.keepIn K (.ref f_Cellar_new_farm) = true) (i_Cellar_new_farm : PySem.W.isFn K (.ref f_Cellar_new_farm) = true)
    (a_Cellar_new_batch : PySem.W.findIn K (.ref c_Cellar) "new_batch" = some (some (.ref f_Cellar_new_batch))) (l_Cellar_new_batch : K.lookup f_Cellar_new_batch = some ⟨oc_Cellar_new_batch, od_Cellar_new_batch, .func (PySem.W.fnOf "new_batch" "Cellar.new_batch" (defArgs s_Cellar_new_batch) (defBody s_Cellar_new_batch) (defScope s_Cellar_new_batch) .none kV_Cellar_new_batch dc_Cellar_new_batch pm_Cellar_new_batch an_Cellar_new_batch cd_Cellar_new_batch ct_Cellar_new_batch), sl_Cellar_new_batch⟩) (c_Cellar_new_batch : PySem.W.codeIn K cd_Cellar_new_batch "Cellar.new_batch" = true) (k_Cellar_new_batch : PySem.W.keepIn K (.ref f_Cellar_new_batch) = true) (i_Cellar_new_batch : PySem.W.isFn K (.ref f_Cellar_new_batch) = true)
    (a_Cellar_new_wheel : PySem.W.findIn K (.ref c_Cellar) "new_wheel" = some (some (.ref f_Cellar_new_wheel))) (l_Cellar_new_wheel : K.lookup f_Cellar_new_wheel = some ⟨oc_Cellar_new_wheel, od_Cellar_new_wheel, .func (PySem.W.fnOf "new_wheel" "Cellar.new_wheel" (defArgs s_Cellar_new_wheel) (defBody s_Cellar_new_wheel) (defScope s_Cellar_new_wheel) .none kV_Cellar_new_wheel dc_Cellar_new_wheel pm_Cellar_new_wheel an_Cellar_new_wheel cd_Cellar_new_wheel ct_Cellar_new_wheel), sl_Cellar_new_wheel⟩) (c_Cellar_new_wheel : PySem.W.codeIn K cd_Cellar_new_wheel "Cellar.new_wheel" = true) (k_Cellar_new_wheel : PySem.W.keepIn K (.ref f_Cellar_new_wheel) = true) (i_Cellar_new_wheel : PySem.W.isFn K (.ref f_Cellar_new_wheel) = true)
    (a_Cellar_night : PySem.W.findIn K (.ref c_Cellar) "night" = some (some (.ref f_Cellar_night))) (l_Cellar_night : K.lookup f_Cellar_night = some ⟨oc_Cellar_night, od_Cellar_night, .func (PySem.W.fnOf "night" "Cellar.night" (defArgs s_Cellar_night) (defBody s_Cellar_night) (defScope s_Cellar_night) (.ref dt_Cellar_night) kV_Cellar_night dc_Cellar_night pm_Cellar_night an_Cellar_night cd_Cellar_night ct_Cellar_night), sl_Cellar_night⟩) (c_Cellar_night : PySem.W.codeIn K cd_Cellar_night "Cellar.night" = true) (k_Cellar_night : PySem.W.keepIn K (.ref f_Cellar_night) = true) (i_Cellar_night : PySem.W.isFn K (.ref f_Cellar_night) = true)
    (dl_Cellar_night : K.lookup dt_Cellar_night = some ⟨dx_Cellar_night, dy_Cellar_night, .seq #[.int 1 tk_Cellar_night] dn_Cellar_night, ds_Cellar_night⟩)
    (a_Cellar_pass_night : PySem.W.findIn K (.ref c_Cellar) "pass_night" = some (some (.ref f_Cellar_pass_night))) (l_Cellar_pass_night : K.lookup f_Cellar_pass_night = some ⟨oc_Cellar_pass_night, od_Cellar_pass_night, .func (PySem.W.fnOf "pass_night" "Cellar.pass_night" (defArgs s_Cellar_pass_night) (defBody s_Cellar_pass_night) (defScope s_Cellar_pass_night) .none kV_Cellar_pass_night dc_Cellar_pass_night pm_Cellar_pass_night an_Cellar_pass_night cd_Cellar_pass_night ct_Cellar_pass_night), sl_Cellar_pass_night⟩) (c_Cellar_pass_night : PySem.W.codeIn K cd_Cellar_pass_night "Cellar.pass_night" = true) (k_Cellar_pass_night : PySem.W.keepIn K (.ref f_Cellar_pass_night) = true) (i_Cellar_pass_night : PySem.W.isFn K (.ref f_Cellar_pass_night) = true)
    (a_Cellar_book : PySem.W.findIn K (.ref c_Cellar) "book" = some (some (.ref f_Cellar_book))) (l_Cellar_book : K.lookup f_Cellar_book = some ⟨oc_Cellar_book, od_Cellar_book, .func (PySem.W.fnOf "book" "Cellar.book" (defArgs s_Cellar_book) (defBody s_Cellar_book) (defScope s_Cellar_book) .none kV_Cellar_book dc_Cellar_book pm_Cellar_book an_Cellar_book cd_Cellar_book ct_Cellar_book), sl_Cellar_book⟩) (c_Cellar_book : PySem.W.codeIn K cd_Cellar_book "Cellar.book" = true) (k_Cellar_book : PySem.W.keepIn K (.ref f_Cellar_book) = true) (i_Cellar_book : PySem.W.isFn K (.ref f_Cellar_book) = true)
    (a_Cellar_weight : PySem.W.findIn K (.ref c_Cellar) "weight" = some (some (.ref f_Cellar_weight))) (l_Cellar_weight : K.lookup f_Cellar_weight = some ⟨oc_Cellar_weight, od_Cellar_weight, .func (PySem.W.fnOf "weight" "Cellar.weight" (defArgs s_Cellar_weight) (defBody s_Cellar_weight) (defScope s_Cellar_weight) .none kV_Cellar_weight dc_Cellar_weight pm_Cellar_weight an_Cellar_weight cd_Cellar_weight ct_Cellar_weight), sl_Cellar_weight⟩) (c_Cellar_weight : PySem.W.codeIn K cd_Cellar_weight "Cellar.weight" = true) (k_Cellar_weight : PySem.W.keepIn K (.ref f_Cellar_weight) = true) (i_Cellar_weight : PySem.W.isFn K (.ref f_Cellar_weight) = true)
    (na_Cellar_today : PySem.W.findIn K (.ref c_Cellar) "today" = some none)
    (na_Cellar_things : PySem.W.findIn K (.ref c_Cellar) "things" = some none)
    (na_Cellar_wheels : PySem.W.findIn K (.ref c_Cellar) "wheels" = some none)
    (na_Cellar_entries : PySem.W.findIn K (.ref c_Cellar) "entries" = some none)
    (cn_CellarError : PySem.W.nsIn K mainGlobals "CellarError" = some (some (.ref c_CellarError))) (ci_CellarError : PySem.W.isClsIn K c_CellarError = true) (ct_CellarError : PySem.W.typeIn K (.ref c_CellarError) = some (.type "type"))
    (cn_BadName : PySem.W.nsIn K mainGlobals "BadName" = some (some (.ref c_BadName))) (ci_BadName : PySem.W.isClsIn K c_BadName = true) (ct_BadName : PySem.W.typeIn K (.ref c_BadName) = some (.type "type"))
    (cn_Taken : PySem.W.nsIn K mainGlobals "Taken" = some (some (.ref c_Taken))) (ci_Taken : PySem.W.isClsIn K c_Taken = true) (ct_Taken : PySem.W.typeIn K (.ref c_Taken) = some (.type "type"))
    (cn_Unknown : PySem.W.nsIn K mainGlobals "Unknown" = some (some (.ref c_Unknown))) (ci_Unknown : PySem.W.isClsIn K c_Unknown = true) (ct_Unknown : PySem.W.typeIn K (.ref c_Unknown) = some (.type "type"))
    (cn_BadNumber : PySem.W.nsIn K mainGlobals "BadNumber" = some (some (.ref c_BadNumber))) (ci_BadNumber : PySem.W.isClsIn K c_BadNumber = true) (ct_BadNumber : PySem.W.typeIn K (.ref c_BadNumber) = some (.type "type"))
    (cn_Gone : PySem.W.nsIn K mainGlobals "Gone" = some (some (.ref c_Gone))) (ci_Gone : PySem.W.isClsIn K c_Gone = true) (ct_Gone : PySem.W.typeIn K (.ref c_Gone) = some (.type "type"))
    (cn_WrongRoom : PySem.W.nsIn K mainGlobals "WrongRoom" = some (some (.ref c_WrongRoom))) (ci_WrongRoom : PySem.W.isClsIn K c_WrongRoom = true) (ct_WrongRoom : PySem.W.typeIn K (.ref c_WrongRoom) = some (.type "type"))
    (cn_TooMuch : PySem.W.nsIn K mainGlobals "TooMuch" = some (some (.ref c_TooMuch))) (ci_TooMuch : PySem.W.isClsIn K c_TooMuch = true) (ct_TooMuch : PySem.W.typeIn K (.ref c_TooMuch) = some (.type "type"))
    (x_BadName : PySem.W.excIn K c_BadName bmVE "ValueError.__new__" = true)
    (ega_BadName : PySem.W.findIn K (.ref c_BadName) "__getattribute__" = some (some (.builtin "BaseException.__getattribute__")))
    (egt_BadName : PySem.W.findIn K (.ref c_BadName) "__getattr__" = some none)
    (ecl_BadName : PySem.W.findIn K (.ref c_BadName) "__class__" = some (some (.builtin "object.__class__")))
    (egg_BadName : PySem.W.specialIn K (.builtin "object.__class__") "__get__" = some (some (.builtin "getset_descriptor.__get__")))
    (etk_BadName : PySem.W.takesIn K (.builtin "object.__class__") = some true)
    (emo_BadName : PySem.W.mroIn K c_BadName (.type "object") = some true)
    (emb_BadName : PySem.W.mroIn K c_BadName (.type "BaseException") = some true)
    (ev_BadName : PySem.W.subIn K (.ref c_BadName) (.type "ValueError") = some true)
    (s_BadName_CellarError : PySem.W.subIn K (.ref c_BadName) (.ref c_CellarError) = some true)
    (s_BadName_BadName : PySem.W.subIn K (.ref c_BadName) (.ref c_BadName) = some true)
    (s_BadName_Taken : PySem.W.subIn K (.ref c_BadName) (.ref c_Taken) = some false)
    (s_BadName_Unknown : PySem.W.subIn K (.ref c_BadName) (.ref c_Unknown) = some false)
    (s_BadName_BadNumber : PySem.W.subIn K (.ref c_BadName) (.ref c_BadNumber) = some false)
    (s_BadName_Gone : PySem.W.subIn K (.ref c_BadName) (.ref c_Gone) = some false)
    (s_BadName_WrongRoom : PySem.W.subIn K (.ref c_BadName) (.ref c_WrongRoom) = some false)
    (s_BadName_TooMuch : PySem.W.subIn K (.ref c_BadName) (.ref c_TooMuch) = some false)
    (x_Taken : PySem.W.excIn K c_Taken bmVE "ValueError.__new__" = true)
    (ega_Taken : PySem.W.findIn K (.ref c_Taken) "__getattribute__" = some (some (.builtin "BaseException.__getattribute__")))
    (egt_Taken : PySem.W.findIn K (.ref c_Taken) "__getattr__" = some none)
    (ecl_Taken : PySem.W.findIn K (.ref c_Taken) "__class__" = some (some (.builtin "object.__class__")))
    (egg_Taken : PySem.W.specialIn K (.builtin "object.__class__") "__get__" = some (some (.builtin "getset_descriptor.__get__")))
    (etk_Taken : PySem.W.takesIn K (.builtin "object.__class__") = some true)
    (emo_Taken : PySem.W.mroIn K c_Taken (.type "object") = some true)
    (emb_Taken : PySem.W.mroIn K c_Taken (.type "BaseException") = some true)
    (ev_Taken : PySem.W.subIn K (.ref c_Taken) (.type "ValueError") = some true)
    (s_Taken_CellarError : PySem.W.subIn K (.ref c_Taken) (.ref c_CellarError) = some true)
    (s_Taken_BadName : PySem.W.subIn K (.ref c_Taken) (.ref c_BadName) = some false)
    (s_Taken_Taken : PySem.W.subIn K (.ref c_Taken) (.ref c_Taken) = some true)
    (s_Taken_Unknown : PySem.W.subIn K (.ref c_Taken) (.ref c_Unknown) = some false)
    (s_Taken_BadNumber : PySem.W.subIn K (.ref c_Taken) (.ref c_BadNumber) = some false)
    (s_Taken_Gone : PySem.W.subIn K (.ref c_Taken) (.ref c_Gone) = some false)
    (s_Taken_WrongRoom : PySem.W.subIn K (.ref c_Taken) (.ref c_WrongRoom) = some false)
    (s_Taken_TooMuch : PySem.W.subIn K (.ref c_Taken) (.ref c_TooMuch) = some false)
    (x_Unknown : PySem.W.excIn K c_Unknown bmVE "ValueError.__new__" = true)
    (ega_Unknown : PySem.W.findIn K (.ref c_Unknown) "__getattribute__" = some (some (.builtin "BaseException.__getattribute__")))
    (egt_Unknown : PySem.W.findIn K (.ref c_Unknown) "__getattr__" = some none)
    (ecl_Unknown : PySem.W.findIn K (.ref c_Unknown) "__class__" = some (some (.builtin "object.__class__")))
    (egg_Unknown : PySem.W.specialIn K (.builtin "object.__class__") "__get__" = some (some (.builtin "getset_descriptor.__get__")))
    (etk_Unknown : PySem.W.takesIn K (.builtin "object.__class__") = some true)
    (emo_Unknown : PySem.W.mroIn K c_Unknown (.type "object") = some true)
    (emb_Unknown : PySem.W.mroIn K c_Unknown (.type "BaseException") = some true)
    (ev_Unknown : PySem.W.subIn K (.ref c_Unknown) (.type "ValueError") = some true)
    (s_Unknown_CellarError : PySem.W.subIn K (.ref c_Unknown) (.ref c_CellarError) = some true)
    (s_Unknown_BadName : PySem.W.subIn K (.ref c_Unknown) (.ref c_BadName) = some false)
    (s_Unknown_Taken : PySem.W.subIn K (.ref c_Unknown) (.ref c_Taken) = some false)
    (s_Unknown_Unknown : PySem.W.subIn K (.ref c_Unknown) (.ref c_Unknown) = some true)
    (s_Unknown_BadNumber : PySem.W.subIn K (.ref c_Unknown) (.ref c_BadNumber) = some false)
    (s_Unknown_Gone : PySem.W.subIn K (.ref c_Unknown) (.ref c_Gone) = some false)
    (s_Unknown_WrongRoom : PySem.W.subIn K (.ref c_Unknown) (.ref c_WrongRoom) = some false)
    (s_Unknown_TooMuch : PySem.W.subIn K (.ref c_Unknown) (.ref c_TooMuch) = some false)
    (x_BadNumber : PySem.W.excIn K c_BadNumber bmVE "ValueError.__new__" = true)
    (ega_BadNumber : PySem.W.findIn K (.ref c_BadNumber) "__getattribute__" = some (some (.builtin "BaseException.__getattribute__")))
    (egt_BadNumber : PySem.W.findIn K (.ref c_BadNumber) "__getattr__" = some none)
    (ecl_BadNumber : PySem.W.findIn K (.ref c_BadNumber) "__class__" = some (some (.builtin "object.__class__")))
    (egg_BadNumber : PySem.W.specialIn K (.builtin "object.__class__") "__get__" = some (some (.builtin "getset_descriptor.__get__")))
    (etk_BadNumber : PySem.W.takesIn K (.builtin "object.__class__") = some true)
    (emo_BadNumber : PySem.W.mroIn K c_BadNumber (.type "object") = some true)
    (emb_BadNumber : PySem.W.mroIn K c_BadNumber (.type "BaseException") = some true)
    (ev_BadNumber : PySem.W.subIn K (.ref c_BadNumber) (.type "ValueError") = some true)
    (s_BadNumber_CellarError : PySem.W.subIn K (.ref c_BadNumber) (.ref c_CellarError) = some true)
    (s_BadNumber_BadName : PySem.W.subIn K (.ref c_BadNumber) (.ref c_BadName) = some false)
    (s_BadNumber_Taken : PySem.W.subIn K (.ref c_BadNumber) (.ref c_Taken) = some false)
    (s_BadNumber_Unknown : PySem.W.subIn K (.ref c_BadNumber) (.ref c_Unknown) = some false)
    (s_BadNumber_BadNumber : PySem.W.subIn K (.ref c_BadNumber) (.ref c_BadNumber) = some true)
    (s_BadNumber_Gone : PySem.W.subIn K (.ref c_BadNumber) (.ref c_Gone) = some false)
    (s_BadNumber_WrongRoom : PySem.W.subIn K (.ref c_BadNumber) (.ref c_WrongRoom) = some false)
    (s_BadNumber_TooMuch : PySem.W.subIn K (.ref c_BadNumber) (.ref c_TooMuch) = some false)
    (x_Gone : PySem.W.excIn K c_Gone bmVE "ValueError.__new__" = true)
    (ega_Gone : PySem.W.findIn K (.ref c_Gone) "__getattribute__" = some (some (.builtin "BaseException.__getattribute__")))
    (egt_Gone : PySem.W.findIn K (.ref c_Gone) "__getattr__" = some none)
    (ecl_Gone : PySem.W.findIn K (.ref c_Gone) "__class__" = some (some (.builtin "object.__class__")))
    (egg_Gone : PySem.W.specialIn K (.builtin "object.__class__") "__get__" = some (some (.builtin "getset_descriptor.__get__")))
    (etk_Gone : PySem.W.takesIn K (.builtin "object.__class__") = some true)
    (emo_Gone : PySem.W.mroIn K c_Gone (.type "object") = some true)
    (emb_Gone : PySem.W.mroIn K c_Gone (.type "BaseException") = some true)
    (ev_Gone : PySem.W.subIn K (.ref c_Gone) (.type "ValueError") = some true)
    (s_Gone_CellarError : PySem.W.subIn K (.ref c_Gone) (.ref c_CellarError) = some true)
    (s_Gone_BadName : PySem.W.subIn K (.ref c_Gone) (.ref c_BadName) = some false)
    (s_Gone_Taken : PySem.W.subIn K (.ref c_Gone) (.ref c_Taken) = some false)
    (s_Gone_Unknown : PySem.W.subIn K (.ref c_Gone) (.ref c_Unknown) = some false)
    (s_Gone_BadNumber : PySem.W.subIn K (.ref c_Gone) (.ref c_BadNumber) = some false)
    (s_Gone_Gone : PySem.W.subIn K (.ref c_Gone) (.ref c_Gone) = some true)
    (s_Gone_WrongRoom : PySem.W.subIn K (.ref c_Gone) (.ref c_WrongRoom) = some false)
    (s_Gone_TooMuch : PySem.W.subIn K (.ref c_Gone) (.ref c_TooMuch) = some false)
    (x_WrongRoom : PySem.W.excIn K c_WrongRoom bmVE "ValueError.__new__" = true)
    (ega_WrongRoom : PySem.W.findIn K (.ref c_WrongRoom) "__getattribute__" = some (some (.builtin "BaseException.__getattribute__")))
    (egt_WrongRoom : PySem.W.findIn K (.ref c_WrongRoom) "__getattr__" = some none)
    (ecl_WrongRoom : PySem.W.findIn K (.ref c_WrongRoom) "__class__" = some (some (.builtin "object.__class__")))
    (egg_WrongRoom : PySem.W.specialIn K (.builtin "object.__class__") "__get__" = some (some (.builtin "getset_descriptor.__get__")))
    (etk_WrongRoom : PySem.W.takesIn K (.builtin "object.__class__") = some true)
    (emo_WrongRoom : PySem.W.mroIn K c_WrongRoom (.type "object") = some true)
    (emb_WrongRoom : PySem.W.mroIn K c_WrongRoom (.type "BaseException") = some true)
    (ev_WrongRoom : PySem.W.subIn K (.ref c_WrongRoom) (.type "ValueError") = some true)
    (s_WrongRoom_CellarError : PySem.W.subIn K (.ref c_WrongRoom) (.ref c_CellarError) = some true)
    (s_WrongRoom_BadName : PySem.W.subIn K (.ref c_WrongRoom) (.ref c_BadName) = some false)
    (s_WrongRoom_Taken : PySem.W.subIn K (.ref c_WrongRoom) (.ref c_Taken) = some false)
    (s_WrongRoom_Unknown : PySem.W.subIn K (.ref c_WrongRoom) (.ref c_Unknown) = some false)
    (s_WrongRoom_BadNumber : PySem.W.subIn K (.ref c_WrongRoom) (.ref c_BadNumber) = some false)
    (s_WrongRoom_Gone : PySem.W.subIn K (.ref c_WrongRoom) (.ref c_Gone) = some false)
    (s_WrongRoom_WrongRoom : PySem.W.subIn K (.ref c_WrongRoom) (.ref c_WrongRoom) = some true)
    (s_WrongRoom_TooMuch : PySem.W.subIn K (.ref c_WrongRoom) (.ref c_TooMuch) = some false)
    (x_TooMuch : PySem.W.excIn K c_TooMuch bmVE "ValueError.__new__" = true)
    (ega_TooMuch : PySem.W.findIn K (.ref c_TooMuch) "__getattribute__" = some (some (.builtin "BaseException.__getattribute__")))
    (egt_TooMuch : PySem.W.findIn K (.ref c_TooMuch) "__getattr__" = some none)
    (ecl_TooMuch : PySem.W.findIn K (.ref c_TooMuch) "__class__" = some (some (.builtin "object.__class__")))
    (egg_TooMuch : PySem.W.specialIn K (.builtin "object.__class__") "__get__" = some (some (.builtin "getset_descriptor.__get__")))
    (etk_TooMuch : PySem.W.takesIn K (.builtin "object.__class__") = some true)
    (emo_TooMuch : PySem.W.mroIn K c_TooMuch (.type "object") = some true)
    (emb_TooMuch : PySem.W.mroIn K c_TooMuch (.type "BaseException") = some true)
    (ev_TooMuch : PySem.W.subIn K (.ref c_TooMuch) (.type "ValueError") = some true)
    (s_TooMuch_CellarError : PySem.W.subIn K (.ref c_TooMuch) (.ref c_CellarError) = some true)
    (s_TooMuch_BadName : PySem.W.subIn K (.ref c_TooMuch) (.ref c_BadName) = some false)
    (s_TooMuch_Taken : PySem.W.subIn K (.ref c_TooMuch) (.ref c_Taken) = some false)
    (s_TooMuch_Unknown : PySem.W.subIn K (.ref c_TooMuch) (.ref c_Unknown) = some false)
    (s_TooMuch_BadNumber : PySem.W.subIn K (.ref c_TooMuch) (.ref c_BadNumber) = some false)
    (s_TooMuch_Gone : PySem.W.subIn K (.ref c_TooMuch) (.ref c_Gone) = some false)
    (s_TooMuch_WrongRoom : PySem.W.subIn K (.ref c_TooMuch) (.ref c_WrongRoom) = some false)
    (s_TooMuch_TooMuch : PySem.W.subIn K (.ref c_TooMuch) (.ref c_TooMuch) = some true)
    : ∃ fd : FuncData, (∀ (s : Shared) (v : Value), BindsTo s fd ⟨[v], []⟩ [("_law_script", v)]) ∧ ∀ base : Heap, K.In base → base.Ns mainGlobals mg → FnOk l.prog w K mg base CX0 7 fa fd ["_law_script"] (spLaw K) := by
  have e := hfa.symm.trans (PySem.W.mg_of X G a15)
  cases e
  have F1 := fun_mk (st := s_stands_at) l1 c1 k1
  have b1 := F1.binds (ps := ["shelf", "recipe", "place"]) fun _ _ _ _ _ _ us hl => match us, hl with | [_, _, _], _ => rfl
  have F2 := fun_mk (st := s_night_loss) l2 c2 k2
  have b2 := F2.binds (ps := ["wheel"]) fun _ _ _ _ _ _ us hl => match us, hl with | [_], _ => rfl
  have F3 := fun_mk (st := s_has_only) l3 c3 k3
  have b3 := F3.binds (ps := ["text", "signs"]) fun _ _ _ _ _ _ us hl => match us, hl with | [_, _], _ => rfl
  have F4 := fun_mk (st := s_is_name) l4 c4 k4
  have b4 := F4.binds (ps := ["text"]) fun _ _ _ _ _ _ us hl => match us, hl with | [_], _ => rfl
  have F5 := fun_mk (st := s_check_bounds) l5 c5 k5
  have b5 := F5.binds (ps := ["number", "least", "most"]) fun _ _ _ _ _ _ us hl => match us, hl with | [_, _, _], _ => rfl
  have F6 := fun_mk (st := s_check_grams) l6 c6 k6
  have b6 := F6.binds (ps := ["grams"]) fun _ _ _ _ _ _ us hl => match us, hl with | [_], _ => rfl
  have F7 := fun_mk (st := s_check_gap) l7 c7 k7
  have b7 := F7.binds (ps := ["least", "most"]) fun _ _ _ _ _ _ us hl => match us, hl with | [_, _], _ => rfl
  have F8 := fun_mk (st := s_check_here) l8 c8 k8
  have b8 := F8.binds (ps := ["thing"]) fun _ _ _ _ _ _ us hl => match us, hl with | [_], _ => rfl
  have F9 := fun_mk (st := s_check_enough) l9 c9 k9
  have b9 := F9.binds (ps := ["grams", "there"]) fun _ _ _ _ _ _ us hl => match us, hl with | [_, _], _ => rfl
  have F10 := fun_mk (st := s__law_at) l10 c10 k10
  have b10 := F10.binds (ps := ["_law_script", "_law_k"]) fun _ _ _ _ _ _ us hl => match us, hl with | [_, _], _ => rfl
  have F11 := fun_mk (st := s__law_whole) l11 c11 k11
  have b11 := F11.binds (ps := ["_law_found"]) fun _ _ _ _ _ _ us hl => match us, hl with | [_], _ => rfl
  have F12 := fun_mk (st := s__law_same) l12 c12 k12
  have b12 := F12.binds (ps := ["_law_found", "_law_due"]) fun _ _ _ _ _ _ us hl => match us, hl with | [_, _], _ => rfl
  have F13 := fun_mk (st := s__law_furnished) l13 c13 k13
  have b13 := F13.binds (ps := ["_law_script", "_law_damp", "_law_warmth", "_law_grams"]) fun _ _ _ _ _ _ us hl => match us, hl with | [_, _, _, _], _ => rfl
  have F14 := fun_mk (st := s__law_night) l14 c14 k14
  have b14 := F14.binds (ps := ["_law_grams", "_law_day", "_law_damp", "_law_warmth"]) fun _ _ _ _ _ _ us hl => match us, hl with | [_, _, _, _], _ => rfl
  have F15 := fun_mk (st := s_law) l15 c15 k15
  have b15 := F15.binds (ps := ["_law_script"]) fun _ _ _ _ _ _ us hl => match us, hl with | [_], _ => rfl
  have F_Thing___init__ := fun_mk (st := s_Thing___init__) l_Thing___init__ c_Thing___init__ k_Thing___init__
  have b_Thing___init__ := F_Thing___init__.binds (ps := ["self", "kind", "name"]) fun _ _ _ _ _ _ us hl => match us, hl with | [_, _, _], _ => rfl
  have F_Room___init__ := fun_mk (st := s_Room___init__) l_Room___init__ c_Room___init__ k_Room___init__
  have b_Room___init__ := F_Room___init__.binds (ps := ["self", "name", "damp", "warmth"]) fun _ _ _ _ _ _ us hl => match us, hl with | [_, _, _, _], _ => rfl
  have F_Shelf___init__ := fun_mk (st := s_Shelf___init__) l_Shelf___init__ c_Shelf___init__ k_Shelf___init__
  have b_Shelf___init__ := F_Shelf___init__.binds (ps := ["self", "name", "room"]) fun _ _ _ _ _ _ us hl => match us, hl with | [_, _, _], _ => rfl
  have F_Sort___init__ := fun_mk (st := s_Sort___init__) l_Sort___init__ c_Sort___init__ k_Sort___init__
  have b_Sort___init__ := F_Sort___init__.binds (ps := ["self", "name", "mouldy", "turn_gap", "wash_gap", "route"]) fun _ _ _ _ _ _ us hl => match us, hl with | [_, _, _, _, _, _], _ => rfl
  have F_Batch___init__ := fun_mk (st := s_Batch___init__) l_Batch___init__ c_Batch___init__ k_Batch___init__
  have b_Batch___init__ := F_Batch___init__.binds (ps := ["self", "name", "grams"]) fun _ _ _ _ _ _ us hl => match us, hl with | [_, _, _], _ => rfl
  have F_Wheel___init__ := fun_mk (st := s_Wheel___init__) l_Wheel___init__ c_Wheel___init__ k_Wheel___init__
  have b_Wheel___init__ := F_Wheel___init__.binds (ps := ["self", "name", "recipe", "shelf", "grams", "day"]) fun _ _ _ _ _ _ us hl => match us, hl with | [_, _, _, _, _, _], _ => rfl
  have F_Cellar___init__ := fun_mk (st := s_Cellar___init__) l_Cellar___init__ c_Cellar___init__ k_Cellar___init__
  have b_Cellar___init__ := F_Cellar___init__.binds (ps := ["self"]) fun _ _ _ _ _ _ us hl => match us, hl with | [_], _ => rfl
  have F_Cellar_check_free := fun_mk (st := s_Cellar_check_free) l_Cellar_check_free c_Cellar_check_free k_Cellar_check_free
  have b_Cellar_check_free := F_Cellar_check_free.binds (ps := ["self", "name"]) fun _ _ _ _ _ _ us hl => match us, hl with | [_, _], _ => rfl
  have F_Cellar_known := fun_mk (st := s_Cellar_known) l_Cellar_known c_Cellar_known k_Cellar_known
  have b_Cellar_known := F_Cellar_known.binds (ps := ["self", "name", "kind"]) fun _ _ _ _ _ _ us hl => match us, hl with | [_, _, _], _ => rfl
  have F_Cellar_hold := fun_mk (st := s_Cellar_hold) l_Cellar_hold c_Cellar_hold k_Cellar_hold
  have b_Cellar_hold := F_Cellar_hold.binds (ps := ["self", "thing"]) fun _ _ _ _ _ _ us hl => match us, hl with | [_, _], _ => rfl
  have F_Cellar_new_room := fun_mk (st := s_Cellar_new_room) l_Cellar_new_room c_Cellar_new_room k_Cellar_new_room
  have b_Cellar_new_room := F_Cellar_new_room.binds (ps := ["self", "name", "damp", "warmth"]) fun _ _ _ _ _ _ us hl => match us, hl with | [_, _, _, _], _ => rfl
  have F_Cellar_new_shelf := fun_mk (st := s_Cellar_new_shelf) l_Cellar_new_shelf c_Cellar_new_shelf k_Cellar_new_shelf
  have b_Cellar_new_shelf := F_Cellar_new_shelf.binds (ps := ["self", "name", "room"]) fun _ _ _ _ _ _ us hl => match us, hl with | [_, _, _], _ => rfl
  have F_Cellar_new_sort := fun_mk (st := s_Cellar_new_sort) l_Cellar_new_sort c_Cellar_new_sort k_Cellar_new_sort
  have b_Cellar_new_sort := F_Cellar_new_sort.binds (ps := ["self", "name", "mouldy", "turn_gap", "wash_gap", "route"]) fun _ _ _ _ _ _ us hl => match us, hl with | [_, _, _, _, _, _], _ => rfl
  have F_Cellar_new_farm := fun_mk (st := s_Cellar_new_farm) l_Cellar_new_farm c_Cellar_new_farm k_Cellar_new_farm
  have b_Cellar_new_farm := F_Cellar_new_farm.binds (ps := ["self", "name"]) fun _ _ _ _ _ _ us hl => match us, hl with | [_, _], _ => rfl
  have F_Cellar_new_batch := fun_mk (st := s_Cellar_new_batch) l_Cellar_new_batch c_Cellar_new_batch k_Cellar_new_batch
  have b_Cellar_new_batch := F_Cellar_new_batch.binds (ps := ["self", "name", "parts"]) fun _ _ _ _ _ _ us hl => match us, hl with | [_, _, _], _ => rfl
  have F_Cellar_new_wheel := fun_mk (st := s_Cellar_new_wheel) l_Cellar_new_wheel c_Cellar_new_wheel k_Cellar_new_wheel
  have b_Cellar_new_wheel := F_Cellar_new_wheel.binds (ps := ["self", "name", "batch", "sort", "shelf", "grams"]) fun _ _ _ _ _ _ us hl => match us, hl with | [_, _, _, _, _, _], _ => rfl
  have F_Cellar_night := funD_mk (st := s_Cellar_night) l_Cellar_night c_Cellar_night k_Cellar_night dl_Cellar_night
  have b_Cellar_night := F_Cellar_night.binds (ps := ["self", "times"]) (ds := []) (n := 2) rfl fun _ _ _ _ _ _ us hl => match us, hl with | [_, _], _ => ⟨_, rfl, rfl⟩
  have bd_Cellar_night := F_Cellar_night.binds (ps := ["self", "times"]) (ds := [.int 1 tk_Cellar_night]) (n := 1) rfl fun _ _ _ _ _ _ us hl => match us, hl with | [_], _ => ⟨_, rfl, rfl⟩
  have F_Cellar_pass_night := fun_mk (st := s_Cellar_pass_night) l_Cellar_pass_night c_Cellar_pass_night k_Cellar_pass_night
  have b_Cellar_pass_night := F_Cellar_pass_night.binds (ps := ["self"]) fun _ _ _ _ _ _ us hl => match us, hl with | [_], _ => rfl
  have F_Cellar_book := fun_mk (st := s_Cellar_book) l_Cellar_book c_Cellar_book k_Cellar_book
  have b_Cellar_book := F_Cellar_book.binds (ps := ["self"]) fun _ _ _ _ _ _ us hl => match us, hl with | [_], _ => rfl
  have F_Cellar_weight := fun_mk (st := s_Cellar_weight) l_Cellar_weight c_Cellar_weight k_Cellar_weight
  have b_Cellar_weight := F_Cellar_weight.binds (ps := ["self", "wheel"]) fun _ _ _ _ _ _ us hl => match us, hl with | [_, _], _ => rfl
  have T : Txt K mg ⟨f1, _, f2, _, f3, _, f4, _, f5, _, f6, _, f7, _, f8, _, f9, _, f10, _, f11, _, f12, _, f13, _, f14, _, fa, _, c_Thing, f_Thing___init__, _, c_Room, f_Room___init__, _, c_Shelf, f_Shelf___init__, _, c_Sort, f_Sort___init__, _, c_Batch, f_Batch___init__, _, c_Wheel, f_Wheel___init__, _, c_Cellar, f_Cellar___init__, _, f_Cellar_check_free, _, f_Cellar_known, _, f_Cellar_hold, _, f_Cellar_new_room, _, f_Cellar_new_shelf, _, f_Cellar_new_sort, _, f_Cellar_new_farm, _, f_Cellar_new_batch, _, f_Cellar_new_wheel, _, f_Cellar_night, _, f_Cellar_pass_night, _, f_Cellar_book, _, f_Cellar_weight, _, c_CellarError, c_BadName, c_Taken, c_Unknown, c_BadNumber, c_Gone, c_WrongRoom, c_TooMuch⟩ := ⟨F1, PySem.W.mg_of X G a1, b1, F2, PySem.W.mg_of X G a2, b2, F3, PySem.W.mg_of X G a3, b3, F4, PySem.W.mg_of X G a4, b4, F5, PySem.W.mg_of X G a5, b5, F6, PySem.W.mg_of X G a6, b6, F7, PySem.W.mg_of X G a7, b7, F8, PySem.W.mg_of X G a8, b8, F9, PySem.W.mg_of X G a9, b9, F10, PySem.W.mg_of X G a10, b10, F11, PySem.W.mg_of X G a11, b11, F12, PySem.W.mg_of X G a12, b12, F13, PySem.W.mg_of X G a13, b13, F14, PySem.W.mg_of X G a14, b14, F15, PySem.W.mg_of X G a15, b15, PySem.W.mg_none_of X G z_len, PySem.W.mg_none_of X G z_all, PySem.W.mg_none_of X G z_min, PySem.W.mg_none_of X G z_range, PySem.W.mg_none_of X G z_int, PySem.W.mg_none_of X G z_bool, PySem.W.mg_none_of X G z_str, PySem.W.mg_none_of X G z_list, PySem.W.mg_none_of X G z_tuple, PySem.W.mg_none_of X G z_isinstance, PySem.W.mg_none_of X G z_sum, PySem.W.mg_none_of X G z_ValueError, PySem.W.mg_none_of X G z_set, PySem.W.mg_of X G cn_Thing, ⟨pg_Thing, hd_Thing, po_Thing, sa_Thing⟩, F_Thing___init__, b_Thing___init__, ⟨ma_Thing, a_Thing___init__, i_Thing___init__, kp_Thing⟩, na_Thing_kind, na_Thing_name, ⟨bs_Thing___init__, br_Thing___init__, bf_Thing___init__, k_Thing___init__⟩, PySem.W.mg_of X G cn_Room, ⟨pg_Room, hd_Room, po_Room, sa_Room⟩, F_Room___init__, b_Room___init__, ⟨ma_Room, a_Room___init__, i_Room___init__, kp_Room⟩, na_Room_kind, na_Room_name, na_Room_damp, na_Room_warmth, PySem.W.mg_of X G cn_Shelf, ⟨pg_Shelf, hd_Shelf, po_Shelf, sa_Shelf⟩, F_Shelf___init__, b_Shelf___init__, ⟨ma_Shelf, a_Shelf___init__, i_Shelf___init__, kp_Shelf⟩, na_Shelf_kind, na_Shelf_name, na_Shelf_room, PySem.W.mg_of X G cn_Sort, ⟨pg_Sort, hd_Sort, po_Sort, sa_Sort⟩, F_Sort___init__, b_Sort___init__, ⟨ma_Sort, a_Sort___init__, i_Sort___init__, kp_Sort⟩, na_Sort_kind, na_Sort_name, na_Sort_mouldy, na_Sort_turn_gap, na_Sort_wash_gap, na_Sort_rooms, na_Sort_stays, PySem.W.mg_of X G cn_Batch, ⟨pg_Batch, hd_Batch, po_Batch, sa_Batch⟩, F_Batch___init__, b_Batch___init__, ⟨ma_Batch, a_Batch___init__, i_Batch___init__, kp_Batch⟩, na_Batch_kind, na_Batch_name, na_Batch_grams, PySem.W.mg_of X G cn_Wheel, ⟨pg_Wheel, hd_Wheel, po_Wheel, sa_Wheel⟩, F_Wheel___init__, b_Wheel___init__, ⟨ma_Wheel, a_Wheel___init__, i_Wheel___init__, kp_Wheel⟩, na_Wheel_kind, na_Wheel_name, na_Wheel_recipe, na_Wheel_shelf, na_Wheel_grams, na_Wheel_place, na_Wheel_turn_day, na_Wheel_wash_day, na_Wheel_room_day, na_Wheel_gone, PySem.W.mg_of X G cn_Cellar, ⟨pg_Cellar, hd_Cellar, po_Cellar, sa_Cellar⟩, F_Cellar___init__, b_Cellar___init__, ⟨ma_Cellar, a_Cellar___init__, i_Cellar___init__, kp_Cellar⟩, F_Cellar_check_free, b_Cellar_check_free, ⟨a_Cellar_check_free, i_Cellar_check_free, k_Cellar_check_free⟩, F_Cellar_known, b_Cellar_known, ⟨a_Cellar_known, i_Cellar_known, k_Cellar_known⟩, F_Cellar_hold, b_Cellar_hold, ⟨a_Cellar_hold, i_Cellar_hold, k_Cellar_hold⟩, F_Cellar_new_room, b_Cellar_new_room, ⟨a_Cellar_new_room, i_Cellar_new_room, k_Cellar_new_room⟩, F_Cellar_new_shelf, b_Cellar_new_shelf, ⟨a_Cellar_new_shelf, i_Cellar_new_shelf, k_Cellar_new_shelf⟩, F_Cellar_new_sort, b_Cellar_new_sort, ⟨a_Cellar_new_sort, i_Cellar_new_sort, k_Cellar_new_sort⟩, F_Cellar_new_farm, b_Cellar_new_farm, ⟨a_Cellar_new_farm, i_Cellar_new_farm, k_Cellar_new_farm⟩, F_Cellar_new_batch, b_Cellar_new_batch, ⟨a_Cellar_new_batch, i_Cellar_new_batch, k_Cellar_new_batch⟩, F_Cellar_new_wheel, b_Cellar_new_wheel, ⟨a_Cellar_new_wheel, i_Cellar_new_wheel, k_Cellar_new_wheel⟩, ⟨_, _, F_Cellar_night⟩, ⟨_, vals_int 1 _, bd_Cellar_night⟩, b_Cellar_night, ⟨a_Cellar_night, i_Cellar_night, k_Cellar_night⟩, F_Cellar_pass_night, b_Cellar_pass_night, ⟨a_Cellar_pass_night, i_Cellar_pass_night, k_Cellar_pass_night⟩, F_Cellar_book, b_Cellar_book, ⟨a_Cellar_book, i_Cellar_book, k_Cellar_book⟩, F_Cellar_weight, b_Cellar_weight, ⟨a_Cellar_weight, i_Cellar_weight, k_Cellar_weight⟩, na_Cellar_today, na_Cellar_things, na_Cellar_wheels, na_Cellar_entries, PySem.W.mg_of X G cn_CellarError, ⟨ci_CellarError, ct_CellarError⟩, PySem.W.mg_of X G cn_BadName, ⟨ci_BadName, ct_BadName⟩, PySem.W.mg_of X G cn_Taken, ⟨ci_Taken, ct_Taken⟩, PySem.W.mg_of X G cn_Unknown, ⟨ci_Unknown, ct_Unknown⟩, PySem.W.mg_of X G cn_BadNumber, ⟨ci_BadNumber, ct_BadNumber⟩, PySem.W.mg_of X G cn_Gone, ⟨ci_Gone, ct_Gone⟩, PySem.W.mg_of X G cn_WrongRoom, ⟨ci_WrongRoom, ct_WrongRoom⟩, PySem.W.mg_of X G cn_TooMuch, ⟨ci_TooMuch, ct_TooMuch⟩, x_BadName, ⟨ci_BadName, ega_BadName, egt_BadName, ecl_BadName, egg_BadName, etk_BadName, emo_BadName, emb_BadName⟩, ev_BadName, s_BadName_CellarError, s_BadName_BadName, s_BadName_Taken, s_BadName_Unknown, s_BadName_BadNumber, s_BadName_Gone, s_BadName_WrongRoom, s_BadName_TooMuch, x_Taken, ⟨ci_Taken, ega_Taken, egt_Taken, ecl_Taken, egg_Taken, etk_Taken, emo_Taken, emb_Taken⟩, ev_Taken, s_Taken_CellarError, s_Taken_BadName, s_Taken_Taken, s_Taken_Unknown, s_Taken_BadNumber, s_Taken_Gone, s_Taken_WrongRoom, s_Taken_TooMuch, x_Unknown, ⟨ci_Unknown, ega_Unknown, egt_Unknown, ecl_Unknown, egg_Unknown, etk_Unknown, emo_Unknown, emb_Unknown⟩, ev_Unknown, s_Unknown_CellarError, s_Unknown_BadName, s_Unknown_Taken, s_Unknown_Unknown, s_Unknown_BadNumber, s_Unknown_Gone, s_Unknown_WrongRoom, s_Unknown_TooMuch, x_BadNumber, ⟨ci_BadNumber, ega_BadNumber, egt_BadNumber, ecl_BadNumber, egg_BadNumber, etk_BadNumber, emo_BadNumber, emb_BadNumber⟩, ev_BadNumber, s_BadNumber_CellarError, s_BadNumber_BadName, s_BadNumber_Taken, s_BadNumber_Unknown, s_BadNumber_BadNumber, s_BadNumber_Gone, s_BadNumber_WrongRoom, s_BadNumber_TooMuch, x_Gone, ⟨ci_Gone, ega_Gone, egt_Gone, ecl_Gone, egg_Gone, etk_Gone, emo_Gone, emb_Gone⟩, ev_Gone, s_Gone_CellarError, s_Gone_BadName, s_Gone_Taken, s_Gone_Unknown, s_Gone_BadNumber, s_Gone_Gone, s_Gone_WrongRoom, s_Gone_TooMuch, x_WrongRoom, ⟨ci_WrongRoom, ega_WrongRoom, egt_WrongRoom, ecl_WrongRoom, egg_WrongRoom, etk_WrongRoom, emo_WrongRoom, emb_WrongRoom⟩, ev_WrongRoom, s_WrongRoom_CellarError, s_WrongRoom_BadName, s_WrongRoom_Taken, s_WrongRoom_Unknown, s_WrongRoom_BadNumber, s_WrongRoom_Gone, s_WrongRoom_WrongRoom, s_WrongRoom_TooMuch, x_TooMuch, ⟨ci_TooMuch, ega_TooMuch, egt_TooMuch, ecl_TooMuch, egg_TooMuch, etk_TooMuch, emo_TooMuch, emb_TooMuch⟩, ev_TooMuch, s_TooMuch_CellarError, s_TooMuch_BadName, s_TooMuch_Taken, s_TooMuch_Unknown, s_TooMuch_BadNumber, s_TooMuch_Gone, s_TooMuch_WrongRoom, s_TooMuch_TooMuch, ⟨_, PySem.W.mg_of X G g_NAME_SIGNS⟩, ⟨_, PySem.W.mg_of X G g_LONGEST_NAME⟩, ⟨_, PySem.W.mg_of X G g_MOST_DAMP⟩, ⟨_, PySem.W.mg_of X G g_MOST_WARMTH⟩, ⟨_, PySem.W.mg_of X G g_LONGEST_GAP⟩, ⟨_, PySem.W.mg_of X G g_MOST_GRAMS⟩, ⟨_, PySem.W.mg_of X G g_MOST_NIGHTS⟩⟩
  exact ⟨PySem.W.fnOf "law" "law" (defArgs s_law) (defBody s_law) (defScope s_law) .none kV15 dc15 pm15 an15 cd15 ct15, fun s v => .of_eq rfl, fun base _ _ => ok_law T⟩
theorem walk {l : PySem.W.OpenLaw} {q : Program} {loose : List Str} {XP : (Str → Option Value) → Heap → Prop} {YP : World → Heap → Prop} {d : DefRec} {K : Params → PySem.W.Frag} (hn : l.most = some 63) (hdf : d.params.defaults = [])
    (hY : ∀ (w : World) (h : Heap), YP w h → (K w.params).In h)
    (F : ∀ (w : World) (mg : Str → Option Value) (fa : Addr) (h : Heap), (K w.params).In h → h.Ns mainGlobals mg → mg d.name = some (.ref fa) →
      ∃ fd : FuncData, (∀ (s : Shared) (u : Value), BindsTo s fd ⟨[u], []⟩ [("_law_script", u)]) ∧ ∀ base : Heap, (K w.params).In base → base.Ns mainGlobals mg → FnOk l.prog w (K w.params) mg base CX0 7 fa fd ["_law_script"] (spLaw (K w.params))) :
    PySem.W.WalkO q loose XP YP l.row.toRowW d [] (fun f vs => PySem.call f vs) :=
  L2.walk_of (n := 63) (k := 7) (x := "_law_script") (CX := fun _ => CX0) (sp := fun w => spLaw (K w.params)) hn (by decide) hdf ⟨rfl, by decide, by decide⟩ hY F (fun _ _ a ns hl _ hS => ⟨a, ns, rfl, hS, hl, fun _ => rfl⟩) fun _ _ _ _ _ z => z
end K15
open PySem PySem.W PyProof.Rows
set_option maxRecDepth 100000 in
set_option maxHeartbeats 0 in
def PySem.W.Fast.tw12148878079461370680 : Unit := ()
def PySem.W.Fast.tw5269418327214582977 : Unit := ()
def PySem.W.Fast.tw6743279783690772767 : Unit := ()
def PySem.W.Fast.tw17511218984369703131 : Unit := ()
def PySem.W.Fast.tw17992040401671509416 : Unit := ()
def PySem.W.Fast.tw15687709746315897916 : Unit := ()
def PySem.W.Fast.tw15902864138641117749 : Unit := ()
def PySem.W.Fast.tw8374734511495098517 : Unit := ()
def PySem.W.Fast.tw12991173853198245667 : Unit := ()
def PySem.W.Fast.tw1122378307935388670 : Unit := ()
def PySem.W.Fast.tw13048975301560232257 : Unit := ()
def PySem.W.Fast.tw5763640385781690369 : Unit := ()
def PySem.W.Fast.tw9296291073914272667 : Unit := ()
def PySem.W.Fast.tw17633067267448787343 : Unit := ()
def PySem.W.Fast.tw1193214671004715912 : Unit := ()
def PySem.W.Fast.tw241828747000056812 : Unit := ()
def PySem.W.Fast.tw13519217336046194481 : Unit := ()
def PySem.W.Fast.tw303390252680331808 : Unit := ()
def PySem.W.Fast.tw7413566755339701083 : Unit := ()
theorem PySem.Challenge.cw_curdcellar_k15_night_losses_holds : PySem.Challenge.rw_curdcellar_k15_night_losses.Holds := by
  w_on; o_law; k_head; (case hw => w_witness2)
  k_fill
  refine K15.walk (l := PySem.Challenge.rw_curdcellar_k15_night_losses) rfl rfl (fun w h Y => PySem.W.kIn_of Y) ?F
  case F =>
    intro w mg fa h KX G hmg
    refine' K15.all_mk KX G hmg ?a1 ?l1 ?c1 ?k1 ?a2 ?l2 ?c2 ?k2 ?a3 ?l3 ?c3 ?k3 ?a4 ?l4 ?c4 ?k4 ?a5 ?l5 ?c5 ?k5 ?a6 ?l6 ?c6 ?k6 ?a7 ?l7 ?c7 ?k7 ?a8 ?l8 ?c8 ?k8 ?a9 ?l9 ?c9 ?k9 ?a10 ?l10 ?c10 ?k10 ?a11 ?l11 ?c11 ?k11 ?a12 ?l12 ?c12 ?k12 ?a13 ?l13 ?c13 ?k13 ?a14 ?l14 ?c14 ?k14 ?a15 ?l15 ?c15 ?k15 ?z_len ?z_all ?z_min ?z_range ?z_int ?z_bool ?z_str ?z_list ?z_tuple ?z_isinstance ?z_sum ?z_ValueError ?z_set ?g_NAME_SIGNS ?g_LONGEST_NAME ?g_MOST_DAMP ?g_MOST_WARMTH ?g_LONGEST_GAP ?g_MOST_GRAMS ?g_MOST_NIGHTS ?cn_Thing ?pg_Thing ?hd_Thing ?po_Thing ?sa_Thing ?ma_Thing ?kp_Thing ?a_Thing___init__ ?l_Thing___init__ ?c_Thing___init__ ?k_Thing___init__ ?i_Thing___init__ ?na_Thing_kind ?na_Thing_name ?bs_Thing___init__ ?br_Thing___init__ ?bf_Thing___init__ ?cn_Room ?pg_Room ?hd_Room ?po_Room ?sa_Room ?ma_Room ?kp_Room ?a_Room___init__ ?l_Room___init__ ?c_Room___init__ ?k_Room___init__ ?i_Room___init__ ?na_Room_kind ?na_Room_name ?na_Room_damp ?na_Room_warmth ?cn_Shelf ?pg_Shelf ?hd_Shelf ?po_Shelf ?sa_Shelf ?ma_Shelf ?kp_Shelf ?a_Shelf___init__ ?l_Shelf___init__ ?c_Shelf___init__ ?k_Shelf___init__ ?i_Shelf___init__ ?na_Shelf_kind ?na_Shelf_name ?na_Shelf_room ?cn_Sort ?pg_Sort ?hd_Sort ?po_Sort ?sa_Sort ?ma_Sort ?kp_Sort ?a_Sort___init__ ?l_Sort___init__ ?c_Sort___init__ ?k_Sort___init__ ?i_Sort___init__ ?na_Sort_kind ?na_Sort_name ?na_Sort_mouldy ?na_Sort_turn_gap ?na_Sort_wash_gap ?na_Sort_rooms ?na_Sort_stays ?cn_Batch ?pg_Batch ?hd_Batch ?po_Batch ?sa_Batch ?ma_Batch ?kp_Batch ?a_Batch___init__ ?l_Batch___init__ ?c_Batch___init__ ?k_Batch___init__ ?i_Batch___init__ ?na_Batch_kind ?na_Batch_name ?na_Batch_grams ?cn_Wheel ?pg_Wheel ?hd_Wheel ?po_Wheel ?sa_Wheel ?ma_Wheel ?kp_Wheel ?a_Wheel___init__ ?l_Wheel___init__ ?c_Wheel___init__ ?k_Wheel___init__ ?i_Wheel___init__ ?na_Wheel_kind ?na_Wheel_name ?na_Wheel_recipe ?na_Wheel_shelf ?na_Wheel_grams ?na_Wheel_place ?na_Wheel_turn_day ?na_Wheel_wash_day ?na_Wheel_room_day ?na_Wheel_gone ?cn_Cellar ?pg_Cellar ?hd_Cellar ?po_Cellar ?sa_Cellar ?ma_Cellar ?kp_Cellar ?a_Cellar___init__ ?l_Cellar___init__ ?c_Cellar___init__ ?k_Cellar___init__ ?i_Cellar___init__ ?a_Cellar_check_free ?l_Cellar_check_free ?c_Cellar_check_free ?k_Cellar_check_free ?i_Cellar_check_free ?a_Cellar_known ?l_Cellar_known ?c_Cellar_known ?k_Cellar_known ?i_Cellar_known ?a_Cellar_hold ?l_Cellar_hold ?c_Cellar_hold ?k_Cellar_hold ?i_Cellar_hold ?a_Cellar_new_room ?l_Cellar_new_room ?c_Cellar_new_room ?k_Cellar_new_room ?i_Cellar_new_room ?a_Cellar_new_shelf ?l_Cellar_new_shelf ?c_Cellar_new_shelf ?k_Cellar_new_shelf ?i_Cellar_new_shelf ?a_Cellar_new_sort ?l_Cellar_new_sort ?c_Cellar_new_sort ?k_Cellar_new_sort ?i_Cellar_new_sort ?a_Cellar_new_farm ?l_Cellar_new_farm ?c_Cellar_new_farm ?k_Cellar_new_farm ?i_Cellar_new_farm ?a_Cellar_new_batch ?l_Cellar_new_batch ?c_Cellar_new_batch ?k_Cellar_new_batch ?i_Cellar_new_batch ?a_Cellar_new_wheel ?l_Cellar_new_wheel ?c_Cellar_new_wheel ?k_Cellar_new_wheel ?i_Cellar_new_wheel ?a_Cellar_night ?l_Cellar_night ?c_Cellar_night ?k_Cellar_night ?i_Cellar_night ?dl_Cellar_night ?a_Cellar_pass_night ?l_Cellar_pass_night ?c_Cellar_pass_night ?k_Cellar_pass_night ?i_Cellar_pass_night ?a_Cellar_book ?l_Cellar_book ?c_Cellar_book ?k_Cellar_book ?i_Cellar_book ?a_Cellar_weight ?l_Cellar_weight ?c_Cellar_weight ?k_Cellar_weight ?i_Cellar_weight ?na_Cellar_today ?na_Cellar_things ?na_Cellar_wheels ?na_Cellar_entries ?cn_CellarError ?ci_CellarError ?ct_CellarError ?cn_BadName ?ci_BadName ?ct_BadName ?cn_Taken ?ci_Taken ?ct_Taken ?cn_Unknown ?ci_Unknown ?ct_Unknown ?cn_BadNumber ?ci_BadNumber ?ct_BadNumber ?cn_Gone ?ci_Gone ?ct_Gone ?cn_WrongRoom ?ci_WrongRoom ?ct_WrongRoom ?cn_TooMuch ?ci_TooMuch ?ct_TooMuch ?x_BadName ?ega_BadName ?egt_BadName ?ecl_BadName ?egg_BadName ?etk_BadName ?emo_BadName ?emb_BadName ?ev_BadName ?s_BadName_CellarError ?s_BadName_BadName ?s_BadName_Taken ?s_BadName_Unknown ?s_BadName_BadNumber ?s_BadName_Gone ?s_BadName_WrongRoom ?s_BadName_TooMuch ?x_Taken ?ega_Taken ?egt_Taken ?ecl_Taken ?egg_Taken ?etk_Taken ?emo_Taken ?emb_Taken ?ev_Taken ?s_Taken_CellarError ?s_Taken_BadName ?s_Taken_Taken ?s_Taken_Unknown ?s_Taken_BadNumber ?s_Taken_Gone ?s_Taken_WrongRoom ?s_Taken_TooMuch ?x_Unknown ?ega_Unknown ?egt_Unknown ?ecl_Unknown ?egg_Unknown ?etk_Unknown ?emo_Unknown ?emb_Unknown ?ev_Unknown ?s_Unknown_CellarError ?s_Unknown_BadName ?s_Unknown_Taken ?s_Unknown_Unknown ?s_Unknown_BadNumber ?s_Unknown_Gone ?s_Unknown_WrongRoom ?s_Unknown_TooMuch ?x_BadNumber ?ega_BadNumber ?egt_BadNumber ?ecl_BadNumber ?egg_BadNumber ?etk_BadNumber ?emo_BadNumber ?emb_BadNumber ?ev_BadNumber ?s_BadNumber_CellarError ?s_BadNumber_BadName ?s_BadNumber_Taken ?s_BadNumber_Unknown ?s_BadNumber_BadNumber ?s_BadNumber_Gone ?s_BadNumber_WrongRoom ?s_BadNumber_TooMuch ?x_Gone ?ega_Gone ?egt_Gone ?ecl_Gone ?egg_Gone ?etk_Gone ?emo_Gone ?emb_Gone ?ev_Gone ?s_Gone_CellarError ?s_Gone_BadName ?s_Gone_Taken ?s_Gone_Unknown ?s_Gone_BadNumber ?s_Gone_Gone ?s_Gone_WrongRoom ?s_Gone_TooMuch ?x_WrongRoom ?ega_WrongRoom ?egt_WrongRoom ?ecl_WrongRoom ?egg_WrongRoom ?etk_WrongRoom ?emo_WrongRoom ?emb_WrongRoom ?ev_WrongRoom ?s_WrongRoom_CellarError ?s_WrongRoom_BadName ?s_WrongRoom_Taken ?s_WrongRoom_Unknown ?s_WrongRoom_BadNumber ?s_WrongRoom_Gone ?s_WrongRoom_WrongRoom ?s_WrongRoom_TooMuch ?x_TooMuch ?ega_TooMuch ?egt_TooMuch ?ecl_TooMuch ?egg_TooMuch ?etk_TooMuch ?emo_TooMuch ?emb_TooMuch ?ev_TooMuch ?s_TooMuch_CellarError ?s_TooMuch_BadName ?s_TooMuch_Taken ?s_TooMuch_Unknown ?s_TooMuch_BadNumber ?s_TooMuch_Gone ?s_TooMuch_WrongRoom ?s_TooMuch_TooMuch
    (case a1 => k_is)
    (case l1 => k_is)
    (case c1 => k_is)
    (case k1 => k_is)
    (case a2 => k_is)
    (case l2 => k_is)
    (case c2 => k_is)
    (case k2 => k_is)
    (case a3 => k_is)
    (case l3 => k_is)
    (case c3 => k_is)
    (case k3 => k_is)
    (case a4 => k_is)
    (case l4 => k_is)
    (case c4 => k_is)
    (case k4 => k_is)
    (case a5 => k_is)
    (case l5 => k_is)
    (case c5 => k_is)
    (case k5 => k_is)
    (case a6 => k_is)
    (case l6 => k_is)
    (case c6 => k_is)
    (case k6 => k_is)
    (case a7 => k_is)
    (case l7 => k_is)
    (case c7 => k_is)
    (case k7 => k_is)
    (case a8 => k_is)
    (case l8 => k_is)
    (case c8 => k_is)
    (case k8 => k_is)
    (case a9 => k_is)
    (case l9 => k_is)
    (case c9 => k_is)
    (case k9 => k_is)
    (case a10 => k_is)
    (case l10 => k_is)
    (case c10 => k_is)
    (case k10 => k_is)
    (case a11 => k_is)
    (case l11 => k_is)
    (case c11 => k_is)
    (case k11 => k_is)
    (case a12 => k_is)
    (case l12 => k_is)
    (case c12 => k_is)
    (case k12 => k_is)
    (case a13 => k_is)
    (case l13 => k_is)
    (case c13 => k_is)
    (case k13 => k_is)
    (case a14 => k_is)
    (case l14 => k_is)
    (case c14 => k_is)
    (case k14 => k_is)
    (case a15 => k_is)
    (case l15 => k_is)
    (case c15 => k_is)
    (case k15 => k_is)
    (case z_len => k_is)
    (case z_all => k_is)
    (case z_min => k_is)
    (case z_range => k_is)
    (case z_int => k_is)
    (case z_bool => k_is)
    (case z_str => k_is)
    (case z_list => k_is)
    (case z_tuple => k_is)
    (case z_isinstance => k_is)
    (case z_sum => k_is)
    (case z_ValueError => k_is)
    (case z_set => k_is)
    (case g_NAME_SIGNS => k_is)
    (case g_LONGEST_NAME => k_is)
    (case g_MOST_DAMP => k_is)
    (case g_MOST_WARMTH => k_is)
    (case g_LONGEST_GAP => k_is)
    (case g_MOST_GRAMS => k_is)
    (case g_MOST_NIGHTS => k_is)
    (case cn_Thing => k_is)
    (case pg_Thing => k_is)
    (case hd_Thing => k_is)
    (case po_Thing => k_is)
    (case sa_Thing => k_is)
    (case ma_Thing => k_is)
    (case kp_Thing => k_is)
    (case a_Thing___init__ => k_is)
    (case l_Thing___init__ => k_is)
    (case c_Thing___init__ => k_is)
    (case k_Thing___init__ => k_is)
    (case i_Thing___init__ => k_is)
    (case na_Thing_kind => k_is)
    (case na_Thing_name => k_is)
    (case bs_Thing___init__ => k_is)
    (case br_Thing___init__ => k_is)
    (case bf_Thing___init__ => k_is)
    (case cn_Room => k_is)
    (case pg_Room => k_is)
    (case hd_Room => k_is)
    (case po_Room => k_is)
    (case sa_Room => k_is)
    (case ma_Room => k_is)
    (case kp_Room => k_is)
    (case a_Room___init__ => k_is)
    (case l_Room___init__ => k_is)
    (case c_Room___init__ => k_is)
    (case k_Room___init__ => k_is)
    (case i_Room___init__ => k_is)
    (case na_Room_kind => k_is)
    (case na_Room_name => k_is)
    (case na_Room_damp => k_is)
    (case na_Room_warmth => k_is)
    (case cn_Shelf => k_is)
    (case pg_Shelf => k_is)
    (case hd_Shelf => k_is)
    (case po_Shelf => k_is)
    (case sa_Shelf => k_is)
    (case ma_Shelf => k_is)
    (case kp_Shelf => k_is)
    (case a_Shelf___init__ => k_is)
    (case l_Shelf___init__ => k_is)
    (case c_Shelf___init__ => k_is)
    (case k_Shelf___init__ => k_is)
    (case i_Shelf___init__ => k_is)
    (case na_Shelf_kind => k_is)
    (case na_Shelf_name => k_is)
    (case na_Shelf_room => k_is)
    (case cn_Sort => k_is)
    (case pg_Sort => k_is)
    (case hd_Sort => k_is)
    (case po_Sort => k_is)
    (case sa_Sort => k_is)
    (case ma_Sort => k_is)
    (case kp_Sort => k_is)
    (case a_Sort___init__ => k_is)
    (case l_Sort___init__ => k_is)
    (case c_Sort___init__ => k_is)
    (case k_Sort___init__ => k_is)
    (case i_Sort___init__ => k_is)
    (case na_Sort_kind => k_is)
    (case na_Sort_name => k_is)
    (case na_Sort_mouldy => k_is)
    (case na_Sort_turn_gap => k_is)
    (case na_Sort_wash_gap => k_is)
    (case na_Sort_rooms => k_is)
    (case na_Sort_stays => k_is)
    (case cn_Batch => k_is)
    (case pg_Batch => k_is)
    (case hd_Batch => k_is)
    (case po_Batch => k_is)
    (case sa_Batch => k_is)
    (case ma_Batch => k_is)
    (case kp_Batch => k_is)
    (case a_Batch___init__ => k_is)
    (case l_Batch___init__ => k_is)
    (case c_Batch___init__ => k_is)
    (case k_Batch___init__ => k_is)
    (case i_Batch___init__ => k_is)
    (case na_Batch_kind => k_is)
    (case na_Batch_name => k_is)
    (case na_Batch_grams => k_is)
    (case cn_Wheel => k_is)
    (case pg_Wheel => k_is)
    (case hd_Wheel => k_is)
    (case po_Wheel => k_is)
    (case sa_Wheel => k_is)
    (case ma_Wheel => k_is)
    (case kp_Wheel => k_is)
    (case a_Wheel___init__ => k_is)
    (case l_Wheel___init__ => k_is)
    (case c_Wheel___init__ => k_is)
    (case k_Wheel___init__ => k_is)
    (case i_Wheel___init__ => k_is)
    (case na_Wheel_kind => k_is)
    (case na_Wheel_name => k_is)
    (case na_Wheel_recipe => k_is)
    (case na_Wheel_shelf => k_is)
    (case na_Wheel_grams => k_is)
    (case na_Wheel_place => k_is)
    (case na_Wheel_turn_day => k_is)
    (case na_Wheel_wash_day => k_is)
    (case na_Wheel_room_day => k_is)
    (case na_Wheel_gone => k_is)
    (case cn_Cellar => k_is)
    (case pg_Cellar => k_is)
    (case hd_Cellar => k_is)
    (case po_Cellar => k_is)
    (case sa_Cellar => k_is)
    (case ma_Cellar => k_is)
    (case kp_Cellar => k_is)
    (case a_Cellar___init__ => k_is)
    (case l_Cellar___init__ => k_is)
    (case c_Cellar___init__ => k_is)
    (case k_Cellar___init__ => k_is)
    (case i_Cellar___init__ => k_is)
    (case a_Cellar_check_free => k_is)
    (case l_Cellar_check_free => k_is)
    (case c_Cellar_check_free => k_is)
    (case k_Cellar_check_free => k_is)
    (case i_Cellar_check_free => k_is)
    (case a_Cellar_known => k_is)
    (case l_Cellar_known => k_is)
    (case c_Cellar_known => k_is)
    (case k_Cellar_known => k_is)
    (case i_Cellar_known => k_is)
    (case a_Cellar_hold => k_is)
    (case l_Cellar_hold => k_is)
    (case c_Cellar_hold => k_is)
    (case k_Cellar_hold => k_is)
    (case i_Cellar_hold => k_is)
    (case a_Cellar_new_room => k_is)
    (case l_Cellar_new_room => k_is)
    (case c_Cellar_new_room => k_is)
    (case k_Cellar_new_room => k_is)
    (case i_Cellar_new_room => k_is)
    (case a_Cellar_new_shelf => k_is)
    (case l_Cellar_new_shelf => k_is)
    (case c_Cellar_new_shelf => k_is)
    (case k_Cellar_new_shelf => k_is)
    (case i_Cellar_new_shelf => k_is)
    (case a_Cellar_new_sort => k_is)
    (case l_Cellar_new_sort => k_is)
    (case c_Cellar_new_sort => k_is)
    (case k_Cellar_new_sort => k_is)
    (case i_Cellar_new_sort => k_is)
    (case a_Cellar_new_farm => k_is)
    (case l_Cellar_new_farm => k_is)
    (case c_Cellar_new_farm => k_is)
    (case k_Cellar_new_farm => k_is)
    (case i_Cellar_new_farm => k_is)
    (case a_Cellar_new_batch => k_is)
    (case l_Cellar_new_batch => k_is)
    (case c_Cellar_new_batch => k_is)
    (case k_Cellar_new_batch => k_is)
    (case i_Cellar_new_batch => k_is)
    (case a_Cellar_new_wheel => k_is)
    (case l_Cellar_new_wheel => k_is)
    (case c_Cellar_new_wheel => k_is)
    (case k_Cellar_new_wheel => k_is)
    (case i_Cellar_new_wheel => k_is)
    (case a_Cellar_night => k_is)
    (case l_Cellar_night => k_is)
    (case c_Cellar_night => k_is)
    (case k_Cellar_night => k_is)
    (case i_Cellar_night => k_is)
    (case dl_Cellar_night => k_is)
    (case a_Cellar_pass_night => k_is)
    (case l_Cellar_pass_night => k_is)
    (case c_Cellar_pass_night => k_is)
    (case k_Cellar_pass_night => k_is)
    (case i_Cellar_pass_night => k_is)
    (case a_Cellar_book => k_is)
    (case l_Cellar_book => k_is)
    (case c_Cellar_book => k_is)
    (case k_Cellar_book => k_is)
    (case i_Cellar_book => k_is)
    (case a_Cellar_weight => k_is)
    (case l_Cellar_weight => k_is)
    (case c_Cellar_weight => k_is)
    (case k_Cellar_weight => k_is)
    (case i_Cellar_weight => k_is)
    (case na_Cellar_today => k_is)
    (case na_Cellar_things => k_is)
    (case na_Cellar_wheels => k_is)
    (case na_Cellar_entries => k_is)
    (case cn_CellarError => k_is)
    (case ci_CellarError => k_is)
    (case ct_CellarError => k_is)
    (case cn_BadName => k_is)
    (case ci_BadName => k_is)
    (case ct_BadName => k_is)
    (case cn_Taken => k_is)
    (case ci_Taken => k_is)
    (case ct_Taken => k_is)
    (case cn_Unknown => k_is)
    (case ci_Unknown => k_is)
    (case ct_Unknown => k_is)
    (case cn_BadNumber => k_is)
    (case ci_BadNumber => k_is)
    (case ct_BadNumber => k_is)
    (case cn_Gone => k_is)
    (case ci_Gone => k_is)
    (case ct_Gone => k_is)
    (case cn_WrongRoom => k_is)
    (case ci_WrongRoom => k_is)
    (case ct_WrongRoom => k_is)
    (case cn_TooMuch => k_is)
    (case ci_TooMuch => k_is)
    (case ct_TooMuch => k_is)
    (case x_BadName => k_exc)
    (case ega_BadName => k_is)
    (case egt_BadName => k_is)
    (case ecl_BadName => k_is)
    (case egg_BadName => k_is)
    (case etk_BadName => k_is)
    (case emo_BadName => k_is)
    (case emb_BadName => k_is)
    (case ev_BadName => k_is)
    (case s_BadName_CellarError => k_is)
    (case s_BadName_BadName => k_is)
    (case s_BadName_Taken => k_is)
    (case s_BadName_Unknown => k_is)
    (case s_BadName_BadNumber => k_is)
    (case s_BadName_Gone => k_is)
    (case s_BadName_WrongRoom => k_is)
    (case s_BadName_TooMuch => k_is)
    (case x_Taken => k_exc)
    (case ega_Taken => k_is)
    (case egt_Taken => k_is)
    (case ecl_Taken => k_is)
    (case egg_Taken => k_is)
    (case etk_Taken => k_is)
    (case emo_Taken => k_is)
    (case emb_Taken => k_is)
    (case ev_Taken => k_is)
    (case s_Taken_CellarError => k_is)
    (case s_Taken_BadName => k_is)
    (case s_Taken_Taken => k_is)
    (case s_Taken_Unknown => k_is)
    (case s_Taken_BadNumber => k_is)
    (case s_Taken_Gone => k_is)
    (case s_Taken_WrongRoom => k_is)
    (case s_Taken_TooMuch => k_is)
    (case x_Unknown => k_exc)
    (case ega_Unknown => k_is)
    (case egt_Unknown => k_is)
    (case ecl_Unknown => k_is)
    (case egg_Unknown => k_is)
    (case etk_Unknown => k_is)
    (case emo_Unknown => k_is)
    (case emb_Unknown => k_is)
    (case ev_Unknown => k_is)
    (case s_Unknown_CellarError => k_is)
    (case s_Unknown_BadName => k_is)
    (case s_Unknown_Taken => k_is)
    (case s_Unknown_Unknown => k_is)
    (case s_Unknown_BadNumber => k_is)
    (case s_Unknown_Gone => k_is)
    (case s_Unknown_WrongRoom => k_is)
    (case s_Unknown_TooMuch => k_is)
    (case x_BadNumber => k_exc)
    (case ega_BadNumber => k_is)
    (case egt_BadNumber => k_is)
    (case ecl_BadNumber => k_is)
    (case egg_BadNumber => k_is)
    (case etk_BadNumber => k_is)
    (case emo_BadNumber => k_is)
    (case emb_BadNumber => k_is)
    (case ev_BadNumber => k_is)
    (case s_BadNumber_CellarError => k_is)
    (case s_BadNumber_BadName => k_is)
    (case s_BadNumber_Taken => k_is)
    (case s_BadNumber_Unknown => k_is)
    (case s_BadNumber_BadNumber => k_is)
    (case s_BadNumber_Gone => k_is)
    (case s_BadNumber_WrongRoom => k_is)
    (case s_BadNumber_TooMuch => k_is)
    (case x_Gone => k_exc)
    (case ega_Gone => k_is)
    (case egt_Gone => k_is)
    (case ecl_Gone => k_is)
    (case egg_Gone => k_is)
    (case etk_Gone => k_is)
    (case emo_Gone => k_is)
    (case emb_Gone => k_is)
    (case ev_Gone => k_is)
    (case s_Gone_CellarError => k_is)
    (case s_Gone_BadName => k_is)
    (case s_Gone_Taken => k_is)
    (case s_Gone_Unknown => k_is)
    (case s_Gone_BadNumber => k_is)
    (case s_Gone_Gone => k_is)
    (case s_Gone_WrongRoom => k_is)
    (case s_Gone_TooMuch => k_is)
    (case x_WrongRoom => k_exc)
    (case ega_WrongRoom => k_is)
    (case egt_WrongRoom => k_is)
    (case ecl_WrongRoom => k_is)
    (case egg_WrongRoom => k_is)
    (case etk_WrongRoom => k_is)
    (case emo_WrongRoom => k_is)
    (case emb_WrongRoom => k_is)
    (case ev_WrongRoom => k_is)
    (case s_WrongRoom_CellarError => k_is)
    (case s_WrongRoom_BadName => k_is)
    (case s_WrongRoom_Taken => k_is)
    (case s_WrongRoom_Unknown => k_is)
    (case s_WrongRoom_BadNumber => k_is)
    (case s_WrongRoom_Gone => k_is)
    (case s_WrongRoom_WrongRoom => k_is)
    (case s_WrongRoom_TooMuch => k_is)
    (case x_TooMuch => k_exc)
    (case ega_TooMuch => k_is)
    (case egt_TooMuch => k_is)
    (case ecl_TooMuch => k_is)
    (case egg_TooMuch => k_is)
    (case etk_TooMuch => k_is)
    (case emo_TooMuch => k_is)
    (case emb_TooMuch => k_is)
    (case ev_TooMuch => k_is)
    (case s_TooMuch_CellarError => k_is)
    (case s_TooMuch_BadName => k_is)
    (case s_TooMuch_Taken => k_is)
    (case s_TooMuch_Unknown => k_is)
    (case s_TooMuch_BadNumber => k_is)
    (case s_TooMuch_Gone => k_is)
    (case s_TooMuch_WrongRoom => k_is)
    (case s_TooMuch_TooMuch => k_is)
