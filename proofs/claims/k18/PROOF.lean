import PyProof.Rows.All
import Wide.All
import OpenK.AllK
import Wide.FinOn
import PyProof.EqAt
import PyProof.EqKinds
import PyProof.TupleCall
import PyProof.StrWalks
import PyProof.StrLawsTight
import PyProof.StrLawsIn
import PyProof.StrLawsIdx
import PyProof.ConsumeWalk
import PyProof.StrBlockG
import PyProof.MeetsStr2
import PyProof.ZipIter
import PyProof.Rows.ZipGen
import PyProof.NeKinds
import OpenK.KOwn
import PyProof.NsDelKeeps
import PyProof.ExcClass3
import PyProof.StationsW
import KE.KIsAll
import OpenK.KDescr
import KE.KIntText
import PyProof.FString
import PyProof.ReprStr
import PyProof.StrLawsRepr
import PyProof.DictItems
import PyProof.Rows.DictItemsRows
import KE.KPairComp
import KE.KMinKey
import PyProof.Rows.MinMaxN
import PyProof.Rows.CallKwBuiltin
import PyProof.AutoListH
import PyProof.Rows.TupIter
import PyProof.Rows.StrWeight2
import PyProof.EnumFor
import PyProof.EnumMake
import PyProof.Rows.EnumRows
import PyProof.Rows.SeqGen
import KE.KRevSl
import OpenK.KCls
import PyProof.Rows.SetFrom
import PyProof.SetRoads
import PyProof.DictKinds
import PyProof.Rows.Range3
import KE.KTupSum
import PySem.Challenge.RW_curdcellar_k18_whole_never_behind_mould
set_option Elab.async false
set_option linter.all false
set_option maxRecDepth 100000
namespace L2
open PySem PySem.Spec PyProof.Rows
abbrev Key := Sum Int Str
def q8g : Key -> Value -> Bool
  | .inl k,v => Value.isInt k v
  | .inr x,v => Value.isStrOf x v
def keyH (w : World) : Key -> Int
  | .inl k => hashInt k
  | .inr x => hashStr w x
theorem q3i : ∀ {k : Key} {v : Value},q8g k v = true -> (∃ i t,k = Sum.inl i /\ v = Value.int i t) \/ (∃ x t,k = Sum.inr x /\ v = Value.str x t)
  | .inl i,v,h => by
    obtain ⟨t,e⟩ := Value.isInt_shape (k := i) (v := v) h
    exact .inl ⟨i,t,rfl,e⟩
  | .inr x,v,h => by
    obtain ⟨t,e⟩ := Value.isStrOf_shape (x := x) (v := v) h
    exact .inr ⟨x,t,rfl,e⟩
theorem qds (i : Int) (t : Tok) : q8g (.inl i) (.int i t) = true := by simp [q8g,Value.isInt]
theorem qf8 (x : Str) (t : Tok) : q8g (.inr x) (.str x t) = true := by simp [q8g,Value.isStrOf]
theorem key_ll (a b : Int) : decide ((Sum.inl a : Key) = Sum.inl b) = (a == b) := by
  by_cases e : a = b
  . subst e; simp
  . have h : ¬ (Sum.inl a : Key) = Sum.inl b := fun q => e (Sum.inl.inj q)
    rw [decide_eq_false h]
    exact (beq_eq_false_iff_ne.mpr e).symm
theorem key_rr (a b : Str) : decide ((Sum.inr a : Key) = Sum.inr b) = decide (a = b) := by
  by_cases e : a = b
  . subst e; simp
  . have h : ¬ (Sum.inr a : Key) = Sum.inr b := fun q => e (Sum.inr.inj q)
    rw [decide_eq_false h,decide_eq_false e]
theorem key_lr (a : Int) (b : Str) : decide ((Sum.inl a : Key) = Sum.inr b) = false := decide_eq_false (fun q => nomatch q)
theorem key_rl (a : Str) (b : Int) : decide ((Sum.inr a : Key) = Sum.inl b) = false := decide_eq_false (fun q => nomatch q)
def q3h (prog : Program) (w : World) : PySem.KeyKind prog w Key where
  is := q8g
  hash := keyH w
  inj := fun v a b ha hb => by
    rcases q3i ha with ⟨i,t,rfl,rfl⟩ | ⟨x,t,rfl,rfl⟩
    . rcases q3i hb with ⟨j,u,rfl,e⟩ | ⟨y,u,rfl,e⟩
      . injection e with e1 _; rw [e1]
      . exact nomatch e
    . rcases q3i hb with ⟨j,u,rfl,e⟩ | ⟨y,u,rfl,e⟩
      . exact nomatch e
      . injection e with e1 _; rw [e1]
  byValue := fun k v h => by
    rcases q3i h with ⟨i,t,rfl,rfl⟩ | ⟨x,t,rfl,rfl⟩ <;> rfl
  pyHash := fun hv h => by
    rcases q3i hv with ⟨i,t,rfl,rfl⟩ | ⟨x,t,rfl,rfl⟩
    . exact wpAny_pyHash_int h
    . exact wpAny_pyHash_str h
  eqBool := fun hu hv h => by
    rcases q3i hu with ⟨i,t,rfl,rfl⟩ | ⟨x,t,rfl,rfl⟩
    . rcases q3i hv with ⟨j,u,rfl,rfl⟩ | ⟨y,u,rfl,rfl⟩
      . rw [key_ll] at h; exact wpAny_eqBool_int h
      . rw [key_lr] at h; exact SeqAt.EqAt.int_str i t y u _ _ _ _ h
    . rcases q3i hv with ⟨j,u,rfl,rfl⟩ | ⟨y,u,rfl,rfl⟩
      . rw [key_rl] at h; exact SeqAt.EqAt.str_int x t j u _ _ _ _ h
      . rw [key_rr] at h; exact wpAny_eqBool_str h
  «strs» := fun k x t v h => by
    rcases q3i h with ⟨i,u,rfl,e⟩ | ⟨y,u,rfl,e⟩
    . exact nomatch e
    . injection e with e1 _
      subst e1
      cases v <;> rfl
theorem qca (prog : Program) (w : World) (i : Int) (t : Tok) : (q3h prog w).is (.inl i) (.int i t) = true := qds i t
theorem qc9 (prog : Program) (w : World) (x : Str) (t : Tok) : (q3h prog w).is (.inr x) (.str x t) = true := qf8 x t
end L2
namespace L2
open PySem PySem.Spec PyProof.Rows
inductive V where
  | non | bl (b : Bool) | int (i : Int) | str (x : Str) | byt (b : Array UInt8) | flt (b : UInt64) | ref (a : Addr) | ty (n : String)
  deriving DecidableEq
def RelV : V -> Value -> Prop
  | .non,u => u = Value.none
  | .bl b,u => u = Value.bool b
  | .int i,u => ∃ t,u = Value.int i t
  | .str x,u => ∃ t,u = Value.str x t
  | .byt b,u => ∃ t,u = Value.bytes b t
  | .flt b,u => ∃ t,u = Value.float b t
  | .ref a,u => u = Value.ref a
  | .ty n,u => u = Value.type n
abbrev Vals : List V -> List Value -> Prop := Paired RelV
theorem Vals.length {xs : List V} {us : List Value} (r : Vals xs us) : xs.length = us.length := Paired.length r
theorem Vals.get : ∀ {xs : List V} {us : List Value} {i : Nat} {x : V},Vals xs us -> xs[i]? = some x -> ∃ u,us[i]? = some u /\ RelV x u
  | _,_,_,_, .nil,e => by simp at e
  | _,_,0,_, .cons r _,e => by simp at e; subst e; exact ⟨_,rfl,r⟩
  | _,_,i + 1,x, .cons _ t,e => by
    obtain ⟨u,h1,h2⟩ := Vals.get (i := i) (x := x) t (by simpa using e)
    exact ⟨u,by simpa using h1,h2⟩
theorem Vals.append : ∀ {xs ys : List V} {us ws : List Value},Vals xs us -> Vals ys ws -> Vals (xs ++ ys) (us ++ ws)
  | _,_,_,_, .nil,s => s
  | _,_,_,_, .cons r t,s => .cons r (Vals.append t s)
theorem Vals.take : ∀ {xs : List V} {us : List Value} (n : Nat),Vals xs us -> Vals (xs.take n) (us.take n)
  | _,_,0,_ => .nil
  | _,_,_ + 1, .nil => .nil
  | _,_,n + 1, .cons r t => .cons r (Vals.take n t)
theorem Vals.drop : ∀ {xs : List V} {us : List Value} (n : Nat),Vals xs us -> Vals (xs.drop n) (us.drop n)
  | _,_,0,r => r
  | _,_,_ + 1, .nil => .nil
  | _,_,n + 1, .cons _ t => Vals.drop n t
def RelO : Option V -> Option Value -> Prop
  | some v,some u => RelV v u
  | none,none => True
  | _,_ => False
def KV {κ : Type} : List (κ × V) -> List (κ × Value) -> Prop := Paired fun (p : κ × V) (q : κ × Value) => p.1 = q.1 /\ RelV p.2 q.2
def kV : Key -> V
  | .inl i => .int i
  | .inr x => .str x
inductive HO where
  | lst (xs : List V)
  | tup (xs : List V)
  | dK (kvs : List (Key × V)) | dT (kvs : List (List Key × V))
  | set (S : Int -> Bool) (n : Nat)
  | ins (C dx : Addr) (fs : List (Str × V))
  | own (x : Addr)
  | xd (fs : List (Str × V))
  | met (f x : Addr)
  | rng (lo hi : Int)
  | frz (o : Obj) (u : HO)
  | tbl (ps : Array Value)
  | ext (φ : Heap -> Prop)
abbrev Hp := Addr -> Option HO
def upd (H : Hp) (a : Addr) (o : HO) : Hp := fun b => if b = a then some o else H b
theorem q2t {H : Hp} {a : Addr} {o : HO} : upd H a o a = some o := by unfold upd; rw [if_pos rfl]
theorem q21 {H : Hp} {a b : Addr} {o : HO} (h : b ≠ a) : upd H a o b = H b := by unfold upd; rw [if_neg h]
theorem ne_of {H : Hp} {a b : Addr} {o u : HO} (h : H a = some o) (h' : H b = some u) (d : o ≠ u) : a ≠ b := by
  intro e; subst e; rw [h] at h'; exact d (Option.some.inj h')
theorem q42 {H : Hp} {a b : Addr} {o : HO} (h : H a = some o) (h' : H b = none) : a ≠ b := by
  intro e; subst e; rw [h] at h'; cases h'
section
variable (P : Program) (w : World)
def q2q (H : Hp) (h : Heap) (a : Addr) : HO -> Prop
  | .lst xs => xs.length <= sizeLine /\ ∃ (its : List Value) (n : Nat),Vals xs its /\ h.get? a = some { cls := .type "list",data := .seq its.toArray n }
  | .tup xs => xs.length <= sizeLine /\ ∃ its : List Value,Vals xs its /\ IsTup h a its.toArray
  | .dK kvs => kvs.length <= sizeLine /\ (a == sysModules) = false /\ ∃ vs,KV kvs vs /\ h.DictOf (q3h P w) a vs
  | .dT kvs => kvs.length <= sizeLine /\ (a == sysModules) = false /\ ∃ xs : List (List Key × Addr × Value),
      Paired (fun (p : List Key × V) (q : List Key × Addr × Value) => p.1 = q.1 /\ H q.2.1 = some (.tup (p.1.map kV)) /\ RelV p.2 q.2.2) kvs xs /\
      ∃ o es ep,h.get? a = some o /\ o.ExactDict /\ o.data = .dict es ep /\ es.toList = xs.map (entryOfKey (tupleKind (q3h P w))) /\ (xs.map (·.1)).Nodup
  | .set S n => h.SetOf (intKind P w) a S n
  | .ins C dx fs => H dx = some (.own a) /\ fs.length <= 1000 /\ dx ≠ a /\ h.get? a = some (PySem.W.instObj C dx) /\
      ∃ mA,h.Ns1 dx mA /\ (∀ f,RelO (fs.lookup f) (mA f)) /\ PySem.Within mA (fs.map (·.1))
  | .own _ => ∃ o,h.get? a = some o
  | .xd fs => ∃ mA,h.Ns1 a mA /\ ∀ f,RelO (fs.lookup f) (mA f)
  | .rng lo hi => ∃ t u v,h.get? a = some { cls := .type "range",data := .fields #[.int lo t, .int hi u, .int 1 v] }
  | .frz o u => h.get? a = some o /\ q2q H h a u
  | .tbl ps => h.get? a = some { cls := .none,data := .fields ps }
  | .met f x => h.get? a = some (PySem.W.methodObj (.ref f) (.ref x))
  | .ext φ => φ h /\ (∃ o,h.get? a = some o) /\ ∀ h1 h2 : Heap, φ h1 -> (∀ o,h1.get? a = some o -> h2.get? a = some o) -> φ h2
def HOk (H : Hp) (h : Heap) : Prop := ∀ a o,H a = some o -> q2q P w H h a o
end
section
variable {P : Program} {w : World} {H H' : Hp} {h h' : Heap} {a : Addr} {o : HO}
theorem q2q.lt (x : q2q P w H h a o) : a < h.objs.size := by
  cases o with
  | lst xs => obtain ⟨_,_,_,_,e⟩ := x; exact Heap.lt_size e
  | tup xs => obtain ⟨_,_,_,p⟩ := x; exact p.lt
  | dK kvs => obtain ⟨_,_,_,_,o,_,_,e,_⟩ := x; exact Heap.lt_size e
  | dT kvs => obtain ⟨_,_,_,_,o,_,_,e,_⟩ := x; exact Heap.lt_size e
  | set S n => obtain ⟨o,_,_,_,e,_⟩ := x; exact Heap.lt_size e
  | ins C dx fs => obtain ⟨_,_,_,e,_⟩ := x; exact Heap.lt_size e
  | own y => obtain ⟨_,e⟩ := x; exact Heap.lt_size e
  | xd fs => obtain ⟨_,⟨_,_,_,e,_⟩,_⟩ := x; exact Heap.lt_size e
  | rng lo hi => obtain ⟨_,_,_,e⟩ := x; exact Heap.lt_size e
  | frz ob u => obtain ⟨e,_⟩ := x; exact Heap.lt_size e
  | tbl ps => exact Heap.lt_size (show h.get? a = some _ from x)
  | met f y => exact Heap.lt_size (show h.get? a = some _ from x)
  | ext φ => obtain ⟨_,⟨_,e⟩,_⟩ := x; exact Heap.lt_size e
theorem Paired.mapP {α β : Type} {F G : α -> β -> Prop} : ∀ {l₁ : List α} {l₂ : List β},Paired F l₁ l₂ -> (∀ a b,F a b -> G a b) -> Paired G l₁ l₂
  | _,_, .nil,_ => .nil
  | _,_, .cons r t,f => .cons (f _ _ r) (Paired.mapP t f)
theorem q2q.stay (x : q2q P w H h a o) (k : ∀ b u,(b = a \/ H b = some (.own a)) -> h.get? b = some u -> h'.get? b = some u)
    (ho : ∀ b,H b = some (.own a) -> H' b = some (.own a)) (ht : ∀ b xs,H b = some (.tup xs) -> H' b = some (.tup xs)) : q2q P w H' h' a o := by
  induction o with
  | lst xs => obtain ⟨z,its,n,r,e⟩ := x; exact ⟨z,its,n,r,k _ _ (.inl rfl) e⟩
  | tup xs => obtain ⟨z,its,r,ob,e,c⟩ := x; exact ⟨z,its,r,ob,k _ _ (.inl rfl) e,c⟩
  | dK kvs => obtain ⟨z,y,vs,r,ob,es,ep,e,c⟩ := x; exact ⟨z,y,vs,r,ob,es,ep,k _ _ (.inl rfl) e,c⟩
  | dT kvs =>
    obtain ⟨z,y,xs,r,ob,es,ep,e,c⟩ := x
    exact ⟨z,y,xs,Paired.mapP r fun p q z => ⟨z.1,ht _ _ z.2.1,z.2.2⟩,ob,es,ep,k _ _ (.inl rfl) e,c⟩
  | set S n => obtain ⟨ob,es,ep,t,e,c⟩ := x; exact ⟨ob,es,ep,t,k _ _ (.inl rfl) e,c⟩
  | ins C dx fs =>
    obtain ⟨d,z,ne,e,mA,⟨od,es,ep,e2,c⟩,r⟩ := x
    exact ⟨ho _ d,z,ne,k _ _ (.inl rfl) e,mA,⟨od,es,ep,k _ _ (.inr d) e2,c⟩,r⟩
  | own y => obtain ⟨ob,e⟩ := x; exact ⟨ob,k _ _ (.inl rfl) e⟩
  | xd fs => obtain ⟨mA,⟨od,es,ep,e,c⟩,r⟩ := x; exact ⟨mA,⟨od,es,ep,k _ _ (.inl rfl) e,c⟩,r⟩
  | rng lo hi => obtain ⟨t,u,v,e⟩ := x; exact ⟨t,u,v,k _ _ (.inl rfl) e⟩
  | frz ob u ih => obtain ⟨e,q⟩ := x; exact ⟨k _ _ (.inl rfl) e,ih q⟩
  | tbl ps =>
    have e : h.get? a = some { cls := .none,data := .fields ps } := x
    show h'.get? a = some { cls := .none,data := .fields ps }
    exact k a _ (.inl rfl) e
  | met f y =>
    have e : h.get? a = some (PySem.W.methodObj (.ref f) (.ref y)) := x
    show h'.get? a = some (PySem.W.methodObj (.ref f) (.ref y))
    exact k a _ (.inl rfl) e
  | ext φ => obtain ⟨p,⟨o,e⟩,st⟩ := x; exact ⟨st _ _ p fun o q => k _ _ (.inl rfl) q,⟨o,k _ _ (.inl rfl) e⟩,st⟩
theorem HOk.lt (x : HOk P w H h) (e : H a = some o) : a < h.objs.size := (x a o e).lt
theorem HOk.fresh (x : HOk P w H h) (e : h.objs.size <= a) : H a = none := by
  cases q : H a with
  | none => rfl
  | some u => exact absurd (Nat.lt_of_lt_of_le (x.lt q) e) (Nat.lt_irrefl _)
theorem HOk.kept (x : HOk P w H h) (k : ∀ b u,h.get? b = some u -> h'.get? b = some u) : HOk P w H h' := fun a o e =>
  (x a o e).stay (fun b u _ q => k b u q) (fun _ q => q) fun _ _ q => q
theorem HOk.laid (x : HOk P w H h) (k : ∀ b u,h.get? b = some u -> h'.get? b = some u) (hp : h.objs.size <= a) (new : q2q P w (upd H a o) h' a o) : HOk P w (upd H a o) h' := fun b u e => by
  have hn := x.fresh hp
  by_cases hb : b = a
  . subst hb; rw [q2t] at e; cases e; exact new
  . rw [q21 hb] at e
    exact (x b u e).stay (fun c v _ q => k c v q) (fun c q => by rw [q21 (q42 q hn)]; exact q) fun c xs q => by rw [q21 (q42 q hn)]; exact q
end
def Rd (H : Hp) (a : Addr) (u : HO) : Prop := H a = some u \/ ∃ o,H a = some (.frz o u)
theorem Rd.ok {P : Program} {w : World} {H : Hp} {h : Heap} {a : Addr} {u : HO} (r : Rd H a u) (x : HOk P w H h) : q2q P w H h a u := by
  rcases r with r | ⟨o,r⟩
  . exact x a u r
  . obtain ⟨_,q⟩ := x a _ r
    exact q
def Mut : Option HO -> Prop
  | some (.lst _) => True
  | some (.dK _) => True
  | some (.dT _) => True
  | some (.set _ _) => True
  | some (.ins _ _ _) => True
  | some (.ext _) => True
  | _ => False
section
variable {P : Program} {w : World} {H : Hp} {h h' : Heap} {x e : Addr} {o' : HO}
theorem HOk.write (ok : HOk P w H h) (mu : Mut (H x)) (he : e = x \/ H e = some (.own x)) (k : ∀ b u,b ≠ e -> h.get? b = some u -> h'.get? b = some u) (heo : ∃ u,h'.get? e = some u)
    (new : q2q P w (upd H x o') h' x o') : HOk P w (upd H x o') h' := fun b u q => by
  have nown : ∀ c y,H c = some (.own y) -> c ≠ x := fun c y r z => by subst z; rw [r] at mu; exact mu
  have ntup : ∀ c xs,H c = some (.tup xs) -> c ≠ x := fun c xs r z => by subst z; rw [r] at mu; exact mu
  by_cases hb : b = x
  . subst hb; rw [q2t] at q; cases q; exact new
  . rw [q21 hb] at q
    by_cases hbe : b = e
    . have q' : H b = some (.own x) := by
        rcases he with z | z
        . exact absurd (hbe.trans z) hb
        . rw [hbe]; exact z
      rw [q] at q'; cases q'
      obtain ⟨v,hv⟩ := heo
      exact ⟨v,by rw [hbe]; exact hv⟩
    . refine (ok b u q).stay (fun c v hc r => k c v ?_ r) (fun c r => by rw [q21 (nown c b r)]; exact r) fun c xs r => by rw [q21 (ntup c xs r)]; exact r
      rcases hc with rfl | hc
      . exact hbe
      . rintro rfl
        rcases he with z | z
        . exact nown c b hc z
        . rw [hc] at z; cases z; exact hb rfl
end
structure Un (fs ex : List Addr) (H H' : Hp) (h h' : Heap) : Prop where
  keep : ∀ b o,h.get? b = some o -> H b = none -> b ∉ fs -> b ∉ ex -> h'.get? b = some o
  slot : ∀ b o,h.get? b = some o -> H b = none -> b ∈ fs -> b ∉ ex -> ∃ sl,h'.get? b = some { o with slots := sl }
  free : ∀ b o,h.get? b = some o -> H b = none -> b ∉ ex -> H' b = none
  there : ∀ b o,h.get? b = some o -> b ∉ ex -> ∃ o',h'.get? b = some o'
  tups : ∀ b xs,H b = some (.tup xs) -> H' b = some (.tup xs)
  frzs : ∀ b o u,H b = some (.frz o u) -> H' b = some (.frz o u)
  tbls : ∀ b ps,H b = some (.tbl ps) -> ∃ more,H' b = some (.tbl (ps ++ more))
section
variable {fs fs' ex ex' : List Addr} {H H1 H2 : Hp} {h h1 h2 h' : Heap} {a x e : Addr} {o : HO}
theorem Un.any (u : Un fs ex H H1 h h1) {b : Addr} {ob : Obj} (q : h.get? b = some ob) (n : H b = none) (hx : b ∉ ex) : ∃ sl,h1.get? b = some { ob with slots := sl } := by
  by_cases hb : b ∈ fs
  . exact u.slot b ob q n hb hx
  . exact ⟨ob.slots,u.keep b ob q n hb hx⟩
theorem Un.kept (k : ∀ b u,h.get? b = some u -> h'.get? b = some u) : Un fs ex H H h h' :=
  ⟨fun b ob q _ _ _ => k b ob q,fun b ob q _ _ _ => ⟨ob.slots,k b ob q⟩,fun _ _ _ n _ => n,fun b ob q _ => ⟨ob,k b ob q⟩,fun _ _ q => q,fun _ _ _ q => q,fun _ ps q => ⟨#[],by rw [q]; simp⟩⟩
theorem Un.refl : Un fs ex H H h h := Un.kept fun _ _ q => q
theorem Un.laid (k : ∀ b u,h.get? b = some u -> h'.get? b = some u) (hp : h.objs.size <= a) (hn : H a = none) : Un fs ex H (upd H a o) h h' where
  keep := fun b u q _ _ _ => k b u q
  slot := fun b u q _ _ _ => ⟨u.slots,k b u q⟩
  free := fun b u q n _ => by rw [q21 (Nat.ne_of_lt (Nat.lt_of_lt_of_le (Heap.lt_size q) hp))]; exact n
  there := fun b u q _ => ⟨u,k b u q⟩
  tups := fun b xs q => by rw [q21 (q42 q hn)]; exact q
  frzs := fun b u xs q => by rw [q21 (q42 q hn)]; exact q
  tbls := fun b ps q => ⟨#[],by rw [q21 (q42 q hn),q]; simp⟩
theorem Un.write (mu : Mut (H x)) (he : e = x \/ H e = some (.own x)) (k : ∀ b u,b ≠ e -> h.get? b = some u -> h'.get? b = some u) (heo : ∃ u,h'.get? e = some u) : Un fs ex H (upd H x o) h h' := by
  have hx : ∀ b,H b = none -> b ≠ x := fun b n z => by subst z; rw [n] at mu; exact mu
  have hb : ∀ b,H b = none -> b ≠ e := fun b n z => by
    subst z
    rcases he with r | r
    . exact hx b n r
    . rw [n] at r; cases r
  have hm : ∀ b u,H b = some u -> ¬ Mut (some u) -> b ≠ x := fun b u q nm z => by subst z; rw [q] at mu; exact nm mu
  refine ⟨fun b u q n _ _ => k b u (hb b n) q,fun b u q n _ _ => ⟨u.slots,k b u (hb b n) q⟩,fun b u q n _ => by rw [q21 (hx b n)]; exact n,fun b u q _ => ?_,
    fun b xs q => by rw [q21 (hm b _ q fun z => z)]; exact q,fun b u xs q => by rw [q21 (hm b _ q fun z => z)]; exact q,fun b ps q => ⟨#[],by rw [q21 (hm b _ q fun z => z),q]; simp⟩⟩
  by_cases hbe : b = e
  . subst hbe; exact heo
  . exact ⟨u,k b u hbe q⟩
end
def trk (h : Heap) (H : Hp) : List Addr := (List.range h.objs.size).filter fun a => (H a).isSome
def hidT (h : Heap) (H : Hp) : Heap := PySem.W.hideAll h (trk h H)
theorem qed (h : Heap) (H : Hp) : (hidT h H).objs.size = h.objs.size := PySem.W.hideAll_size _ _
theorem qgb {h : Heap} {H : Hp} {b : Addr} {o : Obj} (e : h.get? b = some o) (n : H b = none) : (hidT h H).get? b = some o :=
  PySem.W.hideAll_get _ e fun hm => by
    have q : (H b).isSome = true := (List.mem_filter.mp hm).2
    rw [n] at q; simp at q
theorem qgu {h : Heap} {H : Hp} {b : Addr} {o : Obj} (e : (hidT h H).get? b = some o) : h.get? b = some o /\ H b = none := by
  have e' : h.get? b = some o := PySem.W.of_hideAll (trk h H) e
  refine ⟨e',?_⟩
  cases q : H b with
  | none => rfl
  | some x =>
    have hm : b ∈ trk h H := List.mem_filter.mpr ⟨List.mem_range.mpr (Heap.lt_size e'),by simp [q]⟩
    have z : (hidT h H).get? b = none := PySem.W.hideAll_none (trk h H) hm
    rw [z] at e; cases e
end L2
namespace L2
open PySem PySem.Spec PyProof.Rows
structure Mod (K : PySem.W.Frag) (mg : Str -> Option Value) (base : Heap) : Prop where
  kin : K.In base
  glob : base.Ns mainGlobals mg
  blt : ∃ mb,base.Ns builtinsNs mb /\ ∀ x : Str,x ≠ "__name__" -> mb x = bootBuiltins x
  nolimit : base.NoLimit
structure Cx where
  prog : Program
  w : World
  K : PySem.W.Frag
  mg : Str -> Option Value
  base : Heap
  A : Around
  N : List Str
  s₀ : Shared
  H₀ : Hp
  env : Env
  outer : List Env
  stack : List Env
  ex : List Addr
  fn : Str -> Bool
  calm : Bool
  pn : List (Addr × Obj)
  xe : Value -> Shared -> Prop
def frs (l : List Env) : List Addr := l.filterMap (·.frame)
abbrev Cx.fs (X : Cx) : List Addr := frs X.outer
def Vis (sc : Scope) (x : Str) : Prop := sc.names.lookup x = some .local \/ sc.names.lookup x = some .cell \/ sc.names.lookup x = some .free
def Loc (sc : Scope) (x : Str) : Prop := sc.names.lookup x = some .local \/ sc.names.lookup x = some .cell
def Look (env : Env) (h : Heap) (m : Str -> Option Value) (x : Str) (u : Value) : Prop :=
  (env.kindOf x = some .local /\ m x = some u) \/ ((env.kindOf x = some .cell \/ env.kindOf x = some .free) /\ ∃ c,env.cells.lookup x = some c /\ h.IsCell c (some u))
structure Cx.Ok (X : Cx) : Prop where
  mod : Mod X.K X.mg X.base
  kind : X.env.scope.kind = .function
  glob : X.env.globals = mainGlobals
  blt : X.env.builtins = builtinsNs
  above : X.s₀.heap.objs.size <= X.env.locals
  inj : ∀ x y c,X.env.cells.lookup x = some c -> X.env.cells.lookup y = some c -> x = y
  has : ∀ x,(X.env.kindOf x = some .cell \/ X.env.kindOf x = some .free) -> ∃ c,X.env.cells.lookup x = some c
  cab : ∀ x c,X.fn x = true -> X.env.cells.lookup x = some c -> X.s₀.heap.objs.size <= c
  hd : X.calm = true -> X.A.handled = none
  frames : X.A.frames = some X.stack
  stk : X.stack = X.outer \/ (X.stack = X.env :: X.outer /\ X.env.frame = some X.env.locals)
  exf : ∀ b ∈ X.ex,b ≠ X.env.locals /\ ∀ x c,X.env.cells.lookup x = some c -> c ≠ b
  bs : ∀ b o,X.base.get? b = some o -> X.s₀.heap.get? b = some o /\ X.H₀ b = none
  bsz : X.base.objs.size <= X.s₀.heap.objs.size
  noex : ∀ b o,X.base.get? b = some o -> b ∉ X.ex
  exfs : ∀ b ∈ X.ex,b ∉ X.fs
  funs : X.s₀.heap.FunFrames X.base X.outer
  frf : ∀ b ∈ X.fs,X.H₀ b = none
structure Inv (X : Cx) (pins : List (Addr × Obj)) (σ : List (Option V)) (H : Hp) (s : Shared) : Prop where
  ok : X.Ok
  os : s.os = X.s₀.os
  bare : AllBare s.gens
  base : Un X.fs X.ex X.H₀ H X.s₀.heap s.heap
  loc : ∃ m,s.heap.Ns X.env.locals m /\ ∀ (i : Nat) (x : Str) (v : V),X.N[i]? = some x -> σ[i]? = some (some v) -> Vis X.env.scope x -> ∃ u,RelV v u /\ Look X.env s.heap m x u
  cell : ∀ x c,X.env.cells.lookup x = some c -> ∃ v,s.heap.IsCell c v
  free : H X.env.locals = none
  freeC : ∀ x c,X.env.cells.lookup x = some c -> H c = none
  pin : ∀ p ∈ X.pn ++ pins,s.heap.get? p.1 = some p.2 /\ H p.1 = none /\ p.1 ≠ X.env.locals /\ p.1 ∉ X.fs /\ ∀ v,p.2.data ≠ .cell v
  hok : HOk X.prog X.w H s.heap
  len : σ.length = X.N.length
section
variable {X : Cx} {pins : List (Addr × Obj)} {σ : List (Option V)} {H H' : Hp} {s : Shared} {h' : Heap}
theorem Cx.Ok.nofr (ok : X.Ok) {b : Addr} {o : Obj} (e : X.base.get? b = some o) : b ∉ X.fs := fun hb => by
  have := (ok.funs.mem hb).1
  rw [e] at this; cases this
theorem Inv.bs (I : Inv X pins σ H s) : ∀ b o,X.base.get? b = some o -> s.heap.get? b = some o /\ H b = none := fun b o e =>
  ⟨I.base.keep b o (I.ok.bs b o e).1 (I.ok.bs b o e).2 (I.ok.nofr e) (I.ok.noex b o e),I.base.free b o (I.ok.bs b o e).1 (I.ok.bs b o e).2 (I.ok.noex b o e)⟩
theorem Inv.bk (I : Inv X pins σ H s) : ∀ b o,X.base.get? b = some o -> s.heap.get? b = some o := fun b o e => (I.bs b o e).1
theorem Inv.mod (I : Inv X pins σ H s) : Mod X.K X.mg X.base := I.ok.mod
theorem Inv.kIn (I : Inv X pins σ H s) : X.K.In s.heap := I.ok.mod.kin.keeps I.bk
theorem Inv.fr (I : Inv X pins σ H s) : ∃ m,Fr X.base X.env.locals s.heap m :=
  let ⟨m,hn,_⟩ := I.loc
  ⟨m,hn,I.bk,Nat.le_trans I.ok.bsz I.ok.above⟩
theorem Inv.lt (I : Inv X pins σ H s) : X.env.locals < s.heap.objs.size := let ⟨_,hn,_⟩ := I.loc; hn.lt
theorem Inv.sz (I : Inv X pins σ H s) : X.s₀.heap.objs.size <= s.heap.objs.size := Nat.le_trans I.ok.above (Nat.le_of_lt I.lt)
theorem Inv.nofs (I : Inv X pins σ H s) {a : Addr} (h : s.heap.objs.size <= a) : a ∉ X.fs := fun hb => by
  obtain ⟨_,o,ho,_⟩ := I.ok.funs.mem hb
  exact absurd (Nat.lt_of_lt_of_le (Heap.lt_size ho) (Nat.le_trans I.sz h)) (Nat.lt_irrefl _)
theorem Inv.cne (I : Inv X pins σ H s) : ∀ x c,X.env.cells.lookup x = some c -> c ≠ X.env.locals := fun x c e z => by
  obtain ⟨v,o,ho,hd⟩ := I.cell x c e
  obtain ⟨m,⟨o',es,ep,ho',hd',_⟩,_⟩ := I.loc
  rw [z,ho'] at ho; cases ho; rw [hd'] at hd; cases hd
theorem Inv.funs (I : Inv X pins σ H s) : s.heap.FunFrames X.base X.outer := by
  have all : ∀ (l : List Env),(∀ b ∈ frs l,b ∈ X.fs) -> X.s₀.heap.FunFrames X.base l -> s.heap.FunFrames X.base l := by
    intro l
    induction l with
    | nil => intro _ _; trivial
    | cons env r ih =>
      intro hs hl
      obtain ⟨hk,⟨L,o,hf,hn,ho,hd⟩,hr⟩ := hl
      have hL : L ∈ X.fs := hs L (by unfold frs; rw [List.filterMap_cons,hf]; exact List.mem_cons_self)
      obtain ⟨sl,e⟩ := I.base.slot L o ho (I.ok.frf L hL) hL fun z => I.ok.exfs L z hL
      exact ⟨hk,⟨L,_,hf,hn,e,hd⟩,ih (fun b hb => hs b (by unfold frs; rw [List.filterMap_cons,hf]; exact List.mem_cons_of_mem _ hb)) hr⟩
  exact all X.outer (fun _ hb => hb) I.ok.funs
theorem Inv.stack (I : Inv X pins σ H s) : s.heap.FunFrames X.base X.stack := by
  rcases I.ok.stk with e | ⟨e,hf⟩
  . rw [e]; exact I.funs
  . rw [e]
    obtain ⟨m,hn,_⟩ := I.loc
    refine .cons (by rw [I.ok.kind]; decide) hf hn ?_ I.funs
    exact Heap.get?_none_of_le (Nat.le_trans I.ok.bsz I.ok.above)
theorem Inv.q74 (I : Inv X pins σ H s) : ∀ b ∈ frs X.stack,b ∈ X.env.locals :: X.fs := fun b hb => by
  rcases I.ok.stk with e | ⟨e,hf⟩
  . rw [e] at hb; exact List.mem_cons_of_mem _ hb
  . rw [e] at hb
    unfold frs at hb
    rw [List.filterMap_cons,hf] at hb
    exact hb
theorem Inv.q8f (I : Inv X pins σ H s) : ∀ b ∈ frs X.stack,H b = none := fun b hb => by
  rcases List.mem_cons.mp (I.q74 b hb) with e | hb
  . rw [e]; exact I.free
  . obtain ⟨_,o,ho,_⟩ := I.ok.funs.mem hb
    exact I.base.free b o ho (I.ok.frf b hb) fun z => I.ok.exfs b z hb
theorem Inv.step {g' : Array GenState} {t' : Nat} {d' : Drawn} {ch : List Addr} (I : Inv X pins σ H s)
    (hch : ∀ b ∈ ch,(b ∈ X.ex \/ X.s₀.heap.objs.size <= b) /\ b ≠ X.env.locals /\ (∀ x c,X.env.cells.lookup x = some c -> c ≠ b) /\ ∀ p ∈ X.pn ++ pins,p.1 ≠ b)
    (keep : ∀ b o,b ≠ X.env.locals -> b ∉ X.fs -> b ∉ ch -> s.heap.get? b = some o -> H b = none -> h'.get? b = some o)
    (slot : ∀ b o,b ≠ X.env.locals -> b ∈ X.fs -> b ∉ ch -> s.heap.get? b = some o -> H b = none -> ∃ sl,h'.get? b = some { o with slots := sl }) (free : ∀ b o,b ∉ ch -> s.heap.get? b = some o -> H b = none -> H' b = none)
    (there : ∀ b o,b ∉ ch -> s.heap.get? b = some o -> ∃ o',h'.get? b = some o')
    (tups : ∀ b xs,H b = some (.tup xs) -> H' b = some (.tup xs)) (frzs : ∀ b o u,H b = some (.frz o u) -> H' b = some (.frz o u)) (tbls : ∀ b ps,H b = some (.tbl ps) -> ∃ more,H' b = some (.tbl (ps ++ more)))
    (ns : ∀ m,s.heap.Ns X.env.locals m -> h'.Ns X.env.locals m) (hok : HOk X.prog X.w H' h') (hg : AllBare g') :
    Inv X pins σ H' { s with heap := h',gens := g',drawn := d',toks := t' } := by
  have neL : ∀ b o,X.s₀.heap.get? b = some o -> b ≠ X.env.locals := fun b o e => Nat.ne_of_lt (Nat.lt_of_lt_of_le (Heap.lt_size e) I.ok.above)
  have neC : ∀ b o,X.s₀.heap.get? b = some o -> b ∉ X.ex -> b ∉ ch := fun b o e hx hb => by
    rcases (hch b hb).1 with z | z
    . exact hx z
    . exact absurd (Nat.lt_of_lt_of_le (Heap.lt_size e) z) (Nat.lt_irrefl _)
  have cellK : ∀ x c,X.env.cells.lookup x = some c -> ∀ v,s.heap.IsCell c v -> h'.IsCell c v := fun x c e v ⟨o,ho,hd⟩ => by
    have nch : c ∉ ch := fun z => (hch c z).2.2.1 x c e rfl
    by_cases hc : c ∈ X.fs
    . obtain ⟨sl,q⟩ := slot c o (I.cne x c e) hc nch ho (I.freeC x c e)
      exact ⟨_,q,hd⟩
    . exact ⟨o,keep c o (I.cne x c e) hc nch ho (I.freeC x c e),hd⟩
  refine ⟨I.ok,I.os,hg,⟨fun b o e n hb hx => ?_,fun b o e n hb hx => ?_,fun b o e n hx => ?_,fun b o e hx => ?_,fun b xs e => tups b xs (I.base.tups b xs e),fun b o xs e => frzs b o xs (I.base.frzs b o xs e),fun b ps e => ?_⟩,?_,fun x c e => ?_,?_,fun x c e => ?_,fun p hp => ?_,hok,I.len⟩
  . exact keep b o (neL b o e) hb (neC b o e hx) (I.base.keep b o e n hb hx) (I.base.free b o e n hx)
  . obtain ⟨sl,e1⟩ := I.base.slot b o e n hb hx
    obtain ⟨sl',e2⟩ := slot b _ (neL b o e) hb (neC b o e hx) e1 (I.base.free b o e n hx)
    exact ⟨sl',e2⟩
  . obtain ⟨o',e1⟩ := I.base.there b o e hx
    exact free b o' (neC b o e hx) e1 (I.base.free b o e n hx)
  . obtain ⟨o',e1⟩ := I.base.there b o e hx
    exact there b o' (neC b o e hx) e1
  . obtain ⟨m1,e1⟩ := I.base.tbls b ps e
    obtain ⟨m2,e2⟩ := tbls b _ e1
    exact ⟨m1 ++ m2,by rw [e2,Array.append_assoc]⟩
  . obtain ⟨m,hn,hl⟩ := I.loc
    refine ⟨m,ns m hn,fun i x v e1 e2 e3 => ?_⟩
    obtain ⟨u,r,l⟩ := hl i x v e1 e2 e3
    refine ⟨u,r,?_⟩
    rcases l with l | ⟨k,c,e,z⟩
    . exact .inl l
    . exact .inr ⟨k,c,e,cellK x c e _ z⟩
  . obtain ⟨v,z⟩ := I.cell x c e
    exact ⟨v,cellK x c e v z⟩
  . obtain ⟨m,⟨o,_,_,ho,_⟩,_⟩ := I.loc
    exact free _ o (fun z => (hch _ z).2.1 rfl) ho I.free
  . obtain ⟨v,o,ho,hd⟩ := I.cell x c e
    exact free c o (fun z => (hch c z).2.2.1 x c e rfl) ho (I.freeC x c e)
  . obtain ⟨e,n,ne,nf,d⟩ := I.pin p hp
    have nch : p.1 ∉ ch := fun z => (hch p.1 z).2.2.2 p hp rfl
    exact ⟨keep p.1 p.2 ne nf nch e n,free p.1 p.2 nch e n,ne,nf,d⟩
theorem Inv.un {t' : Nat} (I : Inv X pins σ H s) (u : Un X.fs [] H H' s.heap h') (hok : HOk X.prog X.w H' h') : Inv X pins σ H' { s with heap := h',toks := t' } := by
  obtain ⟨m,⟨o,es,ep,ho,r⟩,_⟩ := id I.loc
  obtain ⟨sl,hL⟩ := u.any ho I.free (by simp)
  exact I.step (g' := s.gens) (d' := s.drawn) (ch := []) (fun _ z => nomatch z) (fun b o _ hb _ e n => u.keep b o e n hb (by simp)) (fun b o _ hb _ e n => u.slot b o e n hb (by simp)) (fun b o _ e n => u.free b o e n (by simp)) (fun b o _ e => u.there b o e (by simp)) u.tups u.frzs u.tbls (fun m' hm => by
    obtain ⟨o',es',ep',ho',r'⟩ := hm
    rw [ho] at ho'; cases ho'
    exact ⟨_,es',ep',hL,r'⟩) hok I.bare
theorem Inv.call {g' : Array GenState} {t' : Nat} {d' : Drawn} {ch : List Addr} (I : Inv X pins σ H s) (u : Un (frs X.stack) ch H H' s.heap h') (hok : HOk X.prog X.w H' h') (hg : AllBare g')
    (hch : ∀ b ∈ ch,(b ∈ X.ex \/ X.s₀.heap.objs.size <= b) /\ b ≠ X.env.locals /\ (∀ x c,X.env.cells.lookup x = some c -> c ≠ b) /\ ∀ p ∈ X.pn ++ pins,p.1 ≠ b) :
    Inv X pins σ H' { s with heap := h',gens := g',drawn := d',toks := t' } := by
  obtain ⟨m,⟨o,es,ep,ho,r⟩,_⟩ := id I.loc
  obtain ⟨sl,hL⟩ := u.any ho I.free fun z => (hch _ z).2.1 rfl
  exact I.step (ch := ch) hch (fun b o hL hb hc e n => u.keep b o e n (fun z => (List.mem_cons.mp (I.q74 b z)).elim hL hb) hc) (fun b o _ _ hc e n => u.any e n hc) (fun b o hc e n => u.free b o e n hc) (fun b o hc e => u.there b o e hc) u.tups u.frzs u.tbls (fun m' hm => by
    obtain ⟨o',es',ep',ho',r'⟩ := hm
    rw [ho] at ho'; cases ho'
    exact ⟨_,es',ep',hL,r'⟩) hok hg
theorem Inv.turned {t' : Nat} {it : Addr} (I : Inv X pins σ H s) (k : ∀ b o,b ≠ it -> s.heap.get? b = some o -> h'.get? b = some o) (hn : H it = none) (hL : it ≠ X.env.locals)
    (h1 : it ∈ X.ex \/ X.s₀.heap.objs.size <= it) (h2 : ∀ x c,X.env.cells.lookup x = some c -> c ≠ it) (h3 : ∀ p ∈ X.pn ++ pins,p.1 ≠ it) : Inv X pins σ H { s with heap := h',toks := t' } := by
  have nit : ∀ b u,H b = some u -> b ≠ it := fun b u e z => by rw [z,hn] at e; cases e
  refine I.step (g' := s.gens) (d' := s.drawn) (ch := [it]) (fun b hb => ?_) (fun b o _ _ hc e _ => k b o (fun z => hc (by simp [z])) e) (fun b o _ _ hc e _ => ⟨o.slots,k b o (fun z => hc (by simp [z])) e⟩) (fun _ _ _ _ n => n)
    (fun b o hc e => ⟨o,k b o (fun z => hc (by simp [z])) e⟩) (fun _ _ e => e) (fun _ _ _ e => e) (fun b ps e => ⟨#[],by rw [e]; simp⟩) (fun m hm => ?_) (fun b u e => ?_) I.bare
  . have e : b = it := by simpa using hb
    subst e
    exact ⟨h1,hL,h2,h3⟩
  . obtain ⟨o,es,ep,ho,r⟩ := hm
    exact ⟨o,es,ep,k _ o (Ne.symm hL) ho,r⟩
  . refine (I.hok b u e).stay (fun c v hc q => k c v ?_ q) (fun _ q => q) fun _ _ q => q
    rcases hc with z | z
    . rw [z]; exact nit b u e
    . exact nit c _ z
theorem Inv.tok (I : Inv X pins σ H s) (t : Nat) : Inv X pins σ H { s with toks := t } := I.un (h' := s.heap) (t' := t) Un.refl I.hok
theorem Inv.kept {t' : Nat} (I : Inv X pins σ H s) (k : ∀ b u,s.heap.get? b = some u -> h'.get? b = some u) : Inv X pins σ H { s with heap := h',toks := t' } := I.un (Un.kept k) (I.hok.kept k)
theorem Inv.laid {a : Addr} {o : HO} {t' : Nat} (I : Inv X pins σ H s) (k : ∀ b u,s.heap.get? b = some u -> h'.get? b = some u) (hp : s.heap.objs.size <= a) (new : q2q X.prog X.w (upd H a o) h' a o) :
    Inv X pins σ (upd H a o) { s with heap := h',toks := t' } := I.un (Un.laid k hp (I.hok.fresh hp)) (I.hok.laid k hp new)
theorem Inv.write {x e : Addr} {o : HO} {t' : Nat} (I : Inv X pins σ H s) (mu : Mut (H x)) (he : e = x \/ H e = some (.own x)) (k : ∀ b u,b ≠ e -> s.heap.get? b = some u -> h'.get? b = some u) (heo : ∃ u,h'.get? e = some u)
    (new : q2q X.prog X.w (upd H x o) h' x o) : Inv X pins σ (upd H x o) { s with heap := h',toks := t' } := I.un (Un.write mu he k heo) (I.hok.write mu he k heo new)
theorem Inv.weak {σ' : List (Option V)} (I : Inv X pins σ H s) (hl : σ'.length = σ.length) (w : ∀ (i : Nat) v, σ'[i]? = some (some v) -> σ[i]? = some (some v)) : Inv X pins σ' H s :=
  ⟨I.ok,I.os,I.bare,I.base,let ⟨m,hn,hl'⟩ := I.loc; ⟨m,hn,fun i x v e1 e2 e3 => hl' i x v e1 (w i v e2) e3⟩,I.cell,I.free,I.freeC,I.pin,I.hok,hl.trans I.len⟩
theorem Inv.qcq {pins' : List (Addr × Obj)} (I : Inv X pins σ H s) (h : ∀ p ∈ pins',s.heap.get? p.1 = some p.2 /\ H p.1 = none /\ p.1 ≠ X.env.locals /\ p.1 ∉ X.fs /\ ∀ v,p.2.data ≠ .cell v) : Inv X pins' σ H s :=
  ⟨I.ok,I.os,I.bare,I.base,I.loc,I.cell,I.free,I.freeC,fun p hp => (List.mem_append.mp hp).elim (fun z => I.pin p (List.mem_append_left _ z)) (h p),I.hok,I.len⟩
theorem q8v {N : List Str} (hN : N.Nodup) {i j : Nat} {x : Str} (a : N[i]? = some x) (b : N[j]? = some x) : i = j := by
  obtain ⟨h1,e1⟩ := List.getElem?_eq_some_iff.mp a
  obtain ⟨h2,e2⟩ := List.getElem?_eq_some_iff.mp b
  exact (List.getElem_inj hN).mp (e1.trans e2.symm)
theorem qac {M : Model} {A : Around} {E : Value -> Shared -> Prop} {i : Nat} {x : Str} {v : V} {u : Value} {Q : Unit -> Shared -> Prop} (I : Inv X pins σ H s) (hN : X.N.Nodup) (hi : X.N[i]? = some x) (hx : Loc X.env.scope x) (r : RelV v u)
    (h : ∀ s',Inv X pins (σ.set i (some v)) H s' -> (∃ a,Heap.SameBut a s.heap s'.heap /\ (a = X.env.locals \/ X.env.cells.lookup x = some a)) -> Q () s') (hf : X.fn x = true \/ X.env.scope.names.lookup x = some .local := by first | exact .inl rfl | exact .inr rfl | assumption) : wpAny M A (storeName X.env x u) Q E s := by
  obtain ⟨m,hn,hl⟩ := id I.loc
  have hcls : (X.env.scope.kind == .class || (X.env.scope.kind == .module && X.env.locals != X.env.globals)) = false := by rw [I.ok.kind]; rfl
  have hiσ : i < σ.length := by rw [I.len]; exact (List.getElem?_eq_some_iff.mp hi).1
  have cne := I.cne
  have tracked : ∀ {a : Addr} {h' : Heap},(∃ o,s.heap.get? a = some o /\ H a = none) -> Heap.SameBut a s.heap h' -> HOk X.prog X.w H h' := fun {a h'} ha hs b ob e => by
    obtain ⟨_,_,hfree⟩ := ha
    refine (I.hok b ob e).stay (fun c w' hc q => (hs.2 c ?_).trans q) (fun _ q => q) fun _ _ q => q
    rintro rfl
    rcases hc with rfl | hc
    . rw [hfree] at e; cases e
    . rw [hfree] at hc; cases hc
  rcases hx with hk | hk
  . refine wpAny_storeName_local hk hn (fun h' hn' hs => ?_) hcls
    obtain ⟨oL,_,_,hoL,_⟩ := id hn
    refine h _ ⟨I.ok,I.os,I.bare,⟨fun b o e n hb hx => ?_,fun b o e n hb hx => ?_,I.base.free,fun b o e hx => ?_,I.base.tups,I.base.frzs,I.base.tbls⟩,⟨_,hn',fun j y v' e1 e2 e3 => ?_⟩,fun y c e => ?_,I.free,I.freeC,fun p hp => ?_,tracked ⟨oL,hoL,I.free⟩ hs,by simpa using I.len⟩ ⟨_,hs, .inl rfl⟩
    . exact (hs.2 b (Nat.ne_of_lt (Nat.lt_of_lt_of_le (Heap.lt_size e) I.ok.above))).trans (I.base.keep b o e n hb hx)
    . obtain ⟨sl,e1⟩ := I.base.slot b o e n hb hx
      exact ⟨sl,(hs.2 b (Nat.ne_of_lt (Nat.lt_of_lt_of_le (Heap.lt_size e) I.ok.above))).trans e1⟩
    . obtain ⟨o',e1⟩ := I.base.there b o e hx
      exact ⟨o',(hs.2 b (Nat.ne_of_lt (Nat.lt_of_lt_of_le (Heap.lt_size e) I.ok.above))).trans e1⟩
    . by_cases hj : j = i
      . subst hj
        rw [hi] at e1; cases e1
        rw [List.getElem?_set_self hiσ] at e2
        cases e2
        exact ⟨u,r, .inl ⟨hk,by simp⟩⟩
      . rw [List.getElem?_set_ne (Ne.symm hj)] at e2
        obtain ⟨u',r',q⟩ := hl j y v' e1 e2 e3
        refine ⟨u',r',?_⟩
        rcases q with ⟨k,e⟩ | ⟨k,c,e,z⟩
        . refine .inl ⟨k,?_⟩
          have : y ≠ x := fun e => hj (q8v hN e1 (e ▸ hi))
          simp [this,e]
        . exact .inr ⟨k,c,e,z.sameBut hs (cne y c e)⟩
    . obtain ⟨w',z⟩ := I.cell y c e
      exact ⟨w',z.sameBut hs (cne y c e)⟩
    . obtain ⟨e,n,ne,nf,d⟩ := I.pin p hp
      exact ⟨(hs.2 p.1 ne).trans e,n,ne,nf,d⟩
  . have hfn : X.fn x = true := by
      rcases hf with z | z
      . exact z
      . rw [z] at hk; cases hk
    obtain ⟨c,hc⟩ := I.ok.has x (.inl hk)
    obtain ⟨w',z⟩ := I.cell x c hc
    refine wpAny_storeName_cell I.ok.kind hk hc z (fun h' hc' hs => ?_)
    obtain ⟨oc,hoc,hocd⟩ := id z
    refine h { s with heap := h' } ⟨I.ok,I.os,I.bare,⟨fun b o e n hb hx => ?_,fun b o e n hb hx => ?_,I.base.free,fun b o e hx => ?_,I.base.tups,I.base.frzs,I.base.tbls⟩,⟨m,hn.sameBut hs (Ne.symm (cne x c hc)),fun j y v' e1 e2 e3 => ?_⟩,fun y c' e => ?_,I.free,I.freeC,fun p hp => ?_,tracked ⟨oc,hoc,I.freeC x c hc⟩ hs,by simpa using I.len⟩ ⟨c,hs, .inr hc⟩
    . exact (hs.2 b (Nat.ne_of_lt (Nat.lt_of_lt_of_le (Heap.lt_size e) (I.ok.cab x c hfn hc)))).trans (I.base.keep b o e n hb hx)
    . obtain ⟨sl,e1⟩ := I.base.slot b o e n hb hx
      exact ⟨sl,(hs.2 b (Nat.ne_of_lt (Nat.lt_of_lt_of_le (Heap.lt_size e) (I.ok.cab x c hfn hc)))).trans e1⟩
    . obtain ⟨o',e1⟩ := I.base.there b o e hx
      exact ⟨o',(hs.2 b (Nat.ne_of_lt (Nat.lt_of_lt_of_le (Heap.lt_size e) (I.ok.cab x c hfn hc)))).trans e1⟩
    . by_cases hj : j = i
      . subst hj
        rw [hi] at e1; cases e1
        rw [List.getElem?_set_self hiσ] at e2
        cases e2
        exact ⟨u,r, .inr ⟨.inl hk,c,hc,hc'⟩⟩
      . rw [List.getElem?_set_ne (Ne.symm hj)] at e2
        obtain ⟨u',r',q⟩ := hl j y v' e1 e2 e3
        refine ⟨u',r',?_⟩
        rcases q with q | ⟨k,c',e,z'⟩
        . exact .inl q
        . refine .inr ⟨k,c',e,z'.sameBut hs ?_⟩
          rintro rfl
          exact hj (q8v hN e1 (I.ok.inj _ _ _ e hc ▸ hi))
    . by_cases hcc : c' = c
      . subst hcc; exact ⟨_,hc'⟩
      . obtain ⟨w2,z2⟩ := I.cell y c' e
        exact ⟨w2,z2.sameBut hs hcc⟩
    . obtain ⟨e,n,ne,nf,d⟩ := I.pin p hp
      refine ⟨(hs.2 p.1 ?_).trans e,n,ne,nf,d⟩
      intro q
      rw [q,hoc] at e
      have q' : oc = p.2 := Option.some.inj e
      exact d w' (by rw [<- q']; exact hocd)
theorem q7f {M : Model} {A : Around} {E : Value -> Shared -> Prop} {i : Nat} {x : Str} {v : V} {u : Value} {Q : Unit -> Shared -> Prop} (I : Inv X pins σ H s) (hN : X.N.Nodup) (hi : X.N[i]? = some x) (hx : Loc X.env.scope x) (r : RelV v u)
    (h : ∀ s',Inv X pins (σ.set i (some v)) H s' -> Q () s') (hf : X.fn x = true \/ X.env.scope.names.lookup x = some .local := by first | exact .inl rfl | exact .inr rfl | assumption) : wpAny M A (storeName X.env x u) Q E s :=
  qac I hN hi hx r (fun s' I' _ => h s' I') hf
theorem Inv.qcy {s' : Shared} {ch : List Addr} (I : Inv X pins σ H s) (ho : s'.os = s.os) (u : Un (frs X.stack) ch H H' s.heap s'.heap) (hok : HOk X.prog X.w H' s'.heap) (hg : AllBare s'.gens)
    (hch : ∀ b ∈ ch,(b ∈ X.ex \/ X.s₀.heap.objs.size <= b) /\ b ≠ X.env.locals /\ (∀ x c,X.env.cells.lookup x = some c -> c ≠ b) /\ ∀ p ∈ X.pn ++ pins,p.1 ≠ b) : Inv X pins σ H' s' := by
  obtain ⟨h',g',d',t',o'⟩ := s'
  have e : o' = s.os := ho
  subst e
  exact I.call (g' := g') (t' := t') (d' := d') u hok hg hch
end
abbrev XK := Value -> Option Addr -> Hp -> Prop
abbrev St := List (Option V)
abbrev VK := V -> Hp -> Prop
abbrev TE := St -> Hp -> VK -> Prop
abbrev TT := St -> Hp -> (Bool -> Hp -> Prop) -> Prop
abbrev TA := St -> Hp -> (List V -> Hp -> Prop) -> Prop
structure Ends where
  nx : St -> Hp -> Prop
  rt : VK
  bk : St -> Hp -> Prop := fun _ _ => False
  ct : St -> Hp -> Prop := fun _ _ => False
abbrev TS := Ends -> St -> Hp -> Prop
def EP (X : Cx) (pins : List (Addr × Obj)) (σ : St) (Q : VK) (u : Value) (s' : Shared) : Prop := ∃ v H',Inv X pins σ H' s' /\ RelV v u /\ Q v H'
def TP (X : Cx) (pins : List (Addr × Obj)) (σ : St) (Q : Bool -> Hp -> Prop) (b : Bool) (s' : Shared) : Prop := ∃ H',Inv X pins σ H' s' /\ Q b H'
def AP (X : Cx) (pins : List (Addr × Obj)) (σ : St) (Q : List V -> Hp -> Prop) (us : List Value) (s' : Shared) : Prop := ∃ vs H',Inv X pins σ H' s' /\ Vals vs us /\ Q vs H'
def SP (X : Cx) (pins : List (Addr × Obj)) (D : Ends) (f : Flow) (s' : Shared) : Prop :=
  match f with
  | .next => ∃ σ' H',Inv X pins σ' H' s' /\ D.nx σ' H'
  | .brk => ∃ σ' H',Inv X pins σ' H' s' /\ D.bk σ' H'
  | .cont => ∃ σ' H',Inv X pins σ' H' s' /\ D.ct σ' H'
  | .ret u => ∃ v σ' H',Inv X pins σ' H' s' /\ RelV v u /\ D.rt v H'
def PE (X : Cx) (e : Expr) (t : TE) : Prop :=
  ∀ (pins : List (Addr × Obj)) (s : Shared) (σ : St) (H : Hp) (Q : VK),Inv X pins σ H s -> t σ H Q -> wpAny (model X.prog X.w) X.A (eval e X.env) (EP X pins σ Q) X.xe s
def PT (X : Cx) (e : Expr) (t : TT) : Prop :=
  ∀ (pins : List (Addr × Obj)) (s : Shared) (σ : St) (H : Hp) (Q : Bool -> Hp -> Prop),Inv X pins σ H s -> t σ H Q -> wpAny (model X.prog X.w) X.A (isTrue e X.env (eval e X.env)) (TP X pins σ Q) X.xe s
def PW (X : Cx) (e : Expr) (t : TT) : Prop :=
  ∀ (whole : Sem Value) (pins : List (Addr × Obj)) (s : Shared) (σ : St) (H : Hp) (Q : Bool -> Hp -> Prop),Inv X pins σ H s -> t σ H Q -> wpAny (model X.prog X.w) X.A (isTrue e X.env whole) (TP X pins σ Q) X.xe s
theorem PW.pt {X : Cx} {e : Expr} {t : TT} (h : PW X e t) : PT X e t := h _
def PA (X : Cx) (es : List Expr) (t : TA) : Prop :=
  ∀ (pos : Pos) (pins : List (Addr × Obj)) (s : Shared) (σ : St) (H : Hp) (Q : List V -> Hp -> Prop),Inv X pins σ H s -> t σ H Q -> wpAny (model X.prog X.w) X.A (spliced (backTo pos (starEach es X.env))) (AP X pins σ Q) X.xe s
def PS (X : Cx) (st : Stmt) (t : TS) : Prop :=
  ∀ (pins : List (Addr × Obj)) (s : Shared) (σ : St) (H : Hp) (D : Ends),Inv X pins σ H s -> t D σ H -> wpAny (model X.prog X.w) X.A (exec st X.env) (SP X pins D) X.xe s
def PSs (X : Cx) (st : List Stmt) (t : TS) : Prop :=
  ∀ (pins : List (Addr × Obj)) (s : Shared) (σ : St) (H : Hp) (D : Ends),Inv X pins σ H s -> t D σ H -> wpAny (model X.prog X.w) X.A (execs st X.env) (SP X pins D) X.xe s
theorem thn {α : Type} {t : Sem α} {Q Q' : α -> Shared -> Prop} {M : Model} {A : Around} {E : Value -> Shared -> Prop} {s : Shared} (h : wpAny M A t Q E s) (hQ : ∀ a s,Q a s -> Q' a s) : wpAny M A t Q' E s := wpAny_mono h hQ fun _ _ x => x
end L2
namespace L2
open PySem PySem.Spec PyProof.Rows
section
variable {X : Cx}
theorem bin {a b : Expr} {ta tb : TE} (ha : PE X a ta) (hb : PE X b tb) {pins : List (Addr × Obj)} {s : Shared} {σ : St} {H : Hp} {R : V -> V -> Hp -> Prop} (I : Inv X pins σ H s) (h : ta σ H fun x H1 => tb σ H1 fun y H2 => R x y H2)
    {α : Type} {Q : α -> Shared -> Prop} {f : Value -> Value -> Sem α}
    (hf : ∀ v u s2 x y H2,Inv X pins σ H2 s2 -> RelV x v -> RelV y u -> R x y H2 -> wpAny (model X.prog X.w) X.A (f v u) Q X.xe s2) :
    wpAny (model X.prog X.w) X.A (eval a X.env) (fun v s₁ => wpAny (model X.prog X.w) X.A (eval b X.env) (fun u s₂ => wpAny (model X.prog X.w) X.A (f v u) Q X.xe s₂) X.xe s₁) X.xe s := by
  refine thn (ha pins s σ H _ I h) fun v s1 ⟨x,H1,I1,r1,q1⟩ => ?_
  refine thn (hb pins s1 σ H1 _ I1 q1) fun u s2 ⟨y,H2,I2,r2,q2⟩ => ?_
  exact hf v u s2 x y H2 I2 r1 r2 q2
def tVar (i : Nat) : TE := fun σ H Q => ∃ v, σ[i]? = some (some v) /\ Q v H
def tC (v : V) : TE := fun _ H Q => Q v H
theorem pe_var {i : Nat} {x : Str} {pos : Pos} (hN : X.N[i]? = some x) (hv : Vis X.env.scope x) (hd : (x == ("__debug__" : Str)) = false := by decide) (hcd : (x == ("__classdict__" : Str)) = false := by decide) : PE X (.Name x pos) (tVar i) := by
  intro pins s σ H Q I h
  obtain ⟨v,e,h⟩ := h
  obtain ⟨m,hn,hl⟩ := I.loc
  obtain ⟨u,r,l⟩ := hl i x v hN e hv
  have fin : EP X pins σ Q u s := ⟨v,H,I,r,h⟩
  rcases l with ⟨hk,hm⟩ | ⟨hk,c,hc,hcell⟩
  . exact wpAny_Name (wpAny_loadName_local I.ok.kind hk hn hm fin) hd
  . rcases hk with hk | hk
    . exact wpAny_Name (wpAny_loadName_cell I.ok.kind hk hc hcell fin) hd
    . exact wpAny_Name (wpAny_loadName_free I.ok.kind hk hc hcell fin hcd) hd
theorem q1n {i j pos} : PE X (.Constant (.int i) j pos) (tC (.int i)) := fun _ _ _ H _ I h => wpAny_Constant_int ⟨.int i,H,I.tok _,⟨_,rfl⟩,h⟩
theorem q52 {b j pos} : PE X (.Constant (.bool b) j pos) (tC (.bl b)) := fun _ _ _ H _ I h => Constant_bool ⟨.bl b,H,I,rfl,h⟩
theorem pe_non {j pos} : PE X (.Constant .none j pos) (tC .non) := fun _ _ _ H _ I h => Constant_none ⟨.non,H,I,rfl,h⟩
theorem q1h {x j pos} : PE X (.Constant (.str x) j pos) (tC (.str x)) := fun _ _ _ H _ I h => Calls.Constant_str ⟨.str x,H,I.tok _,⟨_,rfl⟩,h⟩
def Gl (X : Cx) (x : Str) : Prop := X.env.kindOf x = some .globalImplicit
theorem q56 {E : Value -> Shared -> Prop} {pins : List (Addr × Obj)} {s : Shared} {σ : St} {H : Hp} {x : Str} {u : Value} {pos : Pos} {Q : Value -> Shared -> Prop} (I : Inv X pins σ H s) (hg : Gl X x) (hm : X.mg x = some u) (h : Q u s)
    (hd : (x == ("__debug__" : Str)) = false := by decide) : wpAny (model X.prog X.w) X.A (eval (.Name x pos) X.env) Q E s :=
  Calls.Name_function_global I.ok.kind hg (Calls.loadGlobal_global (by rw [I.ok.glob]; exact I.mod.glob.keeps I.bk) hm h) hd
theorem q8y {E : Value -> Shared -> Prop} {pins : List (Addr × Obj)} {s : Shared} {σ : St} {H : Hp} {x : Str} {u : Value} {pos : Pos} {Q : Value -> Shared -> Prop} (I : Inv X pins σ H s) (hg : Gl X x) (hm : X.mg x = none) (hv : bootBuiltins x = some u) (h : Q u s)
    (hn : x ≠ "__name__" := by decide) (hd : (x == ("__debug__" : Str)) = false := by decide) : wpAny (model X.prog X.w) X.A (eval (.Name x pos) X.env) Q E s := by
  obtain ⟨mb,h1,h2⟩ := I.mod.blt
  exact Calls.Name_function_global I.ok.kind hg (Calls.loadGlobal_builtin (by rw [I.ok.glob]; exact I.mod.glob.keeps I.bk) hm (by rw [I.ok.blt]; exact h1.keeps I.bk) ((h2 x hn).trans hv) h) hd
theorem q40 {x : Str} {v : V} {u : Value} {pos : Pos} (hg : Gl X x) (hm : X.mg x = some u) (r : RelV v u) (hd : (x == ("__debug__" : Str)) = false := by decide) : PE X (.Name x pos) (tC v) :=
  fun _ _ _ H _ I h => q56 I hg hm ⟨v,H,I,r,h⟩ hd
theorem q3u {x : Str} {v : V} {u : Value} {pos : Pos} (hg : Gl X x) (hm : X.mg x = none) (hv : bootBuiltins x = some u) (r : RelV v u) (hn : x ≠ "__name__" := by decide) (hd : (x == ("__debug__" : Str)) = false := by decide) : PE X (.Name x pos) (tC v) :=
  fun _ _ _ H _ I h => q8y I hg hm hv ⟨v,H,I,r,h⟩ hn hd
variable {a b : Expr} {ta tb : TE} {pos : Pos}
def PC (X : Cx) (op : CmpOp) (a b : Expr) (t : TE) : Prop :=
  ∀ (pins : List (Addr × Obj)) (s : Shared) (σ : St) (H : Hp) (Q : VK),Inv X pins σ H s -> t σ H Q ->
    wpAny (model X.prog X.w) X.A (eval a X.env) (fun v s₁ => wpAny (model X.prog X.w) X.A (eval b X.env) (fun u s₂ => wpAny (model X.prog X.w) X.A (compareOp op v u) (EP X pins σ Q) X.xe s₂) X.xe s₁) X.xe s
theorem qga (b : Expr) {op : CmpOp} (h : op ≠ .In) (h2 : op ≠ .NotIn) : behindInMarks op b = false := by
  have e1 : (op == CmpOp.In) = false := by cases op <;> first | rfl | exact absurd rfl h
  have e2 : (op == CmpOp.NotIn) = false := by cases op <;> first | rfl | exact absurd rfl h2
  cases b <;> simp [behindInMarks,e1,e2]
def tIsN (ta : TE) : TE := fun σ H Q => ta σ H fun x H1 => Q (.bl (decide (x = .non))) H1
def tNotN (ta : TE) : TE := fun σ H Q => ta σ H fun x H1 => Q (.bl (!decide (x = .non))) H1
theorem RelV.qbp {x : V} {v : Value} (r : RelV x v) : (v == Value.none) = decide (x = .non) := by
  cases x with
  | non => cases r; rfl
  | bl _ => cases r; rfl
  | int _ => obtain ⟨t,rfl⟩ := r; rfl
  | str _ => obtain ⟨t,rfl⟩ := r; rfl
  | byt _ => obtain ⟨t,rfl⟩ := r; rfl
  | flt _ => obtain ⟨t,rfl⟩ := r; rfl
  | ref _ => cases r; rfl
  | ty _ => cases r; rfl
theorem qe9 {j pos'} (ha : PE X a ta) : PC X .Is a (.Constant .none j pos') (tIsN ta) := by
  intro pins s σ H Q I h
  refine thn (ha pins s σ H _ I h) fun v s1 ⟨x,H1,I1,r1,q1⟩ => ?_
  exact Constant_none (is_none_gen ⟨.bl _,H1,I1,by rw [r1.qbp]; rfl,q1⟩)
theorem qh7 {j pos'} (ha : PE X a ta) : PC X .IsNot a (.Constant .none j pos') (tNotN ta) := by
  intro pins s σ H Q I h
  refine thn (ha pins s σ H _ I h) fun v s1 ⟨x,H1,I1,r1,q1⟩ => ?_
  exact Constant_none (isnot_none_gen ⟨.bl _,H1,I1,by rw [r1.qbp]; rfl,q1⟩)
def tB (t : TE) : TT := fun σ H Q => t σ H fun x H1 => ∃ c,x = .bl c /\ Q c H1
theorem q9a {op : CmpOp} {t : TE} (h : PC X op a b t) (h1 : behindInMarks op b = false := by first | exact qga _ (by decide) (by decide) | rfl) : PT X (.Compare a [op] [b] pos) (tB t) := by
  intro pins s σ H Q I hw
  refine wpAny_isTrue_Compare1 (thn (h pins s σ H _ I hw) fun v s1 h1 => thn h1 fun u s2 h2 => thn h2 fun c s3 ⟨x,H1,I1,r1,q1⟩ => ?_) h1
  obtain ⟨d,rfl,q⟩ := q1
  cases r1
  exact wpAny_truthy_bool ⟨H1,I1,q⟩
theorem q4d {e : Expr} {t : TE} (h : PE X e t) (he : ∀ whole,isTrue e X.env whole = (do let v <- whole; standAt e.pos; holding [v] (truthy v)) := by intro _; rfl) : PT X e (tB t) := by
  intro pins s σ H Q I hw
  refine isTrue_plain (thn (h pins s σ H _ I hw) fun v s1 ⟨x,H1,I1,r1,q1⟩ => ?_) (he _)
  obtain ⟨d,rfl,q⟩ := q1
  cases r1
  exact wpAny_truthy_bool ⟨H1,I1,q⟩
variable {tA tB' : TT} {rest : List Expr}
def tAnd (t u : TT) : TT := fun σ H Q => t σ H fun c H1 => if c = true then u σ H1 Q else Q false H1
def tOr (t u : TT) : TT := fun σ H Q => t σ H fun c H1 => if c = true then Q true H1 else u σ H1 Q
def tNot (t : TT) : TT := fun σ H Q => t σ H fun c H1 => Q (!c) H1
theorem q8a (ha : PT X a tA) : PW X (.BoolOp .And [a] pos) tA := by
  intro wh pins s σ H Q I h
  refine isTrue_and (thn (ha pins s σ H Q I h) fun c s1 e => ?_)
  cases c with
  | true => exact isTrue_and_nil e
  | false => exact e
theorem q9n (ha : PT X a tA) : PW X (.BoolOp .Or [a] pos) tA := by
  intro wh pins s σ H Q I h
  refine isTrue_or (thn (ha pins s σ H Q I h) fun c s1 e => ?_)
  cases c with
  | false => exact isTrue_or_nil e
  | true => exact e
theorem q84 (ha : PT X a tA) (hb : PW X (.BoolOp .And (b :: rest) pos) tB') : PW X (.BoolOp .And (a :: b :: rest) pos) (tAnd tA tB') := by
  intro wh pins s σ H Q I h
  refine isTrue_and (thn (ha pins s σ H _ I h) fun c s1 ⟨H1,I1,q1⟩ => ?_)
  cases c with
  | true => exact hb wh pins s1 σ H1 Q I1 q1
  | false => exact ⟨H1,I1,q1⟩
theorem qat (ha : PT X a tA) (hb : PW X (.BoolOp .Or (b :: rest) pos) tB') : PW X (.BoolOp .Or (a :: b :: rest) pos) (tOr tA tB') := by
  intro wh pins s σ H Q I h
  refine isTrue_or (thn (ha pins s σ H _ I h) fun c s1 ⟨H1,I1,q1⟩ => ?_)
  cases c with
  | true => exact ⟨H1,I1,q1⟩
  | false => exact hb wh pins s1 σ H1 Q I1 q1
theorem q6v (ha : PT X a tA) : PT X (.UnaryOp .Not a pos) (tNot tA) := by
  intro pins s σ H Q I h
  exact isTrue_not (ha pins s σ H (fun c H1 => Q (!c) H1) I h)
def tAndV (ta tb : TE) : TE := fun σ H Q => ta σ H fun x H1 => ∃ c,x = .bl c /\ if c = true then tb σ H1 Q else Q (.bl false) H1
def tOrV (ta tb : TE) : TE := fun σ H Q => ta σ H fun x H1 => ∃ c,x = .bl c /\ if c = true then Q (.bl true) H1 else tb σ H1 Q
def tNotV (ta : TE) : TE := fun σ H Q => ta σ H fun x H1 => ∃ c,x = .bl c /\ Q (.bl (!c)) H1
theorem q6y {op} {t : TE} (h : PE X a t) : PE X (.BoolOp op [a] pos) t := fun pins s σ H Q I hw => BoolOp_one (h pins s σ H Q I hw)
theorem q7e (ha : PE X a ta) (hb : PE X (.BoolOp .And (b :: rest) pos) tb) : PE X (.BoolOp .And (a :: b :: rest) pos) (tAndV ta tb) := by
  intro pins s σ H Q I h
  refine BoolOp_and (thn (ha pins s σ H _ I h) fun v s1 ⟨x,H1,I1,r1,q1⟩ => ?_)
  obtain ⟨c,rfl,q1⟩ := q1
  cases r1
  refine wpAny_truthy_bool ?_
  cases c with
  | true => exact hb pins s1 σ H1 Q I1 q1
  | false => exact ⟨.bl false,H1,I1,rfl,q1⟩
theorem pe_or (ha : PE X a ta) (hb : PE X (.BoolOp .Or (b :: rest) pos) tb) : PE X (.BoolOp .Or (a :: b :: rest) pos) (tOrV ta tb) := by
  intro pins s σ H Q I h
  refine BoolOp_or (thn (ha pins s σ H _ I h) fun v s1 ⟨x,H1,I1,r1,q1⟩ => ?_)
  obtain ⟨c,rfl,q1⟩ := q1
  cases r1
  refine wpAny_truthy_bool ?_
  cases c with
  | false => exact hb pins s1 σ H1 Q I1 q1
  | true => exact ⟨.bl true,H1,I1,rfl,q1⟩
theorem pe_not (ha : PE X a ta) : PE X (.UnaryOp .Not a pos) (tNotV ta) := by
  intro pins s σ H Q I h
  refine UnaryOp_ (thn (ha pins s σ H _ I h) fun v s1 ⟨x,H1,I1,r1,q1⟩ => ?_)
  obtain ⟨c,rfl,q1⟩ := q1
  cases r1
  exact not_of (wpAny_truthy_bool ⟨.bl (!c),H1,I1,rfl,q1⟩)
end
end L2
namespace L2
open PySem PySem.Spec PyProof.Rows
def SqL (K : PySem.W.Frag) (H : Hp) (a : Addr) (xs : List V) : Prop :=
  Rd H a (.lst xs) \/
    ∃ (o : Obj) (its : Array Value) (n : Nat),K.lookup a = some o /\ o.cls = .type "list" /\ o.dict = none /\ o.data = .seq its n /\ its.size <= sizeLine /\ Vals xs its.toList
def SqT (K : PySem.W.Frag) (H : Hp) (a : Addr) (xs : List V) : Prop :=
  Rd H a (.tup xs) \/
    ∃ (o : Obj) (its : Array Value) (n : Nat),K.lookup a = some o /\ o.cls = .type "tuple" /\ o.data = .seq its n /\ its.size <= sizeLine /\ Vals xs its.toList
def absV : Value -> Option V
  | .none => some .non
  | .bool b => some (.bl b)
  | .int i _ => some (.int i)
  | .str x _ => some (.str x)
  | .bytes b _ => some (.byt b)
  | .float b _ => some (.flt b)
  | .ref a => some (.ref a)
  | .type n => some (.ty n)
  | _ => none
theorem RelV.abs {x : V} {u : Value} (r : RelV x u) : absV u = some x := by
  cases x with
  | non => cases r; rfl
  | bl _ => cases r; rfl
  | int _ => obtain ⟨t,rfl⟩ := r; rfl
  | str _ => obtain ⟨t,rfl⟩ := r; rfl
  | byt _ => obtain ⟨t,rfl⟩ := r; rfl
  | flt _ => obtain ⟨t,rfl⟩ := r; rfl
  | ref _ => cases r; rfl
  | ty _ => cases r; rfl
theorem RelV.inj {x y : V} {u : Value} (r : RelV x u) (q : RelV y u) : x = y := Option.some.inj (r.abs.symm.trans q.abs)
theorem Vals.inj : ∀ {xs ys : List V} {us : List Value},Vals xs us -> Vals ys us -> xs = ys
  | _,_,_, .nil, .nil => rfl
  | _,_,_, .cons r t, .cons r' t' => by rw [r.inj r',Vals.inj t t']
section
variable {X : Cx} {pins : List (Addr × Obj)} {σ : St} {H : Hp} {s : Shared} {a : Addr} {xs ys : List V}
theorem SqT.of {K : PySem.W.Frag} (h : H a = some (.tup xs)) : SqT K H a xs := .inl (.inl h)
theorem Inv.list (I : Inv X pins σ H s) (h : SqL X.K H a xs) : ∃ its : List Value,Vals xs its /\ PlainL s.heap a its.toArray /\ xs.length <= sizeLine := by
  rcases h with h | ⟨o,its,n,hk,hc,hd,hs,hz,r⟩
  . obtain ⟨z,its,n,r,e⟩ := h.ok I.hok
    exact ⟨its,r,⟨_,n,e,rfl,rfl,rfl⟩,z⟩
  . refine ⟨its.toList,r,⟨o,n,I.kIn a o hk,hc,hd,by simpa using hs⟩,?_⟩
    have e := r.length
    simp only [Array.length_toList] at e
    omega
theorem Inv.tuple (I : Inv X pins σ H s) (h : SqT X.K H a xs) : ∃ its : List Value,Vals xs its /\ IsTup s.heap a its.toArray /\ xs.length <= sizeLine := by
  rcases h with h | ⟨o,its,n,hk,hc,hs,hz,r⟩
  . obtain ⟨z,its,r,p⟩ := h.ok I.hok
    exact ⟨its,r,p,z⟩
  . refine ⟨its.toList,r,⟨o,I.kIn a o hk,hc,n,by simpa using hs⟩,?_⟩
    have e := r.length
    simp only [Array.length_toList] at e
    omega
theorem Inv.qb8 (I : Inv X pins σ H s) (h : SqL X.K H a xs) (h' : SqL X.K H a ys) : xs = ys := by
  obtain ⟨its,r,⟨o,n,e,_,_,d⟩,_⟩ := I.list h
  obtain ⟨its',r',⟨o',n',e',_,_,d'⟩,_⟩ := I.list h'
  rw [e] at e'; cases e'
  rw [d] at d'
  injection d' with d1 _
  have : its = its' := by simpa using congrArg Array.toList d1
  subst this
  exact r.inj r'
end
abbrev Cx.wish (X : Cx) (E : Value -> Shared -> Prop) : Cx := { X with xe := E }
abbrev Cx.nox (X : Cx) : Cx := X.wish fun _ _ => False
theorem Cx.Ok.wish {X : Cx} (ok : X.Ok) (E : Value -> Shared -> Prop) : (X.wish E).Ok :=
  ⟨ok.mod,ok.kind,ok.glob,ok.blt,ok.above,ok.inj,ok.has,ok.cab,ok.hd,ok.frames,ok.stk,ok.exf,ok.bs,ok.bsz,ok.noex,ok.exfs,ok.funs,ok.frf⟩
theorem Cx.Ok.q4x {X : Cx} {E : Value -> Shared -> Prop} (ok : (X.wish E).Ok) : X.Ok :=
  ⟨ok.mod,ok.kind,ok.glob,ok.blt,ok.above,ok.inj,ok.has,ok.cab,ok.hd,ok.frames,ok.stk,ok.exf,ok.bs,ok.bsz,ok.noex,ok.exfs,ok.funs,ok.frf⟩
section
variable {X : Cx} {pins : List (Addr × Obj)} {σ : St} {H : Hp} {s : Shared} {E : Value -> Shared -> Prop}
theorem Inv.wish (I : Inv X pins σ H s) (E : Value -> Shared -> Prop) : Inv (X.wish E) pins σ H s := ⟨I.ok.wish E,I.os,I.bare,I.base,I.loc,I.cell,I.free,I.freeC,I.pin,I.hok,I.len⟩
theorem Inv.q4x (I : Inv (X.wish E) pins σ H s) : Inv X pins σ H s := ⟨I.ok.q4x,I.os,I.bare,I.base,I.loc,I.cell,I.free,I.freeC,I.pin,I.hok,I.len⟩
theorem SP.q4x {D : Ends} {f : Flow} {s' : Shared} (h : SP (X.wish E) pins D f s') : SP X pins D f s' := by
  cases f with
  | next => obtain ⟨σ',H',I,q⟩ := h; exact ⟨σ',H',I.q4x,q⟩
  | brk => obtain ⟨σ',H',I,q⟩ := h; exact ⟨σ',H',I.q4x,q⟩
  | cont => obtain ⟨σ',H',I,q⟩ := h; exact ⟨σ',H',I.q4x,q⟩
  | ret u => obtain ⟨v, σ',H',I,r,q⟩ := h; exact ⟨v, σ',H',I.q4x,r,q⟩
theorem PSs.nox {st : List Stmt} {t : TS} (h : PSs X.nox st t) : PSs X st t := fun pins s σ H D I hw =>
  wpAny_mono (h pins s σ H D (I.wish _) hw) (fun _ _ q => q.q4x) fun _ _ z => False.elim z
end
section
variable {X : Cx} {st : Stmt} {rest : List Stmt} {t u : TS} {e : Expr} {te : TE} {pos : Pos}
def tNext : TS := fun D σ H => D.nx σ H
def tSeq (t u : TS) : TS := fun D σ H => t { D with nx := u D } σ H
theorem q2n : PSs X [] tNext := fun _ _ σ H _ I h => wpAny_execs_nil ⟨σ,H,I,h⟩
theorem q1f (h1 : PS X st t) (h2 : PSs X rest u) : PSs X (st :: rest) (tSeq t u) := by
  intro pins s σ H D I h
  refine wpAny_execs_cons (thn (h1 pins s σ H { D with nx := u D } I h) fun f s1 q => ?_)
  cases f with
  | next =>
    obtain ⟨σ',H',I',q⟩ := q
    exact h2 pins s1 σ' H' D I' q
  | ret v => exact q
  | brk => exact q
  | cont => exact q
theorem q1i (h1 : PS X st t) : PSs X [st] t := by
  intro pins s σ H D I h
  refine wpAny_execs_cons (thn (h1 pins s σ H D I h) fun f s1 q => ?_)
  cases f with
  | next => exact wpAny_execs_nil q
  | ret v => exact q
  | brk => exact q
  | cont => exact q
theorem Inv.quiet {pins : List (Addr × Obj)} {σ : St} {H : Hp} {s : Shared} (I : Inv X pins σ H s) : interactive X.env = false := by simp [interactive,I.ok.kind]
def tDrop (te : TE) : TS := fun D σ H => te σ H fun _ H1 => D.nx σ H1
theorem q1q (he : PE X e te) (hs : swapsWith e none pos.line X.env = pure false := by rfl) : PS X (.Expr e pos) (tDrop te) := by
  intro pins s σ H D I h
  exact wpAny_Expr_any (thn (he pins s σ H _ I h) fun v s1 ⟨x,H1,I1,r1,q1⟩ => ⟨σ,H1,I1,q1⟩) I.quiet hs
def tRet (te : TE) : TS := fun D σ H => te σ H D.rt
theorem q3c (he : PE X e te) : PS X (.Return (some e) pos) (tRet te) := by
  intro pins s σ H D I h
  exact wpAny_Return_some (thn (he pins s σ H _ I h) fun v s1 ⟨x,H1,I1,r1,q1⟩ => ⟨x, σ,H1,I1,r1,q1⟩)
def tIfS (c : TT) (t u : TS) : TS := fun D σ H => c σ H fun b H1 => if b = true then t D σ H1 else u D σ H1
theorem q39 {c : Expr} {a b : List Stmt} {tc : TT} (hc : PT X c tc) (ha : PSs X a t) (hb : PSs X b u) : PS X (.If c a b pos) (tIfS tc t u) := by
  intro pins s σ H D I h
  refine wpAny_If (thn (hc pins s σ H _ I h) fun d s1 ⟨H1,I1,q1⟩ => ?_)
  cases d with
  | true => exact ha pins s1 σ H1 D I1 q1
  | false => exact hb pins s1 σ H1 D I1 q1
end
abbrev TG := V -> St -> Hp -> (St -> Hp -> Prop) -> Prop
abbrev TGs := List V -> St -> Hp -> (St -> Hp -> Prop) -> Prop
def PG (X : Cx) (target : Expr) (t : TG) : Prop :=
  ∀ (pins : List (Addr × Obj)) (s : Shared) (σ : St) (H : Hp) (v : V) (u : Value) (Q : St -> Hp -> Prop),Inv X pins σ H s -> RelV v u -> t v σ H Q ->
    wpAny (model X.prog X.w) X.A (assign target X.env u) (fun _ s' => ∃ σ' H',Inv X pins σ' H' s' /\ Q σ' H') X.xe s
def PGs (X : Cx) (ts : List Expr) (t : TGs) : Prop :=
  ∀ (pins : List (Addr × Obj)) (s : Shared) (σ : St) (H : Hp) (vs : List V) (us : List Value) (Q : St -> Hp -> Prop),Inv X pins σ H s -> Vals vs us -> t vs σ H Q ->
    wpAny (model X.prog X.w) X.A (assignInOrder ((assignEach ts X.env).map (·.2)) us) (fun _ s' => ∃ σ' H',Inv X pins σ' H' s' /\ Q σ' H') X.xe s
section
variable {X : Cx} {pos : Pos}
def q7m (i : Nat) : TG := fun v σ H Q => Q (σ.set i (some v)) H
theorem q25 {i : Nat} {x : Str} (hN : X.N.Nodup) (hi : X.N[i]? = some x) (hx : Loc X.env.scope x) (hf : X.fn x = true \/ X.env.scope.names.lookup x = some .local := by first | exact .inl rfl | exact .inr rfl | assumption) : PG X (.Name x pos) (q7m i) := by
  intro pins s σ H v u Q I r h
  exact wpAny_assign_Name (q7f I hN hi hx r (fun s' I' => ⟨_,H,I',h⟩) hf)
def gNil : TGs := fun vs σ H Q => vs = [] /\ Q σ H
def qdg (t : TG) (u : TGs) : TGs := fun vs σ H Q => ∃ v r,vs = v :: r /\ t v σ H fun σ' H' => u r σ' H' Q
theorem q5a : PGs X [] gNil := by
  intro pins s σ H vs us Q I r h
  obtain ⟨e,h⟩ := h
  subst e
  cases r
  exact assignInOrder_nil ⟨σ,H,I,h⟩
theorem q2o {e : Expr} {es : List Expr} {t : TG} {u : TGs} (h1 : PG X e t) (h2 : PGs X es u)
    (hs : (assignEach (e :: es) X.env).map (·.2) = assign e X.env :: (assignEach es X.env).map (·.2) := by rfl) : PGs X (e :: es) (qdg t u) := by
  intro pins s σ H vs us Q I r h
  obtain ⟨v,vr,e1,h⟩ := h
  subst e1
  cases r with
  | cons r rr =>
    rw [hs]
    refine assignInOrder_cons (thn (h1 pins s σ H _ _ _ I r h) fun _ s1 ⟨σ1,H1,I1,q1⟩ => ?_)
    exact h2 pins s1 σ1 H1 _ _ Q I1 rr q1
def gTup (K : PySem.W.Frag) (n : Nat) (t : TGs) : TG := fun v σ H Q => ∃ a xs,v = .ref a /\ SqT K H a xs /\ xs.length = n /\ t xs σ H Q
theorem qc3 {es : List Expr} {k : Nat} {t : TGs} {n : Nat} (hc : X.calm = true) (h : PGs X es t)
    (hn : (assignEach es X.env).length = n := by rfl) (hst : (assignEach es X.env).findIdx? (·.1) = none := by rfl) : PG X (.Tuple es k pos) (gTup X.K n t) := by
  intro pins s σ H v u Q I r hw
  obtain ⟨a,xs,e1,hq,hl,hw⟩ := hw
  subst e1
  cases r
  obtain ⟨its,rv,ht,hz⟩ := I.tuple hq
  refine assign_Tuple_tuple (I.ok.hd hc) ht (by simp [hn, <- hl,rv.length]) hst fun h' hx => ?_
  have I1 : Inv X pins σ H { s with heap := h' } := I.kept (t' := s.toks) fun b o e => hx b o (Nat.ne_of_lt (Heap.lt_size e)) e
  exact h pins _ σ H xs _ Q I1 (by simpa using rv) hw
def tAsg (te : TE) (g : TG) : TS := fun D σ H => te σ H fun x H1 => g x σ H1 D.nx
theorem q2g {i : Nat} {x : Str} {e : Expr} {te : TE} {pos' : Pos} (hN : X.N.Nodup) (hi : X.N[i]? = some x) (hx : Loc X.env.scope x) (he : PE X e te) (hs : swapsWith e (some (.Name x pos')) pos.line X.env = pure false := by rfl) (hf : X.fn x = true \/ X.env.scope.names.lookup x = some .local := by first | exact .inl rfl | exact .inr rfl | assumption) :
    PS X (.Assign [.Name x pos'] e pos) (tAsg te (q7m i)) := by
  intro pins s σ H D I h
  refine wpAny_Assign_Name (thn (he pins s σ H _ I h) fun v s1 ⟨y,H1,I1,r1,q1⟩ => ?_) hs
  exact q7f I1 hN hi hx r1 (fun s2 I2 => ⟨_,H1,I2,q1⟩) hf
end
structure It where
  go : Nat -> Hp -> Prop
  yld : Nat -> Hp -> V -> Hp -> Prop
  stop : Nat -> Hp -> Prop
def FpOk (X : Cx) (pins : List (Addr × Obj)) (H : Hp) (b : Addr) : Prop :=
  H b = none /\ b ≠ X.env.locals /\ b ∉ X.fs /\ (b ∈ X.ex \/ X.s₀.heap.objs.size <= b) /\ (∀ x c,X.env.cells.lookup x = some c -> c ≠ b) /\ ∀ p ∈ X.pn ++ pins,p.1 ≠ b
theorem Inv.fpOk {X : Cx} {pins : List (Addr × Obj)} {σ : St} {H H' : Hp} {s : Shared} {b : Addr} (I : Inv X pins σ H s) (hb : s.heap.objs.size <= b) (hn : H' b = none) : FpOk X pins H' b := by
  refine ⟨hn,Nat.ne_of_gt (Nat.lt_of_lt_of_le I.lt hb),I.nofs hb, .inr (Nat.le_trans I.sz hb),fun x c e z => ?_,fun p hp z => ?_⟩
  . obtain ⟨v,q⟩ := I.cell x c e
    exact absurd (Nat.lt_of_lt_of_le q.lt (by rw [z]; exact hb)) (Nat.lt_irrefl _)
  . exact absurd (Nat.lt_of_lt_of_le (Heap.lt_size (I.pin p hp).1) (by rw [z]; exact hb)) (Nat.lt_irrefl _)
structure Turn (P : Program) (w : World) (K : PySem.W.Frag) (tg : Expr) (J : It) (fp : List Addr) (it : Addr) (tn : Nat -> Heap -> Prop) : Prop where
  mem : it ∈ fp
  obj : ∀ i h,tn i h -> ∀ b ∈ fp, ∃ o,h.get? b = some o /\ ∀ v,o.data ≠ .cell v
  keep : ∀ i h h',tn i h -> (∀ b ∈ fp, ∀ o,h.get? b = some o -> h'.get? b = some o) -> tn i h'
  item : ∀ (X : Cx),X.prog = P -> X.w = w -> X.K = K -> X.calm = true -> ∀ (i : Nat) (pins : List (Addr × Obj)) (s : Shared) (σ : St) (H : Hp) (E : Value -> Shared -> Prop),Inv X pins σ H s -> (∀ b ∈ fp,FpOk X pins H b) -> tn i s.heap -> J.go i H ->
    wpAny (model P w) X.A (pyNext (.ref it)) (fun r s1 => ∃ u,r = some u /\
      wpAny (model P w) X.A (letOwnedTupleGo tg (.ref it) u) (fun _ s2 => ∃ x H',Inv X pins σ H' s2 /\ RelV x u /\ J.yld i H x H' /\ tn (i + 1) s2.heap /\ ∀ b ∈ fp,H' b = none) E s1) E s
  done : ∀ (X : Cx),X.prog = P -> X.w = w -> X.K = K -> X.calm = true -> ∀ (i : Nat) (pins : List (Addr × Obj)) (s : Shared) (σ : St) (H : Hp) (E : Value -> Shared -> Prop),Inv X pins σ H s -> (∀ b ∈ fp,FpOk X pins H b) -> tn i s.heap -> J.stop i H ->
    wpAny (model P w) X.A (pyNext (.ref it)) (fun r s1 => r = none /\ Inv X pins σ H s1) E s
  self : ∀ (A : Around) (i : Nat) (s : Shared) (Q : Value -> Shared -> Prop) (E : Value -> Shared -> Prop),tn i s.heap -> Q (.ref it) s -> wpAny (model P w) A (pyIter (.ref it)) Q E s
abbrev TI := St -> Hp -> (It -> Hp -> Prop) -> Prop
def PIE (X : Cx) (pins : List (Addr × Obj)) (σ : St) (tg : Expr) (R : It -> Hp -> Prop) (itv : Value) (s2 : Shared) : Prop :=
  ∃ (it : Addr) (fp : List Addr) (tn : Nat -> Heap -> Prop) (J : It) (H' : Hp),itv = .ref it /\ Inv X pins σ H' s2 /\ Turn X.prog X.w X.K tg J fp it tn /\ tn 0 s2.heap /\ (∀ b ∈ fp,FpOk X pins H' b) /\ R J H'
def PI (X : Cx) (tg iter : Expr) (wi : TI) : Prop :=
  ∀ (pins : List (Addr × Obj)) (s : Shared) (σ : St) (H : Hp) (R : It -> Hp -> Prop),Inv X pins σ H s -> wi σ H R ->
    wpAny (model X.prog X.w) X.A (eval iter X.env) (fun v s1 => wpAny (model X.prog X.w) X.A (pyIter v) (PIE X pins σ tg R) X.xe s1) X.xe s
theorem qd0 {M : Model} {A : Around} {E : Value -> Shared -> Prop} {s : Shared} {tg : Expr} {it : Addr} {u : Value} {o : Obj} {n : String} {vs : Array Value} {Q : Unit -> Shared -> Prop} (ho : s.heap.get? it = some o) (hc : o.cls = .type n) (hd : o.data = .fields vs)
    (hn : ["enumerate", "zip", "dict_itemiterator", "dict_reverseitemiterator", "odict_iterator", "itertools.zip_longest", "itertools.pairwise"].contains n = false) (hQ : Q () s) : wpAny M A (letOwnedTupleGo tg (.ref it) u) Q E s := by
  unfold letOwnedTupleGo
  cases tg <;> first
    | exact wpAny_pure hQ
    | (cases u <;> first
        | exact wpAny_pure hQ
        | (refine wpAny_bind (wpAny_load ho ?_)
           rw [hc,hd]
           show wpAny M A (if (["enumerate", "zip", "dict_itemiterator", "dict_reverseitemiterator", "odict_iterator", "itertools.zip_longest", "itertools.pairwise"].contains n && vs[0]? == some (rawInt _)) = true then _ else _) Q E s
           rw [if_neg (by intro h; rw [hn,Bool.false_and] at h; cases h)]
           exact wpAny_pure hQ))
def Itl (K : PySem.W.Frag) (a : Addr) : It :=
  ⟨fun i H => ∃ xs x,SqL K H a xs /\ xs[i]? = some x,fun i H x H' => H' = H /\ ∀ xs,SqL K H a xs -> xs[i]? = some x,fun i H => ∃ xs,SqL K H a xs /\ xs.length <= i⟩
def Itr (lo : Int) (n : Nat) : It := ⟨fun i _ => i < n,fun i H x H' => H' = H /\ x = .int (lo + i),fun i _ => n <= i⟩
theorem qfc {P : Program} {w : World} {K : PySem.W.Frag} {tg : Expr} (a it : Addr) : Turn P w K tg (Itl K a) [it] it (fun i h => h.IsListIter it a i) where
  mem := by simp
  obj := fun i h st b hb => by
    have e : b = it := by simpa using hb
    subst e
    obtain ⟨o,e,c,d⟩ := st
    exact ⟨o,e,fun v z => by rw [d] at z; cases z⟩
  keep := fun i h h' st k => st.at fun o e => k it (by simp) o e
  item := by
    intro X hP hw hK hc i pins s σ H E I hf st hg
    subst hP hw hK
    obtain ⟨xs,x,hq,hx⟩ := hg
    obtain ⟨its,rv,p,hz⟩ := I.list hq
    obtain ⟨u,hu,ru⟩ := rv.get hx
    obtain ⟨f0,f1,f2,f3,f4,f5⟩ := hf it (by simp)
    refine wpAny_pyNext_list_item st p.isList (x := u) (by simpa using hu) fun h' st' sb => ?_
    have I1 : Inv X pins σ H { s with heap := h' } := I.turned (t' := s.toks) (fun b o hb e => (sb.2 b hb).trans e) f0 f1 f3 f4 f5
    obtain ⟨o,e,c,d⟩ := id st'
    exact ⟨u,rfl,qd0 (s := { s with heap := h' }) e c d (by decide) ⟨x,H,I1,ru,⟨rfl,fun ys hy => by rw [I.qb8 hy hq]; exact hx⟩,st',fun b hb => (hf b hb).1⟩⟩
  done := by
    intro X hP hw hK hc i pins s σ H E I hf st hg
    subst hP hw hK
    obtain ⟨xs,hq,hx⟩ := hg
    obtain ⟨its,rv,p,hz⟩ := I.list hq
    obtain ⟨f0,f1,f2,f3,f4,f5⟩ := hf it (by simp)
    have hl := rv.length
    exact wpAny_pyNext_list_end (I.ok.hd hc) st p.isList (by simp; omega) fun h' eb => ⟨rfl,I.turned (t' := s.toks) (fun b o hb e => eb b o hb e) f0 f1 f3 f4 f5⟩
  self := fun _ _ _ _ _ st h => wpAny_pyIter_listiter st h
theorem qdf {P : Program} {w : World} {K : PySem.W.Frag} {tg : Expr} (it : Addr) (lo : Int) (n : Nat) : Turn P w K tg (Itr lo n) [it] it (fun i h => IsRangeIter h it (lo + (i : Nat) * 1) ((n : Int) - (i : Nat)) 1) where
  mem := by simp
  obj := fun i h st b hb => by
    have e : b = it := by simpa using hb
    subst e
    exact ⟨_,st,fun v z => by
      have z' : Data.fields _ = Data.cell v := z
      cases z'⟩
  keep := fun i h h' st k => k it (by simp) _ st
  item := by
    intro X hP hw hK hc i pins s σ H E I hf st hg
    subst hP hw hK
    obtain ⟨f0,f1,f2,f3,f4,f5⟩ := hf it (by simp)
    have W := Walks.range (prog := X.prog) (w := X.w) (I.ok.hd hc) it lo 1 n
    refine W.item i s _ _ hg st fun v h' tk hv st' kk => ?_
    obtain ⟨t,rfl⟩ := hv
    have I1 : Inv X pins σ H { s with heap := h',toks := tk } := I.turned (fun b o hb e => kk b o (by simpa using hb) e) f0 f1 f3 f4 f5
    refine ⟨_,rfl,qd0 (s := { s with heap := h',toks := tk }) (n := "range_iterator") st' rfl rfl (by decide) ⟨.int (lo + i),H,I1,⟨t,?_⟩,⟨rfl,rfl⟩,st',fun b hb => (hf b hb).1⟩⟩
    rw [Int.mul_one]
  done := by
    intro X hP hw hK hc i pins s σ H E I hf st hg
    subst hP hw hK
    obtain ⟨f0,f1,f2,f3,f4,f5⟩ := hf it (by simp)
    exact wpAny_pyNext_range_end (I.ok.hd hc) st (by have : n <= i := hg; omega) fun h' eb => ⟨rfl,I.turned (t' := s.toks) (fun b o hb e => eb b o hb e) f0 f1 f3 f4 f5⟩
  self := fun _ _ _ _ _ st h => wpAny_pyIter_rangeiter st h
end L2
namespace L2
open PySem PySem.Spec PyProof.Rows
section
variable {X : Cx} {tg : Expr}
def iList (K : PySem.W.Frag) (tl : TE) : TI := fun σ H R => tl σ H fun x H1 => ∃ a,x = .ref a /\ (∃ xs,SqL K H1 a xs) /\ R (Itl K a) H1
theorem q3s {l : Expr} {tl : TE} (hl : PE X l tl) : PI X tg l (iList X.K tl) := by
  intro pins s σ H R I h
  refine thn (hl pins s σ H _ I h) fun v s1 ⟨x,H1,I1,r1,q1⟩ => ?_
  obtain ⟨a,e,⟨xs,hq⟩,q⟩ := q1
  subst e
  cases r1
  obtain ⟨its,rv,p,hz⟩ := I1.list hq
  refine wpAny_pyIter_list p.isList ?_
  refine ⟨s1.heap.objs.size,[s1.heap.objs.size],_,_,H1,rfl,I1.kept (t' := s1.toks) fun b o e => Heap.get?_push_of_some _ e,qfc a _,⟨_,Heap.get?_push_size _ rfl,rfl,rfl⟩,fun b hb => ?_,q⟩
  have e : b = s1.heap.objs.size := by simpa using hb
  subst e
  exact I1.fpOk (Nat.le_refl _) (I1.hok.fresh (Nat.le_refl _))
theorem qgo {pins : List (Addr × Obj)} {σ : St} {H : Hp} {s : Shared} {R : It -> Hp -> Prop} {E : Value -> Shared -> Prop} {lo hi : Int} {t u v : Tok} {tk : Nat} (I : Inv X pins σ H s) (h1 : -(2 ^ 62) <= lo) (h2 : lo < 2 ^ 62) (h3 : -(2 ^ 62) <= hi) (h4 : hi < 2 ^ 62)
    (q : R (Itr lo (hi - lo).toNat) H) : wpAny (model X.prog X.w) X.A (pyIter (.ref s.heap.objs.size)) (PIE X pins σ tg R) E { s with heap := s.heap.push { cls := .type "range",data := .fields #[.int lo t, .int hi u, .int 1 v] },toks := tk } := by
  refine wpAny_pyIter_range (IsRange.new ..) (small_one h1 h2 h3 h4) ?_
  have I1 : Inv X pins σ H { s with heap := s.heap.push { cls := .type "range",data := .fields #[.int lo t, .int hi u, .int 1 v] },toks := tk } := I.kept fun b o e => Heap.get?_push_of_some _ e
  refine ⟨(s.heap.push { cls := .type "range",data := .fields #[.int lo t, .int hi u, .int 1 v] }).objs.size,[(s.heap.push { cls := .type "range",data := .fields #[.int lo t, .int hi u, .int 1 v] }).objs.size],_,_,H,rfl,
    I1.kept (t' := tk) fun b o e => Heap.get?_push_of_some _ e,qdf _ lo (hi - lo).toNat,?_,fun b hb => ?_,q⟩
  . have e1 : lo + ((0 : Nat) : Int) * 1 = lo := by simp
    have e2 : (((hi - lo).toNat : Nat) : Int) - ((0 : Nat) : Int) = Builtin.Range.rangeSize lo hi 1 := by rw [rangeSize_one]; split <;> omega
    show IsRangeIter _ _ (lo + ((0 : Nat) : Int) * 1) ((((hi - lo).toNat : Nat) : Int) - ((0 : Nat) : Int)) 1
    rw [e1,e2]
    exact Heap.get?_push_size _ rfl
  . have e : b = (s.heap.push { cls := .type "range",data := .fields #[.int lo t, .int hi u, .int 1 v] }).objs.size := by simpa using hb
    subst e
    exact I1.fpOk (Nat.le_refl _) (I1.hok.fresh (Nat.le_refl _))
def iRng1 (ta : TA) : TI := fun σ H R => ta σ H fun vs H1 => ∃ j : Int,vs = [.int j] /\ -(2 ^ 62) <= j /\ j < 2 ^ 62 /\ R (Itr 0 j.toNat) H1
theorem q59 {a : Expr} {ta : TA} {p pos : Pos} (hg : Gl X "range") (hm : X.mg "range" = none) (ha : PA X [a] ta) (hs : starEach [a] X.env = [(false,eval a X.env)] := by rfl) : PI X tg (.Call (.Name "range" p) [a] [] pos) (iRng1 ta) := by
  intro pins s σ H R I h
  refine Call_ (q8y I hg hm boot_range (PyProof.Rows.callWith_type1 (thn (ha pos pins s σ H _ I h) fun us s1 ⟨vs,H1,I1,r1,q1⟩ => ?_) hs rfl))
  obtain ⟨j,e,q1,q2,q⟩ := q1
  subst e
  cases r1 with
  | cons r rr =>
    cases rr
    obtain ⟨t,rfl⟩ := r
    exact call_range_1 (qgo I1 (by omega) (by omega) q1 q2 (by simpa using q))
def tFor (wi : TI) (g : TG) (tb : TS) : TS := fun D σ H => wi σ H fun J H1 => ∃ W : Nat -> Nat -> St -> Hp -> Prop,(∃ m,W 0 m σ H1) /\ ∀ i m σ H,W i m σ H ->
  (J.stop i H /\ D.nx σ H) \/ (J.go i H /\ ∃ N : St -> Hp -> Prop,(∀ σ' H',N σ' H' -> ∃ m',m' < m /\ W (i + 1) m' σ' H') /\ ∀ x H',J.yld i H x H' -> g x σ H' fun σ2 H2 => tb { D with nx := N,ct := N,bk := D.nx } σ2 H2)
def q6s (fp : List Addr) (h : Heap) : List (Addr × Obj) := fp.filterMap fun b => (h.get? b).map fun o => (b,o)
theorem q4p {fp : List Addr} {h : Heap} {b : Addr} {o : Obj} (hb : b ∈ fp) (e : h.get? b = some o) : (b,o) ∈ q6s fp h := List.mem_filterMap.mpr ⟨b,hb,by rw [e]; rfl⟩
theorem qec {fp : List Addr} {h : Heap} {p : Addr × Obj} (hp : p ∈ q6s fp h) : p.1 ∈ fp /\ h.get? p.1 = some p.2 := by
  obtain ⟨b,hb,e⟩ := List.mem_filterMap.mp hp
  cases q : h.get? b with
  | none => rw [q] at e; cases e
  | some o =>
    rw [q] at e
    have e' : (b,o) = p := Option.some.inj e
    subst e'
    exact ⟨hb,q⟩
theorem Inv.pinned {pins : List (Addr × Obj)} {σ : St} {H : Hp} {s : Shared} {fp : List Addr} (I : Inv X pins σ H s) (hf : ∀ b ∈ fp,FpOk X pins H b) (ho : ∀ b ∈ fp, ∃ o,s.heap.get? b = some o /\ ∀ v,o.data ≠ .cell v) : Inv X (pins ++ q6s fp s.heap) σ H s :=
  I.qcq fun p hp => (List.mem_append.mp hp).elim (fun z => I.pin p (List.mem_append_right _ z)) fun z => by
    obtain ⟨hb,e⟩ := qec z
    obtain ⟨f0,f1,f2,_⟩ := hf p.1 hb
    obtain ⟨o,e',d⟩ := ho p.1 hb
    rw [e] at e'; cases e'
    exact ⟨e,f0,f1,f2,d⟩
theorem Inv.q6l {pins pl : List (Addr × Obj)} {σ : St} {H : Hp} {s : Shared} (I : Inv X (pins ++ pl) σ H s) : Inv X pins σ H s := I.qcq fun p hp => I.pin p (List.mem_append_right _ (List.mem_append_left _ hp))
theorem q4m {iter : Expr} {body : List Stmt} {wi : TI} {g : TG} {tb : TS} {pos : Pos} (hp : PassesOwn (model X.prog X.w) X.A X.env X.xe) (hc : X.calm = true) (hi : PI X tg iter wi) (hg : PG X tg g) (hb : PSs X body tb)
    (hs : ∀ x,foldedSetIterable iter X.env x = pure x := by intro _; rfl) : PS X (.For tg iter body [] pos) (tFor wi g tb) := by
  intro pins s σ H D I h
  refine wpAny_For (thn (hi pins s σ H _ I h) fun v s1 h1 => thn h1 fun itv s2 h2 => ?_) hs
  obtain ⟨it,fp,tn,J,H2,e,I2,T,st2,f2,W,⟨m0,w0⟩,turn⟩ := h2
  subst e
  have stat : ∀ {H' : Hp},(∀ b ∈ fp,H' b = none) -> ∀ b ∈ fp,FpOk X pins H' b := fun hn b hb => ⟨hn b hb,(f2 b hb).2⟩
  refine codeAny_forLoop_any (fun n s' => ∃ i σ' H',Inv X pins σ' H' s' /\ tn i s'.heap /\ (∀ b ∈ fp,H' b = none) /\ W i n σ' H') ?_ m0 ⟨0, σ,H2,I2,st2,fun b hb => (f2 b hb).1,w0⟩
  rintro n s3 ⟨i, σ3,H3,I3,st3,fr3,w3⟩
  rcases turn i n σ3 H3 w3 with ⟨stop,qn⟩ | ⟨go,N,hN,step⟩
  . refine wpAny_passesOwn hp (thn (T.done X rfl rfl rfl hc i pins s3 σ3 H3 X.xe I3 (stat fr3) st3 stop) fun r s4 ⟨hr,I4⟩ => ?_)
    subst hr
    exact wpAny_execs_nil ⟨σ3,H3,I4,qn⟩
  . refine wpAny_passesOwn hp (thn (T.item X rfl rfl rfl hc i pins s3 σ3 H3 X.xe I3 (stat fr3) st3 go) fun r s4 ⟨u,hr,h4⟩ => ?_)
    subst hr
    refine wpAny_passesOwn hp (thn h4 fun _ s5 ⟨x,H5,I5,r5,y5,st5,fr5⟩ => ?_)
    have I5' := I5.pinned (stat fr5) (T.obj _ _ st5)
    refine wpAny_passesOwn hp (thn (hg _ s5 σ3 H5 x u _ I5' r5 (step x H5 y5)) fun _ s6 ⟨σ6,H6,I6,q6⟩ => ?_)
    refine wpAny_passesOwn hp (thn (hb _ s6 σ6 H6 _ I6 q6) fun f s7 q7 => ?_)
    have again : ∀ {σ7 : St} {H7 : Hp},Inv X (pins ++ q6s fp s5.heap) σ7 H7 s7 -> N σ7 H7 -> ∃ m,m < n /\ ∃ i σ' H',Inv X pins σ' H' s7 /\ tn i s7.heap /\ (∀ b ∈ fp,H' b = none) /\ W i m σ' H' := fun {σ7 H7} I7 n7 => by
      obtain ⟨m',hm,w7⟩ := hN σ7 H7 n7
      refine ⟨m',hm,i + 1, σ7,H7,I7.q6l,T.keep _ _ _ st5 fun b hb o e => (I7.pin (b,o) (List.mem_append_right _ (List.mem_append_right _ (q4p hb e)))).1,fun b hb => ?_,w7⟩
      obtain ⟨o,e,d⟩ := T.obj _ _ st5 b hb
      exact (I7.pin (b,o) (List.mem_append_right _ (List.mem_append_right _ (q4p hb e)))).2.1
    cases f with
    | next => obtain ⟨σ7,H7,I7,n7⟩ := q7; exact again I7 n7
    | cont => obtain ⟨σ7,H7,I7,n7⟩ := q7; exact again I7 n7
    | brk => obtain ⟨σ7,H7,I7,q7⟩ := q7; exact ⟨σ7,H7,I7.q6l,q7⟩
    | ret v => obtain ⟨x7, σ7,H7,I7,r7,q7⟩ := q7; exact ⟨x7, σ7,H7,I7.q6l,r7,q7⟩
end
end L2
namespace L2
open PySem PySem.Spec PyProof.Rows
abbrev R2 := V -> V -> Hp -> VK -> Prop
def OpR (X : Cx) (f : Value -> Value -> Sem Value) (r : R2) : Prop :=
  ∀ (pins : List (Addr × Obj)) (s : Shared) (σ : St) (H : Hp) (x y : V) (v u : Value) (Q : VK),Inv X pins σ H s -> RelV x v -> RelV y u -> r x y H Q ->
    wpAny (model X.prog X.w) X.A (f v u) (EP X pins σ Q) X.xe s
def UnR (X : Cx) (f : Value -> Sem Value) (r : V -> Hp -> VK -> Prop) : Prop :=
  ∀ (pins : List (Addr × Obj)) (s : Shared) (σ : St) (H : Hp) (x : V) (v : Value) (Q : VK),Inv X pins σ H s -> RelV x v -> r x H Q ->
    wpAny (model X.prog X.w) X.A (f v) (EP X pins σ Q) X.xe s
def q30 (X : Cx) (f : Value) (r : List V -> Hp -> VK -> Prop) : Prop :=
  ∀ (pins : List (Addr × Obj)) (s : Shared) (σ : St) (H : Hp) (xs : List V) (us : List Value) (Q : VK),Inv X pins σ H s -> Vals xs us -> r xs H Q ->
    wpAny (model X.prog X.w) X.A (call f us) (EP X pins σ Q) X.xe s
def tOp (r : R2) (ta tb : TE) : TE := fun σ H Q => ta σ H fun x H1 => tb σ H1 fun y H2 => r x y H2 Q
def tUn (r : V -> Hp -> VK -> Prop) (ta : TE) : TE := fun σ H Q => ta σ H fun x H1 => r x H1 Q
def rI (C : Int -> Int -> Prop) (g : Int -> Int -> V) : R2 := fun x y H Q => ∃ i j,x = .int i /\ y = .int j /\ C i j /\ Q (g i j) H
def rI0 (g : Int -> Int -> V) : R2 := fun x y H Q => ∃ i j,x = .int i /\ y = .int j /\ Q (g i j) H
def rU (g : Int -> V) : V -> Hp -> VK -> Prop := fun x H Q => ∃ i,x = .int i /\ Q (g i) H
section
variable {X : Cx} {a b c : Expr} {ta tb tc : TE} {pos : Pos}
theorem binT (ha : PE X a ta) (hb : PE X b tb) {pins : List (Addr × Obj)} {s : Shared} {σ : St} {H : Hp} {R : V -> V -> Hp -> Prop} (I : Inv X pins σ H s)
    (h : ta σ H fun x H1 => tb σ H1 fun y H2 => R x y H2) {Q : Value -> Shared -> Prop} {f : Value -> Value -> Sem Value}
    (hf : ∀ v u s2 x y H2,Inv X pins σ H2 s2 -> RelV x v -> RelV y u -> R x y H2 -> wpAny (model X.prog X.w) X.A (f v u) Q X.xe s2) :
    wpAny (model X.prog X.w) X.A (eval a X.env) (fun v s₁ => wpAny (model X.prog X.w) X.A (eval b X.env) (fun u s₂ => wpAny (model X.prog X.w) X.A (f v u) Q X.xe s₂) X.xe s₁) X.xe s := by
  refine thn (ha pins s σ H _ I h) fun v s1 ⟨x,H1,I1,r1,q1⟩ => ?_
  refine thn (hb pins s1 σ H1 _ I1 q1) fun u s2 ⟨y,H2,I2,r2,q2⟩ => ?_
  exact hf v u s2 x y H2 I2 r1 r2 q2
theorem q2s {op : Operator} {r : R2} (ho : OpR X (binaryOp op) r) (ha : PE X a ta) (hb : PE X b tb) : PE X (.BinOp a op b pos) (tOp r ta tb) := by
  intro pins s σ H Q I h
  exact wpAny_BinOp (binT ha hb I h fun v u s2 x y H2 I2 rx ry q => ho pins s2 σ H2 x y v u Q I2 rx ry q)
theorem pe_un {op : UnaryOp} {r : V -> Hp -> VK -> Prop} (ho : UnR X (unaryOp op) r) (ha : PE X a ta) : PE X (.UnaryOp op a pos) (tUn r ta) := by
  intro pins s σ H Q I h
  exact UnaryOp_ (thn (ha pins s σ H _ I h) fun v s1 ⟨x,H1,I1,r1,q1⟩ => ho pins s1 σ H1 x v Q I1 r1 q1)
theorem opI {f : Value -> Value -> Sem Value} {C : Int -> Int -> Prop} {g : Int -> Int -> Int}
    (rule : ∀ (i j : Int) (t u : Tok) (s : Shared) (Q : Value -> Shared -> Prop) (E : Value -> Shared -> Prop),C i j -> Q (.int (g i j) s.toks) { s with toks := s.toks + 1 } -> wpAny (model X.prog X.w) X.A (f (.int i t) (.int j u)) Q E s) :
    OpR X f (rI C fun i j => .int (g i j)) := by
  intro pins s σ H x y v u Q I rx ry h
  obtain ⟨i,j,rfl,rfl,hc,q⟩ := h
  obtain ⟨t,rfl⟩ := rx
  obtain ⟨t',rfl⟩ := ry
  exact rule i j t t' s _ _ hc ⟨.int (g i j),H,I.tok _,⟨_,rfl⟩,q⟩
theorem opI0 {f : Value -> Value -> Sem Value} {g : Int -> Int -> Int}
    (rule : ∀ (i j : Int) (t u : Tok) (s : Shared) (Q : Value -> Shared -> Prop) (E : Value -> Shared -> Prop),Q (.int (g i j) s.toks) { s with toks := s.toks + 1 } -> wpAny (model X.prog X.w) X.A (f (.int i t) (.int j u)) Q E s) :
    OpR X f (rI0 fun i j => .int (g i j)) := by
  intro pins s σ H x y v u Q I rx ry h
  obtain ⟨i,j,rfl,rfl,q⟩ := h
  obtain ⟨t,rfl⟩ := rx
  obtain ⟨t',rfl⟩ := ry
  exact rule i j t t' s _ _ ⟨.int (g i j),H,I.tok _,⟨_,rfl⟩,q⟩
theorem opB0 {f : Value -> Value -> Sem Value} {g : Int -> Int -> Bool}
    (rule : ∀ (i j : Int) (t u : Tok) (s : Shared) (Q : Value -> Shared -> Prop) (E : Value -> Shared -> Prop),Q (.bool (g i j)) s -> wpAny (model X.prog X.w) X.A (f (.int i t) (.int j u)) Q E s) :
    OpR X f (rI0 fun i j => .bl (g i j)) := by
  intro pins s σ H x y v u Q I rx ry h
  obtain ⟨i,j,rfl,rfl,q⟩ := h
  obtain ⟨t,rfl⟩ := rx
  obtain ⟨t',rfl⟩ := ry
  exact rule i j t t' s _ _ ⟨.bl (g i j),H,I,rfl,q⟩
def CDiv (i j : Int) : Prop := 0 < j /\ j < 1073741824
def CMul (i j : Int) : Prop := (-(2 ^ 64) < i /\ i < 2 ^ 64) \/ (-(2 ^ 64) < j /\ j < 2 ^ 64)
theorem CMul.ok {i j : Int} (h : CMul i j) : IntMulOk i j := by
  rcases h with ⟨h1,h2⟩ | ⟨h1,h2⟩
  . exact .of_left (intBits_le_64 h1 h2)
  . exact .of_right (intBits_le_64 h1 h2)
theorem qe1 : OpR X (binaryOp .Add) (rI0 fun i j => .int (i + j)) := opI0 fun _ _ _ _ _ _ _ q => add_int q
theorem op_sub : OpR X (binaryOp .Sub) (rI0 fun i j => .int (i - j)) := opI0 fun _ _ _ _ _ _ _ q => sub_int q
theorem qf2 : OpR X (binaryOp .Mult) (rI CMul fun i j => .int (i * j)) := opI fun _ _ _ _ _ _ _ hc q => mul_int q hc.ok
theorem q79 : OpR X (binaryOp .FloorDiv) (rI CDiv fun i j => .int (i / j)) := opI fun i j _ _ _ _ _ hc q => by
  have h1 : (0 : Int) < j := hc.1
  have h2 : j < 1073741824 := hc.2
  exact floordiv_int (by omega) (by rw [Int.fdiv_eq_ediv_of_nonneg i (by omega)]; exact q) (.inl (PyProof.noPylong_small (by omega)))
theorem q6f : OpR X (binaryOp .Mod) (rI (fun _ j => 0 < j) fun i j => .int (i % j)) := opI fun i j _ _ _ _ _ hc q => by
  have h1 : (0 : Int) < j := hc
  exact mod_int' (by omega) (by rw [Int.fmod_eq_emod_of_nonneg i (by omega)]; exact q)
theorem unI {f : Value -> Sem Value} {g : Int -> Int}
    (rule : ∀ (i : Int) (t : Tok) (s : Shared) (Q : Value -> Shared -> Prop) (E : Value -> Shared -> Prop),Q (.int (g i) s.toks) { s with toks := s.toks + 1 } -> wpAny (model X.prog X.w) X.A (f (.int i t)) Q E s) :
    UnR X f (rU fun i => .int (g i)) := by
  intro pins s σ H x v Q I rx h
  obtain ⟨i,rfl,q⟩ := h
  obtain ⟨t,rfl⟩ := rx
  exact rule i t s _ _ ⟨.int (g i),H,I.tok _,⟨_,rfl⟩,q⟩
theorem un_neg : UnR X (unaryOp .USub) (rU fun i => .int (-i)) := unI fun _ _ _ _ _ q => neg_int q
end
def scal : V -> V -> Bool
  | .non, .non => true | .non, .int _ => true | .int _, .non => true | .non, .bl _ => true | .bl _, .non => true | .non, .str _ => true | .str _, .non => true
  | .int _, .int _ => true | .bl _, .bl _ => true | .str _, .str _ => true | .byt _, .byt _ => true
  | .int _, .str _ => true | .str _, .int _ => true | .bl _, .str _ => true | .str _, .bl _ => true
  | _,_ => false
def rEq : R2 := fun x y H Q => scal x y = true /\ Q (.bl (decide (x = y))) H
def rNe : R2 := fun x y H Q => scal x y = true /\ Q (.bl (!decide (x = y))) H
theorem qcd {i j : Int} : decide (V.int i = V.int j) = (i == j) := by
  rw [Bool.eq_iff_iff]
  simp
theorem qeo {i j : Bool} : decide (V.bl i = V.bl j) = (i == j) := by
  rw [Bool.eq_iff_iff]
  simp
theorem qck {i j : Str} : decide (V.str i = V.str j) = (i == j) := by
  rw [Bool.eq_iff_iff]
  simp
theorem qcv {i j : Array UInt8} : decide (V.byt i = V.byt j) = (i.toList == j.toList) := by
  rw [Bool.eq_iff_iff]
  cases i
  cases j
  simp
section
variable {X : Cx} {a b c : Expr} {ta tb tc : TE} {pos : Pos}
theorem q2f {pins : List (Addr × Obj)} {σ : St} {H : Hp} {s : Shared} {Q : VK} {k k' : Bool} (I : Inv X pins σ H s) (q : Q (.bl k) H) (e : k = k') : EP X pins σ Q (.bool k') s := by
  subst e
  exact ⟨.bl k,H,I,rfl,q⟩
theorem q5k : OpR X (compareOp .Eq) rEq := by
  intro pins s σ H x y v u Q I rx ry h
  obtain ⟨hs,q⟩ := h
  cases x with
  | non =>
    cases rx
    cases y with
    | non => cases ry; exact PySem.EqNone.eq_none_none (q2f I q (by simp))
    | bl j => cases ry; exact PySem.EqNone.eq_none_bool (q2f I q (by simp))
    | int j => obtain ⟨t',rfl⟩ := ry; exact PySem.EqNone.eq_none_int (q2f I q (by simp))
    | str j => obtain ⟨t',rfl⟩ := ry; exact PySem.EqNone.eq_none_str (q2f I q (by simp))
    | _ => exact absurd (show false = true from hs) Bool.false_ne_true
  | bl i =>
    cases rx
    cases y with
    | non => cases ry; exact PySem.EqNone.eq_bool_none (q2f I q (by simp))
    | bl j => cases ry; exact eq_bool (q2f I q qeo)
    | str j => obtain ⟨t',rfl⟩ := ry; exact PySem.EqMixed.eq_bool_str (q2f I q (by simp))
    | _ => exact absurd (show false = true from hs) Bool.false_ne_true
  | int i =>
    obtain ⟨t,rfl⟩ := rx
    cases y with
    | non => cases ry; exact PySem.EqNone.eq_int_none (q2f I q (by simp))
    | int j => obtain ⟨t',rfl⟩ := ry; exact eq_int (q2f I q qcd)
    | str j => obtain ⟨t',rfl⟩ := ry; exact PySem.EqMixed.eq_int_str (q2f I q (by simp))
    | _ => exact absurd (show false = true from hs) Bool.false_ne_true
  | str i =>
    obtain ⟨t,rfl⟩ := rx
    cases y with
    | non => cases ry; exact PySem.EqNone.eq_str_none (q2f I q (by simp))
    | bl j => cases ry; exact PySem.EqMixed.eq_str_bool (q2f I q (by simp))
    | int j => obtain ⟨t',rfl⟩ := ry; exact PySem.EqMixed.eq_str_int (q2f I q (by simp))
    | str j => obtain ⟨t',rfl⟩ := ry; exact eq_str (q2f I q qck)
    | _ => exact absurd (show false = true from hs) Bool.false_ne_true
  | byt i =>
    obtain ⟨t,rfl⟩ := rx
    cases y with
    | byt j => obtain ⟨t',rfl⟩ := ry; exact PySem.W.eq_bytes (q2f I q qcv)
    | _ => exact absurd (show false = true from hs) Bool.false_ne_true
  | _ => cases y <;> exact absurd (show false = true from hs) Bool.false_ne_true
theorem q9g : OpR X (compareOp .NotEq) rNe := by
  intro pins s σ H x y v u Q I rx ry h
  obtain ⟨hs,q⟩ := h
  cases x with
  | non =>
    cases rx
    cases y with
    | non => cases ry; exact PySem.EqNone.ne_none_none (q2f I q (by simp))
    | bl j => cases ry; exact PySem.EqNone.ne_none_bool (q2f I q (by simp))
    | int j => obtain ⟨t',rfl⟩ := ry; exact PySem.EqNone.ne_none_int (q2f I q (by simp))
    | str j => obtain ⟨t',rfl⟩ := ry; exact PySem.EqNone.ne_none_str (q2f I q (by simp))
    | _ => exact absurd (show false = true from hs) Bool.false_ne_true
  | bl i =>
    cases rx
    cases y with
    | non => cases ry; exact PySem.EqNone.ne_bool_none (q2f I q (by simp))
    | bl j => cases ry; exact ne_bool (q2f I q (congrArg not qeo))
    | str j => obtain ⟨t',rfl⟩ := ry; exact PySem.EqMixed.ne_bool_str (q2f I q (by simp))
    | _ => exact absurd (show false = true from hs) Bool.false_ne_true
  | int i =>
    obtain ⟨t,rfl⟩ := rx
    cases y with
    | non => cases ry; exact PySem.EqNone.ne_int_none (q2f I q (by simp))
    | int j => obtain ⟨t',rfl⟩ := ry; exact ne_int (q2f I q (congrArg not qcd))
    | str j => obtain ⟨t',rfl⟩ := ry; exact PySem.EqMixed.ne_int_str (q2f I q (by simp))
    | _ => exact absurd (show false = true from hs) Bool.false_ne_true
  | str i =>
    obtain ⟨t,rfl⟩ := rx
    cases y with
    | non => cases ry; exact PySem.EqNone.ne_str_none (q2f I q (by simp))
    | bl j => cases ry; exact PySem.EqMixed.ne_str_bool (q2f I q (by simp))
    | int j => obtain ⟨t',rfl⟩ := ry; exact PySem.EqMixed.ne_str_int (q2f I q (by simp))
    | str j => obtain ⟨t',rfl⟩ := ry; exact ne_str (q2f I q (congrArg not qck))
    | _ => exact absurd (show false = true from hs) Bool.false_ne_true
  | byt i =>
    obtain ⟨t,rfl⟩ := rx
    cases y with
    | byt j => obtain ⟨t',rfl⟩ := ry; exact PySem.W.ne_bytes (q2f I q (congrArg not qcv))
    | _ => exact absurd (show false = true from hs) Bool.false_ne_true
  | _ => cases y <;> exact absurd (show false = true from hs) Bool.false_ne_true
theorem op_lt : OpR X (compareOp .Lt) (rI0 fun i j => .bl (decide (i < j))) := opB0 fun _ _ _ _ _ _ _ q => lt_int q
theorem qb1 : OpR X (compareOp .LtE) (rI0 fun i j => .bl (decide (i <= j))) := opB0 fun _ _ _ _ _ _ _ q => le_int q
theorem op_gt : OpR X (compareOp .Gt) (rI0 fun i j => .bl (decide (j < i))) := opB0 fun _ _ _ _ _ _ _ q => gt_int q
theorem qe0 : OpR X (compareOp .In) (fun x y H Q => ∃ i j,x = .str i /\ y = .str j /\ Q (.bl (!(Builtin.Str.occurrences j i 0 j.length 1).isEmpty)) H) := by
  intro pins s σ H x y v u Q I rx ry h
  obtain ⟨i,j,rfl,rfl,q⟩ := h
  obtain ⟨t,rfl⟩ := rx
  obtain ⟨t',rfl⟩ := ry
  exact in_str (q2f I q rfl)
theorem q3g (b : Expr) {op : CmpOp} (h : op ≠ .In := by decide) (h2 : op ≠ .NotIn := by decide) : behindInMarks op b = false := by
  have e1 : (op == CmpOp.In) = false := by cases op <;> first | rfl | exact absurd rfl h
  have e2 : (op == CmpOp.NotIn) = false := by cases op <;> first | rfl | exact absurd rfl h2
  cases b <;> simp [behindInMarks,e1,e2]
theorem q58 {op : CmpOp} {r : R2} (ho : OpR X (compareOp op) r) (ha : PE X a ta) (hb : PE X b tb) (hm : behindInMarks op b = false) : PE X (.Compare a [op] [b] pos) (tOp r ta tb) := by
  intro pins s σ H Q I h
  exact wpAny_Compare1 (binT ha hb I h fun v u s2 x y H2 I2 rx ry q => ho pins s2 σ H2 x y v u Q I2 rx ry q) hm
def qd6 (t : TE) : TT := fun σ H Q => t σ H fun x H' => ∃ k,x = .bl k /\ Q k H'
theorem q37 {op : CmpOp} {r : R2} (ho : OpR X (compareOp op) r) (ha : PE X a ta) (hb : PE X b tb) (hm : behindInMarks op b = false) : PT X (.Compare a [op] [b] pos) (qd6 (tOp r ta tb)) := by
  intro pins s σ H Q I h
  refine wpAny_isTrue_Compare1 (thn (ha pins s σ H _ I h) fun v s1 ⟨x,H1,I1,r1,q1⟩ => thn (hb pins s1 σ H1 _ I1 q1) fun u s2 ⟨y,H2,I2,r2,q2⟩ =>
    thn (ho pins s2 σ H2 x y v u _ I2 r1 r2 q2) fun c s3 ⟨z,H3,I3,r3,k,e,q3⟩ => ?_) hm
  subst e
  cases r3
  exact wpAny_truthy_bool ⟨H3,I3,q3⟩
def qbz (r r' : R2) (ta tb tc : TE) : TE := fun σ H Q => ta σ H fun x H1 => tb σ H1 fun y H2 => r x y H2 fun z H3 => ∃ k,z = .bl k /\
  (if k = true then tc σ H3 fun w' H4 => r' y w' H4 Q else Q (.bl false) H3)
theorem qfr {op op' : CmpOp} {r r' : R2} (ho : OpR X (compareOp op) r) (ho' : OpR X (compareOp op') r') (ha : PE X a ta) (hb : PE X b tb) (hc : PE X c tc)
    (hm : lastMarks [op,op'] [b,c] = false := by with_unfolding_all rfl) : PE X (.Compare a [op,op'] [b,c] pos) (qbz r r' ta tb tc) := by
  intro pins s σ H Q I h
  refine Compare_chain (thn (ha pins s σ H _ I h) fun v s1 ⟨x,H1,I1,r1,q1⟩ => chain_link (thn (hb pins s1 σ H1 _ I1 q1) fun u s2 ⟨y,H2,I2,r2,q2⟩ =>
    thn (ho pins s2 σ H2 x y v u _ I2 r1 r2 q2) fun d s3 ⟨z,H3,I3,r3,k,e,q3⟩ => ?_)) hm
  subst e
  cases r3
  refine wpAny_truthy_bool ?_
  cases k with
  | false => exact ite_ff ⟨.bl false,H3,I3,rfl,q3⟩
  | true => exact ite_tt (chain_last (thn (hc pins s3 σ H3 _ I3 q3) fun w' s4 ⟨z',H4,I4,r4,q4⟩ => ho' pins s4 σ H4 y z' u w' Q I4 r2 r4 q4))
theorem qg0 {op op' : CmpOp} {r r' : R2} (ho : OpR X (compareOp op) r) (ho' : OpR X (compareOp op') r') (ha : PE X a ta) (hb : PE X b tb) (hc : PE X c tc)
    (hm : lastMarks [op,op'] [b,c] = false := by with_unfolding_all rfl) : PT X (.Compare a [op,op'] [b,c] pos) (qd6 (qbz r r' ta tb tc)) := by
  intro pins s σ H Q I h
  refine isTrue_chain (thn (ha pins s σ H _ I h) fun v s1 ⟨x,H1,I1,r1,q1⟩ => test_link (thn (hb pins s1 σ H1 _ I1 q1) fun u s2 ⟨y,H2,I2,r2,q2⟩ =>
    thn (ho pins s2 σ H2 x y v u _ I2 r1 r2 q2) fun d s3 ⟨z,H3,I3,r3,k,e,q3⟩ => ?_)) hm
  subst e
  cases r3
  refine wpAny_truthy_bool ?_
  cases k with
  | false =>
    obtain ⟨k',e',q'⟩ := q3
    cases e'
    exact ite_ff ⟨H3,I3,q'⟩
  | true =>
    refine ite_tt (test_last (thn (hc pins s3 σ H3 _ I3 q3) fun w' s4 ⟨z',H4,I4,r4,q4⟩ => thn (ho' pins s4 σ H4 y z' u w' _ I4 r2 r4 q4) fun d' s5 ⟨z2,H5,I5,r5,k2,e2,q5⟩ => ?_))
    subst e2
    cases r5
    exact wpAny_truthy_bool ⟨H5,I5,q5⟩
theorem q7t : (sizeLine : Nat) < 2 ^ 63 := by rw [sizeLine_eq]; decide
theorem q41 : OpR X (binaryOp .Add) (fun x y H Q => ∃ i j,x = .str i /\ y = .str j /\ i.length + j.length <= sizeLine /\ Q (.str (i ++ j)) H) := by
  intro pins s σ H x y v u Q I rx ry h
  obtain ⟨i,j,rfl,rfl,hz,q⟩ := h
  obtain ⟨t,rfl⟩ := rx
  obtain ⟨t',rfl⟩ := ry
  exact add_str (fun t' tk => ⟨.str (i ++ j),H,I.tok _,⟨_,rfl⟩,q⟩) hz
theorem vals1 {x : V} {us : List Value} (r : Vals [x] us) : ∃ u,us = [u] /\ RelV x u := by
  cases r with
  | cons r1 r2 => cases r2; exact ⟨_,rfl,r1⟩
theorem vals2 {x y : V} {us : List Value} (r : Vals [x,y] us) : ∃ u w',us = [u,w'] /\ RelV x u /\ RelV y w' := by
  cases r with
  | cons r1 r2 =>
    cases r2 with
    | cons r3 r4 => cases r4; exact ⟨_,_,rfl,r1,r3⟩
theorem qee : q30 X (.type "int") (fun xs H Q => (∃ i,xs = [.int i] /\ Q (.int i) H) \/ ∃ k,xs = [.bl k] /\ Q (.int (if k then 1 else 0)) H) := by
  intro pins s σ H xs us Q I r h
  rcases h with ⟨i,rfl,q⟩ | ⟨k,rfl,q⟩
  . obtain ⟨u,rfl,t,rfl⟩ := vals1 r
    exact call_int_int ⟨.int i,H,I,⟨_,rfl⟩,q⟩
  . obtain ⟨u,rfl,r1⟩ := vals1 r
    cases r1
    exact call_int_bool ⟨.int (if k then 1 else 0),H,I.tok _,⟨_,rfl⟩,q⟩
theorem qb6 : q30 X (.type "str") (fun xs H Q => ∃ i,xs = [.int i] /\ i.natAbs.log2 < 1920 /\ Q (.str (toString i)) H) := by
  intro pins s σ H xs us Q I r h
  obtain ⟨i,rfl,hz,q⟩ := h
  obtain ⟨u,rfl,t,rfl⟩ := vals1 r
  exact PySem.P.str_of_int hz ⟨.str _,H,I.tok _,⟨_,rfl⟩,q⟩
end
end L2
namespace L2
open PySem PySem.Spec PyProof.Rows
structure ObjM (h : Heap) (x dx C : Addr) (mA : Str -> Option Value) : Prop where
  obj : h.get? x = some (PySem.W.instObj C dx)
  ns : h.Ns1 dx mA
  ne : dx ≠ x
theorem qef {h : Heap} {dx : Addr} {mA : Str -> Option Value} (n : h.Ns1 dx mA) : ∃ od,h.get? dx = some od /\ ∀ name,PySem.W.lookIn name od = some (mA name) := by
  obtain ⟨o,es,ep,ho,hd,hk,_,hm⟩ := n
  refine ⟨o,ho,fun name => ?_⟩
  have e := hm name
  unfold nsFind findBy at e
  rw [<- Array.find?_toList] at e
  unfold PySem.W.lookIn
  rw [hd]
  dsimp only
  split
  . rename_i y q
    rw [q] at e
    exact congrArg some e
  . rename_i q
    rw [q] at e
    have a : es.toList.any (·.refKey) = false := by
      rw [List.any_eq_false]
      intro y hy
      obtain ⟨z,t,hkey⟩ := hk y (Array.mem_toList_iff.mp hy)
      simp [DictEntry.refKey,hkey]
    have a' : ¬ es.toList.any (·.refKey) = true := by rw [a]; exact Bool.false_ne_true
    rw [if_neg a']
    exact congrArg some e
theorem ObjM.look {h : Heap} {x dx C : Addr} {mA : Str -> Option Value} (I : ObjM h x dx C mA) : ∃ od,PySem.W.InstAt h x (PySem.W.instObj C dx) C (some od) /\ ∀ name,PySem.W.lookIn name od = some (mA name) :=
  let ⟨od,ho,hl⟩ := qef I.ns
  ⟨od,⟨I.obj,rfl,rfl,ho⟩,hl⟩
section
variable {prog : Program} {w : World} {A : Around} {E : Value -> Shared -> Prop} {s : Shared} {K : PySem.W.Frag} {x dx C f : Addr} {mA : Str -> Option Value} {name : Str} {v : Value}
theorem get_map {expr : Bool} {Q : Value -> Shared -> Prop} (X : K.In s.heap) (I : ObjM s.heap x dx C mA) (hg : PySem.W.plainGet K C name = true) (hh : PySem.W.hasDictIn K C = true)
    (ha : PySem.W.findIn K (.ref C) name = some none) (hv : mA name = some v) (hv' : PySem.W.handedIn v = true) (h : Q v { s with toks := s.toks + 1 }) :
    wpAny (model prog w) A (getAttr (.ref x) name expr) Q E s := by
  obtain ⟨od,J,hl⟩ := I.look
  exact PySem.W.get_value X J (PySem.W.plainGet_of hg).1 (PySem.W.findObj_own hh ha rfl (by rw [hl,hv])) hv' h
theorem qgk {pl : Sem Bool} {Q : Value × List Value -> Shared -> Prop} (X : K.In s.heap) (I : ObjM s.heap x dx C mA) (hg : PySem.W.plainGet K C name = true)
    (hf : PySem.W.findIn K (.ref C) name = some (some (.ref f))) (ht : PySem.W.isFn K (.ref f) = true) (hv : mA name = none) (h : Q (.ref f,[.ref x]) s) :
    wpAny (model prog w) A (getMethod (.ref x) name pl) Q E s := by
  obtain ⟨od,J,hl⟩ := I.look
  exact PySem.W.method_fn X J (PySem.W.plainGet_of hg).1 (PySem.W.plainGet_of hg).2 hf (beq_iff_eq.mp ht) (by show (PySem.W.lookIn name od).map (·.isSome) = some false; rw [hl,hv]; rfl) h
theorem qhm {ns : List Str} {Q : Unit -> Shared -> Prop} (X : K.In s.heap) (I : ObjM s.heap x dx C mA)
    (hs : PySem.W.findIn K (.ref C) "__setattr__" = some (some (.builtin "object.__setattr__"))) (hp : PySem.W.plainOver K C = true) (ht : PySem.W.takerIn K C name = some none) (hh : PySem.W.hasDictIn K C = true)
    (hw : PySem.Within mA ns) (hsz : ns.length <= sizeLine)
    (h : ∀ h',ObjM h' x dx C (fun y => if y = name then some v else mA y) -> Heap.SameBut dx s.heap h' -> Q () { s with heap := h',toks := s.toks + 2 }) :
    wpAny (model prog w) A (setAttr (.ref x) name v) Q E s := by
  obtain ⟨od,J,hl⟩ := I.look
  refine PySem.W.set_plain X J hs (PySem.W.osa_open (s := { s with toks := s.toks + 1 }) (r := none) X J hp ht fun b => ?_)
  obtain ⟨cd,hc,hd'⟩ := PySem.W.any_some hh
  have hx : s.heap.get? x = some ⟨.ref C,some dx, .plain, #[]⟩ := I.obj
  refine wpAny_bind (wpAny_pure (wpAny_bind (wpAny_bind (wpAny_loadPart hx (wpAny_bind (PySem.W.Looks.here (s := { s with toks := s.toks + 1 }) (PySem.W.looks_clsIn X hc) ?_))))))
  rw [hd']
  refine wpAny_pure (a := some dx) (wpAny_bind (wpAny_pure (wpAny_bind ?_)))
  refine wpAny_nsSet1 (s := { s with toks := s.toks + 1 }) I.ns fun h' hn2 hs2 => ?_
  obtain ⟨oD,esD,epD,hoD,hdD,hcD⟩ := hn2.count (PySem.Within.cons name v hw)
  refine wpAny_bind (wpAny_lookBehind hoD (by rw [hdD]; exact pastItsLine_dict (Nat.le_trans hcD (by rw [List.length_cons]; omega))) ?_)
  exact wpAny_pure (h _ ⟨(hs2.2 _ (Ne.symm I.ne)).trans I.obj,hn2,I.ne⟩ hs2)
theorem qgg {R : Result -> Shared -> Prop} {vs : List Value} {kw : List (Str × Value)} (X : K.In s.heap) (hm : PySem.W.makesIn K C = true)
    (hi : PySem.W.findIn K (.ref C) "__init__" = some (some (.ref f))) (hf : PySem.W.typeIn K (.ref f) = some (.type "function"))
    (h : codeAny (model prog w) (A.under (.builtin "type.__call__" ⟨.ref C :: vs,kw⟩)) (.call (.ref f) ⟨.ref (s.heap.objs.size + 1) :: vs,kw⟩) (PySem.W.InitBack (s.heap.objs.size + 1) R)
      { s with heap := (s.heap.push PySem.W.emptyDict).push (PySem.W.instObj C s.heap.objs.size) }) :
    codeAny (model prog w) A (.call (.ref C) ⟨vs,kw⟩) R s := by
  obtain ⟨hh,g,d,t,os⟩ := s
  exact PySem.W.make_core (PySem.W.makes_of X hm) (PySem.W.looks_findIn X hi) (fun self => PySem.W.bind_fn X self hf) (.inl rfl) h
end
def putF (f : Str) (v : V) : List (Str × V) -> List (Str × V)
  | [] => [(f,v)]
  | (g,x) :: r => if g = f then (g,v) :: r else (g,x) :: putF f v r
theorem q8n (f g : Str) (v : V) : ∀ fs : List (Str × V),(putF f v fs).lookup g = if g = f then some v else fs.lookup g
  | [] => by
    show List.lookup g [(f,v)] = _
    by_cases h : g = f
    . have hb : (g == f) = true := beq_iff_eq.mpr h
      simp only [List.lookup,hb,if_pos h]
    . have hb : (g == f) = false := beq_eq_false_iff_ne.mpr h
      simp only [List.lookup,hb,if_neg h]
  | (k,x) :: r => by
    have ih := q8n f g v r
    rw [show putF f v ((k,x) :: r) = (if k = f then (k,v) :: r else (k,x) :: putF f v r) from rfl]
    by_cases hk : k = f
    . rw [if_pos hk]
      by_cases h : g = k
      . have hb : (g == k) = true := beq_iff_eq.mpr h
        simp only [List.lookup,hb,if_pos (h.trans hk)]
      . have hb : (g == k) = false := beq_eq_false_iff_ne.mpr h
        simp only [List.lookup,hb,if_neg (fun e : g = f => h (e.trans hk.symm))]
    . rw [if_neg hk]
      by_cases h : g = k
      . have hb : (g == k) = true := beq_iff_eq.mpr h
        simp only [List.lookup,hb,if_neg (fun e : g = f => hk (h.symm.trans e))]
      . have hb : (g == k) = false := beq_eq_false_iff_ne.mpr h
        simp only [List.lookup,hb]
        exact ih
theorem q80 (f : Str) (v : V) : ∀ fs : List (Str × V),f ∈ (putF f v fs).map (·.1) /\ ∀ g,g ∈ fs.map (·.1) -> g ∈ (putF f v fs).map (·.1)
  | [] => ⟨by simp [putF],fun g h => by simp at h⟩
  | (k,x) :: r => by
    obtain ⟨i1,i2⟩ := q80 f v r
    rw [show putF f v ((k,x) :: r) = (if k = f then (k,v) :: r else (k,x) :: putF f v r) from rfl]
    by_cases hk : k = f
    . rw [if_pos hk]
      subst hk
      exact ⟨by simp,fun g h => by simpa using h⟩
    . rw [if_neg hk]
      refine ⟨?_,fun g h => ?_⟩
      . rw [List.map_cons]
        exact List.mem_cons_of_mem _ i1
      . rw [List.map_cons] at h ⊢
        rcases List.mem_cons.mp h with e | e
        . exact List.mem_cons.mpr (.inl e)
        . exact List.mem_cons_of_mem _ (i2 g e)
theorem q8k (f : Str) (v : V) : ∀ fs : List (Str × V),(putF f v fs).length <= fs.length + 1
  | [] => by simp [putF]
  | (k,x) :: r => by
    have ih := q8k f v r
    rw [show putF f v ((k,x) :: r) = (if k = f then (k,v) :: r else (k,x) :: putF f v r) from rfl]
    by_cases hk : k = f
    . rw [if_pos hk,List.length_cons,List.length_cons]; omega
    . rw [if_neg hk,List.length_cons,List.length_cons]; omega
theorem RelO.some_of {v : V} {o : Option Value} (r : RelO (some v) o) : ∃ u,o = some u /\ RelV v u := by
  cases o with
  | none => exact (show False from r).elim
  | some u => exact ⟨u,rfl,r⟩
theorem RelO.none_of {o : Option Value} (r : RelO none o) : o = none := by
  cases o with
  | none => rfl
  | some u => exact (show False from r).elim
theorem qf0 {v : V} {u : Value} (r : RelV v u) : PySem.W.handedIn u = true := by
  cases v with
  | non => cases (show u = Value.none from r); rfl
  | bl b => cases (show u = Value.bool b from r); rfl
  | int i => obtain ⟨t,e⟩ := (show ∃ t,u = Value.int i t from r); cases e; rfl
  | str x => obtain ⟨t,e⟩ := (show ∃ t,u = Value.str x t from r); cases e; rfl
  | byt b => obtain ⟨t,e⟩ := (show ∃ t,u = Value.bytes b t from r); cases e; rfl
  | flt b => obtain ⟨t,e⟩ := (show ∃ t,u = Value.float b t from r); cases e; rfl
  | ref a => cases (show u = Value.ref a from r); rfl
  | ty n => cases (show u = Value.type n from r); rfl
section
variable {P : Program} {w : World} {H H' : Hp} {h h' : Heap} {a C dx : Addr} {fs fs' : List (Str × V)}
theorem q8e (hok : HOk P w H h) (e : H a = some (.ins C dx fs)) : ∃ mA,ObjM h a dx C mA /\ (∀ f,RelO (fs.lookup f) (mA f)) /\ PySem.Within mA (fs.map (·.1)) /\ fs.length <= 1000 /\ H dx = some (.own a) := by
  obtain ⟨d,z,ne,ob,mA,n,r,q⟩ := (show q2q P w H h a (.ins C dx fs) from hok a _ e)
  exact ⟨mA,⟨ob,n,ne⟩,r,q,z,d⟩
end
structure Cls (K : PySem.W.Frag) (C : Addr) : Prop where
  pg : PySem.W.plainGet K C Str.empty = true
  hd : PySem.W.hasDictIn K C = true
  po : PySem.W.plainOver K C = true
  sa : PySem.W.findIn K (.ref C) "__setattr__" = some (some (.builtin "object.__setattr__"))
theorem Cls.get {K : PySem.W.Frag} {C : Addr} (c : Cls K C) (f : Str) : PySem.W.plainGet K C f = true := c.pg
def q1x (K : PySem.W.Frag) (C : Addr) (f : Str) : Prop := PySem.W.findIn K (.ref C) f = some none
theorem q1x.taker {K : PySem.W.Frag} {C : Addr} {f : Str} (n : q1x K C f) : PySem.W.takerIn K C f = some none := by
  unfold PySem.W.takerIn
  rw [show PySem.W.findIn K (.ref C) f = some none from n]
  rfl
structure Meth (K : PySem.W.Frag) (C : Addr) (m : Str) (f : Addr) : Prop where
  at_ : PySem.W.findIn K (.ref C) m = some (some (.ref f))
  fn : PySem.W.isFn K (.ref f) = true
  kp : PySem.W.keepIn K (.ref f) = true
section
variable {X : Cx} {pins : List (Addr × Obj)} {σ : St} {H : Hp} {s : Shared} {a C dx : Addr} {fs : List (Str × V)} {f : Str} {v : V} {A : Around} {E : Value -> Shared -> Prop}
theorem q9j {b : Bool} {Q : Value -> Shared -> Prop} (I : Inv X pins σ H s) (e : H a = some (.ins C dx fs)) (c : Cls X.K C) (n : q1x X.K C f) (l : fs.lookup f = some v)
    (h : ∀ u s',Inv X pins σ H s' -> RelV v u -> Q u s') : wpAny (model X.prog X.w) A (getAttr (.ref a) f b) Q E s := by
  obtain ⟨mA,O,r,_,_,_⟩ := q8e I.hok e
  obtain ⟨u,hu,ru⟩ := RelO.some_of (v := v) (o := mA f) (by rw [<- l]; exact r f)
  exact get_map I.kIn O (c.get f) c.hd n hu (qf0 ru) (h u _ (I.tok _) ru)
theorem q69 {m : Str} {g : Addr} {pl : Sem Bool} {Q : Value × List Value -> Shared -> Prop} (I : Inv X pins σ H s) (e : H a = some (.ins C dx fs)) (c : Cls X.K C) (k : Meth X.K C m g) (l : fs.lookup m = none)
    (h : Q (.ref g,[.ref a]) s) : wpAny (model X.prog X.w) A (getMethod (.ref a) m pl) Q E s := by
  obtain ⟨mA,O,r,_,_,_⟩ := q8e I.hok e
  have hn : mA m = none := RelO.none_of (by rw [<- l]; exact r m)
  exact qgk I.kIn O (c.get m) k.at_ k.fn hn h
theorem q98 {y : V} {u : Value} {Q : Unit -> Shared -> Prop} (I : Inv X pins σ H s) (e : H a = some (.ins C dx fs)) (c : Cls X.K C) (n : q1x X.K C f) (hl : fs.length < 1000) (ry : RelV y u)
    (h : ∀ s',Inv X pins σ (upd H a (.ins C dx (putF f y fs))) s' -> Q () s') : wpAny (model X.prog X.w) A (setAttr (.ref a) f u) Q E s := by
  obtain ⟨mA,O,r,wi,_,ho⟩ := q8e I.hok e
  have hz : (fs.map (·.1)).length <= sizeLine := by rw [List.length_map,sizeLine_eq]; omega
  refine qhm I.kIn O c.sa c.po n.taker c.hd wi hz fun h' O' sb => h _ ?_
  have hd : ∃ o,h'.get? dx = some o := let ⟨o,_,_,e',_⟩ := O'.ns; ⟨o,e'⟩
  refine I.write (x := a) (e := dx) (by rw [e]; exact True.intro) (.inr ho) (fun b q hb z => (sb.2 b hb).trans z) hd ?_
  refine ⟨by rw [q21 O.ne]; exact ho,?_,O.ne,O'.obj,_,O'.ns,fun g => ?_,fun g hg => ?_⟩
  . have := q8k f y fs; omega
  . show RelO ((putF f y fs).lookup g) (if g = f then some u else mA g)
    rw [q8n]
    by_cases q : g = f
    . rw [if_pos q,if_pos q]; exact ry
    . rw [if_neg q,if_neg q]; exact r g
  . by_cases q : g = f
    . rw [q]; exact (q80 f y fs).1
    . refine (q80 f y fs).2 g (wi g fun z => hg ?_)
      show (if g = f then some u else mA g) = none
      rw [if_neg q]; exact z
theorem Inv.made (I : Inv X pins σ H s) : Inv X pins σ (upd (upd H s.heap.objs.size (.own (s.heap.objs.size + 1))) (s.heap.objs.size + 1) (.ins C s.heap.objs.size []))
    { s with heap := (s.heap.push PySem.W.emptyDict).push (PySem.W.instObj C s.heap.objs.size) } := by
  have e1 : (s.heap.push PySem.W.emptyDict).get? s.heap.objs.size = some PySem.W.emptyDict := Heap.get?_push_size s.heap rfl
  have e2 : ((s.heap.push PySem.W.emptyDict).push (PySem.W.instObj C s.heap.objs.size)).get? (s.heap.objs.size + 1) = some (PySem.W.instObj C s.heap.objs.size) := by
    have := Heap.get?_push_size (s.heap.push PySem.W.emptyDict) (o := PySem.W.instObj C s.heap.objs.size) rfl
    rwa [Heap.size_push] at this
  have e3 : (s.heap.push PySem.W.emptyDict).Ns s.heap.objs.size (fun _ => none) := ⟨PySem.W.emptyDict, #[],_,e1,rfl,(fun e he => absurd he (by simp)),fun _ => rfl⟩
  have I1 := I.laid (a := s.heap.objs.size) (o := .own (s.heap.objs.size + 1)) (h' := s.heap.push PySem.W.emptyDict) (t' := s.toks) (fun b u q => Heap.get?_push_of_some _ q) (Nat.le_refl _) ⟨_,e1⟩
  refine I1.laid (a := s.heap.objs.size + 1) (o := .ins C s.heap.objs.size []) (t' := s.toks) (fun b u q => Heap.get?_push_of_some _ q) (Nat.le_of_eq (Heap.size_push _ _)) ?_
  have ne : s.heap.objs.size ≠ s.heap.objs.size + 1 := Nat.ne_of_lt (Nat.lt_succ_self _)
  refine ⟨by rw [q21 ne,q2t],Nat.zero_le _,ne,e2,fun _ => none,(Heap.Ns1.of_empty e3).at fun o q => Heap.get?_push_of_some _ q,fun _ => True.intro,fun y hy => absurd rfl hy⟩
theorem qhy {prog : Program} {w : World} {env : Env} {e : Expr} {f : Str} {pos : Pos} {s : Shared} {Q : Value -> Shared -> Prop} (hb : attributeBase e f env (eval e env) = eval e env)
    (h : wpAny (model prog w) A (eval e env) (fun o s₁ => wpAny (model prog w) A (getAttr o f true) Q E s₁) E s) : wpAny (model prog w) A (eval (.Attribute e f pos) env) Q E s :=
  Attribute_any_ h (by rw [arm_eval_Attribute,hb])
end
def tFld (K : PySem.W.Frag) (ta : TE) (f : Str) : TE := fun σ H Q => ta σ H fun x H1 => ∃ a C dx fs v,x = .ref a /\ H1 a = some (.ins C dx fs) /\ Cls K C /\ q1x K C f /\ fs.lookup f = some v /\ Q v H1
def sFld (K : PySem.W.Frag) (ta tv : TE) (f : Str) : TS := fun D σ H => tv σ H fun y H1 => ta σ H1 fun x H2 => ∃ a C dx fs,x = .ref a /\ H2 a = some (.ins C dx fs) /\ Cls K C /\ q1x K C f /\ fs.length < 1000 /\
  D.nx σ (upd H2 a (.ins C dx (putF f y fs)))
def InOp (X : Cx) (op : Operator) (rd : V -> V -> Hp -> VK -> Prop) : Prop :=
  ∀ (pins : List (Addr × Obj)) (s : Shared) (σ : St) (H : Hp) (x y : V) (u v : Value) (Q : VK),Inv X pins σ H s -> RelV x u -> RelV y v -> rd x y H Q -> wpAny (model X.prog X.w) X.A (inplaceOp op u v) (EP X pins σ Q) X.xe s
def qcn (K : PySem.W.Frag) (ta tv : TE) (rd : V -> V -> Hp -> VK -> Prop) (f : Str) : TS := fun D σ H => ta σ H fun x H1 => ∃ a C dx fs v,x = .ref a /\ H1 a = some (.ins C dx fs) /\ Cls K C /\ q1x K C f /\ fs.lookup f = some v /\
  tv σ H1 fun y H2 => rd v y H2 fun z H3 => ∃ dx' fs',H3 a = some (.ins C dx' fs') /\ fs'.length < 1000 /\ D.nx σ (upd H3 a (.ins C dx' (putF f z fs')))
section
variable {X : Cx} {o e value : Expr} {f : Str} {pos pos' tpos : Pos} {ta tv : TE}
theorem q1y (he : PE X e ta) (hb : attributeBase e f X.env (eval e X.env) = eval e X.env) : PE X (.Attribute e f pos) (tFld X.K ta f) := by
  intro pins s σ H Q I h
  refine qhy hb (thn (he pins s σ H _ I h) fun u s1 ⟨x,H1,I1,rx,a,C,dx,fs,v,ex,ea,c,n,l,q⟩ => ?_)
  subst ex
  obtain rfl : u = Value.ref a := rx
  exact q9j I1 ea c n l fun u' s2 I2 ru => ⟨v,H1,I2,ru,q⟩
theorem q2p (ha : PE X o ta) (hv : PE X value tv) (hs : swapsWith value (some (.Attribute o f pos')) pos.line X.env = pure false) : PS X (.Assign [.Attribute o f pos'] value pos) (sFld X.K ta tv f) := by
  intro pins s σ H D I h
  refine plainObj_wpAny_Assign_Attribute (thn (hv pins s σ H _ I h) fun u s1 ⟨y,H1,I1,ry,q⟩ => thn (ha pins s1 σ H1 _ I1 q) fun ov s2 ⟨x,H2,I2,rx,a,C,dx,fs,ex,ea,c,n,l,q2⟩ => ?_) hs
  subst ex
  obtain rfl : ov = Value.ref a := rx
  exact q98 I2 ea c n l ry fun s3 I3 => ⟨σ,_,I3,q2⟩
theorem q87 {op : Operator} {rd : V -> V -> Hp -> VK -> Prop} (ha : PE X o ta) (hv : PE X value tv) (hop : InOp X op rd) : PS X (.AugAssign (.Attribute o f tpos) op value pos) (qcn X.K ta tv rd f) := by
  intro pins s σ H D I h
  refine wpAny_AugAssign_AttributeAny (thn (ha pins s σ H _ I h) fun ov s1 ⟨x,H1,I1,rx,a,C,dx,fs,v,ex,ea,c,n,l,q⟩ => ?_)
  subst ex
  obtain rfl : ov = Value.ref a := rx
  refine q9j I1 ea c n l fun u s2 I2 ru => thn (hv pins s2 σ H1 _ I2 q) fun w3 s3 ⟨y,H2,I3,ry,q3⟩ => thn (hop pins s3 σ H2 v y u w3 _ I3 ru ry q3) fun w4 s4 ⟨z,H3,I4,rz,dx',fs',ea',l',q4⟩ => ?_
  exact q98 I4 ea' c n l' rz fun s5 I5 => ⟨σ,_,I5,q4⟩
def rAdd : V -> V -> Hp -> VK -> Prop := fun x y H Q => ∃ i j,x = .int i /\ y = .int j /\ Q (.int (i + j)) H
def rSub : V -> V -> Hp -> VK -> Prop := fun x y H Q => ∃ i j,x = .int i /\ y = .int j /\ Q (.int (i - j)) H
theorem in_add : InOp X .Add rAdd := by
  rintro pins s σ H x y u v Q I rx ry ⟨i,j,rfl,rfl,q⟩
  obtain ⟨t,rfl⟩ := (show ∃ t,u = Value.int i t from rx)
  obtain ⟨t',rfl⟩ := (show ∃ t',v = Value.int j t' from ry)
  exact PyProof.Rows.iadd_int ⟨.int (i + j),H,I.tok _,⟨_,rfl⟩,q⟩
theorem qem : InOp X .Sub rSub := by
  rintro pins s σ H x y u v Q I rx ry ⟨i,j,rfl,rfl,q⟩
  obtain ⟨t,rfl⟩ := (show ∃ t,u = Value.int i t from rx)
  obtain ⟨t',rfl⟩ := (show ∃ t',v = Value.int j t' from ry)
  exact PyProof.Rows.isub_int ⟨.int (i - j),H,I.tok _,⟨_,rfl⟩,q⟩
theorem qib {pl : Sem Bool} {m : Str} {apos : Pos} {args : List Expr} {pins : List (Addr × Obj)} {s : Shared} {σ : St} {H : Hp} {Q : Value -> Shared -> Prop} {te : TE} (he : PE X e te) (I : Inv X pins σ H s)
    (h : te σ H fun x H1 => ∃ a C dx fs g,x = .ref a /\ H1 a = some (.ins C dx fs) /\ Cls X.K C /\ Meth X.K C m g /\ fs.lookup m = none /\
      ∀ s1,Inv X pins σ H1 s1 -> wpAny (model X.prog X.w) X.A (callWith pos (.ref g) [.ref a] (backTo pos (starEach args X.env)) (backToKw pos (keywordEach [] X.env))) Q X.xe s1)
    (ht : eval (.Call (.Attribute e m apos) args [] pos) X.env = (do
      let ov <- eval e X.env
      standAt apos.atName
      let (f,first) <- holding [ov] (getMethod ov m pl)
      callWith pos f first (backTo pos (starEach args X.env)) (backToKw pos (keywordEach [] X.env)))) :
    wpAny (model X.prog X.w) X.A (eval (.Call (.Attribute e m apos) args [] pos) X.env) Q X.xe s := by
  refine PySem.W.methodCall_KW (pl := pl) (thn (he pins s σ H _ I h) fun u s1 ⟨x,H1,I1,rx,a,C,dx,fs,g,ex,ea,c,k,l,q⟩ => ?_) ht
  subst ex
  obtain rfl : u = Value.ref a := rx
  exact q69 I1 ea c k l (q s1 I1)
end
section
variable {X : Cx} {pins : List (Addr × Obj)} {σ : St} {H : Hp} {s : Shared} {A : Around} {E : Value -> Shared -> Prop} {Q : Value -> Shared -> Prop} {c : Value} {b : Bool}
inductive TyOf (K : PySem.W.Frag) (H : Hp) : V -> Value -> Prop where
  | non : TyOf K H .non (.type "NoneType")
  | bl (x : Bool) : TyOf K H (.bl x) (.type "bool")
  | int (i : Int) : TyOf K H (.int i) (.type "int")
  | str (x : Str) : TyOf K H (.str x) (.type "str")
  | flt (x : UInt64) : TyOf K H (.flt x) (.type "float")
  | lst {a : Addr} {xs : List V} (e : H a = some (.lst xs)) : TyOf K H (.ref a) (.type "list")
  | frz {a : Addr} {o : Obj} {xs : List V} (e : H a = some (.frz o (.lst xs))) : TyOf K H (.ref a) (.type "list")
  | tup {a : Addr} {xs : List V} (e : H a = some (.tup xs)) : TyOf K H (.ref a) (.type "tuple")
  | dK {a : Addr} {kvs : List (Key × V)} (e : H a = some (.dK kvs)) : TyOf K H (.ref a) (.type "dict")
  | dT {a : Addr} {kvs : List (List Key × V)} (e : H a = some (.dT kvs)) : TyOf K H (.ref a) (.type "dict")
  | ins {a C dx : Addr} {fs : List (Str × V)} (e : H a = some (.ins C dx fs)) (cl : Cls K C) (ha : PySem.W.findIn K (.ref C) "__class__" = some (some (.builtin "object.__class__")))
      (hn : PySem.W.specialIn K (.builtin "object.__class__") "__get__" = some (some (.builtin "getset_descriptor.__get__"))) (htk : PySem.W.takesIn K (.builtin "object.__class__") = some true)
      (hm : PySem.W.mroIn K C (.type "object") = some true) : TyOf K H (.ref a) (.ref C)
end
end L2
namespace L2
open PySem PySem.Spec PyProof.Rows
structure Room (k : Nat) (A : Around) : Prop where
  hd : A.handled = none
  dp : A.depth + 3 * k + 5 < recursionLimit
  un : A.units + 16 * k + 200 < cLine
theorem Room.mono {j k : Nat} {A : Around} (r : Room k A) (h : j <= k) : Room j A := ⟨r.hd,by have := r.dp; omega,by have := r.un; omega⟩
theorem Room.q9 {j k : Nat} {A : Around} (r : Room k A) (h : j <= k := by decide) : Room j A := r.mono h
theorem Room.deeper {k : Nat} {A : Around} (r : Room (k + 1) A) (env : Env) : Room k (A.deeper env) :=
  ⟨r.hd,by have := r.dp; show A.depth + 1 + 3 * k + 5 < _; omega,by have := r.un; show A.units + 3 + 16 * k + 200 < _; omega⟩
theorem qdm {A : Around} {C : Addr} {us : List Value} {kw : List (Str × Value)} : (A.under (.builtin "type.__call__" ⟨.ref C :: us,kw⟩)).depth = A.depth + 1 := by
  first | rfl | simp [Around.under,Code.weight,Code.isCreation,Code.isGuard,Code.isCaller,Code.frames,Code.isFrame,guardIds]
theorem qdi {A : Around} {C : Addr} {us : List Value} {kw : List (Str × Value)} : (A.under (.builtin "type.__call__" ⟨.ref C :: us,kw⟩)).units = A.units + 1 := by
  first | rfl | simp [Around.under,Code.cUnits,Code.frames,Code.isFrame]
theorem Room.make {k : Nat} {A : Around} (r : Room (k + 1) A) (C : Addr) (us : List Value) (kw : List (Str × Value)) : Room k (A.under (.builtin "type.__call__" ⟨.ref C :: us,kw⟩)) :=
  ⟨r.hd,by have := r.dp; rw [qdm]; omega,by have := r.un; rw [qdi]; omega⟩
theorem Room.depth {k : Nat} {A : Around} (r : Room k A) : A.depth < recursionLimit := by have := r.dp; omega
theorem Room.units {k : Nat} {A : Around} (r : Room k A) : A.units + 64 < cLine := by have := r.un; omega
def tNil : TA := fun _ H Q => Q [] H
def q49 (ta : TE) (tr : TA) : TA := fun σ H Q => ta σ H fun x H1 => tr σ H1 fun xs H2 => Q (x :: xs) H2
section
variable {X : Cx} {e : Expr} {es : List Expr} {te : TE} {t : TA} {pos : Pos}
theorem q1c : PA X [] tNil := fun _ _ _ _ H Q I h => Calls.spliced_nil ⟨[],H,I, .nil,h⟩
theorem q18 (ha : PE X e te) (hr : PA X es t) (hs : starEach (e :: es) X.env = (false,eval e X.env) :: starEach es X.env := by rfl) : PA X (e :: es) (q49 te t) := by
  intro pos pins s σ H Q I h
  rw [hs]
  show wpAny _ _ (spliced ((false,eval e X.env) :: backTo pos (starEach es X.env))) _ _ s
  refine Calls.spliced_cons (thn (ha pins s σ H _ I h) fun u s1 ⟨x,H1,I1,r1,q1⟩ => ?_)
  exact thn (hr pos pins s1 σ H1 _ I1 q1) fun us s2 ⟨xs,H2,I2,r2,q2⟩ => ⟨x :: xs,H2,I2, .cons r1 r2,q2⟩
def tTup (t : TA) : TE := fun σ H Q => t σ H fun xs H1 => xs.length <= sizeLine /\ ∀ p,H1 p = none -> Q (.ref p) (upd H1 p (.tup xs))
def tLst (t : TA) : TE := fun σ H Q => t σ H fun xs H1 => xs.length <= sizeLine /\ ∀ p,H1 p = none -> Q (.ref p) (upd H1 p (.lst xs))
theorem q2c {x1} (h : PA X es t) : PE X (.Tuple es x1 pos) (tTup t) := by
  intro pins s σ H Q I hq
  refine wpAny_Tuple_spliced (thn (h pos pins s σ H _ I hq) fun us s1 ⟨xs,H1,I1,r,z,q⟩ => ⟨by rw [<- r.length]; exact z,?_⟩)
  have hf : H1 s1.heap.objs.size = none := I1.hok.fresh (Nat.le_refl _)
  refine ⟨.ref s1.heap.objs.size,upd H1 s1.heap.objs.size (.tup xs),I1.laid (t' := s1.toks) (fun b u e => Heap.get?_push_of_some _ e) (Nat.le_refl _) ?_,rfl,q _ hf⟩
  exact ⟨z,us,r,⟨_,Heap.get?_push_size _ rfl,rfl,_,rfl⟩⟩
theorem q35 (h : PA X es t) : PE X (.List es pos) (tLst t) := by
  intro pins s σ H Q I hq
  refine wpAny_List_spliced (thn (h pos pins s σ H _ I hq) fun us s1 ⟨xs,H1,I1,r,z,q⟩ => ⟨by rw [<- r.length]; exact z,?_⟩)
  have hf : H1 s1.heap.objs.size = none := I1.hok.fresh (Nat.le_refl _)
  refine ⟨.ref s1.heap.objs.size,upd H1 s1.heap.objs.size (.lst xs),I1.laid (t' := s1.toks) (fun b u e => Heap.get?_push_of_some _ e) (Nat.le_refl _) ?_,rfl,q _ hf⟩
  exact ⟨z,us,0,r,Heap.get?_push_size _ rfl⟩
end
abbrev Sp := List V -> Hp -> VK -> XK -> Prop
abbrev CXT := List Env -> Hp -> Shared -> XK -> Value -> Shared -> Prop
structure Env0 (P : Program) (w : World) (K : PySem.W.Frag) (mg : Str -> Option Value) (base : Heap) (A : Around) (outer : List Env) (s : Shared) (H : Hp) : Prop where
  frames : A.frames = some outer
  mod : Mod K mg base
  bs : ∀ b o,base.get? b = some o -> s.heap.get? b = some o /\ H b = none
  bsz : base.objs.size <= s.heap.objs.size
  funs : s.heap.FunFrames base outer
  frf : ∀ b ∈ frs outer,H b = none
  hok : HOk P w H s.heap
  bare : AllBare s.gens
def CE (outer : List Env) (P : Program) (w : World) (H : Hp) (s : Shared) (Q : VK) (u : Value) (s' : Shared) : Prop :=
  ∃ v H',s'.os = s.os /\ AllBare s'.gens /\ Un (frs outer) [] H H' s.heap s'.heap /\ HOk P w H' s'.heap /\ RelV v u /\ Q v H'
def CR (CX : CXT) (outer : List Env) (P : Program) (w : World) (H : Hp) (s : Shared) (Q : VK) (E : XK) (r : Result) (s' : Shared) : Prop :=
  match r with
  | .ok (.ret u) => CE outer P w H s Q u s'
  | .ok _ => False
  | .error e => CX outer H s E e s'
structure FnOk (P : Program) (w : World) (K : PySem.W.Frag) (mg : Str -> Option Value) (base : Heap) (CX : CXT) (k : Nat) (f : Addr) (fd : FuncData) (ps : List Str) (sp : Sp) : Prop where
  len : ∀ vs H Q E,sp vs H Q E -> vs.length = ps.length
  run : ∀ (A : Around) (outer : List Env) (s : Shared) (H : Hp) (args : Args) (us : List Value) (vs : List V) (Q : VK) (E : XK),Room k A -> Env0 P w K mg base A outer s H -> BindsTo s fd args (ps.zip us) -> Vals vs us -> sp vs H Q E ->
    codeAny (model P w) A (.call (.ref f) args) (CR CX outer P w H s Q E) s
theorem Env0.make {P : Program} {w : World} {K : PySem.W.Frag} {mg : Str -> Option Value} {base : Heap} {A : Around} {outer : List Env} {s : Shared} {H : Hp} (e : Env0 P w K mg base A outer s H) (C : Addr) (us : List Value) (kw : List (Str × Value)) :
    Env0 P w K mg base (A.under (.builtin "type.__call__" ⟨.ref C :: us,kw⟩)) outer s H := ⟨by first | exact e.frames | (simpa [Around.under,Code.envs,Code.isFrame,pushEnvs] using e.frames),e.mod,e.bs,e.bsz,e.funs,e.frf,e.hok,e.bare⟩
section
variable {X : Cx} {pins : List (Addr × Obj)} {σ : St} {H : Hp} {s s' : Shared}
theorem Inv.env0 (I : Inv X pins σ H s) : Env0 X.prog X.w X.K X.mg X.base X.A X.stack s H :=
  ⟨I.ok.frames,I.ok.mod,I.bs,Nat.le_trans I.ok.bsz I.sz,I.stack,I.q8f,I.hok,I.bare⟩
theorem Inv.after {Q : VK} {u : Value} (I : Inv X pins σ H s) (h : CE X.stack X.prog X.w H s Q u s') : EP X pins σ Q u s' := by
  obtain ⟨v,H',os,bare,un,hok,r,q⟩ := h
  obtain ⟨hh,g,d,t,os'⟩ := s'
  obtain rfl : os' = s.os := os
  exact ⟨v,H',I.call (h' := hh) (g' := g) (d' := d) (t' := t) (ch := []) un hok bare (fun b z => absurd z (by simp)),r,q⟩
end
def qaz (sp : Sp) (dvs : List V) (E : XK) (t : TA) : TE := fun σ H Q => t σ H fun vs H1 => sp (vs ++ dvs) H1 Q E
def qb3 (C : Addr) (m : Str) (sp : Sp) (dvs : List V) (E : XK) (ta : TE) (t : TA) : TE := fun σ H Q => ta σ H fun x H1 => ∃ a dx fs,x = .ref a /\ H1 a = some (.ins C dx fs) /\ fs.lookup m = none /\
  t σ H1 fun vs H2 => sp (x :: (vs ++ dvs)) H2 Q E
def qd8 (C : Addr) (sp : Sp) (dvs : List V) (E : XK) (t : TA) : TE := fun σ H Q => t σ H fun vs H1 => ∀ x dx,H1 x = none -> H1 dx = none -> dx ≠ x ->
  sp (.ref x :: (vs ++ dvs)) (upd (upd H1 dx (.own x)) x (.ins C dx [])) (fun v H2 => v = .non /\ Q (.ref x) H2) E
def Binds (K : PySem.W.Frag) (fd : FuncData) (ps : List Str) (ds : List Value) : Prop :=
  ∀ (s : Shared) (us : List Value),K.In s.heap -> (us ++ ds).length = ps.length -> BindsTo s fd ⟨us,[]⟩ (ps.zip (us ++ ds))
theorem Binds.all {K : PySem.W.Frag} {fd : FuncData} {ps : List Str} (h : ∀ us : List Value,us.length = ps.length -> bindArgs fd ⟨us,[]⟩ = pure (ps.zip us)) : Binds K fd ps [] := fun s us _ hl => by
  rw [List.append_nil] at hl ⊢
  exact .of_eq (h us hl)
def Passes (CX : CXT) (X : Cx) (E : XK) : Prop := ∀ (pins : List (Addr × Obj)) (σ : St) (H : Hp) (s : Shared) (e : Value) (s' : Shared),Inv X pins σ H s -> CX X.stack H s E e s' -> X.xe e s'
section
variable {X : Cx} {CX : CXT} {k : Nat} {f C : Addr} {fd : FuncData} {ps : List Str} {sp : Sp} {dvs : List V} {ds : List Value} {E : XK} {x m : Str} {p pos apos : Pos} {e o : Expr} {es : List Expr} {ta : TE} {t : TA}
theorem q7z {pins : List (Addr × Obj)} {σ : St} {H : Hp} {s : Shared} {Q : VK} {us : List Value} {vs : List V} (F : FnOk X.prog X.w X.K X.mg X.base CX k f fd ps sp) (hr : Room k X.A) (hb : Binds X.K fd ps ds) (hd : Vals dvs ds) (hx : Passes CX X E)
    (I : Inv X pins σ H s) (r : Vals vs us) (h : sp (vs ++ dvs) H Q E) : wpAny (model X.prog X.w) X.A (call (.ref f) us) (EP X pins σ Q) X.xe s := by
  have r2 : Vals (vs ++ dvs) (us ++ ds) := r.append hd
  have hl : (us ++ ds).length = ps.length := by rw [<- r2.length]; exact F.len _ _ _ _ h
  refine wpAny_call (codeAny_mono (F.run X.A X.stack s H ⟨us,[]⟩ (us ++ ds) (vs ++ dvs) Q E hr I.env0 (hb s us I.kIn hl) r2 h) fun r s' hq => ?_)
  cases r with
  | error e => exact hx pins σ H s e s' I hq
  | ok fl =>
    cases fl with
    | ret u => exact I.after hq
    | next => exact False.elim hq
    | brk => exact False.elim hq
    | cont => exact False.elim hq
theorem q2r (F : FnOk X.prog X.w X.K X.mg X.base CX k f fd ps sp) (hr : Room k X.A) (hg : Gl X x) (hm : X.mg x = some (.ref f)) (hk : PySem.W.keepIn X.K (.ref f) = true) (hb : Binds X.K fd ps ds) (hd : Vals dvs ds) (hx : Passes CX X E)
    (ha : PA X (e :: es) t) (hdb : (x == ("__debug__" : Str)) = false := by decide) (he : starEach (e :: es) X.env = (false,eval e X.env) :: starEach es X.env := by rfl) (hpl : (backTo pos (starEach es X.env)).any (·.1) = false := by rfl) :
    PE X (.Call (.Name x p) (e :: es) [] pos) (qaz sp dvs E t) := by
  intro pins s σ H Q I h
  refine wpAny_Call_Name_kw (q56 I hg hm ?_ hdb)
  refine PySem.W.callWith_K (h₀ := X.base) I.ok.mod.kin hk (thn (ha pos pins s σ H _ I h) fun us s1 ⟨vs,H1,I1,r,q⟩ => ⟨I1.kIn,?_⟩) he hpl
  exact q7z F hr hb hd hx I1 r q
theorem qgc (F : FnOk X.prog X.w X.K X.mg X.base CX k f fd ps sp) (hr : Room k X.A) (hg : Gl X x) (hm : X.mg x = some (.ref f)) (hk : PySem.W.keepIn X.K (.ref f) = true) (hb : Binds X.K fd ps ds) (hd : Vals dvs ds) (hx : Passes CX X E)
    (hdb : (x == ("__debug__" : Str)) = false := by decide) : PE X (.Call (.Name x p) [] [] pos) (qaz sp dvs E tNil) := by
  intro pins s σ H Q I h
  refine wpAny_Call_Name_kw (q56 I hg hm ?_ hdb)
  exact PySem.W.callWith_K0 I.kIn hk (q7z (us := []) F hr hb hd hx I .nil h)
theorem q24 {pl : Sem Bool} (he : PE X o ta) (c : Cls X.K C) (hm : Meth X.K C m f) (F : FnOk X.prog X.w X.K X.mg X.base CX k f fd ps sp) (hr : Room k X.A) (hb : Binds X.K fd ps ds) (hd : Vals dvs ds) (hx : Passes CX X E) (ha : PA X (e :: es) t)
    (hst : starEach (e :: es) X.env = (false,eval e X.env) :: starEach es X.env := by rfl) (hpl : (backTo pos (starEach es X.env)).any (·.1) = false := by rfl)
    (ht : eval (.Call (.Attribute o m apos) (e :: es) [] pos) X.env = (do
      let ov <- eval o X.env
      standAt apos.atName
      let (f,first) <- holding [ov] (getMethod ov m pl)
      callWith pos f first (backTo pos (starEach (e :: es) X.env)) (backToKw pos (keywordEach [] X.env))) := by rfl) :
    PE X (.Call (.Attribute o m apos) (e :: es) [] pos) (qb3 C m sp dvs E ta t) := by
  intro pins s σ H Q I h
  refine PySem.W.methodCall_KW (pl := pl) (thn (he pins s σ H _ I h) fun u s1 ⟨x,H1,I1,rx,a,dx,fs,ex,ea,l,q⟩ => ?_) ht
  subst ex
  obtain rfl : u = Value.ref a := rx
  refine q69 I1 ea c hm l ?_
  refine PySem.W.callWith_K (first := [.ref a]) (h₀ := X.base) I.ok.mod.kin hm.kp (thn (ha pos pins s1 σ H1 _ I1 q) fun us s2 ⟨vs,H2,I2,r,q2⟩ => ⟨I2.kIn,?_⟩) hst hpl
  exact q7z (us := .ref a :: us) (vs := .ref a :: vs) F hr hb hd hx I2 (.cons rfl r) q2
theorem q8r {pl : Sem Bool} (he : PE X o ta) (c : Cls X.K C) (hm : Meth X.K C m f) (F : FnOk X.prog X.w X.K X.mg X.base CX k f fd ps sp) (hr : Room k X.A) (hb : Binds X.K fd ps ds) (hd : Vals dvs ds) (hx : Passes CX X E)
    (ht : eval (.Call (.Attribute o m apos) [] [] pos) X.env = (do
      let ov <- eval o X.env
      standAt apos.atName
      let (f,first) <- holding [ov] (getMethod ov m pl)
      callWith pos f first (backTo pos (starEach [] X.env)) (backToKw pos (keywordEach [] X.env))) := by rfl) :
    PE X (.Call (.Attribute o m apos) [] [] pos) (qb3 C m sp dvs E ta tNil) := by
  intro pins s σ H Q I h
  refine PySem.W.methodCall_KW (pl := pl) (thn (he pins s σ H _ I h) fun u s1 ⟨x,H1,I1,rx,a,dx,fs,ex,ea,l,q⟩ => ?_) ht
  subst ex
  obtain rfl : u = Value.ref a := rx
  refine q69 I1 ea c hm l ?_
  exact PySem.W.callWith_K0 (first := [.ref a]) I1.kIn hm.kp (q7z (us := [.ref a]) (vs := [.ref a]) F hr hb hd hx I1 (.cons rfl .nil) q)
structure Mk (K : PySem.W.Frag) (C f : Addr) : Prop where
  makes : PySem.W.makesIn K C = true
  init : PySem.W.findIn K (.ref C) "__init__" = some (some (.ref f))
  fn : PySem.W.isFn K (.ref f) = true
  kp : PySem.W.keepIn K (.ref C) = true
theorem qbb {pins : List (Addr × Obj)} {σ : St} {H : Hp} {s : Shared} {Q : VK} {us : List Value} {vs : List V} (M : Mk X.K C f) (F : FnOk X.prog X.w X.K X.mg X.base CX k f fd ps sp) (hr : Room (k + 1) X.A) (hb : Binds X.K fd ps ds) (hd : Vals dvs ds)
    (hx : Passes CX X E) (I : Inv X pins σ H s) (r : Vals vs us)
    (h : ∀ x dx,H x = none -> H dx = none -> dx ≠ x -> sp (.ref x :: (vs ++ dvs)) (upd (upd H dx (.own x)) x (.ins C dx [])) (fun v H2 => v = .non /\ Q (.ref x) H2) E) :
    wpAny (model X.prog X.w) X.A (call (.ref C) us) (EP X pins σ Q) X.xe s := by
  have hq := h (s.heap.objs.size + 1) s.heap.objs.size (I.hok.fresh (Nat.le_succ _)) (I.hok.fresh (Nat.le_refl _)) (Nat.ne_of_lt (Nat.lt_succ_self _))
  have I2 := Inv.made (C := C) I
  have r2 : Vals (V.ref (s.heap.objs.size + 1) :: (vs ++ dvs)) (Value.ref (s.heap.objs.size + 1) :: (us ++ ds)) := .cons rfl (r.append hd)
  have hl : (Value.ref (s.heap.objs.size + 1) :: us ++ ds).length = ps.length := by
    have e := r2.length
    rw [F.len _ _ _ _ hq] at e
    exact e.symm
  refine wpAny_call (qgg (f := f) I.kIn M.makes M.init (beq_iff_eq.mp M.fn) (codeAny_mono (F.run _ X.stack _ _ ⟨Value.ref (s.heap.objs.size + 1) :: us,[]⟩ (Value.ref (s.heap.objs.size + 1) :: (us ++ ds)) _ _ E (hr.make C us [])
    (I2.env0.make C us []) (hb _ (Value.ref (s.heap.objs.size + 1) :: us) I2.kIn hl) r2 hq) fun r s' hq' => ?_))
  cases r with
  | error e => exact hx pins σ _ _ e s' I2 hq'
  | ok fl =>
    cases fl with
    | ret u =>
      obtain ⟨v,H',I3,rv,ev,q3⟩ := I2.after hq'
      subst ev
      exact ⟨rv,⟨V.ref (s.heap.objs.size + 1),H',I3,rfl,q3⟩⟩
    | next => exact False.elim hq'
    | brk => exact False.elim hq'
    | cont => exact False.elim hq'
theorem q55 (M : Mk X.K C f) (F : FnOk X.prog X.w X.K X.mg X.base CX k f fd ps sp) (hr : Room (k + 1) X.A) (hg : Gl X x) (hm : X.mg x = some (.ref C)) (hb : Binds X.K fd ps ds) (hd : Vals dvs ds) (hx : Passes CX X E)
    (ha : PA X (e :: es) t) (hdb : (x == ("__debug__" : Str)) = false := by decide) (he : starEach (e :: es) X.env = (false,eval e X.env) :: starEach es X.env := by rfl) (hpl : (backTo pos (starEach es X.env)).any (·.1) = false := by rfl) :
    PE X (.Call (.Name x p) (e :: es) [] pos) (qd8 C sp dvs E t) := by
  intro pins s σ H Q I h
  refine wpAny_Call_Name_kw (q56 I hg hm ?_ hdb)
  refine PySem.W.callWith_K (h₀ := X.base) I.ok.mod.kin M.kp (thn (ha pos pins s σ H _ I h) fun us s1 ⟨vs,H1,I1,r,q⟩ => ⟨I1.kIn,?_⟩) he hpl
  exact qbb M F hr hb hd hx I1 r q
theorem qfq (M : Mk X.K C f) (F : FnOk X.prog X.w X.K X.mg X.base CX k f fd ps sp) (hr : Room (k + 1) X.A) (hg : Gl X x) (hm : X.mg x = some (.ref C)) (hb : Binds X.K fd ps ds) (hd : Vals dvs ds) (hx : Passes CX X E)
    (hdb : (x == ("__debug__" : Str)) = false := by decide) : PE X (.Call (.Name x p) [] [] pos) (qd8 C sp dvs E tNil) := by
  intro pins s σ H Q I h
  refine wpAny_Call_Name_kw (q56 I hg hm ?_ hdb)
  exact PySem.W.callWith_K0 I.kIn M.kp (qbb (us := []) M F hr hb hd hx I .nil h)
end
structure q1u (N P : List Str) (sc : Scope) : Prop where
  kind : sc.kind = .function
  co : sc.isCoroutine = false
  gen : sc.isGenerator = false
  nd : N.Nodup
  pre : N.take P.length = P
  par : ∀ x ∈ P,sc.names.lookup x = some .local \/ sc.names.lookup x = some .cell
  nofree : ∀ y ∈ sc.names,y.2 ≠ .free
theorem qab {kindOf : Str -> Option NameKind} {x : Str} : ∀ {binds : List (Str × Value)} {m : Str -> Option Value},(∀ v,(x,v) ∉ binds) -> bindL kindOf binds m x = m x
  | [],_,_ => rfl
  | (n,v) :: r,m,h => by
    unfold bindL
    rw [qab fun w hw => h w (List.mem_cons_of_mem _ hw)]
    split
    . have : x ≠ n := by rintro rfl; exact h v List.mem_cons_self
      simp [this]
    . rfl
theorem qad {kindOf : Str -> Option NameKind} {x : Str} : ∀ {binds : List (Str × Value)} {m : Str -> Option Value},(∀ v,(x,v) ∉ binds) -> bindC kindOf binds m x = m x
  | [],_,_ => rfl
  | (n,v) :: r,m,h => by
    unfold bindC
    rw [qad fun w hw => h w (List.mem_cons_of_mem _ hw)]
    split
    . rfl
    . have : x ≠ n := by rintro rfl; exact h v List.mem_cons_self
      simp [this]
theorem qag {kindOf : Str -> Option NameKind} {x : Str} {v : Value} : ∀ {P : List Str} {vs : List Value} {i : Nat} {m : Str -> Option Value},P.Nodup -> P[i]? = some x -> vs[i]? = some v -> kindOf x = some .local ->
    bindL kindOf (P.zip vs) m x = some v
  | [],_,_,_,_,h,_,_ => by simp at h
  | _ :: _,[],_,_,_,_,h,_ => by simp at h
  | p :: P,w :: vs,0,m,nd,h1,h2,hk => by
    simp at h1 h2; subst h1; subst h2
    show bindL kindOf ((p,w) :: P.zip vs) m p = _
    unfold bindL
    rw [qab fun v hv => (List.nodup_cons.mp nd).1 (List.of_mem_zip hv).1,if_pos hk]
    simp
  | p :: P,w :: vs,i + 1,m,nd,h1,h2,hk => by
    show bindL kindOf ((p,w) :: P.zip vs) m x = _
    unfold bindL
    exact qag (i := i) (List.nodup_cons.mp nd).2 (by simpa using h1) (by simpa using h2) hk
theorem qaa {kindOf : Str -> Option NameKind} {x : Str} {v : Value} : ∀ {P : List Str} {vs : List Value} {i : Nat} {m : Str -> Option Value},P.Nodup -> P[i]? = some x -> vs[i]? = some v -> kindOf x ≠ some .local ->
    bindC kindOf (P.zip vs) m x = some v
  | [],_,_,_,_,h,_,_ => by simp at h
  | _ :: _,[],_,_,_,_,h,_ => by simp at h
  | p :: P,w :: vs,0,m,nd,h1,h2,hk => by
    simp at h1 h2; subst h1; subst h2
    show bindC kindOf ((p,w) :: P.zip vs) m p = _
    unfold bindC
    rw [qad fun v hv => (List.nodup_cons.mp nd).1 (List.of_mem_zip hv).1,if_neg hk]
    simp
  | p :: P,w :: vs,i + 1,m,nd,h1,h2,hk => by
    show bindC kindOf ((p,w) :: P.zip vs) m x = _
    unfold bindC
    exact qaa (i := i) (List.nodup_cons.mp nd).2 (by simpa using h1) (by simpa using h2) hk
def start (N : List Str) (vs : List V) : St := vs.map some ++ List.replicate (N.length - vs.length) none
def cxOf (CX : CXT) (P : Program) (w : World) (K : PySem.W.Frag) (mg : Str -> Option Value) (base : Heap) (N : List Str) (qual : Str) (scope : Scope) (f : Addr) (cd : Value) (A : Around) (outer : List Env) (s : Shared) (H : Hp) (E : XK) : Cx where
  prog := P
  w := w
  K := K
  mg := mg
  base := base
  A := A.deeper (envOfC qual scope s.heap.objs.size f cd)
  N := N
  s₀ := s
  H₀ := H
  env := envOfC qual scope s.heap.objs.size f cd
  outer := outer
  stack := envOfC qual scope s.heap.objs.size f cd :: outer
  ex := []
  calm := true
  fn := fun _ => true
  pn := []
  xe := fun e s' => wpAny (model P w) (A.deeper (envOfC qual scope s.heap.objs.size f cd)) (leaving (envOfC qual scope s.heap.objs.size f cd) e) (fun _ s'' => CX outer H s E e s'') (fun e' s'' => CX outer H s E e' s'') s'
theorem qba {sc : Scope} {n : Nat} {x : Str} (h : sc.names.lookup x = some .cell) : ∃ c,(cellsFrom n sc.names []).lookup x = some c := by
  have q := PySem.W.cellsFrom_some sc.names n [] (.inl h)
  exact Option.isSome_iff_exists.mp q
theorem qa7 {CX : CXT} {P : Program} {w : World} {K : PySem.W.Frag} {mg : Str -> Option Value} {base : Heap} {N ps : List Str} {qual : Str} {scope : Scope} {f : Addr} {cd : Value} {A : Around} {outer : List Env} {s s1 : Shared} {H : Hp} {E : XK} {us : List Value} {vs : List V}
    (S : q1u N ps scope) (hd : A.handled = none) (e0 : Env0 P w K mg base A outer s H) (hl : vs.length = ps.length) (r : Vals vs us)
    (x : InCallC s s.heap.objs.size (bindL (envOfC qual scope s.heap.objs.size f cd).kindOf (ps.zip us) fun _ => none) (cellsFrom (s.heap.objs.size + 1) scope.names []) (bindC (envOfC qual scope s.heap.objs.size f cd).kindOf (ps.zip us) fun _ => none) s1) :
    Inv (cxOf CX P w K mg base N qual scope f cd A outer s H E) [] (start N vs) H s1 := by
  have hpl : ps.length <= N.length := by have := congrArg List.length S.pre; rw [List.length_take] at this; omega
  obtain ⟨h1,tk,rfl,hk⟩ := x.done
  have noA : ∀ b : Addr,b ∉ (cxOf CX P w K mg base N qual scope f cd A outer s H E).ex := fun b z => absurd (show b ∈ ([] : List Addr) from z) (by simp)
  refine ⟨⟨e0.mod,S.kind,rfl,rfl,Nat.le_refl _,fun y z c h1 h2 => ?_,fun y hy => ?_,fun y c _ h => ?_,fun _ => hd,Around.frames_deeper e0.frames, .inr ⟨rfl,rfl⟩,fun b z => absurd z (noA b),e0.bs,e0.bsz,fun b _ _ => noA b,fun b z => absurd z (noA b),e0.funs,e0.frf⟩,
    rfl,e0.bare,Un.kept hk,⟨_,x.toInCall.ns,fun i y v h1 h2 h3 => ?_⟩,fun y c h => ⟨_,x.cell y c h⟩,e0.hok.fresh (Nat.le_refl _),fun y c h => ?_,fun p hp => absurd (show p ∈ ([] : List (Addr × Obj)) from hp) (by simp),e0.hok.kept hk,?_⟩
  . exact name_of_addr x.apart (PySem.mem_of_lookup h1) (PySem.mem_of_lookup h2)
  . have hy : scope.names.lookup y = some .cell \/ scope.names.lookup y = some .free := hy
    rcases hy with hy | hy
    . exact qba hy
    . exact absurd rfl (S.nofree _ (PySem.mem_of_lookup hy))
  . exact Nat.le_of_lt (x.above y c (PySem.mem_of_lookup h))
  . have hi : i < vs.length := by
      unfold start at h2
      by_cases hi : i < vs.length
      . exact hi
      . rw [List.getElem?_append_right (by simpa using hi)] at h2
        rw [List.getElem?_replicate] at h2
        split at h2 <;> cases h2
    have ha : vs[i]? = some v := by
      unfold start at h2
      rw [List.getElem?_append_left (by simpa using hi),List.getElem?_map] at h2
      cases e : vs[i]? with
      | none => rw [e] at h2; cases h2
      | some a => rw [e] at h2; cases h2; rfl
    obtain ⟨u,hu,rv⟩ := r.get ha
    have hp : ps[i]? = some y := by
      rw [<- S.pre,List.getElem?_take_of_lt (by omega)]; exact h1
    have ndP : ps.Nodup := by rw [<- S.pre]; exact S.nd.sublist (List.take_sublist _ _)
    refine ⟨u,rv,?_⟩
    rcases S.par y (List.mem_of_getElem? hp) with k | k
    . exact .inl ⟨k,qag ndP hp hu k⟩
    . obtain ⟨c,e⟩ := qba (n := s.heap.objs.size + 1) k
      refine .inr ⟨.inl k,c,e,?_⟩
      have q := x.cell y c e
      rw [qaa ndP hp hu (by show scope.names.lookup y ≠ _; rw [k]; decide)] at q
      exact q
  . exact e0.hok.fresh (Nat.le_of_lt (x.above y c (PySem.mem_of_lookup h)))
  . unfold start
    show _ = N.length
    rw [List.length_append,List.length_map,List.length_replicate]
    omega
theorem qd7 {CX : CXT} {P : Program} {w : World} {K : PySem.W.Frag} {mg : Str -> Option Value} {base : Heap} {k : Nat} {f : Addr} {name qual : Str} {params : Arguments} {body : List Stmt} {scope : Scope} {dV kV doc pm cdv ct oc : Value} {an od : Option Addr}
    {osl : Array (Option Value)} {N ps : List Str} {sp : Sp} (lk : K.lookup f = some ⟨oc,od, .func (PySem.W.fnOf name qual params body scope dV kV doc pm an cdv ct),osl⟩) (hcd : PySem.W.codeIn K cdv qual = true) (S : q1u N ps scope)
    (len : ∀ vs H Q E,sp vs H Q E -> vs.length = ps.length)
    (hbody : ∀ (A : Around) (outer : List Env) (s : Shared) (H : Hp) (vs : List V) (Q : VK) (E : XK),Room k (A.deeper (envOfC qual scope s.heap.objs.size f cdv)) -> sp vs H Q E ->
      ∃ t,PSs (cxOf CX P w K mg base N qual scope f cdv A outer s H E) body t /\ t { nx := fun _ H' => Q .non H',rt := Q } (start N vs) H) :
    FnOk P w K mg base CX (k + 1) f (PySem.W.fnOf name qual params body scope dV kV doc pm an cdv ct) ps sp := by
  refine ⟨len,fun A outer s H args us vs Q E hr e0 hb r hsp => ?_⟩
  have hl := len _ _ _ _ hsp
  have KX : K.In s.heap := e0.mod.kin.keeps fun b o e => (e0.bs b o e).1
  have lim : s.heap.NoLimit := e0.mod.nolimit.keeps fun b o e => (e0.bs b o e).1
  have hkind : ∀ y ∈ ps.zip us,scope.names.lookup y.1 = some .local \/ (scope.names.lookup y.1 = some .cell /\ ((cellsFrom (s.heap.objs.size + 1) scope.names []).lookup y.1).isSome = true) := fun ⟨n,v⟩ hy => by
    rcases S.par n (List.of_mem_zip hy).1 with q | q
    . exact .inl q
    . exact .inr ⟨q,PySem.W.cellsFrom_some _ _ _ (.inl q)⟩
  refine codeAny_call_function hr.depth (KX _ _ lk) rfl S.co S.gen rfl (PySem.W.codeRec_of KX hcd) (hb _ _ _ _ ?_)
  refine wpAny_newFunctionEnv_cells S.kind hkind fun env he s1 x => ?_
  subst he
  refine ⟨lim.keeps x.toInCall.keep,codeAny_func ?_⟩
  obtain ⟨t,ht,hq⟩ := hbody A outer s H vs Q E (hr.deeper _) hsp
  have I : Inv (cxOf CX P w K mg base N qual scope f cdv A outer s H E) [] (start N vs) H s1 := qa7 S hr.hd e0 hl r x
  refine wpAny_mono (ht [] s1 (start N vs) H _ I hq) (fun fl s' hs => ?_) fun e s' hs => hs
  have fin : ∀ {σ' : St} {H' : Hp} {v : V} {u : Value},Inv (cxOf CX P w K mg base N qual scope f cdv A outer s H E) [] σ' H' s' -> RelV v u -> Q v H' -> CE outer P w H s Q u s' :=
    fun {σ' H' v u} J rv q => ⟨v,H',J.os,J.bare,J.base,J.hok,rv,q⟩
  cases fl with
  | ret u =>
    obtain ⟨v, σ',H',J,rv,q⟩ := hs
    exact fin J rv q
  | next =>
    obtain ⟨σ',H',J,q⟩ := hs
    exact fin (v := V.non) (u := Value.none) J rfl q
  | brk =>
    obtain ⟨_,_,_,q⟩ := hs
    exact False.elim q
  | cont =>
    obtain ⟨_,_,_,q⟩ := hs
    exact False.elim q
end L2
namespace L2
open PySem PySem.Spec PyProof.Rows
section
variable {X : Cx} {x : Str} {p pos : Pos} {e : Expr} {es : List Expr} {t : TA} {id T : String} {r : List V -> Hp -> VK -> Prop}
def tCB (r : List V -> Hp -> VK -> Prop) (t : TA) : TE := fun σ H Q => t σ H fun vs H1 => r vs H1 Q
theorem q23 (hc : q30 X (.builtin id) r) (hg : Gl X x) (hm : X.mg x = none) (hv : bootBuiltins x = some (.builtin id)) (ha : PA X (e :: es) t) (hn : x ≠ "__name__" := by decide) (hdb : (x == ("__debug__" : Str)) = false := by decide)
    (he : starEach (e :: es) X.env = (false,eval e X.env) :: starEach es X.env := by rfl) (hpl : (backTo pos (starEach es X.env)).any (·.1) = false := by rfl) : PE X (.Call (.Name x p) (e :: es) [] pos) (tCB r t) := by
  intro pins s σ H Q I h
  refine wpAny_Call_Name_kw (q8y I hg hm hv ?_ hn hdb)
  exact PyProof.Rows.callWith_builtin1 (thn (ha pos pins s σ H _ I h) fun us s1 ⟨vs,H1,I1,r1,q1⟩ => hc pins s1 σ H1 vs us Q I1 r1 q1) he hpl
theorem q36 (hc : q30 X (.type T) r) (hg : Gl X x) (hm : X.mg x = none) (hv : bootBuiltins x = some (.type T)) (ha : PA X (e :: es) t) (hn : x ≠ "__name__" := by decide) (hdb : (x == ("__debug__" : Str)) = false := by decide)
    (he : starEach (e :: es) X.env = (false,eval e X.env) :: starEach es X.env := by rfl) (hpl : (backTo pos (starEach es X.env)).any (·.1) = false := by rfl) : PE X (.Call (.Name x p) (e :: es) [] pos) (tCB r t) := by
  intro pins s σ H Q I h
  refine wpAny_Call_Name_kw (q8y I hg hm hv ?_ hn hdb)
  exact PyProof.Rows.callWith_type1 (thn (ha pos pins s σ H _ I h) fun us s1 ⟨vs,H1,I1,r1,q1⟩ => hc pins s1 σ H1 vs us Q I1 r1 q1) he hpl
end
end L2
namespace HT
open PySem PyProof.Rows
section
variable {prog : Program} {w : World} {A : Around} {E : Value -> Shared -> Prop} {s : Shared}
theorem qi3 {t b : Addr} {vs ws : List Value} {Q : Value -> Shared -> Prop} (ht : IsTup s.heap t vs.toArray) (hb : IsTup s.heap b ws.toArray) (hv : vs ≠ [])
    (h1 : ws = [] -> Q (.ref t) s) (h2 : ws ≠ [] -> Q (.ref s.heap.objs.size) { s with heap := s.heap.push { cls := .type "tuple",data := .seq (vs ++ ws).toArray } })
    (hsz : vs.length + ws.length <= sizeLine) : wpAny (model prog w) A (binaryOp .Add (.ref t) (.ref b)) Q E s := by
  obtain ⟨⟨cls,dd,data,sl⟩,ho,hc,n,hd⟩ := id ht
  obtain ⟨⟨cls2,dd2,data2,sl2⟩,ho2,hc2,n2,hd2⟩ := id hb
  simp only at hc hd hc2 hd2
  subst hc hd hc2 hd2
  have e : vs.toArray ++ ws.toArray = (vs ++ ws).toArray := by simp
  by_cases hw : ws = []
  . exact concat_meets ⟨_,ho,rfl⟩ ⟨_,ho2,rfl⟩ noFill_tuple_add seq_tuple_add PySem.F.slot_tuple_add PySem.F.entry_tuple_add (PySem.F.args_tuple_add_2 _ _)
      (tuple_addW1 t b vs.toArray ws.toArray n n2 dd dd2 sl sl2 (by simpa using hv) (by simp [hw])) ⟨ho,ho2,h1 hw⟩
  . refine concat_meets ⟨_,ho,rfl⟩ ⟨_,ho2,rfl⟩ noFill_tuple_add seq_tuple_add PySem.F.slot_tuple_add PySem.F.entry_tuple_add (PySem.F.args_tuple_add_2 _ _)
      (tuple_addW2 t b vs.toArray ws.toArray n n2 dd dd2 sl sl2 (by simpa using hv) (by simpa using hw) (by rw [List.size_toArray,List.size_toArray]; exact hsz)) ⟨ho,ho2,?_⟩
    rw [e]
    exact h2 hw
def sIx (n d : Nat) : Option Int -> Nat
  | none => d
  | some v => if v < 0 then (v + (n : Int)).toNat else min v.toNat n
theorem qcp (n d k : Nat) : sIx n d (some (k : Int)) = min k n := by
  show (if (k : Int) < 0 then ((k : Int) + (n : Int)).toNat else min (k : Int).toNat n) = min k n
  rw [if_neg (by omega),Int.toNat_natCast]
theorem sIx_le (n d : Nat) (hd : d <= n) (o : Option Int) : sIx n d o <= n := by
  cases o with
  | none => exact hd
  | some v =>
    show (if v < 0 then (v + (n : Int)).toNat else min v.toNat n) <= n
    by_cases hv : v < 0
    . rw [if_pos hv]; omega
    . rw [if_neg hv]; exact Nat.min_le_right _ _
theorem qcs (v : Int) (n d : Nat) : (if v < 0 then max (v + (n : Int)) 0 else min v (n : Int)) = ((sIx n d (some v) : Nat) : Int) := by
  show (if v < 0 then max (v + (n : Int)) 0 else min v (n : Int)) = (((if v < 0 then (v + (n : Int)).toNat else min v.toNat n) : Nat) : Int)
  by_cases hv : v < 0
  . simp only [if_pos hv]; omega
  . simp only [if_neg hv]; omega
theorem qdj (lo hi : Option Int) (n : Nat) : Builtin.Slice.sliceAdjust lo hi 1 (n : Int) = (((sIx n 0 lo : Nat) : Int),((sIx n n hi : Nat) : Int)) := by
  have h1 : ¬ ((1 : Int) < 0) := by omega
  unfold Builtin.Slice.sliceAdjust
  simp only [h1,if_false]
  refine Prod.ext ?_ ?_
  . cases lo with
    | none => rfl
    | some v => exact qcs v n 0
  . cases hi with
    | none => rfl
    | some v => exact qcs v n n
theorem qd9 (i j : Nat) : Builtin.Slice.slicePlaces (i : Int) (j : Int) 1 = j - i := by
  unfold Builtin.Slice.slicePlaces
  have h1 : (1 : Int) > 0 := by omega
  simp only [h1,if_true,Int.ediv_one]
  split <;> omega
theorem q95 {v : Value} {o : Option Int} {Q : Option Int -> Shared -> Prop} (p : IsPart v o) (h : Q o s) : wpAny (model prog w) A (Builtin.Slice.slicePartIndex v) Q E s := by
  cases p with
  | none => exact slicePart_none h
  | int i t => exact slicePart_int h
theorem q8t {sl : Addr} {vl vu : Value} {lo hi : Option Int} {n : Nat} {Q : Int × Int × Nat -> Shared -> Prop} (hs : s.heap.IsSliceOf sl vl vu .none) (pl : IsPart vl lo) (pu : IsPart vu hi)
    (h : Q (((sIx n 0 lo : Nat) : Int),1,sIx n n hi - sIx n 0 lo) s) : wpAny (model prog w) A (Builtin.Slice.sliceApplied (.ref sl) (pure (n : Int))) Q E s := by
  obtain ⟨os,hos,hcs,hds⟩ := id hs
  unfold Builtin.Slice.sliceApplied Builtin.Slice.sliceFields
  refine wpAny_bind (wpAny_bind (wpAny_field hos hds (x := vl) rfl (wpAny_bind (wpAny_field hos hds (x := vu) rfl (wpAny_bind (wpAny_field hos hds (x := .none) rfl (wpAny_pure ?_)))))))
  refine wpAny_bind (slicePart_none ?_)
  show wpAny _ _ (if ((1 : Int) == 0) = true then _ else _) _ _ s
  rw [if_neg (by decide)]
  refine wpAny_bind (q95 pl (wpAny_bind (q95 pu (wpAny_bind (wpAny_pure ?_)))))
  show wpAny _ _ (match Builtin.Slice.sliceAdjust lo hi 1 (n : Int) with | (lo,hi) => pure (lo,(1 : Int),Builtin.Slice.slicePlaces lo hi 1)) _ _ s
  rw [qdj lo hi n]
  show wpAny _ _ (pure (((sIx n 0 lo : Nat) : Int),(1 : Int),Builtin.Slice.slicePlaces ((sIx n 0 lo : Nat) : Int) ((sIx n n hi : Nat) : Int) 1)) _ _ s
  rw [qd9]
  exact wpAny_pure h
theorem qfx (xs : Array Value) (i k : Nat) : ((List.range k).filterMap fun (m : Nat) => xs[((i : Int) + (m : Int) * 1).toNat]?).toArray = ((xs.toList.drop i).take k).toArray := by
  have e : (fun (m : Nat) => xs[((i : Int) + (m : Int) * 1).toNat]?) = fun m => xs[i + m]? := by
    funext m
    have : ((i : Int) + (m : Int) * 1).toNat = i + m := by omega
    rw [this]
  rw [e]
  have := pick_run xs i k
  rw [List.filterMap_map] at this
  have e2 : ((fun x => xs[x]?) ∘ fun x => i + x) = fun m => xs[i + m]? := rfl
  rw [e2] at this
  rw [this]
theorem q8i {t sl : Addr} {items : Array Value} {vl vu : Value} {lo hi : Option Int} {Q : Value -> Shared -> Prop} (ht : IsTup s.heap t items) (hs : s.heap.IsSliceOf sl vl vu .none) (pl : IsPart vl lo) (pu : IsPart vu hi)
    (hw : ¬ (sIx items.size 0 lo = 0 /\ sIx items.size items.size hi = items.size))
    (h : Q (.ref s.heap.objs.size) { s with heap := s.heap.push { cls := .type "tuple",data := .seq ((items.toList.drop (sIx items.size 0 lo)).take (sIx items.size items.size hi - sIx items.size 0 lo)).toArray } })
    (hsz : items.size <= sizeLine) : wpAny (model prog w) A (getItem (.ref t) (.ref sl)) Q E s := by
  have htake : sizeOk (.seq ((items.toList.drop (sIx items.size 0 lo)).take (sIx items.size items.size hi - sIx items.size 0 lo)).toArray) := by
    show ((items.toList.drop (sIx items.size 0 lo)).take (sIx items.size items.size hi - sIx items.size 0 lo)).toArray.size <= sizeLine
    rw [List.size_toArray,List.length_take,List.length_drop,Array.length_toList]
    omega
  have hj : sIx items.size items.size hi <= items.size := sIx_le _ _ (Nat.le_refl _) hi
  obtain ⟨os,hos,hcs,hds⟩ := id hs
  have hTs : s.TypeIs (.ref sl) "slice" := ⟨os,hos,hcs⟩
  unfold getItem
  try with_reducible refine wpAny_holding ?_
  first | refine wpAny_bind (wpAny_pure ?_) | skip
  refine wpAny_bind (wpAny_sequenceKey ht.typeIs (by decide) ?_)
  refine wpAny_bind (wpAny_callSpecial?_slot (name := Str.ofString "__getitem__") ht.typeIs PyProof.Rows.slot_tuple_getitem
    (wpAny_call_entry PyProof.Rows.slot_tuple_getitem ht.typeIs entry_tuple_getitem ?_ (args_tuple_getitem _ _)))
  show wpAny _ _ (Builtin.Tuple.tupleItemsOf (.ref t) >>= _) _ _ s
  refine wpAny_bind (tupleItemsOf_ ht ?_)
  refine wpAny_bind (wpAny_typeOf hTs ?_)
  rw [if_pos (by decide)]
  refine wpAny_bind (q8t hs pl pu ?_)
  have hno : ¬ ((((sIx items.size 0 lo : Nat) : Int) == 0 && (1 : Int) == 1 && (sIx items.size items.size hi - sIx items.size 0 lo) == items.size) = true) := by
    intro q
    rw [Bool.and_eq_true,Bool.and_eq_true] at q
    have q1 : ((sIx items.size 0 lo : Nat) : Int) = 0 := eq_of_beq q.1.1
    have q2 : sIx items.size items.size hi - sIx items.size 0 lo = items.size := eq_of_beq q.2
    exact hw ⟨by omega,by omega⟩
  show wpAny _ _ (if (((sIx items.size 0 lo : Nat) : Int) == 0 && (1 : Int) == 1 && (sIx items.size items.size hi - sIx items.size 0 lo) == items.size) = true then _ else _) _ _ s
  rw [if_neg hno,qfx]
  first
    | exact wpAny_bind (m := Builtin.Tuple.tupleExact _) (wpAny_newObj_type (wpAny_pure ⟨_,rfl,wpAny_pure h⟩) htake)
    | exact wpAny_bind (m := Builtin.Tuple.tupleExact _) (wpAny_newObj_type (wpAny_bind (wpAny_pure (wpAny_pure ⟨_,rfl,wpAny_pure h⟩))) htake)
    | exact wpAny_bind (wpAny_bind (m := Builtin.Tuple.tupleExact _) (wpAny_newObj_type (wpAny_pure (wpAny_pure ⟨_,rfl,wpAny_pure h⟩)) htake))
    | exact wpAny_bind (wpAny_bind (m := Builtin.Tuple.tupleExact _) (wpAny_newObj_type (wpAny_pure ⟨_,rfl,wpAny_pure h⟩) htake))
end
end HT
namespace L2
open PySem PySem.Spec PyProof.Rows
abbrev TO := St -> Hp -> (Option Int -> Hp -> Prop) -> Prop
def PO (X : Cx) (e : Option Expr) (t : TO) : Prop :=
  ∀ (pins : List (Addr × Obj)) (s : Shared) (σ : St) (H : Hp) (Q : Option Int -> Hp -> Prop),Inv X pins σ H s -> t σ H Q ->
    wpAny (model X.prog X.w) X.A (evalPart e X.env) (fun u s' => ∃ o H',Inv X pins σ H' s' /\ IsPart u o /\ Q o H') X.xe s
def qcl : TO := fun _ H Q => Q none H
def tPart (t : TE) : TO := fun σ H Q => t σ H fun x H1 => ∃ i,x = .int i /\ Q (some i) H1
theorem intsAre_of {ns : List Int} : ∀ {us : List Value},Vals (ns.map V.int) us -> IntsAre us ns := by
  induction ns with
  | nil => intro us r; rw [List.map_nil] at r; cases r; exact .nil
  | cons n ns ih =>
    intro us r
    rw [List.map_cons] at r
    cases r with
    | cons r1 r2 =>
      obtain ⟨t,e⟩ := r1
      subst e
      exact .cons n t (ih r2)
section
variable {X : Cx} {e : Expr} {te : TE} {lo hi : Option Expr} {tl th : TO} {pos p2 : Pos}
theorem q6x : PO X none qcl := by
  intro pins s σ H Q I h
  rw [evalPart_none]
  exact wpAny_pure ⟨none,H,I, .none,h⟩
theorem q5v (h : PE X e te) : PO X (some e) (tPart te) := by
  intro pins s σ H Q I hw
  rw [evalPart_some]
  refine thn (h pins s σ H _ I hw) fun u s1 ⟨x,H1,I1,r1,q1⟩ => ?_
  obtain ⟨i,rfl,q⟩ := q1
  obtain ⟨t,rfl⟩ := r1
  exact ⟨some i,H1,I1, .int i t,q⟩
def SlR (X : Cx) (r : V -> Option Int -> Option Int -> Hp -> VK -> Prop) : Prop :=
  ∀ (pins : List (Addr × Obj)) (s : Shared) (σ : St) (H : Hp) (x : V) (v vl vu : Value) (lo hi : Option Int) (sl : Addr) (Q : VK),Inv X pins σ H s -> RelV x v -> s.heap.IsSliceOf sl vl vu .none -> IsPart vl lo -> IsPart vu hi -> r x lo hi H Q ->
    ∃ T id,typeLookup (.type T) "__getitem__" = pure (some (.builtin id)) /\ s.TypeIs v T /\ wpAny (model X.prog X.w) X.A (getItem v (.ref sl)) (EP X pins σ Q) X.xe s
def tSl (r : V -> Option Int -> Option Int -> Hp -> VK -> Prop) (te : TE) (tl th : TO) : TE := fun σ H Q => te σ H fun x H1 => tl σ H1 fun l H2 => th σ H2 fun u H3 => r x l u H3 Q
theorem q5u {r : V -> Option Int -> Option Int -> Hp -> VK -> Prop} (hr : SlR X r) (he : PE X e te) (hl : PO X lo tl) (hu : PO X hi th) : PE X (.Subscript e (.Slice lo hi none p2) pos) (tSl r te tl th) := by
  intro pins s σ H Q I h
  refine Subscript_ (thn (he pins s σ H _ I h) fun v s1 ⟨x,H1,I1,r1,q1⟩ => ?_)
  refine wpAny_Slice (thn (hl pins s1 σ H1 _ I1 q1) fun vl s2 ⟨l,H2,I2,pl,q2⟩ => thn (hu pins s2 σ H2 _ I2 q2) fun vu s3 ⟨u,H3,I3,pu,q3⟩ => ?_)
  rw [evalPart_none]
  refine wpAny_pure ?_
  have I4 : Inv X pins σ H3 { s3 with heap := s3.heap.push { cls := .type "slice",data := .fields #[vl,vu, .none] } } := I3.kept (t' := s3.toks) fun b ob q => Heap.get?_push_of_some _ q
  obtain ⟨T,id,hT,ht,hg⟩ := hr pins { s3 with heap := s3.heap.push { cls := .type "slice",data := .fields #[vl,vu, .none] } } σ H3 x v vl vu l u s3.heap.objs.size Q I4 r1 (Heap.IsSliceOf.new ..) pl pu q3
  show wpAny (model X.prog X.w) X.A (subscriptTail e (.Slice lo hi none p2) v (.ref s3.heap.objs.size)) (EP X pins σ Q) X.xe { s3 with heap := s3.heap.push { cls := .type "slice",data := .fields #[vl,vu, .none] } }
  exact tail_any (ops := [.ref s3.heap.objs.size,v]) ht hT hg (by with_unfolding_all rfl)
def cutV (xs : List V) (lo hi : Option Int) : List V := (xs.drop (HT.sIx xs.length 0 lo)).take (HT.sIx xs.length xs.length hi - HT.sIx xs.length 0 lo)
theorem q8m (xs : List V) (lo hi : Option Int) : (cutV xs lo hi).length <= xs.length := by
  unfold cutV
  rw [List.length_take,List.length_drop]
  omega
def rSlT (K : PySem.W.Frag) : V -> Option Int -> Option Int -> Hp -> VK -> Prop := fun x lo hi H Q => ∃ a xs,x = .ref a /\ SqT K H a xs /\
  ¬ (HT.sIx xs.length 0 lo = 0 /\ HT.sIx xs.length xs.length hi = xs.length) /\ ∀ p,H p = none -> Q (.ref p) (upd H p (.tup (cutV xs lo hi)))
theorem sl_tup : SlR X (rSlT X.K) := by
  intro pins s σ H x v vl vu lo hi sl Q I rx hs pl pu h
  obtain ⟨a,xs,rfl,hx,hw,q⟩ := h
  cases rx
  obtain ⟨its,r,ht,hz⟩ := I.tuple hx
  have hlen : its.toArray.size = xs.length := by rw [List.size_toArray]; exact r.length.symm
  refine ⟨"tuple",_,PyProof.Rows.slot_tuple_getitem.lookup,ht.typeIs,?_⟩
  refine HT.q8i ht hs pl pu (by rw [hlen]; exact hw) ?_ (by rw [hlen]; exact hz)
  rw [hlen]
  refine ⟨.ref s.heap.objs.size,_,I.laid (t' := s.toks) (o := .tup (cutV xs lo hi)) (fun b ob q => Heap.get?_push_of_some _ q) (Nat.le_refl _) ?_,rfl,q _ (I.hok.fresh (Nat.le_refl _))⟩
  exact ⟨Nat.le_trans (q8m xs lo hi) hz,_,(r.drop (HT.sIx xs.length 0 lo)).take (HT.sIx xs.length xs.length hi - HT.sIx xs.length 0 lo),IsTup.new _ _⟩
def qdl (K : PySem.W.Frag) : R2 := fun x y H Q => ∃ a b xs ys,x = .ref a /\ y = .ref b /\ SqT K H a xs /\ SqT K H b ys /\ xs ≠ [] /\ xs.length + ys.length <= sizeLine /\
  (ys = [] -> Q (.ref a) H) /\ (ys ≠ [] -> ∀ p,H p = none -> Q (.ref p) (upd H p (.tup (xs ++ ys))))
theorem Vals.q9w {xs : List V} {us : List Value} (r : Vals xs us) : us = [] ↔ xs = [] := by
  cases r with
  | nil => simp
  | cons _ _ => simp
theorem qhw : OpR X (binaryOp .Add) (qdl X.K) := by
  intro pins s σ H x y v u Q I rx ry h
  obtain ⟨a,b,xs,ys,rfl,rfl,ha,hb,hx,hz,q1,q2⟩ := h
  cases rx
  cases ry
  obtain ⟨its,r1,p1,_⟩ := I.tuple ha
  obtain ⟨its2,r2,p2,_⟩ := I.tuple hb
  refine HT.qi3 p1 p2 (fun z => hx (r1.q9w.mp z)) (fun z => ⟨.ref a,H,I,rfl,q1 (r2.q9w.mp z)⟩) (fun z => ?_) (by rw [<- r1.length, <- r2.length]; exact hz)
  refine ⟨.ref s.heap.objs.size,_,I.laid (t' := s.toks) (o := .tup (xs ++ ys)) (fun b ob q => Heap.get?_push_of_some _ q) (Nat.le_refl _) ?_,rfl,q2 (fun w => z (r2.q9w.mpr w)) _ (I.hok.fresh (Nat.le_refl _))⟩
  exact ⟨by rw [List.length_append]; exact hz,_,r1.append r2,IsTup.new _ _⟩
end
end L2
namespace L2
open PySem PySem.Spec PyProof.Rows
def ixN (n : Nat) (i : Int) : Option Nat := if 0 <= i then (if i < n then some i.toNat else none) else if -(n : Int) <= i then some (i + n).toNat else none
def atI {α : Type} (xs : List α) (i : Int) : Option α := (ixN xs.length i).bind fun j => xs[j]?
theorem qhb {n : Nat} {i : Int} {j : Nat} (h : ixN n i = some j) : seqIndex? i n = some j /\ j < n /\ -(n : Int) <= i /\ i < n := by
  unfold ixN at h
  by_cases h0 : 0 <= i
  . rw [if_pos h0] at h
    by_cases h1 : i < n
    . rw [if_pos h1] at h
      have e : i.toNat = j := Option.some.inj h
      exact ⟨by rw [seqIndex_of h0 h1,e],by omega,by omega,h1⟩
    . rw [if_neg h1] at h; cases h
  . rw [if_neg h0] at h
    by_cases h1 : -(n : Int) <= i
    . rw [if_pos h1] at h
      have e : (i + n).toNat = j := Option.some.inj h
      exact ⟨by rw [seqIndex_neg (by omega) h1,e],by omega,h1,by omega⟩
    . rw [if_neg h1] at h; cases h
theorem q9u {α : Type} {xs : List α} {i : Int} {v : α} (h : atI xs i = some v) : ∃ j,seqIndex? i xs.length = some j /\ xs[j]? = some v /\ j < xs.length /\ -(xs.length : Int) <= i /\ i < xs.length := by
  unfold atI at h
  cases e : ixN xs.length i with
  | none => rw [e] at h; cases h
  | some j =>
    rw [e] at h
    obtain ⟨h1,h2,h3,h4⟩ := qhb e
    exact ⟨j,h1,h,h2,h3,h4⟩
theorem q57 {α : Type} {xs : List α} {j : Nat} {v : α} (h : xs[j]? = some v) : atI xs (j : Int) = some v := by
  have hj : j < xs.length := (List.getElem?_eq_some_iff.mp h).1
  have e : ixN xs.length (j : Int) = some j := by
    unfold ixN
    rw [if_pos (by omega),if_pos (by omega)]; simp
  unfold atI; rw [e]; exact h
def qht (b : Expr) : Prop := ∀ o i,subscripted b false o i = operate [o,i] (getItem o i)
def IxR (X : Cx) (r : R2) : Prop :=
  ∀ (value slice : Expr) (pins : List (Addr × Obj)) (s : Shared) (σ : St) (H : Hp) (x y : V) (v u : Value) (Q : VK),Inv X pins σ H s -> RelV x v -> RelV y u -> r x y H Q ->
    subscripted slice false v u = operate [v,u] (getItem v u) -> wpAny (model X.prog X.w) X.A (subscriptTail value slice v u) (EP X pins σ Q) X.xe s
def MtR (X : Cx) (id : String) (r : V -> List V -> Hp -> VK -> Prop) : Prop :=
  ∀ (pins : List (Addr × Obj)) (s : Shared) (σ : St) (H : Hp) (x : V) (xs : List V) (v : Value) (us : List Value) (Q : VK),Inv X pins σ H s -> RelV x v -> Vals xs us -> r x xs H Q ->
    wpAny (model X.prog X.w) X.A (call (.builtin id) (v :: us)) (EP X pins σ Q) X.xe s
section
variable {X : Cx} {a b : Expr} {ta tb : TE} {pos : Pos}
theorem IxR.or {r r' : R2} (h : IxR X r) (h' : IxR X r') : IxR X (fun x y H Q => r x y H Q \/ r' x y H Q) := by
  intro value slice pins s σ H x y v u Q I rx ry q hs
  rcases q with q | q
  . exact h value slice pins s σ H x y v u Q I rx ry q hs
  . exact h' value slice pins s σ H x y v u Q I rx ry q hs
theorem q33 {r : R2} (hr : IxR X r) (ha : PE X a ta) (hb : PE X b tb) (hs : qht b) : PE X (.Subscript a b pos) (tOp r ta tb) := by
  intro pins s σ H Q I h
  exact Subscript_ (binT ha hb I h fun v u s2 x y H2 I2 rx ry q => hr a b pins s2 σ H2 x y v u Q I2 rx ry q (hs _ _))
def rIxL (K : PySem.W.Frag) : R2 := fun x y H Q => ∃ p xs i v,x = .ref p /\ y = .int i /\ SqL K H p xs /\ atI xs i = some v /\ Q v H
def rIxT (K : PySem.W.Frag) : R2 := fun x y H Q => ∃ p xs i v,x = .ref p /\ y = .int i /\ SqT K H p xs /\ atI xs i = some v /\ Q v H
def rIxS : R2 := fun x y H Q => ∃ z i c,x = .str z /\ y = .int i /\ z.length <= sizeLine /\ atI z.cps.toList i = some c /\ Q (.str ⟨#[c]⟩) H
theorem qgs : IxR X (rIxL X.K) := by
  intro value slice pins s σ H x y v u Q I rx ry h hs
  obtain ⟨p,xs,i,z,rfl,rfl,hq,he,q⟩ := h
  cases rx
  obtain ⟨t,rfl⟩ := ry
  obtain ⟨its,r,pl,hz⟩ := I.list hq
  obtain ⟨j,h1,h2,h3,h4,h5⟩ := q9u he
  obtain ⟨w,ew,rw'⟩ := r.get h2
  have hl := r.length
  have hn := q7t
  have fin : EP X pins σ Q w s := ⟨z,H,I,rw',q⟩
  by_cases h0 : 0 <= i
  . have hj : i.toNat = j := by
      rw [seqIndex_of h0 h5] at h1
      exact Option.some.inj h1
    exact item_listR pl.isList h0 (by omega) (by rw [hj]; simpa using ew) fin hs
  . have hj : (i + (its.toArray.size : Int)).toNat = j := by
      rw [seqIndex_neg (by omega) h4] at h1
      rw [List.size_toArray, <- hl]
      exact Option.some.inj h1
    exact subscriptTail_builtinR (x := w) pl.isList.typeIs slot_list_getitem.lookup
      (wpAny_getItem_list_neg (Q := fun r s' => r = w /\ EP X pins σ Q r s') pl.isList (by omega) (by rw [List.size_toArray] <;> omega) (by omega) (by rw [hj]; simpa using ew) ⟨rfl,fin⟩) hs
theorem ix_tup : IxR X (rIxT X.K) := by
  intro value slice pins s σ H x y v u Q I rx ry h hs
  obtain ⟨p,xs,i,z,rfl,rfl,hq,he,q⟩ := h
  cases rx
  obtain ⟨t,rfl⟩ := ry
  obtain ⟨its,r,pl,hz⟩ := I.tuple hq
  obtain ⟨j,h1,h2,h3,h4,h5⟩ := q9u he
  obtain ⟨w,ew,rw'⟩ := r.get h2
  have hl := r.length
  have hn := q7t
  have fin : EP X pins σ Q w s := ⟨z,H,I,rw',q⟩
  exact subscriptTail_builtinR (x := w) pl.typeIs slot_tuple_getitem.lookup
    (getItem_tuple (j := j) (Q := fun r s' => r = w /\ EP X pins σ Q r s') pl (by omega) (by omega) (by rw [List.size_toArray, <- hl]; exact h1) (by simpa using ew) ⟨rfl,fin⟩) hs
theorem ix_str : IxR X rIxS := by
  intro value slice pins s σ H x y v u Q I rx ry h hs
  obtain ⟨z,i,c,rfl,rfl,hz,he,q⟩ := h
  obtain ⟨t,rfl⟩ := rx
  obtain ⟨t',rfl⟩ := ry
  obtain ⟨j,h1,h2,h3,h4,h5⟩ := q9u he
  have hl : z.cps.toList.length = z.length := by simp [Str.length]
  rw [hl] at h1 h4 h5
  have hn := q7t
  exact tail_any (typeIs_str s z t) slot_str_getitem.lookup (getItem_str (c := c) (by
    have e1 : decide (i < -(2 ^ 63 : Int)) = false := decide_eq_false (by omega)
    have e2 : decide (i ≥ 2 ^ 63) = false := decide_eq_false (by omega)
    rw [e1,e2,Bool.or_false]) (by rw [h1]; simpa using h2) ⟨.str ⟨#[c]⟩,H,I.tok _,⟨_,rfl⟩,q⟩) hs
def rIx (K : PySem.W.Frag) : R2 := fun x y H Q => rIxL K x y H Q \/ rIxT K x y H Q \/ rIxS x y H Q
theorem q2x : IxR X (rIx X.K) := qgs.or (ix_tup.or ix_str)
theorem qbw (lo hi : Option Int) (n : Nat) : (sliceBounds lo hi none n).1 = ((HT.sIx n 0 lo : Nat) : Int) /\ (sliceBounds lo hi none n).2.1 = ((HT.sIx n n hi : Nat) : Int) /\ (sliceBounds lo hi none n).2.2 = 1 := by
  refine ⟨?_,?_,rfl⟩
  . cases lo with
    | none => simp [sliceBounds,HT.sIx]
    | some i =>
      simp only [sliceBounds,HT.sIx,Option.getD_none,show (1 : Int) > 0 by decide,if_true]
      by_cases h : i < 0
      . simp only [h,if_true] <;> omega
      . simp only [h,if_false] <;> omega
  . cases hi with
    | none => simp [sliceBounds,HT.sIx]
    | some i =>
      simp only [sliceBounds,HT.sIx,Option.getD_none,show (1 : Int) > 0 by decide,if_true]
      by_cases h : i < 0
      . simp only [h,if_true] <;> omega
      . simp only [h,if_false] <;> omega
theorem qao (its : List Value) (lo hi : Option Int) : slicePick its.toArray lo hi none = ((its.drop (HT.sIx its.length 0 lo)).take (HT.sIx its.length its.length hi - HT.sIx its.length 0 lo)).toArray := by
  obtain ⟨h1,h2,h3⟩ := qbw lo hi its.toArray.size
  unfold slicePick
  rw [h1,h2,h3]
  simp only [sliceRange_one,pick_run,List.size_toArray] <;> rfl
def rSlL (K : PySem.W.Frag) : V -> Option Int -> Option Int -> Hp -> VK -> Prop := fun x lo hi H Q => ∃ a xs,x = .ref a /\ SqL K H a xs /\ ∀ p,H p = none -> Q (.ref p) (upd H p (.lst (cutV xs lo hi)))
theorem qhf : SlR X (rSlL X.K) := by
  intro pins s σ H x v vl vu lo hi sl Q I rx hs pl pu h
  obtain ⟨a,xs,rfl,hx,q⟩ := h
  cases rx
  obtain ⟨its,r,ht,hz⟩ := I.list hx
  have hlen := r.length
  refine ⟨"list",_,slot_list_getitem.lookup,ht.isList.typeIs,?_⟩
  refine wpAny_getItem_list_slice ht.isList hs pl pu .none (by simp) ?_ (by rw [List.size_toArray] <;> omega)
  rw [qao, <- hlen]
  refine ⟨.ref s.heap.objs.size,_,I.laid (t' := s.toks) (o := .lst (cutV xs lo hi)) (fun b ob q => Heap.get?_push_of_some _ q) (Nat.le_refl _) ?_,rfl,q _ (I.hok.fresh (Nat.le_refl _))⟩
  exact ⟨Nat.le_trans (q8m xs lo hi) hz,_,0,(r.drop (HT.sIx xs.length 0 lo)).take (HT.sIx xs.length xs.length hi - HT.sIx xs.length 0 lo),Heap.get?_push_size _ rfl⟩
def q5x : V -> Bool
  | .non => true
  | .bl _ => true
  | .int _ => true
  | .str _ => true
  | _ => false
def eqV : V -> V -> Bool
  | .non, .non => true
  | .bl a, .bl b => a == b
  | .bl a, .int b => (if a then 1 else 0) == b
  | .int a, .bl b => a == (if b then 1 else 0)
  | .int a, .int b => a == b
  | .str a, .str b => a == b
  | _,_ => false
theorem eqAt_V {A : Around} {s : Shared} {y x : V} {u v : Value} (ry : RelV y u) (rx : RelV x v) (fy : q5x y = true) (fx : q5x x = true) : SeqAt.EqAt A s u v (eqV y x) := by
  cases y with
  | non =>
    cases ry
    cases x with
    | non => cases rx; exact SeqAt.EqAt.same _
    | bl b => cases rx; exact SeqAt.EqAt.none_bool b
    | int b => obtain ⟨t,rfl⟩ := rx; exact SeqAt.EqAt.none_int b t
    | str b => obtain ⟨t,rfl⟩ := rx; exact SeqAt.EqAt.none_str b t
    | _ => exact absurd (show false = true from fx) Bool.false_ne_true
  | bl a =>
    cases ry
    cases x with
    | non => cases rx; exact SeqAt.EqAt.bool_none a
    | bl b => cases rx; exact SeqAt.EqAt.bool_bool a b
    | int b => obtain ⟨t,rfl⟩ := rx; exact SeqAt.EqAt.bool_int a b t
    | str b => obtain ⟨t,rfl⟩ := rx; exact SeqAt.EqAt.bool_str a b t
    | _ => exact absurd (show false = true from fx) Bool.false_ne_true
  | int a =>
    obtain ⟨t',rfl⟩ := ry
    cases x with
    | non => cases rx; exact SeqAt.EqAt.int_none a t'
    | bl b => cases rx; exact SeqAt.EqAt.int_bool a t' b
    | int b => obtain ⟨t,rfl⟩ := rx; exact SeqAt.EqAt.int_int a t' b t
    | str b => obtain ⟨t,rfl⟩ := rx; exact SeqAt.EqAt.int_str a t' b t
    | _ => exact absurd (show false = true from fx) Bool.false_ne_true
  | str a =>
    obtain ⟨t',rfl⟩ := ry
    cases x with
    | non => cases rx; exact SeqAt.EqAt.str_none a t'
    | bl b => cases rx; exact SeqAt.EqAt.str_bool a t' b
    | int b => obtain ⟨t,rfl⟩ := rx; exact SeqAt.EqAt.str_int a t' b t
    | str b => obtain ⟨t,rfl⟩ := rx; exact SeqAt.EqAt.str_str a t' b t
    | _ => exact absurd (show false = true from fx) Bool.false_ne_true
  | _ => exact absurd (show false = true from fy) Bool.false_ne_true
def eqU (x : V) (u : Value) : Bool := match u with
  | .none => eqV .non x
  | .bool b => eqV (.bl b) x
  | .int i _ => eqV (.int i) x
  | .str z _ => eqV (.str z) x
  | _ => false
theorem qfk {x y : V} {u : Value} (r : RelV y u) (f : q5x y = true) : eqU x u = eqV y x := by
  cases y with
  | non => cases r; rfl
  | bl b => cases r; rfl
  | int i => obtain ⟨t,rfl⟩ := r; rfl
  | str z => obtain ⟨t,rfl⟩ := r; rfl
  | _ => exact absurd (show false = true from f) Bool.false_ne_true
theorem q71 {x : V} : ∀ {xs : List V} {us : List Value},Vals xs us -> xs.all q5x = true -> us.any (eqU x) = xs.any fun y => eqV y x
  | _,_, .nil,_ => rfl
  | y :: xs,u :: us, .cons r t,f => by
    rw [List.all_cons,Bool.and_eq_true] at f
    rw [List.any_cons,List.any_cons,qfk r f.1,q71 t f.2]
theorem q6i {A : Around} {s : Shared} {x : V} {v : Value} (rx : RelV x v) (fx : q5x x = true) : ∀ {xs : List V} {us : List Value},Vals xs us -> xs.all q5x = true -> ∀ u ∈ us,SeqAt.EqAt A s u v (eqU x u)
  | _,_, .nil,_ => fun u hu => by cases hu
  | y :: xs,u :: us, .cons r t,f => fun u' hu => by
    rw [List.all_cons,Bool.and_eq_true] at f
    rcases List.mem_cons.mp hu with rfl | hu
    . rw [qfk r f.1]; exact eqAt_V r rx f.1 fx
    . exact q6i rx fx t f.2 u' hu
def inV (x : V) (xs : List V) : Bool := xs.any fun y => eqV y x
def rIn (K : PySem.W.Frag) (neg : Bool) : R2 := fun x y H Q => ∃ p xs,y = .ref p /\ (SqL K H p xs \/ SqT K H p xs) /\ q5x x = true /\ xs.all q5x = true /\ Q (.bl (if neg then !inV x xs else inV x xs)) H
theorem qe4 : OpR X (compareOp .In) (rIn X.K false) := by
  intro pins s σ H x y v u Q I rx ry h
  obtain ⟨p,xs,rfl,hq,fx,fs,q⟩ := h
  cases ry
  rcases hq with hq | hq
  . obtain ⟨its,r,pl,hz⟩ := I.list hq
    refine SeqAt.in_listAt (eqU x) pl.isList (fun w hw => q6i rx fx r fs w (by simpa using hw)) ⟨.bl _,H,I,rfl,?_⟩
    rw [show its.toArray.any (eqU x) = its.any (eqU x) by simp,q71 r fs]
    exact q
  . obtain ⟨its,r,pl,hz⟩ := I.tuple hq
    refine SeqAt.in_tupleAt (eqU x) pl (fun w hw => q6i rx fx r fs w (by simpa using hw)) ⟨.bl _,H,I,rfl,?_⟩
    rw [show its.toArray.any (eqU x) = its.any (eqU x) by simp,q71 r fs]
    exact q
theorem qb5 : OpR X (compareOp .NotIn) (rIn X.K true) := by
  intro pins s σ H x y v u Q I rx ry h
  obtain ⟨p,xs,rfl,hq,fx,fs,q⟩ := h
  cases ry
  rcases hq with hq | hq
  . obtain ⟨its,r,pl,hz⟩ := I.list hq
    refine SeqAt.notIn_listAt (eqU x) pl.isList (fun w hw => q6i rx fx r fs w (by simpa using hw)) ⟨.bl _,H,I,rfl,?_⟩
    rw [show its.toArray.any (eqU x) = its.any (eqU x) by simp,q71 r fs]
    exact q
  . obtain ⟨its,r,pl,hz⟩ := I.tuple hq
    refine SeqAt.notIn_tupleAt (eqU x) pl (fun w hw => q6i rx fx r fs w (by simpa using hw)) ⟨.bl _,H,I,rfl,?_⟩
    rw [show its.toArray.any (eqU x) = its.any (eqU x) by simp,q71 r fs]
    exact q
theorem qbn : q30 X (.builtin "len") (fun xs H Q => ∃ p ys,xs = [.ref p] /\ (SqL X.K H p ys \/ SqT X.K H p ys) /\ Q (.int ys.length) H) := by
  intro pins s σ H xs us Q I r h
  obtain ⟨p,ys,rfl,hq,q⟩ := h
  obtain ⟨u,rfl,rx⟩ := vals1 r
  cases rx
  have hn := q7t
  rcases hq with hq | hq
  . obtain ⟨its,r',pl,hz⟩ := I.list hq
    have hlen := r'.length
    exact Calls.call_len_list pl.isList (by simp only [List.size_toArray] <;> omega) ⟨.int ys.length,H,I.tok _,⟨s.toks + 1,by rw [List.size_toArray,hlen]⟩,q⟩
  . obtain ⟨its,r',pl,hz⟩ := I.tuple hq
    have hlen := r'.length
    exact len_tuple pl (by simp only [List.size_toArray] <;> omega) ⟨.int ys.length,H,I.tok _,⟨s.toks + 1,by rw [List.size_toArray,hlen]⟩,q⟩
theorem qbg : q30 X (.builtin "len") (fun xs H Q => ∃ z,xs = [.str z] /\ z.length <= sizeLine /\ Q (.int z.length) H) := by
  intro pins s σ H xs us Q I r h
  obtain ⟨z,rfl,hz,q⟩ := h
  obtain ⟨u,rfl,t,rfl⟩ := vals1 r
  have hn := q7t
  exact len_str (by omega) ⟨.int z.length,H,I.tok _,⟨_,rfl⟩,q⟩
theorem q30.or {f : Value} {r r' : List V -> Hp -> VK -> Prop} (h : q30 X f r) (h' : q30 X f r') : q30 X f (fun xs H Q => r xs H Q \/ r' xs H Q) := by
  intro pins s σ H xs us Q I rs q
  rcases q with q | q
  . exact h pins s σ H xs us Q I rs q
  . exact h' pins s σ H xs us Q I rs q
theorem qbh : q30 X (.type "list") (fun xs H Q => ∃ p ys,xs = [.ref p] /\ (SqL X.K H p ys \/ SqT X.K H p ys) /\ ∀ l,H l = none -> Q (.ref l) (upd H l (.lst ys))) := by
  intro pins s σ H xs us Q I r h
  obtain ⟨p,ys,rfl,hq,q⟩ := h
  obtain ⟨u,rfl,rx⟩ := vals1 r
  cases rx
  have fin : ∀ (its : List Value),Vals ys its -> ys.length <= sizeLine -> ∀ (h' : Heap) (c' : Nat),(∀ b o',s.heap.get? b = some o' -> h'.get? b = some o') ->
      h'.get? s.heap.objs.size = some { cls := .type "list",dict := none,data := .seq its.toArray c',slots := #[] } -> EP X pins σ Q (.ref s.heap.objs.size) { s with heap := h' } := fun its r' hz h' c' kp e =>
    ⟨.ref s.heap.objs.size,_,I.laid (t' := s.toks) kp (Nat.le_refl _) (show q2q X.prog X.w _ h' _ (.lst ys) from ⟨hz,its,c',r',e⟩),rfl,q _ (I.hok.fresh (Nat.le_refl _))⟩
  rcases hq with hq | hq
  . obtain ⟨its,r',pl,hz⟩ := I.list hq
    have hlen := r'.length
    obtain ⟨o,ho,hc,n,hd⟩ := pl.isList
    exact call_list_seq p (.inl rfl) ho hc hd (fun h' c' kp e => fin its r' hz h' c' kp e) (by simp only [List.size_toArray] <;> omega)
  . obtain ⟨its,r',pl,hz⟩ := I.tuple hq
    have hlen := r'.length
    obtain ⟨o,ho,hc,n,hd⟩ := pl
    exact call_list_seq p (.inr rfl) ho hc hd (fun h' c' kp e => fin its r' hz h' c' kp e) (by simp only [List.size_toArray] <;> omega)
theorem qal : q30 X (.type "tuple") (fun xs H Q => ∃ p ys,xs = [.ref p] /\ ((SqL X.K H p ys /\ ∀ l,H l = none -> Q (.ref l) (upd H l (.tup ys))) \/ (SqT X.K H p ys /\ Q (.ref p) H))) := by
  intro pins s σ H xs us Q I r h
  obtain ⟨p,ys,rfl,h⟩ := h
  obtain ⟨u,rfl,rx⟩ := vals1 r
  cases rx
  rcases h with ⟨hq,q⟩ | ⟨hq,q⟩
  . obtain ⟨its,r',pl,hz⟩ := I.list hq
    have hlen := r'.length
    refine call_tuple_list pl.isList (fun h' kp => ?_) (by simp only [List.size_toArray] <;> omega)
    have I1 : Inv X pins σ H { s with heap := h' } := I.kept (t' := s.toks) kp
    have I2 : Inv X pins σ (upd H h'.objs.size (.tup ys)) { s with heap := h'.push { cls := .type "tuple",data := .seq its.toArray } } :=
      I1.laid (t' := s.toks) (fun b o e => Heap.get?_push_of_some _ e) (Nat.le_refl _) (show q2q X.prog X.w _ _ _ (.tup ys) from ⟨hz,its,r',IsTup.new _ _⟩)
    exact ⟨.ref h'.objs.size,_,I2,rfl,q _ (I1.hok.fresh (Nat.le_refl _))⟩
  . obtain ⟨its,r',pl,hz⟩ := I.tuple hq
    exact call_tuple_same pl ⟨.ref p,H,I,rfl,q⟩
def tyV (K : PySem.W.Frag) (T : String) (x : V) (H : Hp) : Prop := match x with
  | .str _ => T = "str"
  | .int _ => T = "int"
  | .ref p => (T = "list" /\ ∃ xs,SqL K H p xs) \/ (T = "tuple" /\ ∃ o,K.lookup p = some o /\ o.cls = .type "tuple" /\ o.dict = none) \/
      (T = "dict" /\ ((∃ kvs,H p = some (.dK kvs)) \/ ∃ kvs,H p = some (.dT kvs))) \/ (T = "set" /\ ∃ S n,H p = some (.set S n))
  | _ => False
theorem tyV_is {pins : List (Addr × Obj)} {σ : St} {H : Hp} {s : Shared} {T : String} {x : V} {v : Value} (I : Inv X pins σ H s) (r : RelV x v) (ty : tyV X.K T x H) :
    s.TypeIs v T /\ ∀ a,v = .ref a -> ∃ ob,s.heap.get? a = some ob /\ ob.dict = none := by
  cases x with
  | str z =>
    obtain ⟨t,rfl⟩ := r
    cases (show T = "str" from ty)
    exact ⟨typeIs_str s z t,fun _ e => nomatch e⟩
  | int i =>
    obtain ⟨t,rfl⟩ := r
    cases (show T = "int" from ty)
    exact ⟨typeIs_int s i t,fun _ e => nomatch e⟩
  | ref p =>
    cases r
    rcases ty with ⟨rfl,xs,hq⟩ | ⟨rfl,o,hk,hc,hd⟩ | ⟨rfl,hk⟩ | ⟨rfl,S,n,hk⟩
    . obtain ⟨its,_,pl,_⟩ := I.list hq
      refine ⟨pl.isList.typeIs,fun a e => ?_⟩
      cases e
      obtain ⟨o,n,e,c,hd,_⟩ := pl
      exact ⟨o,e,hd⟩
    . refine ⟨⟨o,I.kIn p o hk,hc⟩,fun a e => ?_⟩
      cases e
      exact ⟨o,I.kIn _ o hk,hd⟩
    . have z : ∃ o,s.heap.get? p = some o /\ o.ExactDict := by
        rcases hk with ⟨kvs,hk⟩ | ⟨kvs,hk⟩
        . obtain ⟨_,_,_,_,o,_,_,e,ex,_⟩ := I.hok p _ hk
          exact ⟨o,e,ex⟩
        . obtain ⟨_,_,_,_,o,_,_,e,ex,_⟩ := I.hok p _ hk
          exact ⟨o,e,ex⟩
      obtain ⟨o,e,ex⟩ := z
      refine ⟨⟨o,e,ex.1⟩,fun a e2 => ?_⟩
      cases e2
      exact ⟨o,e,ex.2.1⟩
    . obtain ⟨o,_,_,_,e,ex,_⟩ := I.hok p _ hk
      refine ⟨⟨o,e,ex.1⟩,fun a e2 => ?_⟩
      cases e2
      exact ⟨o,e,ex.2.1⟩
  | _ => exact False.elim ty
def tBM (K : PySem.W.Frag) (T : String) (r : V -> List V -> Hp -> VK -> Prop) (to : TE) (t : TA) : TE := fun σ H Q => to σ H fun x H1 => tyV K T x H1 /\ t σ H1 fun xs H2 => r x xs H2 Q
variable {o e : Expr} {es : List Expr} {to : TE} {t : TA} {name : Str} {apos cpos : Pos} {T id : String} {r : V -> List V -> Hp -> VK -> Prop}
theorem q5i (pa : PlainAttrs T) (slot : Slot T name id) (hty : typeOf (.builtin id) = pure (.type "method_descriptor")) (hm : MtR X id r) (ho : PE X o to) (ha : PA X (e :: es) t)
    (hbase : attributeBase o name X.env (eval o X.env) = eval o X.env := by rfl)
    (hfew : ((backTo cpos (starEach (e :: es) X.env)).all (fun x => !x.1) && (backToKw cpos (keywordEach [] X.env)).all (fun x => x.1.isSome)
      && decide ((e :: es).length + ([] : List Keyword).length + (if ([] : List Keyword).isEmpty then 0 else 1) < 30)) = true := by rfl)
    (hline : (apos.endLine == cpos.line) = true := by rfl) (hs : starEach (e :: es) X.env = (false,eval e X.env) :: starEach es X.env := by rfl) (hplain : (backTo cpos (starEach es X.env)).any (·.1) = false := by rfl) :
    PE X (.Call (.Attribute o name apos) (e :: es) [] cpos) (tBM X.K T r to t) := by
  intro pins s σ H Q I h
  refine wpAny_Call_method_late hbase hfew hline rfl (thn (ho pins s σ H _ I h) fun v s1 ⟨x,H1,I1,r1,ty,q1⟩ => ?_)
  obtain ⟨h1,h2⟩ := tyV_is I1 r1 ty
  refine ⟨T,id,pa,slot,hty,h1,h2,?_⟩
  have hA := ha cpos pins s1 σ H1 _ I1 q1
  rw [hs] at hA ⊢
  refine Calls.callWith_builtin (by show (false || (backTo cpos (starEach es X.env)).any (·.1)) = false; rw [hplain] <;> rfl) (Calls.evalArgs_plain ?_)
  exact thn hA fun us s2 ⟨vs,H2,I2,r2,q2⟩ => hm pins s2 σ H2 x vs v us Q I2 r1 r2 q2
end
end L2
namespace L2
open PySem PySem.Spec PyProof.Rows
def MtM (X : Cx) (id : String) (r : V -> List V -> Hp -> VK -> Prop) : Prop :=
  ∀ (pins : List (Addr × Obj)) (s : Shared) (σ : St) (H : Hp) (x : V) (xs : List V) (v : Value) (us : List Value) (Q : VK),Inv X pins σ H s -> RelV x v -> Vals xs us -> r x xs H Q ->
    wpAny (model X.prog X.w) X.A (call (.builtin id) (v :: us)) (EP X pins σ Q) X.xe s
theorem Vals.one : ∀ {x : V} {us : List Value},Vals [x] us -> ∃ u,us = [u] /\ RelV x u
  | _,_, .cons r .nil => ⟨_,rfl,r⟩
theorem Vals.zero : ∀ {us : List Value},Vals [] us -> us = []
  | _, .nil => rfl
theorem Vals.dropLast {xs : List V} {us : List Value} (h : Vals xs us) : Vals xs.dropLast us.dropLast := by
  induction h with
  | nil => exact .nil
  | cons r t ih =>
    cases t with
    | nil => exact .nil
    | cons q t' => exact .cons r ih
theorem Vals.reverse {xs : List V} {us : List Value} (h : Vals xs us) : Vals xs.reverse us.reverse := by
  induction h with
  | nil => exact .nil
  | cons r t ih => rw [List.reverse_cons,List.reverse_cons]; exact Vals.append ih (.cons r .nil)
theorem qd1 {α : Type} (l : List α) : l.eraseIdx (l.length - 1) = l.dropLast := by
  induction l with
  | nil => rfl
  | cons a r ih =>
    cases r with
    | nil => rfl
    | cons b r =>
      have e : (a :: b :: r).length - 1 = ((b :: r).length - 1) + 1 := by
        have h1 : (a :: b :: r).length = r.length + 2 := rfl
        have h2 : (b :: r).length = r.length + 1 := rfl
        omega
      rw [e,List.eraseIdx_cons_succ,ih]
      all_goals rfl
section
variable {X : Cx} {pins : List (Addr × Obj)} {σ : St} {H : Hp} {s : Shared} {l b : Addr} {xs ys zs : List V}
theorem Inv.lset {its its' : List Value} {n : Nat} {f : Array Value -> Array Value} {t' : Nat} (I : Inv X pins σ H s) (hH : H l = some (.lst xs))
    (e : s.heap.get? l = some { cls := .type "list",data := .seq its.toArray n }) (hf : f its.toArray = its'.toArray) (hv : Vals ys its') (hz : ys.length <= sizeLine) :
    Inv X pins σ (upd H l (.lst ys)) { s with heap := s.heap.update l (Obj.mapSeq f),toks := t' } := by
  have q := PySem.IsL.update e f
  rw [hf] at q
  refine I.write (x := l) (e := l) (by rw [hH]; exact trivial) (.inl rfl) (fun b' u hb hu => (Heap.get?_update_other s.heap (Obj.mapSeq f) (Ne.symm hb)).trans hu) ⟨_,q⟩ ?_
  exact ⟨hz,its',_,hv,q⟩
theorem Inv.lnew {its : List Value} {t' : Nat} (I : Inv X pins σ H s) (hv : Vals ys its) (hz : ys.length <= sizeLine) :
    Inv X pins σ (upd H s.heap.objs.size (.lst ys)) { s with heap := s.heap.push { cls := .type "list",data := .seq its.toArray },toks := t' } :=
  I.laid (fun _ _ q => Heap.get?_push_of_some _ q) (Nat.le_refl _) ⟨hz,its,0,hv,Heap.get?_push_size _ rfl⟩
theorem Inv.fresh (I : Inv X pins σ H s) : H s.heap.objs.size = none := I.hok.fresh (Nat.le_refl _)
theorem Inv.lstM (I : Inv X pins σ H s) (hH : H l = some (.lst xs)) : xs.length <= sizeLine /\ ∃ (its : List Value) (n : Nat),Vals xs its /\ xs.length = its.length /\ s.heap.get? l = some { cls := .type "list",data := .seq its.toArray n } := by
  obtain ⟨z,its,n,r,e⟩ := I.hok l _ hH
  exact ⟨z,its,n,r,r.length,e⟩
end
section
variable {X : Cx}
def qcu : V -> List V -> Hp -> VK -> Prop := fun x vs H Q => ∃ l xs y,x = .ref l /\ vs = [y] /\ H l = some (.lst xs) /\ xs.length < sizeLine /\ Q .non (upd H l (.lst (xs ++ [y])))
theorem q3e : MtM X "list.append" qcu := by
  intro pins s σ H x vs v us Q I rx rv h
  obtain ⟨l,xs,y,rfl,rfl,hH,hz,q⟩ := h
  cases rx
  obtain ⟨u,rfl,ru⟩ := rv.one
  obtain ⟨z,its,n,r,hl,e⟩ := I.lstM hH
  refine call_meets F.slot_list_append ⟨_,e,rfl⟩ F.entry_list_append (F.args_list_append_2 _ _) (PySem.list_append l its.toArray n u (by rw [List.size_toArray]; omega)) ⟨e,?_⟩
  refine ⟨.non,_,I.lset (its' := its ++ [u]) hH e (by simp) (r.append (.cons ru .nil)) ?_,rfl,q⟩
  rw [List.length_append,List.length_singleton]
  omega
def rPop : V -> List V -> Hp -> VK -> Prop := fun x vs H Q => ∃ l xs y,x = .ref l /\ vs = [] /\ H l = some (.lst xs) /\ xs[xs.length - 1]? = some y /\ Q y (upd H l (.lst xs.dropLast))
theorem mt_pop : MtM X "list.pop" rPop := by
  intro pins s σ H x vs v us Q I rx rv h
  obtain ⟨l,xs,y,rfl,rfl,hH,hy,q⟩ := h
  cases rx
  have hus := rv.zero
  subst hus
  obtain ⟨z,its,n,r,hl,e⟩ := I.lstM hH
  obtain ⟨u,hu,ru⟩ := r.get hy
  have hy' : its.toArray[its.toArray.size - 1]? = some u := by
    show its.toArray[its.length - 1]? = some u
    rw [<- Array.getElem?_toList, <- hl]
    exact hu
  refine call_meets F.slot_list_pop ⟨_,e,rfl⟩ F.entry_list_pop (F.args_list_pop_1 _) (MeetsSeq.list_pop_last l its.toArray n u hy' (by rw [List.size_toArray]; omega)) ⟨e,?_⟩
  refine ⟨y,_,I.lset (its' := its.dropLast) hH e ?_ r.dropLast ?_,ru,q⟩
  . show its.toArray.eraseIdxIfInBounds (its.toArray.size - 1) = its.dropLast.toArray
    rw [List.size_toArray,List.eraseIdxIfInBounds_toArray,qd1]
  . rw [List.length_dropLast]
    omega
end
end L2
namespace Att
open PySem PySem.W PySem.Calls PyProof.Rows
theorem q9b {P : Params} {h : Heap} : ∀ (ns : List Int) (vs : List Value),WellAll P h vs (ns.map WData.int) -> IntsAre vs ns := by
  intro ns
  induction ns with
  | nil =>
    intro vs w
    rw [List.map_nil] at w
    cases w
    exact .nil
  | cons n ns ih =>
    intro vs w
    rw [List.map_cons] at w
    cases w with
    | cons a b =>
      cases a
      exact .cons _ _ (ih _ b)
theorem qel {l : OpenLaw} {n : Nat} (hn : l.most = some n) {P : Params} {h : Heap} {args : List WData} {vals : List Value}
    (hpre : l.row.toRowW.claim.pre args = true) (hwl : WellAll P h vals args) :
    ∃ a vs ns,vals = [Value.ref a] /\ args = [WData.list (ns.map WData.int)] /\ h.get? a = some { cls := .type "list",data := .seq vs.toArray } /\ IntsAre vs ns /\ ns.length <= n := by
  have hsh : WShape.hasAll [] args [.list .int] = true := (pre_splitW hpre).1
  have hc : l.pre.holds [] { args := args } = true := (pre_splitW hpre).2
  obtain ⟨d,r,rfl,h1,h2⟩ := hasAllW_cons hsh
  obtain rfl := hasAllW_nil h2
  obtain ⟨xs,rfl,h3⟩ := hasW_list h1
  obtain ⟨ns,rfl⟩ := items_int h3
  have hlen : ns.length <= n := by
    unfold OpenLaw.pre at hc
    have h4 : (WTm.not (.lt (.lit (.int (n : Int))) (.len (.arg 0)))).holds [] { args := [.list (ns.map .int)] } = true := by
      have h4 := (holds_andW hc).1
      rw [hn] at h4
      exact h4
    have h5 := condW_of h4 (w_not (w_lt w_lit (w_len_list (w_arg rfl))))
    rw [List.length_map] at h5
    refine Nat.le_of_not_lt fun q => ?_
    have q' : (n : Int) < ((ns.length : Nat) : Int) := by omega
    first
      | (rw [decide_eq_true q'] at h5; exact absurd h5 (by decide))
      | (simp at h5; omega)
  cases hwl with
  | cons w1 w2 =>
    cases w2
    cases w1 with
    | list ho hall => exact ⟨_,_,ns,rfl,rfl,ho,q9b ns _ hall,hlen⟩
theorem qfa (l : OpenLaw) (args : List WData) : l.row.toRowW.claim.post args (.bool true) args = true :=
  postW_of (r := l.row.toRowW) (X := (true == true))
    (show WShape.has [] (.bool true) .bool = true by first | rfl | decide | simp [WShape.has,WShape.arms,WShape.armsAll])
    (show (WTm.eq .res (.lit (.bool true))).value [] { args := args,res := some (.bool true),after := args } = some (.bool (true == true)) from w_eq_bool (w_res rfl) w_lit) rfl
theorem qc5 {l : OpenLaw} {n : Nat} {q : Program} {loose : List Str} {XP : (Str -> Option Value) -> Heap -> Prop} {YP : World -> Heap -> Prop} {d : DefRec}
    (hn : l.most = some n) (hdf : d.params.defaults = [])
    (call : ∀ (w : World) (s₀ s₁ : Shared) (mg mb : Str -> Option Value) (fa : Addr) (o : Obj) (pm cd doc : Value) (a : Addr) (vs : List Value) (ns : List Int),
      Ground q loose [] XP w s₀ mg mb s₁.heap -> YP w s₁.heap ->
      s₁.heap.get? fa = some o -> o.data = .func (docDef d.name d.params d.body d.scope pm cd doc) -> s₁.heap.CodeRec cd d.name -> mg d.name = some (.ref fa) ->
      s₁.heap.get? a = some { cls := .type "list",data := .seq vs.toArray } -> IntsAre vs ns -> ns.length <= n -> s₁.gens = #[] ->
      codeAny (model l.prog w) callerA (.call (.ref fa) ⟨[.ref a],[]⟩) (fun r s' => r = .ok (.ret (.bool true)) /\ OldK s₁.heap s'.heap /\ s'.os = s₁.os /\ AllBare s'.gens) s₁) :
    WalkO q loose XP YP l.row.toRowW d [] (fun f vs => PySem.call f vs) := by
  intro w s₀ s₁ mg mb G Y fa o pm cd doc dV kV ho hd hcd hD hmg hg args vals as hpre hlay hrd hwl hlo
  obtain rfl : dV = .none := Dflts.none hD hdf
  obtain rfl : kV = .none := Dflts.noKw hD
  obtain ⟨a,vs,ns,rfl,rfl,hobj,hints,hlen⟩ := qel hn hpre hwl
  refine enter_call (codeAny_mono (call w s₀ s₁ mg mb fa o pm cd doc a vs ns G Y ho (fd_plain hd) hcd hmg hobj hints hlen hg) fun r s' hq => ?_)
  obtain ⟨rfl,h2,h3,h4⟩ := hq
  exact ⟨.inl ⟨.bool true, .bool true,[],rfl,fun _ => rfl, .bool true,qfa l _,fun _ => ⟨List.Pairwise.nil,fun _ hm => (nomatch hm)⟩⟩,h2,h3,h4⟩
end Att
namespace L2
open PySem PySem.Spec PyProof.Rows
theorem qae : ∀ {vs : List Value} {ns : List Int},IntsAre vs ns -> Vals (ns.map V.int) vs
  | _,_, .nil => .nil
  | _,_, .cons n t h => .cons ⟨t,rfl⟩ (qae h)
def Only (H : Hp) : Prop := ∀ b,H b = none \/ ∃ o xs,H b = some (.frz o (.lst xs))
theorem qg1 {P : Program} {w : World} {K : PySem.W.Frag} {mg mb : Str -> Option Value} {CX : CXT} {k : Nat} {fa a : Addr} {fd : FuncData} {x : Str} {sp : Sp} {s₁ : Shared} {vs : List Value} {ns : List Int}
    (KX : K.In s₁.heap) (hns : s₁.heap.Ns mainGlobals mg) (hb : s₁.heap.Ns builtinsNs mb) (hbb : ∀ x : Str,x ≠ "__name__" -> mb x = bootBuiltins x) (hlim : s₁.heap.NoLimit) (hg : s₁.gens = #[])
    (ha : s₁.heap.get? a = some { cls := .type "list",data := .seq vs.toArray }) (hi : IntsAre vs ns) (hl : ns.length <= sizeLine) (hr : Room k callerA)
    (F : ∀ base : Heap,K.In base -> base.Ns mainGlobals mg -> FnOk P w K mg base CX k fa fd [x] sp) (hbind : ∀ (s : Shared) (u : Value),BindsTo s fd ⟨[u],[]⟩ [(x,u)])
    (hsp : ∀ H : Hp,Only H -> SqL K H a (ns.map V.int) -> sp [.ref a] H (fun v _ => v = .bl true) fun _ _ _ => False)
    (hCX : ∀ H e s',CX [] H s₁ (fun _ _ _ => False) e s' -> False) :
    codeAny (model P w) callerA (.call (.ref fa) ⟨[.ref a],[]⟩) (fun r s' => r = .ok (.ret (.bool true)) /\ OldK s₁.heap s'.heap /\ s'.os = s₁.os /\ AllBare s'.gens) s₁ := by
  have rv := qae hi
  have lenV := hi.length
  have core : ∀ H : Hp,Only H -> SqL K H a (ns.map V.int) -> HOk P w H s₁.heap -> (∀ b,H b ≠ none -> b = a) -> (H a ≠ none -> K.lookup a = none) ->
      codeAny (model P w) callerA (.call (.ref fa) ⟨[.ref a],[]⟩) (fun r s' => r = .ok (.ret (.bool true)) /\ OldK s₁.heap s'.heap /\ s'.os = s₁.os /\ AllBare s'.gens) s₁ := by
    intro H hO hS hok hA hK
    have base_of : ∀ {b : Addr} {o : Obj},s₁.heap.get? b = some o -> H b = none -> (hidT s₁.heap H).get? b = some o := fun e n => qgb e n
    have noA : ∀ {b : Addr} {o : Obj} {es : Array DictEntry} {ep : Nat},s₁.heap.get? b = some o -> o.data = .dict es ep -> H b = none := fun {b o es ep} e d => by
      cases q : H b with
      | none => rfl
      | some u =>
        have e' : b = a := hA b (by rw [q]; simp)
        subst e'
        rw [ha] at e; cases e
        have d' : Data.seq vs.toArray _ = Data.dict es ep := d
        cases d'
    have nsK : ∀ {b : Addr} {m : Str -> Option Value},s₁.heap.Ns b m -> (hidT s₁.heap H).Ns b m := fun {b m} ⟨o,es,ep,e,d,r⟩ => ⟨o,es,ep,base_of e (noA e d),d,r⟩
    have hKb : K.In (hidT s₁.heap H) := fun b o e => base_of (KX b o e) (by
      cases q : H b with
      | none => rfl
      | some u =>
        have e' : b = a := hA b (by rw [q]; simp)
        subst e'
        rw [hK (by rw [q]; simp)] at e; cases e)
    have hM : Mod K mg (hidT s₁.heap H) := ⟨hKb,nsK hns,⟨mb,nsK hb,hbb⟩,let ⟨mc,h1,h2⟩ := hlim; ⟨mc,nsK h1,h2⟩⟩
    have e0 : Env0 P w K mg (hidT s₁.heap H) callerA [] s₁ H := ⟨rfl,hM,fun b o e => qgu e,Nat.le_of_eq (qed _ _),trivial,fun b hb => absurd (show b ∈ ([] : List Addr) from hb) (by simp),hok, .of_eq hg⟩
    refine codeAny_mono ((F _ hKb (nsK hns)).run callerA [] s₁ H ⟨[.ref a],[]⟩ [.ref a] [.ref a] _ _ hr e0 (hbind s₁ (.ref a)) (.cons rfl .nil) (hsp H hO hS)) fun r s' h => ?_
    cases r with
    | error e => exact (hCX H e s' h).elim
    | ok fl =>
      cases fl with
      | next => exact False.elim h
      | brk => exact False.elim h
      | cont => exact False.elim h
      | ret u =>
        obtain ⟨v,H',os,bare,un,hok',r',q⟩ := h
        have q' : v = .bl true := q
        subst q'
        obtain rfl : u = Value.bool true := r'
        refine ⟨rfl,OldK.of_keep fun b o e => ?_,os,bare⟩
        cases q : H b with
        | none => exact un.keep b o e q (by intro z; exact absurd (show b ∈ ([] : List Addr) from z) (by simp)) (by simp)
        | some u =>
          rcases hO b with z | ⟨ob,xs,z⟩
          . rw [q] at z; cases z
          . have z2 := un.frzs b ob _ z
            obtain ⟨e1,_⟩ := hok b _ z
            obtain ⟨e2,_⟩ := hok' b _ z2
            rw [e] at e1; cases e1
            exact e2
  cases hk : K.lookup a with
  | some o =>
    have e := KX a o hk
    rw [ha] at e
    cases e
    refine core (fun _ => none) (fun _ => .inl rfl) (.inr ⟨_,vs.toArray,_,hk,rfl,rfl,rfl,by rw [List.size_toArray,lenV]; exact hl,by simpa using rv⟩) (fun b u z => by have z' : (none : Option HO) = some u := z; cases z') (fun b z => absurd rfl z) fun z => absurd rfl z
  | none =>
    refine core (fun b => if b = a then some (.frz { cls := .type "list",data := .seq vs.toArray } (.lst (ns.map V.int))) else none) (fun b => ?_) (.inl (.inr ⟨{ cls := .type "list",data := .seq vs.toArray },if_pos rfl⟩)) (fun b u z => ?_) (fun b z => ?_) fun _ => hk
    . by_cases hb : b = a
      . exact .inr ⟨_,_,if_pos hb⟩
      . exact .inl (if_neg hb)
    . by_cases hb : b = a
      . have z' := (if_pos hb).symm.trans z
        cases z'
        subst hb
        exact ⟨ha,by rw [List.length_map]; exact hl,vs,_,rv,ha⟩
      . have z' := (if_neg hb).symm.trans z
        cases z'
    . by_cases hb : b = a
      . exact hb
      . exact absurd (if_neg hb) z
end L2
namespace L2
open PySem PySem.Spec PyProof.Rows
theorem qh6 {l : PySem.W.OpenLaw} {n k : Nat} {q : Program} {loose : List Str} {XP : (Str -> Option Value) -> Heap -> Prop} {YP : World -> Heap -> Prop} {d : DefRec} {K : Params -> PySem.W.Frag} {CX : World -> CXT} {sp : World -> Sp} {x : Str}
    (hn : l.most = some n) (hn2 : n <= sizeLine) (hdf : d.params.defaults = []) (hr : Room k callerA)
    (hY : ∀ (w : World) (h : Heap),YP w h -> (K w.params).In h)
    (F : ∀ (w : World) (mg : Str -> Option Value) (fa : Addr) (h : Heap),(K w.params).In h -> h.Ns mainGlobals mg -> mg d.name = some (.ref fa) ->
      ∃ fd : FuncData,(∀ (s : Shared) (u : Value),BindsTo s fd ⟨[u],[]⟩ [(x,u)]) /\
        ∀ base : Heap,(K w.params).In base -> base.Ns mainGlobals mg -> FnOk l.prog w (K w.params) mg base (CX w) k fa fd [x] (sp w))
    (hsp : ∀ (w : World) (H : Hp) (a : Addr) (ns : List Int),ns.length <= n -> Only H -> SqL (K w.params) H a (ns.map V.int) -> sp w [.ref a] H (fun v _ => v = .bl true) fun _ _ _ => False)
    (hCX : ∀ (w : World) (H : Hp) (s : Shared) (e : Value) (s' : Shared),CX w [] H s (fun _ _ _ => False) e s' -> False) :
    PySem.W.WalkO q loose XP YP l.row.toRowW d [] (fun f vs => PySem.call f vs) := by
  refine Att.qc5 hn hdf fun w s₀ s₁ mg mb fa o pm cd doc a vs ns G Y ho hd hcd hmg hobj hints hlen hg => ?_
  have KX := hY w _ Y
  obtain ⟨fd,hb,hF⟩ := F w mg fa _ KX G.T.g hmg
  exact qg1 KX G.T.g G.T.b G.T.builtins G.T.nolimit hg hobj hints (Nat.le_trans hlen hn2) hr hF hb (fun H hO hS => hsp w H a ns hlen hO hS) fun H e s' => hCX w H s₁ e s'
end L2
namespace L2
open PySem PySem.Spec PyProof.Rows
def inClass (s : Stmt) (j : Nat) : Stmt := match s with
  | .ClassDef _ _ _ body _ _ _ _ _ _ _ => body.getD j (.Pass ⟨0,0,0,0⟩)
  | _ => .Pass ⟨0,0,0,0⟩
def q1t (s : Stmt) : Arguments := match s with
  | .FunctionDef _ a _ _ _ _ _ _ _ _ => a
  | _ => { posonlyargs := [],args := [],vararg := none,kwonlyargs := [],kw_defaults := [],kwarg := none,defaults := [] }
def q1r (s : Stmt) : List Stmt := match s with
  | .FunctionDef _ _ b _ _ _ _ _ _ _ => b
  | _ => []
def q1e (s : Stmt) : Scope := match s with
  | .FunctionDef _ _ _ _ _ _ sc _ _ _ => sc
  | _ => { kind := .function,names := [],isGenerator := false,isCoroutine := false }
abbrev CX0 : CXT := fun _ _ _ _ _ _ => False
abbrev E0 : XK := fun _ _ _ => False
theorem pass0 {X : Cx} : Passes CX0 X E0 := fun _ _ _ _ _ _ _ h => h.elim
structure Fun (K : PySem.W.Frag) (x qual : Str) (st : Stmt) (f : Addr) (fd : FuncData) : Prop where
  ex : ∃ (oc : Value) (od : Option Addr) (kV doc pm : Value) (an : Option Addr) (cdv ct : Value) (osl : Array (Option Value)),
    fd = PySem.W.fnOf x qual (q1t st) (q1r st) (q1e st) .none kV doc pm an cdv ct /\ K.lookup f = some ⟨oc,od, .func fd,osl⟩ /\ PySem.W.codeIn K cdv qual = true
  kp : PySem.W.keepIn K (.ref f) = true
section
variable {P : Program} {w : World} {K : PySem.W.Frag} {mg : Str -> Option Value} {base : Heap}
theorem Fun.ok {x qual : Str} {st : Stmt} {f : Addr} {fd : FuncData} {N ps : List Str} {k : Nat} {sp : Sp} (F : Fun K x qual st f fd) (S : q1u N ps (q1e st)) (len : ∀ vs H Q E,sp vs H Q E -> vs.length = ps.length)
    (hbody : ∀ (cdv : Value) (A : Around) (outer : List Env) (s : Shared) (H : Hp) (vs : List V) (Q : VK) (E : XK),Room k (A.deeper (envOfC qual (q1e st) s.heap.objs.size f cdv)) -> sp vs H Q E ->
      ∃ t,PSs (cxOf CX0 P w K mg base N qual (q1e st) f cdv A outer s H E).nox (q1r st) t /\ t { nx := fun _ H' => Q .non H',rt := Q } (start N vs) H) : FnOk P w K mg base CX0 (k + 1) f fd ps sp := by
  obtain ⟨oc,od,kV,doc,pm,an,cdv,ct,osl,rfl,lk,hcd⟩ := F.ex
  refine qd7 lk hcd S len fun A outer s H vs Q E hr hsp => ?_
  obtain ⟨t,h,q⟩ := hbody cdv A outer s H vs Q E hr hsp
  exact ⟨t,h.nox,q⟩
theorem Fun.binds {x qual : Str} {st : Stmt} {f : Addr} {fd : FuncData} {ps : List Str} (F : Fun K x qual st f fd)
    (h : ∀ (kV doc pm : Value) (an : Option Addr) (cdv ct : Value) (us : List Value),us.length = ps.length -> bindArgs (PySem.W.fnOf x qual (q1t st) (q1r st) (q1e st) .none kV doc pm an cdv ct) ⟨us,[]⟩ = pure (ps.zip us)) : Binds K fd ps [] := by
  obtain ⟨oc,od,kV,doc,pm,an,cdv,ct,osl,rfl,lk,hcd⟩ := F.ex
  exact .all (h kV doc pm an cdv ct)
theorem q26 {x qual : Str} {st : Stmt} {f : Addr} {oc : Value} {od an : Option Addr} {osl : Array (Option Value)} {kV doc pm cdv ct : Value} (l : K.lookup f = some ⟨oc,od, .func (PySem.W.fnOf x qual (q1t st) (q1r st) (q1e st) .none kV doc pm an cdv ct),osl⟩)
    (c : PySem.W.codeIn K cdv qual = true) (k : PySem.W.keepIn K (.ref f) = true) : Fun K x qual st f (PySem.W.fnOf x qual (q1t st) (q1r st) (q1e st) .none kV doc pm an cdv ct) := ⟨⟨oc,od,kV,doc,pm,an,cdv,ct,osl,rfl,l,c⟩,k⟩
end
theorem q2d {A : Around} {k : Nat} (hr : Room k A) : A.units + 1 < cLine := Nat.lt_of_le_of_lt (Nat.add_le_add_left (by decide : 1 <= 64) _) hr.units
section
variable {X : Cx}
theorem pv (i : Nat) {x : Str} {pos : Pos} (hN : X.N[i]? = some x := by rfl) (hv : Vis X.env.scope x := by first | exact Or.inl rfl | exact Or.inr (Or.inl rfl) | exact Or.inr (Or.inr rfl)) (hd : (x == ("__debug__" : Str)) = false := by decide)
    (hcd : (x == ("__classdict__" : Str)) = false := by decide) : PE X (.Name x pos) (tVar i) := pe_var hN hv hd hcd
end
theorem iteF {A B : Prop} (h : B) : if false = true then A else B := by
  rw [if_neg Bool.false_ne_true]
  exact h
theorem iteT {A B : Prop} (h : A) : if true = true then A else B := by
  rw [if_pos rfl]
  exact h
def Same (H H' : Hp) : Prop := ∀ b o,H b = some o -> H' b = some o
end L2
namespace L2
open PySem PySem.Spec PyProof.Rows
section
variable {κ : Type} [DecidableEq κ]
def valV (kvs : List (κ × V)) (k : κ) : Option V := (kvs.find? fun kv => decide (kv.1 = k)).map (·.2)
def putK (kvs : List (κ × V)) (k : κ) (v : V) : List (κ × V) :=
  if (kvs.any fun kv => decide (kv.1 = k)) = true then kvs.map (fun kv => if kv.1 = k then (kv.1,v) else kv) else kvs ++ [(k,v)]
theorem q7j {p : κ × V} {r : List (κ × V)} {k : κ} (e : p.1 = k) : valV (p :: r) k = some p.2 := by simp [valV,List.find?_cons,e]
theorem q7k {p : κ × V} {r : List (κ × V)} {k : κ} (e : ¬ p.1 = k) : valV (p :: r) k = valV r k := by simp [valV,List.find?_cons,e]
theorem qbq (k : κ) : ∀ kvs : List (κ × V),(kvs.any fun kv => decide (kv.1 = k)) = (valV kvs k).isSome
  | [] => rfl
  | p :: r => by
    rw [List.any_cons]
    by_cases e : p.1 = k
    . simp only [q7j e,decide_eq_true e,Bool.true_or,Option.isSome_some]
    . rw [q7k e,decide_eq_false e,Bool.false_or]; exact qbq k r
theorem q8o (kvs : List (κ × V)) (k : κ) (v : V) : (putK kvs k v).length <= kvs.length + 1 := by
  unfold putK
  split
  . rw [List.length_map]; omega
  . rw [List.length_append,List.length_cons,List.length_nil]; omega
theorem RelO.q81 {o : Option V} {u : Option Value} (r : RelO o u) : o.isSome = u.isSome := by
  cases o with
  | none => cases u with
    | none => rfl
    | some _ => exact (show False from r).elim
  | some _ => cases u with
    | none => exact (show False from r).elim
    | some _ => rfl
theorem RelO.getD {o : Option V} {u : Option Value} {d : V} {d' : Value} (r : RelO o u) (rd : RelV d d') : RelV (o.getD d) (u.getD d') := by
  cases o with
  | none => cases u with
    | none => exact rd
    | some _ => exact (show False from r).elim
  | some _ => cases u with
    | none => exact (show False from r).elim
    | some _ => exact r
theorem KV.val {kvs : List (κ × V)} {vs : List (κ × Value)} (r : KV kvs vs) (k : κ) : RelO (valV kvs k) (valueAt vs k) := by
  unfold KV at r
  induction r with
  | nil => exact True.intro
  | @cons p q ps qs h t ih =>
    obtain ⟨h1,h2⟩ := h
    by_cases e : p.1 = k
    . have e' : q.1 = k := h1.symm.trans e
      have b : valueAt (q :: qs) k = some q.2 := by simp [valueAt,List.find?_cons,e']
      rw [q7j e,b]; exact h2
    . have e' : ¬ q.1 = k := fun z => e (h1.trans z)
      have b : valueAt (q :: qs) k = valueAt qs k := by simp [valueAt,List.find?_cons,e']
      rw [q7k e,b]; exact ih
theorem KV.any {kvs : List (κ × V)} {vs : List (κ × Value)} (r : KV kvs vs) (k : κ) : (kvs.any fun kv => decide (kv.1 = k)) = vs.any fun kv => decide (kv.1 = k) := by
  unfold KV at r
  induction r with
  | nil => rfl
  | cons h t ih => rw [List.any_cons,List.any_cons,ih,h.1]
theorem KV.repl {kvs : List (κ × V)} {vs : List (κ × Value)} (r : KV kvs vs) (k : κ) {y : V} {u : Value} (ry : RelV y u) :
    KV (kvs.map fun kv => if kv.1 = k then (kv.1,y) else kv) (vs.map fun kv => if kv.1 = k then (kv.1,u) else kv) := by
  unfold KV at r ⊢
  induction r with
  | nil => exact .nil
  | @cons p q ps qs h t ih =>
    rw [List.map_cons,List.map_cons]
    refine .cons ?_ ih
    obtain ⟨h1,h2⟩ := h
    by_cases e : p.1 = k
    . rw [if_pos e,if_pos (h1.symm.trans e)]; exact ⟨h1,ry⟩
    . rw [if_neg e,if_neg (fun z => e (h1.trans z))]; exact ⟨h1,h2⟩
theorem KV.put {kvs : List (κ × V)} {vs : List (κ × Value)} (r : KV kvs vs) (k : κ) {y : V} {u : Value} (ry : RelV y u) : KV (putK kvs k y) (stored vs k u) := by
  unfold putK stored
  rw [r.any k]
  by_cases e : (vs.any fun kv => decide (kv.1 = k)) = true
  . rw [if_pos e,if_pos e]; exact r.repl k ry
  . rw [if_neg e,if_neg e]; exact Paired.snoc r ⟨rfl,ry⟩
theorem KV.length {kvs : List (κ × V)} {vs : List (κ × Value)} (r : KV kvs vs) : kvs.length = vs.length := Paired.length r
end
theorem qax {P : Program} {w : World} {k : Key} {u : Value} (r : RelV (kV k) u) : (q3h P w).is k u = true := by
  cases k with
  | inl i => obtain ⟨t,e⟩ := (show ∃ t,u = Value.int i t from r); subst e; exact qca P w i t
  | inr x => obtain ⟨t,e⟩ := (show ∃ t,u = Value.str x t from r); subst e; exact qc9 P w x t
theorem qai {P : Program} {w : World} : ∀ {ks : List Key} {us : List Value},Vals (ks.map kV) us -> ItemsAre (q3h P w) ks us
  | [],_,r => by rw [List.map_nil] at r; cases r; exact .nil
  | k :: ks,_,r => by
    rw [List.map_cons] at r
    cases r with
    | cons h t => exact .cons (qax h) (qai t)
abbrev KT (H : Hp) : List (List Key × V) -> List (List Key × Addr × Value) -> Prop := Paired fun p q => p.1 = q.1 /\ H q.2.1 = some (.tup (p.1.map kV)) /\ RelV p.2 q.2.2
theorem KT.val {H : Hp} {kvs : List (List Key × V)} {xs : List (List Key × Addr × Value)} (r : KT H kvs xs) (k : List Key) : RelO (valV kvs k) ((atKey xs k).map (·.2)) := by
  induction r with
  | nil => exact True.intro
  | @cons p q ps qs h t ih =>
    obtain ⟨h1,_,h2⟩ := h
    by_cases e : p.1 = k
    . have e' : q.1 = k := h1.symm.trans e
      have b : atKey (q :: qs) k = some q.2 := by simp [atKey,List.find?_cons,e']
      rw [q7j e,b]; exact h2
    . have e' : ¬ q.1 = k := fun z => e (h1.trans z)
      have b : atKey (q :: qs) k = atKey qs k := by simp [atKey,List.find?_cons,e']
      rw [q7k e,b]; exact ih
theorem KT.repl {H : Hp} {kvs : List (List Key × V)} {xs : List (List Key × Addr × Value)} (r : KT H kvs xs) (k : List Key) {y : V} {u : Value} (ry : RelV y u) :
    KT H (kvs.map fun kv => if kv.1 = k then (kv.1,y) else kv) (xs.map (putAt k u)) := by
  induction r with
  | nil => exact .nil
  | @cons p q ps qs h t ih =>
    rw [List.map_cons,List.map_cons]
    refine .cons ?_ ih
    obtain ⟨h1,h2,h3⟩ := h
    unfold putAt
    by_cases e : p.1 = k
    . rw [if_pos e,if_pos (h1.symm.trans e)]; exact ⟨h1,h2,ry⟩
    . rw [if_neg e,if_neg (fun z => e (h1.trans z))]; exact ⟨h1,h2,h3⟩
theorem KT.put {H : Hp} {kvs : List (List Key × V)} {xs : List (List Key × Addr × Value)} (r : KT H kvs xs) (k : List Key) {b : Addr} {y : V} {u : Value} (hb : H b = some (.tup (k.map kV))) (ry : RelV y u) :
    KT H (putK kvs k y) (storedH xs k b u) := by
  have e : (kvs.any fun kv => decide (kv.1 = k)) = (atKey xs k).isSome := by
    rw [qbq,(r.val k).q81,Option.isSome_map]
  unfold putK storedH
  rw [e]
  by_cases q : (atKey xs k).isSome = true
  . rw [if_pos q,if_pos q]; exact r.repl k ry
  . rw [if_neg q,if_neg q]; exact Paired.snoc r ⟨rfl,hb,ry⟩
theorem KT.keeps {H H' : Hp} {kvs : List (List Key × V)} {xs : List (List Key × Addr × Value)} (r : KT H kvs xs) (ht : ∀ b ys,H b = some (.tup ys) -> H' b = some (.tup ys)) : KT H' kvs xs :=
  Paired.mapP r fun _ _ z => ⟨z.1,ht _ _ z.2.1,z.2.2⟩
section
variable {P : Program} {w : World} {H : Hp} {h : Heap} {a : Addr}
theorem rd_of {u : HO} (ok : HOk P w H h) (e : Rd H a u) : q2q P w H h a u := e.ok ok
theorem qav {kvs : List (Key × V)} (ok : HOk P w H h) (e : Rd H a (.dK kvs)) : kvs.length <= sizeLine /\ (a == sysModules) = false /\ ∃ vs,KV kvs vs /\ h.DictOf (q3h P w) a vs :=
  show q2q P w H h a (.dK kvs) from rd_of ok e
theorem dk_of {kvs : List (Key × V)} (ok : HOk P w H h) (e : H a = some (.dK kvs)) : kvs.length <= sizeLine /\ (a == sysModules) = false /\ ∃ vs,KV kvs vs /\ h.DictOf (q3h P w) a vs := qav ok (.inl e)
theorem q9m {ks : List Key} (ok : HOk P w H h) (e : H a = some (.tup (ks.map kV))) : (tupleKind (q3h P w)).is h ks a := by
  obtain ⟨_,its,r,o,h1,h2,n,h3⟩ := (show q2q P w H h a (.tup (ks.map kV)) from ok a _ e)
  exact ⟨o,its.toArray,n,h1,h2,h3,by simpa using qai r⟩
theorem qb0 {kvs : List (List Key × V)} (ok : HOk P w H h) (e : Rd H a (.dT kvs)) : kvs.length <= sizeLine /\ (a == sysModules) = false /\
    ∃ xs,KT H kvs xs /\ h.DictOfH (tupleKind (q3h P w)) a xs := by
  obtain ⟨z,y,xs,r,o,es,ep,h1,h2,h3,h4,h5⟩ := (show q2q P w H h a (.dT kvs) from rd_of ok e)
  refine ⟨z,y,xs,r,o,es,ep,h1,h2,h3,h4,fun x hx => ?_,h5⟩
  have all : ∀ {l : List (List Key × V)} {m : List (List Key × Addr × Value)},KT H l m -> ∀ x ∈ m,(tupleKind (q3h P w)).is h x.1 x.2.1 := by
    intro l m q
    induction q with
    | nil => intro x hx; exact nomatch hx
    | @cons p q ps qs hq t ih =>
      intro x hx
      rcases List.mem_cons.mp hx with e | hx
      . subst e
        exact q9m ok (by rw [<- hq.1]; exact hq.2.1)
      . exact ih x hx
  exact all r x hx
theorem dt_of {kvs : List (List Key × V)} (ok : HOk P w H h) (e : H a = some (.dT kvs)) : kvs.length <= sizeLine /\ (a == sysModules) = false /\
    ∃ xs,KT H kvs xs /\ h.DictOfH (tupleKind (q3h P w)) a xs := qb0 ok (.inl e)
end
def DGet (H : Hp) (a : Addr) (y : V) (r : Option V) : Prop :=
  (∃ kvs k,Rd H a (.dK kvs) /\ y = kV k /\ r = valV kvs k) \/ ∃ kvs k b,Rd H a (.dT kvs) /\ y = .ref b /\ H b = some (.tup (k.map kV)) /\ r = valV kvs k
def DPut (H : Hp) (a : Addr) (y v : V) (H' : Hp) : Prop :=
  (∃ kvs k,H a = some (.dK kvs) /\ y = kV k /\ kvs.length < sizeLine /\ H' = upd H a (.dK (putK kvs k v))) \/
  ∃ kvs k b,H a = some (.dT kvs) /\ y = .ref b /\ H b = some (.tup (k.map kV)) /\ kvs.length < sizeLine /\ H' = upd H a (.dT (putK kvs k v))
section
variable {X : Cx} {pins : List (Addr × Obj)} {σ : St} {H : Hp} {s : Shared} {a : Addr} {y v : V} {u r : Value} {o : Option V} {A : Around} {E : Value -> Shared -> Prop}
theorem Inv.big (I : Inv X pins σ H s) : sysModules < s.heap.objs.size := by
  have h : mainGlobals < s.heap.objs.size := (I.mod.glob.keeps I.bk).lt
  exact Nat.lt_trans (by decide) h
theorem d_in {Q : Value -> Shared -> Prop} (hu : A.units + 1 < cLine) (I : Inv X pins σ H s) (g : DGet H a y o) (ry : RelV y u) (h : ∀ s',Inv X pins σ H s' -> Q (.bool o.isSome) s') :
    wpAny (model X.prog X.w) A (compareOp .In u (.ref a)) Q E s := by
  rcases g with ⟨kvs,k,e,ey,l⟩ | ⟨kvs,k,b,e,ey,eb,l⟩
  . subst ey
    obtain ⟨z,hd,vs,rel,dd⟩ := qav I.hok e
    refine wpAny_in_of (qax ry) hd dd.mapOf ?_
    rw [<- (rel.val k).q81, <- l]
    exact h _ (I.tok _)
  . subst ey
    cases (show u = Value.ref b from ry)
    obtain ⟨z,hd,xs,rel,dd⟩ := qb0 I.hok e
    refine wpAny_in_heap (tupleKind_room_in1 hu) (q9m I.hok eb) hd dd ?_
    have q := (rel.val k).q81
    rw [Option.isSome_map] at q
    rw [<- q, <- l]
    exact h _ (I.tok _)
theorem qcr {h' : Heap} {t' : Nat} {ob : HO} (I : Inv X pins σ H s) (mu : Mut (H a)) (hs : Heap.SameBut a s.heap h') (he : ∃ q,h'.get? a = some q) (new : q2q X.prog X.w (upd H a ob) h' a ob) :
    Inv X pins σ (upd H a ob) { s with heap := h',toks := t' } :=
  I.write (x := a) (e := a) mu (.inl rfl) (fun b q hb z => (hs.2 b hb).trans z) he new
theorem dk_new {P : Program} {w : World} {H' : Hp} {h' : Heap} {kvs : List (Key × V)} {vs : List (Key × Value)} (z : kvs.length <= sizeLine) (hd : (a == sysModules) = false) (rel : KV kvs vs) (dd : h'.DictOf (q3h P w) a vs) :
    q2q P w H' h' a (.dK kvs) := ⟨z,hd,vs,rel,dd⟩
theorem qf6 {H' : Hp} {Q : Unit -> Shared -> Prop} (hu : A.units + 1 < cLine) (I : Inv X pins σ H s) (g : DPut H a y v H') (ry : RelV y u) (rv : RelV v r) (h : ∀ s',Inv X pins σ H' s' -> Q () s') :
    wpAny (model X.prog X.w) A (setItem (.ref a) u r) Q E s := by
  rcases g with ⟨kvs,k,e,ey,l,eH⟩ | ⟨kvs,k,b,e,ey,eb,l,eH⟩
  . subst ey eH
    obtain ⟨z,hd,vs,rel,dd⟩ := dk_of I.hok e
    have hz : vs.length <= sizeLine := by rw [<- rel.length]; exact z
    have hl : (putK kvs k v).length <= sizeLine := by have := q8o kvs k v; omega
    refine wpAny_setItem_pairs (hsz := hz) (qax ry) dd fun h' dd' hs => h _ ?_
    have he : ∃ q,h'.get? a = some q := let ⟨q,_,_,hq,_⟩ := dd'; ⟨q,hq⟩
    exact qcr I (by rw [e]; exact True.intro) hs he (dk_new hl hd (rel.put k rv) dd')
  . subst ey eH
    cases (show u = Value.ref b from ry)
    obtain ⟨z,hd,xs,rel,dd⟩ := dt_of I.hok e
    have hz : xs.length <= sizeLine := by rw [<- Paired.length rel]; exact z
    have hl : (putK kvs k v).length <= sizeLine := by have := q8o kvs k v; omega
    refine wpAny_setItem_heap (hsz := hz) (tupleKind_room_in1 hu) (q9m I.hok eb) dd fun h' dd' hs => h _ ?_
    obtain ⟨q,es,ep,hq,h2,h3,h4,_,h5⟩ := dd'
    refine qcr I (by rw [e]; exact True.intro) hs ⟨q,hq⟩ ⟨hl,hd,_,(rel.put k eb rv).keeps fun c ys ec => ?_,q,es,ep,hq,h2,h3,h4,h5⟩
    rw [q21 (ne_of ec e (fun z => nomatch z))]
    exact ec
end
def tDIn (ty td : TE) : TE := fun σ H Q => ty σ H fun y H1 => td σ H1 fun x H2 => ∃ a o,x = .ref a /\ DGet H2 a y o /\ Q (.bl o.isSome) H2
def sDPut (td ty tv : TE) : TS := fun D σ H => tv σ H fun v H1 => td σ H1 fun x H2 => ty σ H2 fun y H3 => ∃ a H4,x = .ref a /\ DPut H3 a y v H4 /\ D.nx σ H4
section
variable {X : Cx} {o i e value : Expr} {pos pos' tpos : Pos} {td ty tv : TE}
theorem pc_din (hu : X.A.units + 1 < cLine) (hi : PE X i ty) (ho : PE X o td) : PC X .In i o (tDIn ty td) := by
  intro pins s σ H Q I h
  refine thn (hi pins s σ H _ I h) fun iv s1 ⟨y,H1,I1,ry,q1⟩ => thn (ho pins s1 σ H1 _ I1 q1) fun u s2 ⟨x,H2,I2,rx,a,ov,ex,g,q2⟩ => ?_
  subst ex
  obtain rfl : u = Value.ref a := rx
  exact d_in hu I2 g ry fun s3 I3 => ⟨.bl ov.isSome,H2,I3,rfl,q2⟩
theorem qgz (hu : X.A.units + 1 < cLine) (ho : PE X o td) (hi : PE X i ty) (hv : PE X value tv) (hs : swapsWith value (some (.Subscript o i pos')) pos.line X.env = pure false) :
    PS X (.Assign [.Subscript o i pos'] value pos) (sDPut td ty tv) := by
  intro pins s σ H D I h
  refine wpAny_Assign_Subscript (thn (hv pins s σ H _ I h) fun r s1 ⟨v,H1,I1,rv,q1⟩ => thn (ho pins s1 σ H1 _ I1 q1) fun u s2 ⟨x,H2,I2,rx,q2⟩ => thn (hi pins s2 σ H2 _ I2 q2) fun iv s3 ⟨y,H3,I3,ry,a,H4,ex,g,q3⟩ => ?_) hs
  subst ex
  obtain rfl : u = Value.ref a := rx
  exact qf6 hu I3 g ry rv fun s4 I4 => ⟨σ,H4,I4,q3⟩
end
theorem qfo {P : Program} {w : World} {H : Hp} (h : Heap) (hb : sysModules < h.objs.size) : q2q P w H (h.push { cls := .type "dict",data := .dict #[] }) h.objs.size (.dK []) :=
  ⟨Nat.zero_le _,beq_eq_false_iff_ne.mpr (Ne.symm (Nat.ne_of_lt hb)),[], .nil,Heap.DictOf.new h⟩
def qf5 : TE := fun _ H Q => ∀ p,H p = none -> Q (.ref p) (upd H p (.dK []))
section
variable {X : Cx} {pos : Pos}
theorem qfv : PE X (.Dict [] [] pos) qf5 := fun pins s σ H Q I h =>
  wpAny_Dict_empty ⟨.ref s.heap.objs.size,_,I.laid (a := s.heap.objs.size) (o := .dK []) (t' := s.toks) (fun _ _ q => Heap.get?_push_of_some _ q) (Nat.le_refl _) (qfo s.heap I.big),rfl,h _ (I.hok.fresh (Nat.le_refl _))⟩
end
structure M1 (X : Cx) (o : Expr) (m : Str) (apos : Pos) (e : Expr) (cpos : Pos) : Prop where
  base : attributeBase o m X.env (eval o X.env) = eval o X.env
  few : ((backTo cpos (starEach [e] X.env)).all (fun x => !x.1) && (backToKw cpos (keywordEach [] X.env)).all (fun x => x.1.isSome)
    && decide (([e] : List Expr).length + ([] : List Keyword).length + (if ([] : List Keyword).isEmpty then 0 else 1) < 30)) = true
  line : (apos.endLine == cpos.line) = true
  trees : backTo cpos (starEach [e] X.env) = [(false,eval e X.env)]
def IsD (H : Hp) (a : Addr) : Prop := (∃ kvs,Rd H a (.dK kvs)) \/ ∃ kvs,Rd H a (.dT kvs)
theorem isD_at {X : Cx} {pins : List (Addr × Obj)} {σ : St} {H : Hp} {s : Shared} {a : Addr} (I : Inv X pins σ H s) (d : IsD H a) :
    s.TypeIs (.ref a) "dict" /\ (∀ b,Value.ref a = .ref b -> ∃ ob,s.heap.get? b = some ob /\ ob.dict = none) /\ (a == sysModules) = false := by
  rcases d with ⟨kvs,e⟩ | ⟨kvs,e⟩
  . obtain ⟨_,hd,vs,_,dd⟩ := qav I.hok e
    refine ⟨dd.typeIs,fun b q => ?_,hd⟩
    cases q
    obtain ⟨ob,_,_,h1,h2,_⟩ := dd
    exact ⟨ob,h1,h2.2.1⟩
  . obtain ⟨_,hd,xs,_,dd⟩ := qb0 I.hok e
    refine ⟨dd.typeIs,fun b q => ?_,hd⟩
    cases q
    obtain ⟨ob,_,_,h1,h2,_⟩ := dd
    exact ⟨ob,h1,h2.2.1⟩
section
variable {X : Cx} {pins : List (Addr × Obj)} {σ : St} {H : Hp} {s : Shared} {a : Addr} {y d : V} {u r : Value} {o : Option V} {A : Around} {E : Value -> Shared -> Prop}
theorem d_get1 {Q : Value -> Shared -> Prop} (hu : A.units + 1 < cLine) (I : Inv X pins σ H s) (g : DGet H a y o) (ry : RelV y u) (h : ∀ w' s',Inv X pins σ H s' -> RelV (o.getD .non) w' -> Q w' s') :
    wpAny (model X.prog X.w) A (call (.builtin "dict.get") [.ref a,u]) Q E s := by
  rcases g with ⟨kvs,k,e,ey,l⟩ | ⟨kvs,k,b,e,ey,eb,l⟩
  . subst ey
    obtain ⟨z,hd,vs,rel,dd⟩ := qav I.hok e
    refine call_meetsIn PySem.F.slot_dict_get dd.typeIs PySem.F.entry_dict_get (PySem.F.args_dict_get_2 _ _) (meets_dict_get (q3h X.prog X.w) a (qax ry) hd) ⟨_,dd.mapOf,h _ _ (I.tok _) ?_⟩
    rw [l]
    exact (rel.val k).getD rfl
  . subst ey
    cases (show u = Value.ref b from ry)
    obtain ⟨z,hd,xs,rel,dd⟩ := qb0 I.hok e
    refine call_meetsIn PySem.F.slot_dict_get dd.typeIs PySem.F.entry_dict_get (PySem.F.args_dict_get_2 _ _) (meetsH_dict_get (tupleKind (q3h X.prog X.w)) a b hd) ⟨tupleKind_room_in1 hu,k,xs,q9m I.hok eb,dd,h _ _ (I.tok _) ?_⟩
    rw [l]
    exact (rel.val k).getD rfl
end
def qdu (td ty : TE) : TE := fun σ H Q => td σ H fun x H1 => ∃ a,x = .ref a /\ IsD H1 a /\ ty σ H1 fun y H2 => ∃ o,DGet H2 a y o /\ Q (o.getD .non) H2
section
variable {X : Cx} {o e f : Expr} {apos cpos : Pos} {td ty tx : TE}
theorem qb4 (hu : X.A.units + 1 < cLine) (ho : PE X o td) (he : PE X e ty) (m : M1 X o "get" apos e cpos) : PE X (.Call (.Attribute o "get" apos) [e] [] cpos) (qdu td ty) := by
  intro pins s σ H Q I h
  refine wpAny_Call_method m.base m.few m.line PySem.F.plainAttrs_dict PySem.F.slot_dict_get PySem.F.type_dict_get (thn (ho pins s σ H _ I h) fun u s1 ⟨x,H1,I1,rx,a,ex,d,q1⟩ => ?_)
  subst ex
  obtain rfl : u = Value.ref a := rx
  obtain ⟨t1,t2,_⟩ := isD_at I1 d
  refine ⟨t1,t2,?_⟩
  rw [m.trees]
  refine Calls.callWith_builtin rfl (Calls.evalArgs_plain (Calls.spliced_cons (thn (he pins s1 σ H1 _ I1 q1) fun iv s2 ⟨y,H2,I2,ry,ov,g,q2⟩ => Calls.spliced_nil ?_)))
  exact d_get1 hu I2 g ry fun w' s3 I3 rw' => ⟨_,H2,I3,rw',q2⟩
end
end L2
set_option maxHeartbeats 4000000
namespace L2
open PySem PySem.Spec PyProof.Rows
theorem q6k {α β : Type} {f : α -> β -> Sem (ForInStep β)} {g : β -> α -> β} : ∀ (l : List α) (c : β),(∀ x ∈ l, ∀ c,f x c = pure (.yield (g c x))) -> forIn l c f = (pure (l.foldl g c) : Sem β)
  | [],c,_ => rfl
  | x :: l,c,h => by
    rw [List.forIn_cons,h x List.mem_cons_self c,pure_bind]
    exact q6k l (g c x) fun y hy c => h y (List.mem_cons_of_mem _ hy) c
def q5y (cells : List (Str × Addr)) (cs : List (Str × Addr)) (x : Str × NameKind) : List (Str × Addr) :=
  if (x.2 == .free) = true then match cells.lookup x.1 with | some c => (x.1,c) :: cs | none => cs else cs
def clos (names : List (Str × NameKind)) (cells : List (Str × Addr)) : List (Str × Addr) := names.foldl (q5y cells) []
theorem qaq {scope : Scope} {env : Env} (h : ∀ x ∈ scope.names,x.2 = .free -> ∃ c,env.cells.lookup x.1 = some c) : closureFor scope env = pure (clos scope.names env.cells) := by
  simp only [closureFor]
  rw [q6k (g := q5y env.cells) scope.names [] (fun x hx c => by
    obtain ⟨n,kind⟩ := x
    by_cases hk : kind = .free
    . subst hk
      obtain ⟨a,ha⟩ := h _ hx rfl
      simp only [q5y,cellOf,ha,beq_self_eq_true,if_true,pure_bind]
    . have : (kind == NameKind.free) = false := by simpa using hk
      simp only [q5y,this,Bool.false_eq_true,if_false])]
  rfl
theorem q86 {cells : List (Str × Addr)} {x : Str} {c : Addr} : ∀ (names : List (Str × NameKind)) (acc : List (Str × Addr)),(x,c) ∈ names.foldl (q5y cells) acc -> (x,c) ∈ acc \/ cells.lookup x = some c
  | [],acc,h => .inl h
  | y :: r,acc,h => by
    rcases q86 r _ h with h | h
    . unfold q5y at h
      split at h
      . cases e : cells.lookup y.1 with
        | none => rw [e] at h; exact .inl h
        | some d =>
          rw [e] at h
          rcases List.mem_cons.mp h with h | h
          . cases h; exact .inr e
          . exact .inl h
      . exact .inl h
    . exact .inr h
theorem q7r {cells : List (Str × Addr)} {p : Str × Addr} : ∀ (names : List (Str × NameKind)) (acc : List (Str × Addr)),p ∈ acc -> p ∈ names.foldl (q5y cells) acc
  | [],acc,h => h
  | y :: r,acc,h => by
    refine q7r r _ ?_
    unfold q5y
    split
    . cases e : cells.lookup y.1 with
      | none => exact h
      | some d => exact List.mem_cons_of_mem _ h
    . exact h
theorem q8j {cells : List (Str × Addr)} {x : Str} {c : Addr} (hc : cells.lookup x = some c) : ∀ (names : List (Str × NameKind)) (acc : List (Str × Addr)),(x,NameKind.free) ∈ names -> (x,c) ∈ names.foldl (q5y cells) acc
  | [],acc,h => by simp at h
  | y :: r,acc,h => by
    rcases List.mem_cons.mp h with h | h
    . subst h
      refine q7r r _ ?_
      simp only [q5y,beq_self_eq_true,if_true,hc]
      exact List.mem_cons_self
    . exact q8j hc r _ h
theorem q7s {x : Str} {c : Addr} : ∀ {l : List (Str × Addr)},(x,c) ∈ l -> ∃ d,l.lookup x = some d
  | [],h => by simp at h
  | (y,d) :: r,h => by
    by_cases e : x = y
    . subst e; exact ⟨d,by simp [List.lookup_cons]⟩
    . rcases List.mem_cons.mp h with h | h
      . cases h; exact absurd rfl e
      . obtain ⟨d',q⟩ := q7s h
        have : (x == y) = false := by simpa using e
        exact ⟨d',by simp [List.lookup_cons,this,q]⟩
theorem q4i {names : List (Str × NameKind)} {cells : List (Str × Addr)} {x : Str} {c : Addr} (h : (clos names cells).lookup x = some c) : cells.lookup x = some c := by
  rcases q86 names [] (PySem.mem_of_lookup h) with h | h
  . simp at h
  . exact h
theorem qbd {names : List (Str × NameKind)} {cells : List (Str × Addr)} {x : Str} {c : Addr} (hn : (x,NameKind.free) ∈ names) (hc : cells.lookup x = some c) : (clos names cells).lookup x = some c := by
  obtain ⟨d,q⟩ := q7s (q8j hc names [] hn)
  have := q4i (names := names) q
  rw [hc] at this
  cases this
  exact q
theorem q8l {g : Str -> NameKind -> NameKind} {x : Str} : ∀ (l : List (Str × NameKind)),(l.map fun p => (p.1,g p.1 p.2)).lookup x = (l.lookup x).map (g x)
  | [] => rfl
  | (y,k) :: r => by
    by_cases e : x = y
    . subst e; simp [List.lookup_cons]
    . have : (x == y) = false := by simpa using e
      simp only [List.map_cons,List.lookup_cons,this]
      exact q8l r
theorem q7d {scope : Scope} {env : Env} {x : Str} : (relabel scope env).names.lookup x = (scope.names.lookup x).map fun k => if (k == .free && env.scope.kind == .function && env.kindOf x == some .cell) = true then .cell else k := by
  rw [<- q8l (g := fun x k => if (k == .free && env.scope.kind == .function && env.kindOf x == some .cell) = true then .cell else k)]
  unfold relabel
  congr 1
  apply List.map_congr_left
  rintro ⟨n,k⟩ _
  dsimp only
  split <;> rfl
structure Blk (osc : Scope) (N : List Str) (scope : Scope) (own : List Str) (fv : List (Str × Nat)) : Prop where
  kind : scope.kind = .function
  nocell : ∀ y ∈ scope.names,y.2 ≠ .cell
  loc : ∀ y ∈ scope.names,y.2 = .local -> scope.names.lookup y.1 = some .local
  free : ∀ y ∈ scope.names,y.2 = .free -> (osc.names.lookup y.1 = some .cell \/ osc.names.lookup y.1 = some .free)
  at' : ∀ p ∈ fv,N[p.2]? = some p.1 /\ scope.names.lookup p.1 = some .free
  hown : ∀ x ∈ own,scope.names.lookup x = some .local
def blk (X : Cx) (scope : Scope) (own : List Str) (fv : List (Str × Nat)) (s : Shared) (H : Hp) (fp : List Addr) : Cx :=
  { X with N := own ++ fv.map (·.1),s₀ := s,H₀ := H,env := compEnvC scope (clos scope.names X.env.cells) s.heap.objs.size X.env,outer := X.stack,ex := fp,fn := fun _ => false,pn := [],xe := fun _ _ => False }
def q7h (fv : List (Str × Nat)) (σ : St) : St := fv.map fun p => (σ[p.2]?).join
def bσ (own : List Str) (fv : List (Str × Nat)) (σ : St) : St := own.map (fun _ => none) ++ q7h fv σ
def PTs (X : Cx) (ifs : List Expr) (t : TT) : Prop :=
  ∀ (pins : List (Addr × Obj)) (s : Shared) (σ : St) (H : Hp) (Q : Bool -> Hp -> Prop),Inv X pins σ H s -> t σ H Q ->
    wpAny (model X.prog X.w) X.A (forIn ifs true fun c r => if r = true then do let ok <- isTrue c X.env (eval c X.env); pure (ForInStep.yield ok) else pure (ForInStep.yield r)) (TP X pins σ Q) X.xe s
def tYes : TT := fun _ H Q => Q true H
theorem q4r {X : Cx} : PTs X [] tYes := fun pins s σ H Q I h => wpAny_tests_nil ⟨H,I,h⟩
theorem qh9 {X : Cx} {c : Expr} {t : TT} (h : PT X c t) : PTs X [c] t := fun pins s σ H Q I q => wpAny_tests_one (h pins s σ H Q I q)
def LcW (own : List Str) (fv : List (Str × Nat)) (J : It) (g : TG) (tc : TT) (te : TE) (σ : St) (D : Addr) (Q : VK) (H0 : Hp) : Prop := ∃ W : Nat -> Nat -> Hp -> Prop,
  (∃ m,W 0 m H0) /\ ∀ i m H,W i m H -> (J.stop i H /\ Q (.ref D) H) \/ (J.go i H /\ ∃ (NE : VK) (NF : Hp -> Prop),(∀ v H5,NE v H5 -> ∃ ys,H5 D = some (.lst ys) /\ ys.length < sizeLine /\ ∃ m',m' < m /\ W (i + 1) m' (upd H5 D (.lst (ys ++ [v])))) /\
    (∀ H4,NF H4 -> ∃ m',m' < m /\ W (i + 1) m' H4) /\ ∀ x H2,J.yld i H x H2 -> g x (bσ own fv σ) H2 fun σ3 H3 =>
    (∃ os : St,os.length = own.length /\ σ3 = os ++ q7h fv σ) /\ tc σ3 H3 fun b H4 => if b = true then te σ3 H4 NE else NF H4)
def tLc (own : List Str) (fv : List (Str × Nat)) (wi : TI) (g : TG) (tc : TT) (te : TE) : TE := fun σ H Q => wi σ H fun J H1 => ∀ D,H1 D = none -> LcW own fv J g tc te σ D Q (upd H1 D (.lst []))
section
variable {prog : Program} {w : World} {A : Around} {R : Result -> Shared -> Prop} {s : Shared}
theorem q5n {elt target iter : Expr} {ifs : List Expr} {scope : Scope} {pos : Pos} {it acc : Value} {env : Env} (I : Nat -> Shared -> Prop)
    (turn : ∀ n s,I n s -> wpAny (model prog w) A (pyNext it) (fun r s₁ => match r with
      | none => R (.ok .next) s₁
      | some v => wpAny (model prog w) A (letOwnedTupleGo target it v) (fun _ s₁' => wpAny (model prog w) A (assign target env v) (fun _ s₂ =>
          wpAny (model prog w) A (forIn ifs true fun c r => if r = true then do let ok <- isTrue c env (eval c env); pure (ForInStep.yield ok) else pure (ForInStep.yield r)) (fun ok s₃ =>
            if ok = true then wpAny (model prog w) A (eval elt env) (fun x s₄ =>
              wpAny (model prog w) A (call (.builtin "list.append") [acc,x]) (fun _ s₅ => ∃ m,m < n /\ I m s₅) (fun _ _ => False) s₄) (fun _ _ => False) s₃
            else ∃ m,m < n /\ I m s₃) (fun _ _ => False) s₂) (fun _ _ => False) s₁') (fun _ _ => False) s₁) (fun _ _ => False) s)
    (n : Nat) (h : I n s) :
    codeAny (model prog w) A (.compLoop (.ListComp elt [⟨target,iter,ifs,0⟩] scope pos) 0 it acc env) R s := by
  refine codeAny_loop rfl I (fun n s hI => ?_) n h
  show wpAny _ A ((compTurn (.ListComp elt [⟨target,iter,ifs,0⟩] scope pos) 0 it acc env).onRaise (fun x => do noteFrame x env; theTreesLotGoes x)) _ _ s
  refine wpAny_noted ?_
  rw [compTurn_list]
  refine wpAny_bind (wpAny_standAt (wpAny_bind (wpAny_mono (turn n s hI) (fun r s₁ h₁ => ?_) fun _ _ h' => h'.elim)))
  cases r with
  | none => exact wpAny_pure h₁
  | some v =>
    refine wpAny_bind (wpAny_mono h₁ (fun _ s₁' h₁' => ?_) fun _ _ h' => h'.elim)
    refine wpAny_bind (wpAny_mono h₁' (fun _ s₂ h₂ => wpAny_bind (wpAny_mono h₂ (fun ok s₃ h₃ => ?_) fun _ _ h' => h'.elim)) fun _ _ h' => h'.elim)
    cases ok with
    | false => exact wpAny_pure ⟨rfl,h₃⟩
    | true =>
      exact wpAny_bind (wpAny_bind (wpAny_mono h₃ (fun x s₄ h₄ => wpAny_bind (wpAny_mono h₄ (fun _ s₅ h₅ => wpAny_pure (wpAny_pure ⟨rfl,h₅⟩)) fun _ _ h' => h'.elim)) fun _ _ h' => h'.elim))
end
section
variable {X : Cx} {pins : List (Addr × Obj)} {σ : St} {H : Hp} {s : Shared} {scope : Scope} {own : List Str} {fv : List (Str × Nat)}
theorem blk_ok (I : Inv X pins σ H s) (B : Blk X.env.scope X.N scope own fv) {fp : List Addr} {H0 : Hp} (hf : ∀ b ∈ fp,FpOk X pins H0 b) (hlt : ∀ b ∈ fp,b < s.heap.objs.size) : (blk X scope own fv s H fp).Ok where
  mod := I.ok.mod
  kind := B.kind
  glob := I.ok.glob
  blt := I.ok.blt
  above := Nat.le_refl _
  inj := fun x y c h1 h2 => I.ok.inj x y c (q4i h1) (q4i h2)
  has := fun x h => by
    have h : (relabel scope X.env).names.lookup x = some .cell \/ (relabel scope X.env).names.lookup x = some .free := h
    rw [q7d] at h
    cases e : scope.names.lookup x with
    | none => rw [e] at h; rcases h with h | h <;> cases h
    | some k =>
      have hm := PySem.mem_of_lookup e
      have hk : k = .free := by
        rw [e] at h
        by_cases hk : k = .free
        . exact hk
        . have hb : (k == NameKind.free) = false := by simpa using hk
          have nc := B.nocell _ hm
          simp only [hb,Bool.false_and,Bool.false_eq_true,if_false,Option.map_some,Option.some.injEq] at h
          rcases h with h | h
          . exact absurd h nc
          . exact h
      subst hk
      have hc : X.env.kindOf x = some .cell \/ X.env.kindOf x = some .free := B.free _ hm rfl
      obtain ⟨c,hc⟩ := I.ok.has x hc
      exact ⟨c,qbd hm hc⟩
  cab := fun x c h => by cases h
  hd := I.ok.hd
  frames := I.ok.frames
  stk := .inl rfl
  exf := fun b hb => ⟨Nat.ne_of_lt (hlt b hb),fun x c h => (hf b hb).2.2.2.2.1 x c (q4i h)⟩
  bs := I.bs
  bsz := Nat.le_trans I.ok.bsz I.sz
  noex := fun b o e hb => by
    rcases (hf b hb).2.2.2.1 with z | z
    . exact I.ok.noex b o e z
    . exact absurd (Nat.lt_of_lt_of_le (Heap.lt_size e) (Nat.le_trans I.ok.bsz z)) (Nat.lt_irrefl _)
  exfs := fun b hb z => by
    rcases List.mem_cons.mp (I.q74 b z) with e | e
    . exact (hf b hb).2.1 e
    . exact (hf b hb).2.2.1 e
  funs := I.stack
  frf := I.q8f
theorem qa9 (I : Inv X pins σ H s) (B : Blk X.env.scope X.N scope own fv) {fp : List Addr} {H0 : Hp} (hf : ∀ b ∈ fp,FpOk X pins H0 b) (hlt : ∀ b ∈ fp,b < s.heap.objs.size) {h' : Heap} {tk : Nat} {m : Str -> Option Value}
    (hn : h'.Ns s.heap.objs.size m) (k : ∀ b o,s.heap.get? b = some o -> h'.get? b = some o) : Inv (blk X scope own fv s H fp) [] (bσ own fv σ) H { s with heap := h',toks := tk } := by
  refine ⟨blk_ok I B hf hlt,rfl,I.bare,Un.kept k,⟨m,hn,fun i x v e1 e2 e3 => ?_⟩,fun x c e => ?_,I.hok.fresh (Nat.le_refl _),fun x c e => I.freeC x c (q4i e),fun p hp => absurd (show p ∈ ([] : List (Addr × Obj)) from hp) (by simp),I.hok.kept k,?_⟩
  . have e1 : (own ++ fv.map (·.1))[i]? = some x := e1
    have hi : own.length <= i := by
      by_cases hi : i < own.length
      . unfold bσ at e2
        rw [List.getElem?_append_left (by simpa using hi),List.getElem?_map] at e2
        cases q : own[i]? with
        | none => rw [q] at e2; cases e2
        | some y => rw [q] at e2; cases e2
      . omega
    rw [List.getElem?_append_right hi,List.getElem?_map] at e1
    unfold bσ at e2
    rw [List.getElem?_append_right (by simpa using hi),List.length_map] at e2
    unfold q7h at e2
    rw [List.getElem?_map] at e2
    cases q : fv[i - own.length]? with
    | none => rw [q] at e1; cases e1
    | some p =>
      rw [q] at e1 e2
      have e1 : p.1 = x := Option.some.inj e1
      subst e1
      have e2 : (σ[p.2]?).join = some v := Option.some.inj e2
      have e2 : σ[p.2]? = some (some v) := by
        cases z : σ[p.2]? with
        | none => rw [z] at e2; cases e2
        | some o => rw [z] at e2; rw [show o = some v from e2]
      obtain ⟨hN,hfree⟩ := B.at' p (List.mem_of_getElem? q)
      have hm := PySem.mem_of_lookup hfree
      have hc := B.free _ hm rfl
      have hvis : Vis X.env.scope p.1 := hc.elim (fun z => .inr (.inl z)) fun z => .inr (.inr z)
      obtain ⟨mo,hno,hl⟩ := I.loc
      obtain ⟨u,r,l⟩ := hl p.2 p.1 v hN e2 hvis
      refine ⟨u,r,?_⟩
      rcases l with ⟨z,_⟩ | ⟨_,c,ec,hcell⟩
      . have z : X.env.scope.names.lookup p.1 = some .local := z
        rcases hc with q | q <;> · rw [q] at z; cases z
      . refine .inr ⟨?_,c,qbd hm ec,?_⟩
        . show (relabel scope X.env).names.lookup p.1 = some .cell \/ (relabel scope X.env).names.lookup p.1 = some .free
          rw [q7d,hfree,Option.map_some]
          by_cases z : ((NameKind.free == NameKind.free && X.env.scope.kind == .function && X.env.kindOf p.1 == some .cell) = true)
          . rw [if_pos z]; exact .inl rfl
          . rw [if_neg z]; exact .inr rfl
        . obtain ⟨o,ho,hd⟩ := hcell
          exact ⟨o,k _ _ ho,hd⟩
  . obtain ⟨v,o,ho,hd⟩ := I.cell x c (q4i e)
    exact ⟨v,o,k _ _ ho,hd⟩
  . unfold bσ q7h
    simp [blk]
theorem qct {H' : Hp} {s' : Shared} {σ' : St} {fp : List Addr} {H0 : Hp} (I : Inv X pins σ H s) (hf : ∀ b ∈ fp,FpOk X pins H0 b) (J : Inv (blk X scope own fv s H fp) [] σ' H' s') : Inv X pins σ H' s' /\ FpOk X pins H' s.heap.objs.size /\ ∃ m,s'.heap.Ns s.heap.objs.size m := by
  have C : FpOk X pins H' s.heap.objs.size := I.fpOk (Nat.le_refl _) J.free
  refine ⟨I.qcy (ch := fp) J.os J.base J.hok J.bare fun b hb => ⟨(hf b hb).2.2.2.1,(hf b hb).2.1,(hf b hb).2.2.2.2.1,(hf b hb).2.2.2.2.2⟩,C,?_⟩
  obtain ⟨m,hn,_⟩ := J.loc
  exact ⟨m,hn⟩
theorem q8q {C : Addr} {h' : Heap} (I : Inv X pins σ H s) (c : FpOk X pins H C) (hs : Heap.SameBut C s.heap h') : Inv X pins σ H { s with heap := h' } :=
  I.turned (t' := s.toks) (fun b o hb e => (hs.2 b hb).trans e) c.1 c.2.1 c.2.2.2.1 c.2.2.2.2.1 c.2.2.2.2.2
theorem qeq {elt tg iter : Expr} {ifs : List Expr} {pos : Pos} {g : TG} {tc : TT} {te : TE} {R : Value -> Addr -> Result -> Shared -> Prop} {E : Value -> Shared -> Prop}
    (hc : X.calm = true) (B : Blk X.env.scope X.N scope own fv) (hg : ∀ s H fp,PG (blk X scope own fv s H fp) tg g) (ht : ∀ s H fp,PTs (blk X scope own fv s H fp) ifs tc) (he : ∀ s H fp,PE (blk X scope own fv s H fp) elt te)
    {it : Addr} {fp : List Addr} {tn : Nat -> Heap -> Prop} {J : It} (I : Inv X pins σ H s) (T : Turn X.prog X.w X.K tg J fp it tn) (st : tn 0 s.heap) (hf : ∀ b ∈ fp,FpOk X pins H b) {Q : VK}
    (hw : ∀ D,H D = none -> LcW own fv J g tc te σ D Q (upd H D (.lst [])))
    (hR : ∀ D C H' s',Inv X pins σ H' s' -> FpOk X pins H' C -> (∃ m,s'.heap.Ns C m) -> Q (.ref D) H' -> R (.ref D) C (.ok .next) s') :
    wpAny (model X.prog X.w) X.A (newList []) (fun acc s₃ => wpAny (model X.prog X.w) X.A (newFunctionEnv scope X.env.globals (clos scope.names X.env.cells) [] X.env.qual none .none (some X.env)) (fun cenv s₄ =>
      codeAny (model X.prog X.w) X.A (.compStart (.ListComp elt [⟨tg,iter,ifs,0⟩] scope pos) 0 (.ref it) acc { cenv with scope := relabel scope X.env }) (R acc cenv.locals) s₄) E s₃) E s := by
  refine wpAny_newObj_type (wpAny_newFunctionEnv B.nocell (by intro y hy; simp at hy) (fun h₁ hns₁ hsb₁ => ?_) B.kind)
  dsimp only at hns₁ hsb₁ ⊢
  have I3 : Inv X pins σ (upd H s.heap.objs.size (.lst [])) { s with heap := s.heap.push { cls := .type "list",data := .seq ([] : List Value).toArray } } := I.lnew (t' := s.toks) .nil (Nat.zero_le _)
  obtain ⟨W,⟨m0,w0⟩,turn⟩ := hw s.heap.objs.size I.fresh
  have fpl : ∀ b ∈ fp,b < s.heap.objs.size := fun b hb => by
    obtain ⟨o,e,_⟩ := T.obj _ _ st b hb
    exact Heap.lt_size e
  have hf3 : ∀ b ∈ fp,FpOk X pins (upd H s.heap.objs.size (.lst [])) b := fun b hb => ⟨by rw [q21 (Nat.ne_of_lt (fpl b hb))]; exact (hf b hb).1,(hf b hb).2⟩
  generalize hS3 : ({ s with heap := s.heap.push { cls := .type "list",data := .seq ([] : List Value).toArray } } : Shared) = s3 at I3
  have hS3h : s.heap.push { cls := .type "list",data := .seq ([] : List Value).toArray } = s3.heap := by rw [<- hS3]
  have fpl3 : ∀ b ∈ fp,b < s3.heap.objs.size := fun b hb => by
    rw [<- hS3h,Heap.size_push]
    exact Nat.lt_succ_of_lt (fpl b hb)
  have e3 : ∀ (h : Heap) (tk : Nat),({ s with heap := h,toks := tk } : Shared) = { s3 with heap := h,toks := tk } := fun h tk => by rw [<- hS3]
  rw [hS3h] at hns₁ hsb₁ ⊢
  rw [e3]
  have k3 : ∀ b o,s3.heap.get? b = some o -> h₁.get? b = some o := fun b o e => hsb₁.extBut b o (Nat.ne_of_lt (Heap.lt_size e)) (Heap.get?_push_of_some _ e)
  have J0 := qa9 (σ := σ) I3 B hf3 fpl3 (tk := s.toks + ([] : List (Str × Value)).length) hns₁ k3
  have ksz : ∀ b o,s.heap.get? b = some o -> h₁.get? b = some o := fun b o e => k3 b o (by rw [<- hS3h]; exact Heap.get?_push_of_some _ e)
  have st1 : tn 0 h₁ := T.keep _ _ _ st fun b _ o e => ksz b o e
  have stat : ∀ {H' : Hp},(∀ b ∈ fp,H' b = none) -> ∀ b ∈ fp,FpOk (blk X scope own fv s3 (upd H s.heap.objs.size (.lst [])) fp) [] H' b := fun hn b hb =>
    ⟨hn b hb,Nat.ne_of_lt (fpl3 b hb),fun z => (by
      rcases List.mem_cons.mp (I.q74 b z) with e | e
      . exact (hf b hb).2.1 e
      . exact (hf b hb).2.2.1 e), .inl hb,fun x c e => (hf b hb).2.2.2.2.1 x c (q4i e),fun p hp => absurd (show p ∈ ([] : List (Addr × Obj)) from hp) (by simp)⟩
  generalize hX' : blk X scope own fv s3 (upd H s.heap.objs.size (.lst [])) fp = X' at J0 stat
  have eP : X'.prog = X.prog := by rw [<- hX']; rfl
  have eW : X'.w = X.w := by rw [<- hX']; rfl
  have eK : X'.K = X.K := by rw [<- hX']; rfl
  have eA : X'.A = X.A := by rw [<- hX']; rfl
  have eE : X'.xe = fun _ _ => False := by rw [<- hX']; rfl
  have eC : X'.calm = true := by rw [<- hX']; exact hc
  have eEnv : compEnvC scope (clos scope.names X.env.cells) s3.heap.objs.size X.env = X'.env := by rw [<- hX']; rfl
  have Hg : PG X' tg g := by rw [<- hX']; exact hg _ _ _
  have Ht : PTs X' ifs tc := by rw [<- hX']; exact ht _ _ _
  have He : PE X' elt te := by rw [<- hX']; exact he _ _ _
  have loop : codeAny (model X.prog X.w) X.A (.compLoop (.ListComp elt [⟨tg,iter,ifs,0⟩] scope pos) 0 (.ref it) (.ref s.heap.objs.size) X'.env) (R (.ref s.heap.objs.size) s3.heap.objs.size) { s3 with heap := h₁,toks := s.toks + ([] : List (Str × Value)).length } := by
    refine q5n (fun n s' => ∃ i H',Inv X' [] (bσ own fv σ) H' s' /\ tn i s'.heap /\ (∀ b ∈ fp,H' b = none) /\ W i n H') ?_ m0 ⟨0,_,J0,st1,fun b hb => (hf3 b hb).1,w0⟩
    rintro n s4 ⟨i,H4,J4,st4,fr4,w4⟩
    rcases turn i n H4 w4 with ⟨stop,q⟩ | ⟨go,NE,NF,hNE,hNF,step⟩
    . have key := T.done X' eP eW eK eC i [] s4 _ H4 (fun _ _ => False) J4 (stat fr4) st4 stop
      rw [eA] at key
      refine thn key fun r s5 ⟨hr,J5⟩ => ?_
      subst hr
      rw [<- hX'] at J5
      obtain ⟨I5,c5,m5⟩ := qct I3 hf3 J5
      exact hR _ _ _ _ I5 c5 m5 q
    . have key := T.item X' eP eW eK eC i [] s4 _ H4 (fun _ _ => False) J4 (stat fr4) st4 go
      rw [eA] at key
      refine thn key fun r s5 ⟨u,hr,h5⟩ => ?_
      subst hr
      refine thn h5 fun _ s6 ⟨x,H6,J6,r6,y6,st6,fr6⟩ => ?_
      have J6' := J6.pinned (stat fr6) (T.obj _ _ st6)
      have kg := Hg _ s6 _ H6 x u _ J6' r6 (step x H6 y6)
      rw [eP,eW,eA,eE] at kg
      refine thn kg fun _ s7 ⟨σ7,H7,J7,⟨os,ol,eσ⟩,q7⟩ => ?_
      have kt := Ht _ s7 σ7 H7 _ J7 q7
      rw [eP,eW,eA,eE] at kt
      refine thn kt fun ok s8 ⟨H8,J8,q8⟩ => ?_
      have again : ∀ {s9 : Shared} {H9 : Hp} {mm : Nat},Inv X' ([] ++ q6s fp s6.heap) σ7 H9 s9 -> mm < n -> W (i + 1) mm H9 -> ∃ m,m < n /\ ∃ i H',Inv X' [] (bσ own fv σ) H' s9 /\ tn i s9.heap /\ (∀ b ∈ fp,H' b = none) /\ W i m H' := fun {s9 H9 mm} J9 hm w9 => by
        refine ⟨mm,hm,i + 1,H9,(J9.q6l).weak ?_ ?_,T.keep _ _ _ st6 fun b hb o e => (J9.pin (b,o) (List.mem_append_right _ (List.mem_append_right _ (q4p hb e)))).1,fun b hb => ?_,w9⟩
        . rw [eσ]; unfold bσ; rw [List.length_append,List.length_append,List.length_map,ol]
        . intro j v e
          rw [eσ]
          unfold bσ at e
          by_cases hj : j < own.length
          . rw [List.getElem?_append_left (by simpa using hj),List.getElem?_map] at e
            cases q : own[j]? with
            | none => rw [q] at e; cases e
            | some y => rw [q] at e; cases e
          . rw [List.getElem?_append_right (by simpa using hj),List.length_map] at e
            rw [List.getElem?_append_right (by omega),ol]
            exact e
        . obtain ⟨o,e,d⟩ := T.obj _ _ st6 b hb
          exact (J9.pin (b,o) (List.mem_append_right _ (List.mem_append_right _ (q4p hb e)))).2.1
      cases ok with
      | false =>
        rw [if_neg Bool.false_ne_true] at q8 ⊢
        obtain ⟨m',hm,w8⟩ := hNF _ q8
        exact again J8 hm w8
      | true =>
        rw [if_pos rfl] at q8 ⊢
        have ke := He _ s8 σ7 H8 _ J8 q8
        rw [eP,eW,eA,eE] at ke
        refine thn ke fun xv s9 ⟨v,H9,J9,r9,q9⟩ => ?_
        obtain ⟨ys,hD,hz,m',hm,w9⟩ := hNE v H9 q9
        have := (q3e (X := X')) _ s9 σ7 H9 (.ref s.heap.objs.size) [v] (.ref s.heap.objs.size) [xv] (fun _ H10 => W (i + 1) m' H10) J9 rfl (.cons r9 .nil) ⟨_,ys,v,rfl,rfl,hD,hz,w9⟩
        rw [eP,eW,eA,eE] at this
        exact thn this fun _ s10 ⟨_,H10,J10,_,w10⟩ => again J10 hm w10
  rw [<- eEnv] at loop
  exact codeAny_compStart_list loop (T.self _ 0 _ _ _ st1 loop)
end
section
variable {X : Cx} {scope : Scope} {own : List Str} {fv : List (Str × Nat)} {elt tg iter : Expr} {ifs : List Expr} {pos : Pos} {wi : TI} {g : TG} {tc : TT} {te : TE}
theorem Blk.clos (B : Blk X.env.scope X.N scope own fv) (ok : X.Ok) : closureFor scope X.env = pure (L2.clos scope.names X.env.cells) :=
  qaq fun y hy hk => ok.has y.1 (B.free y hy hk)
theorem q6n {osc : Scope} {N0 : List Str} (hc : X.calm = true) (hsc : X.env.scope = osc) (hN0 : X.N = N0) (B : Blk osc N0 scope own fv) (hi : PI X tg iter wi) (hg : ∀ s H fp,PG (blk X scope own fv s H fp) tg g) (ht : ∀ s H fp,PTs (blk X scope own fv s H fp) ifs tc) (he : ∀ s H fp,PE (blk X scope own fv s H fp) elt te)
    (hs : ∀ x,foldedSetIterable iter X.env x = pure x := by intro _; rfl) : PE X (.ListComp elt [⟨tg,iter,ifs,0⟩] scope pos) (tLc own fv wi g tc te) := by
  subst hsc hN0
  intro pins s σ H Q I h
  rw [eval_ListComp]
  refine wpAny_comprehension_free (use := none) rfl hs (B.clos I.ok) B.kind B.loc (thn (hi pins s σ H _ I h) fun v s1 h1 => thn h1 fun itv s2 h2 => ?_)
  obtain ⟨it,fp,tn,J,H2,rfl,I2,T,st2,f2,hw⟩ := h2
  refine qeq hc B hg ht he I2 T st2 f2 hw fun D C H' s' I' c' m' q => ?_
  obtain ⟨m,hn⟩ := m'
  exact ⟨m,hn,fun h' hs' => ⟨.ref D,H',q8q I' c' hs',rfl,q⟩⟩
theorem qg7 {osc : Scope} {N0 : List Str} {i : Nat} {x : Str} {pos' spos : Pos} (hc : X.calm = true) (hsc : X.env.scope = osc) (hN0 : X.N = N0) (hN : X.N.Nodup) (hi' : X.N[i]? = some x) (hx : Loc X.env.scope x) (B : Blk osc N0 scope own fv) (hi : PI X tg iter wi) (hg : ∀ s H fp,PG (blk X scope own fv s H fp) tg g) (ht : ∀ s H fp,PTs (blk X scope own fv s H fp) ifs tc) (he : ∀ s H fp,PE (blk X scope own fv s H fp) elt te)
    (hsw : swapsWith (.ListComp elt [⟨tg,iter,ifs,0⟩] scope pos) (some (.Name x pos')) spos.line X.env = pure true := by rfl)
    (hs : ∀ x,foldedSetIterable iter X.env x = pure x := by intro _; rfl) (hf : X.fn x = true \/ X.env.scope.names.lookup x = some .local := by first | exact .inl rfl | exact .inr rfl | assumption) :
    PS X (.Assign [.Name x pos'] (.ListComp elt [⟨tg,iter,ifs,0⟩] scope pos) spos) (tAsg (tLc own fv wi g tc te) (q7m i)) := by
  subst hsc hN0
  intro pins s σ H D I h
  rw [exec_Assign_Name_used _ _ _ _ hsw]
  refine wpAny_bind (wpAny_standAt (wpAny_bind ?_))
  show wpAny _ X.A (do let _ <- comprehension (.ListComp elt [⟨tg,iter,ifs,0⟩] scope pos) scope X.env _ (newList []) false (eval iter X.env) (some (assign (.Name x pos') X.env))) _ _ s
  refine wpAny_bind (wpAny_mono (wpAny_comprehension_free (use := some (assign (.Name x pos') X.env)) (Q := fun _ s' => SP X pins D .next s') rfl hs (B.clos I.ok) B.kind B.loc
    (thn (hi pins s σ H _ I h) fun v s1 h1 => thn h1 fun itv s2 h2 => ?_)) (fun _ s' hq => wpAny_pure (wpAny_pure hq)) fun _ _ e => e)
  obtain ⟨it,fp,tn,J,H2,rfl,I2,T,st2,f2,hw⟩ := h2
  refine qeq (Q := fun x H1 => q7m i x σ H1 D.nx) hc B hg ht he I2 T st2 f2 hw fun L C H' s' I' c' m' q => ?_
  obtain ⟨m,hn⟩ := m'
  show wpAny _ X.A (assign (.Name x pos') X.env (.ref L)) _ _ _
  refine wpAny_assign_Name (qac I' hN hi' hx (v := .ref L) rfl (fun s'' I'' ⟨a,hsb,ha⟩ => ?_) hf)
  have hCa : C ≠ a := by
    rcases ha with ha | ha
    . rw [ha]; exact c'.2.1
    . exact (c'.2.2.2.2.1 x a ha).symm
  exact ⟨m,hn.sameBut hsb hCa,fun h' hs' => ⟨_,H',q8q I'' c' hs',q⟩⟩
end
end L2
namespace L2
open PySem PySem.Spec PyProof.Rows
def Its (x : Str) : It := ⟨fun i _ => i < x.cps.toList.length,fun i H v H' => H' = H /\ ∃ c,x.cps.toList[i]? = some c /\ v = .str ⟨#[c]⟩,fun i _ => i = x.cps.toList.length⟩
theorem go_str {M : Model} {A : Around} {E : Value -> Shared -> Prop} {s : Shared} {tg : Expr} {it : Addr} {x : Str} {t : Tok} {Q : Unit -> Shared -> Prop} (hQ : Q () s) : wpAny M A (letOwnedTupleGo tg (.ref it) (.str x t)) Q E s := by
  unfold letOwnedTupleGo
  cases tg <;> exact wpAny_pure hQ
theorem qfu {P : Program} {w : World} {K : PySem.W.Frag} {tg : Expr} (it : Addr) (x : Str) (t : Tok) (ty : String) (hty : ty = "str_ascii_iterator" \/ ty = "str_iterator") : Turn P w K tg (Its x) [it] it (fun i h => h.IsStrIter it ty x t i) where
  mem := by simp
  obj := fun i h st b hb => by
    have e : b = it := by simpa using hb
    subst e
    obtain ⟨o,e,c,d⟩ := st
    exact ⟨o,e,fun v z => by rw [d] at z; cases z⟩
  keep := fun i h h' st k => let ⟨o,ho,r⟩ := st; ⟨o,k it (by simp) o ho,r⟩
  item := by
    intro X hP hw hK hc i pins s σ H E I hf st hg
    subst hP hw hK
    obtain ⟨f0,f1,f2,f3,f4,f5⟩ := hf it (by simp)
    have hg : i < x.cps.toList.length := hg
    have hg' : i < x.cps.size := by simpa using hg
    have W : Walks X.prog X.w X.A it [it] [it] x.cps.size (SignAt x) (fun i h => h.IsStrIter it ty x t i) := by
      rcases hty with rfl | rfl
      . exact Walks.strAscii (I.ok.hd hc) it x t
      . exact Walks.strWide (I.ok.hd hc) it x t
    refine W.item i s _ _ hg' st fun v h' tk hv st' kk => ?_
    obtain ⟨c,u,hcx,rfl⟩ := hv
    have I1 : Inv X pins σ H { s with heap := h',toks := tk } := I.turned (fun b o hb e => kk b o (by simpa using hb) e) f0 f1 f3 f4 f5
    exact ⟨_,rfl,go_str ⟨.str ⟨#[c]⟩,H,I1,⟨u,rfl⟩,⟨rfl,c,by simpa using hcx,rfl⟩,st',fun b hb => (hf b hb).1⟩⟩
  done := by
    intro X hP hw hK hc i pins s σ H E I hf st hg
    subst hP hw hK
    obtain ⟨f0,f1,f2,f3,f4,f5⟩ := hf it (by simp)
    have hg : i = x.cps.toList.length := hg
    have hg' : i = x.cps.size := by simpa using hg
    subst hg'
    have W : Walks X.prog X.w X.A it [it] [it] x.cps.size (SignAt x) (fun i h => h.IsStrIter it ty x t i) := by
      rcases hty with rfl | rfl
      . exact Walks.strAscii (I.ok.hd hc) it x t
      . exact Walks.strWide (I.ok.hd hc) it x t
    exact W.done s _ _ st fun h' tk kk => ⟨rfl,I.turned (fun b o hb e => kk b o (by simpa using hb) e) f0 f1 f3 f4 f5⟩
  self := fun A i s Q E st h => by
    rcases hty with rfl | rfl
    . exact wpAny_pyIter_striter_ascii st h
    . exact wpAny_pyIter_striter_wide st h
section
variable {X : Cx} {tg : Expr}
def iStr (tl : TE) : TI := fun σ H R => tl σ H fun x H1 => ∃ y,x = .str y /\ R (Its y) H1
theorem pi_str {l : Expr} {tl : TE} (hl : PE X l tl) : PI X tg l (iStr tl) := by
  intro pins s σ H R I h
  refine thn (hl pins s σ H _ I h) fun v s1 ⟨x,H1,I1,r1,q1⟩ => ?_
  obtain ⟨y,e,q⟩ := q1
  subst e
  obtain ⟨t,rfl⟩ := r1
  have fin : ∀ (ty : String),(ty = "str_ascii_iterator" \/ ty = "str_iterator") -> PIE X pins σ tg R (.ref s1.heap.objs.size) { s1 with heap := s1.heap.push { cls := .type ty,data := .fields #[.str y t, .int 0 0] } } := fun ty hty => by
    refine ⟨s1.heap.objs.size,[s1.heap.objs.size],_,_,H1,rfl,I1.kept (t' := s1.toks) fun b o e => Heap.get?_push_of_some _ e,qfu _ y t ty hty,⟨_,Heap.get?_push_size _ rfl,rfl,rfl⟩,fun b hb => ?_,q⟩
    have e : b = s1.heap.objs.size := by simpa using hb
    subst e
    exact I1.fpOk (Nat.le_refl _) (I1.hok.fresh (Nat.le_refl _))
  cases ha : y.cps.all (· < 128)
  . exact wpAny_pyIter_wide ha (fin _ (.inr rfl))
  . exact wpAny_pyIter_ascii ha (fin _ (.inl rfl))
end
section
variable {X : Cx}
theorem qak (bs : List Bool) : ((List.range bs.length).all fun i => bs.getD i false) = bs.all id := by
  rw [Bool.eq_iff_iff,List.all_eq_true,List.all_eq_true]
  constructor
  . intro h x hx
    obtain ⟨i,hi⟩ := List.getElem?_of_mem hx
    have hlt := (List.getElem?_eq_some_iff.mp hi).1
    have := h i (List.mem_range.mpr hlt)
    rw [List.getD_eq_getElem?_getD,hi] at this
    exact this
  . intro h i hi
    have hlt := List.mem_range.mp hi
    rw [List.getD_eq_getElem?_getD,List.getElem?_eq_getElem hlt]
    exact h _ (List.getElem_mem hlt)
theorem qfs (hc : X.calm = true) : q30 X (.builtin "all") (fun xs H Q => ∃ p, ∃ bs : List Bool,xs = [.ref p] /\ SqL X.K H p (bs.map V.bl) /\ Q (.bl (bs.all id)) H) := by
  intro pins s σ H xs us Q I r h
  obtain ⟨p,bs,rfl,hq,q⟩ := h
  obtain ⟨u,rfl,ru⟩ := vals1 r
  cases ru
  obtain ⟨its,rv,pl,hz⟩ := I.list hq
  have hlen : bs.length = its.length := by have := rv.length; simpa using this
  have hv : ∀ (i : Nat) v,its[i]? = some v -> v = .bool (bs.getD i false) := fun i v hi => by
    have hib : i < bs.length := by rw [hlen]; exact (List.getElem?_eq_some_iff.mp hi).1
    have hb : (bs.map V.bl)[i]? = some (.bl (bs.getD i false)) := by
      rw [List.getElem?_map,List.getElem?_eq_getElem hib,List.getD_eq_getElem?_getD,List.getElem?_eq_getElem hib]; rfl
    obtain ⟨u,hu,ru⟩ := rv.get hb
    rw [hi] at hu; cases hu
    exact ru
  have hne : p ≠ s.heap.objs.size := Nat.ne_of_lt (by obtain ⟨o,n,e,_⟩ := pl; exact Heap.lt_size e)
  refine call_all_walk ?_
  refine wpAny_pyIter_list pl.isList ?_
  refine ⟨s.heap.objs.size,_,_,its.toArray.size,_,_,fun i => bs.getD i false,rfl,Walks.list (A := X.A.in1) (I.ok.hd hc) s.heap.objs.size p hne its.toArray,⟨⟨_,Heap.get?_push_size _ rfl,rfl,rfl⟩,?_⟩,?_,?_⟩
  . exact pl.isList.at fun o e => Heap.get?_push_of_some _ e
  . intro i v s' Q' E' hP hQ'
    have hP : its.toArray[i]? = some v := hP
    rw [hv i v (by simpa using hP)]
    exact wpAny_truthy_bool hQ'
  . intro h' tk kk
    rw [List.size_toArray, <- hlen,qak]
    refine ⟨.bl _,H,I.kept fun b o e => kk b o ?_ (Heap.get?_push_of_some _ e),rfl,q⟩
    intro z
    have z : b = s.heap.objs.size := by simpa using z
    exact absurd (z ▸ Heap.lt_size e) (Nat.lt_irrefl _)
theorem qex : OpR X (compareOp .In) (fun x y H Q => ∃ c z,x = .str ⟨#[c]⟩ /\ y = .str z /\ Q (.bl (decide (c ∈ z.cps.toList))) H) := by
  intro pins s σ H x y v u Q I rx ry h
  obtain ⟨c,z,rfl,rfl,q⟩ := h
  exact qe0 pins s σ H _ _ v u Q I rx ry ⟨_,_,rfl,rfl,by rw [PySem.StrLaws.found_one]; exact q⟩
theorem TyOf.kit {pins : List (Addr × Obj)} {σ : St} {H : Hp} {s : Shared} {x : V} {u t : Value} (I : Inv X pins σ H s) (rx : RelV x u) (ty : TyOf X.K H x t) : ∃ HH,PySem.W.KitX X.K u t HH /\ HH s.heap /\ u ≠ .builtin "__main__.__loader__#opaque" := by
  cases ty with
  | non => cases (show u = Value.none from rx); exact ⟨_,PySem.W.kitx_none,True.intro,fun z => nomatch z⟩
  | bl y => cases (show u = Value.bool y from rx); exact ⟨_,PySem.W.kitx_bool,True.intro,fun z => nomatch z⟩
  | int i => obtain ⟨t,q⟩ := (show ∃ t,u = Value.int i t from rx); cases q; exact ⟨_,PySem.W.kitx_int,True.intro,fun z => nomatch z⟩
  | str y => obtain ⟨t,q⟩ := (show ∃ t,u = Value.str y t from rx); cases q; exact ⟨_,PySem.W.kitx_str,True.intro,fun z => nomatch z⟩
  | flt y => obtain ⟨t,q⟩ := (show ∃ t,u = Value.float y t from rx); cases q; exact ⟨_,PySem.W.kitx_float,True.intro,fun z => nomatch z⟩
  | @lst a xs ea =>
    cases (show u = Value.ref a from rx)
    obtain ⟨_,_,n,_,h1⟩ := (show q2q X.prog X.w H s.heap a (.lst xs) from I.hok a _ ea)
    exact ⟨_,PySem.W.kitx_list,⟨_,h1,rfl⟩,fun z => nomatch z⟩
  | @frz a ob xs ea =>
    cases (show u = Value.ref a from rx)
    obtain ⟨_,_,_,n,_,h1⟩ := (show q2q X.prog X.w H s.heap a (.frz ob (.lst xs)) from I.hok a _ ea)
    exact ⟨_,PySem.W.kitx_list,⟨_,h1,rfl⟩,fun z => nomatch z⟩
  | @tup a xs ea =>
    cases (show u = Value.ref a from rx)
    obtain ⟨_,_,_,p⟩ := (show q2q X.prog X.w H s.heap a (.tup xs) from I.hok a _ ea)
    obtain ⟨o,h1,h2,_⟩ := p
    exact ⟨_,PySem.W.kitx_tuple,⟨o,h1,h2⟩,fun z => nomatch z⟩
  | @dK a kvs ea =>
    cases (show u = Value.ref a from rx)
    obtain ⟨_,_,vs,_,p⟩ := (show q2q X.prog X.w H s.heap a (.dK kvs) from I.hok a _ ea)
    obtain ⟨o,es,ep,h1,h2,_⟩ := p
    exact ⟨_,PySem.W.kitx_dict,⟨o,h1,h2.1⟩,fun z => nomatch z⟩
  | @dT a kvs ea =>
    cases (show u = Value.ref a from rx)
    obtain ⟨_,_,xs,_,o,es,ep,h1,h2,_⟩ := (show q2q X.prog X.w H s.heap a (.dT kvs) from I.hok a _ ea)
    exact ⟨_,PySem.W.kitx_dict,⟨o,h1,h2.1⟩,fun z => nomatch z⟩
  | @ins a C dx fs ea cl ha hn htk hm =>
    cases (show u = Value.ref a from rx)
    obtain ⟨mA,O,_⟩ := q8e I.hok ea
    obtain ⟨od,J,_⟩ := O.look
    exact ⟨_,PySem.W.kitx_own (cl.get _) cl.hd ha hn htk hm,J,fun z => nomatch z⟩
theorem qcw : ∀ {ns : List String} {its : List Value},Vals (ns.map V.ty) its -> its = ns.map Value.type
  | [],_,rv => by cases rv; rfl
  | a :: r,_,rv => by
    rw [List.map_cons] at rv
    cases rv with
    | cons r1 r2 =>
      cases r1
      rw [List.map_cons,qcw r2]
end
end L2
namespace L2
open PySem PySem.Spec PyProof.Rows
section
variable {X : Cx}
theorem q5w {x : Str} {i : Int} {pos : Pos} (hg : Gl X x) (hm : ∃ t,X.mg x = some (.int i t)) (hd : (x == ("__debug__" : Str)) = false := by decide) : PE X (.Name x pos) (tC (.int i)) :=
  let ⟨t,e⟩ := hm; q40 (v := .int i) hg e ⟨t,rfl⟩ hd
theorem qfw {x y : Str} {pos : Pos} (hg : Gl X x) (hm : ∃ t,X.mg x = some (.str y t)) (hd : (x == ("__debug__" : Str)) = false := by decide) : PE X (.Name x pos) (tC (.str y)) :=
  let ⟨t,e⟩ := hm; q40 (v := .str y) hg e ⟨t,rfl⟩ hd
end
end L2
namespace L2
open PySem PySem.Spec PyProof.Rows
section
variable {X : Cx} {K : PySem.W.Frag}
theorem qcg (h : X.K = K) : IxR X (rIx K) := h ▸ q2x
end
end L2
namespace L2
open PySem PySem.Spec PyProof.Rows
def TrQ (h B : Heap) (e : Addr) (cls fl : Value) : Prop :=
  ∃ oe vs T oT ts,h.get? e = some oe /\ oe.cls = cls /\ oe.data = .fields vs /\ vs[1]? = some (.ref T) /\ vs[2]? = some .none /\ B.get? T = none /\ T ≠ e /\ h.get? T = some oT /\ oT.data = .fields ts /\ ts[3]? = some fl
structure At (B : Heap) (l : List Env) (e : Addr) (cls fl : Value) (h : Heap) : Prop where
  st : B.StaysIn h
  nw : B.get? e = none
  fr : h.FunFrames B l
  tr : TrQ h B e cls fl
theorem TrQ.first {h B : Heap} {e : Addr} {cls fl : Value} (x : TrQ h B e cls fl) : ∃ o vs,h.get? e = some o /\ o.cls = cls /\ o.data = .fields vs /\ vs[2]? = some .none :=
  let ⟨oe,vs,_,_,_,h1,h2,h3,_,h4,_⟩ := x; ⟨oe,vs,h1,h2,h3,h4⟩
section
variable {M : Model} {A : Around} {E : Value -> Shared -> Prop} {s : Shared} {B : Heap} {env : Env} {outer : List Env} {L e : Addr} {oe : Obj} {vs : Array Value} {head cls fl : Value} {hadNext : Bool} {Q : Unit -> Shared -> Prop}
theorem qfb (hfr : A.frames = some (env :: outer)) (hl : s.heap.FunFrames B (env :: outer)) (hf : env.frame = some L) (he : s.heap.get? e = some oe) (hkb : B.StaysIn s.heap) (hen : B.get? e = none) (hd : oe.data = .fields vs)
    (hsz : 1 < vs.size) (h2 : vs[2]? = some .none) (h : ∀ h',At B (env :: outer) e oe.cls (rawInt L) h' -> s.heap.UpToSlots h' -> Q () { s with heap := h' }) :
    wpAny M A (do let a <- frameOf env; let pl <- entryPlaceOf L hadNext; let b <- EntryCells.newEntry head a .none (rawInt L) .none pl; setField (.ref e) 1 b) Q E s := by
  have hene : e ∉ (env :: outer).filterMap (·.frame) := fun hm => by
    obtain ⟨_,o,ho,hnf⟩ := hl.mem hm
    rw [he] at ho; cases ho; exact hnf vs hd
  refine wpAny_bind (wpAny_frameOf_fun hfr hl hf fun h₁ hs₁ => ?_)
  refine wpAny_bind (wpAny_entryPlaceOf fun pl hpl => ?_)
  unfold EntryCells.newEntry newFields
  refine wpAny_bind (wpAny_newObj_type ?_ (hpl.sizeOk5 _ _ _ _ _))
  have he₁ : h₁.get? e = some oe := (hs₁.2.1 e hene).trans he
  have kb₁ : B.StaysIn h₁ := fun b o hbo => (hs₁.2.1 b fun hm => by rw [(hl.mem hm).1] at hbo; cases hbo).trans (hkb b o hbo)
  generalize hT : ([head, .ref L, .none,rawInt L, .none] ++ (if pl.isEmpty then List.replicate 6 Value.none else pl)).toArray = tb
  have htb : tb[3]? = some (rawInt L) := by subst hT; rcases hpl with rfl | ⟨_,_,_,_,_,_,_,rfl⟩ <;> simp
  have he₂ := Heap.get?_push_of_some (h := h₁) { cls := .type "traceback",dict := none,data := .fields tb } he₁
  refine wpAny_setField he₂ hd hsz (h _ ?_ fun b o hb hnf => ?_)
  . have hTe : h₁.objs.size ≠ e := Nat.ne_of_gt (Heap.lt_size he₁)
    have hd₃ := Obj.data_mapFields hd (·.setIfInBounds 1 (Value.ref h₁.objs.size))
    have he₃ := Heap.get?_update_self (Obj.mapFields (·.setIfInBounds 1 (Value.ref h₁.objs.size))) he₂ (Obj.isFreed_of_fields hd₃)
    have hT₃ := (Heap.get?_update_other (h₁.push { cls := .type "traceback",dict := none,data := .fields tb }) (Obj.mapFields (·.setIfInBounds 1 (Value.ref h₁.objs.size))) (Ne.symm hTe)).trans (Heap.get?_push_size h₁ rfl)
    have keep : ∀ b o,b ≠ e -> h₁.get? b = some o -> ((h₁.push { cls := .type "traceback",dict := none,data := .fields tb }).update e (Obj.mapFields (·.setIfInBounds 1 (Value.ref h₁.objs.size)))).get? b = some o := fun b o hbe hb => by
      rw [Heap.get?_update_other _ _ (Ne.symm hbe)]
      exact Heap.get?_push_of_some _ hb
    refine ⟨fun b o hbo => keep b o (fun q => by rw [q,hen] at hbo; cases hbo) (kb₁ b o hbo),hen,hl.of_keeps fun b o hb hnf => ?_,?_⟩
    . obtain ⟨sl,hs⟩ := hs₁.2.2 b o hb
      exact ⟨_,keep b _ (fun q => by rw [q,he] at hb; cases hb; exact hnf vs hd) hs,rfl⟩
    . exact ⟨_,_,h₁.objs.size,_,_,he₃,Obj.cls_mapFields _ _,hd₃,by simp [hsz],by rw [Array.getElem?_setIfInBounds_ne (by decide)]; exact h2,kb₁.fresh,hTe,hT₃,rfl,htb⟩
  . obtain ⟨sl,hs⟩ := hs₁.2.2 b o hb
    refine ⟨sl,?_⟩
    rw [Heap.get?_update_other _ _ (fun q => by rw [<- q,he] at hb; cases hb; exact hnf vs hd)]
    exact Heap.get?_push_of_some _ hs
theorem qc7 (hfr : A.frames = some (env :: outer)) (hl : s.heap.FunFrames B (env :: outer)) (hf : env.frame = some L) (he : s.heap.get? e = some oe) (hkb : B.StaysIn s.heap) (hen : B.get? e = none) (hd : oe.data = .fields vs)
    (h1 : vs[1]? = some .none) (h2 : vs[2]? = some .none) (h : ∀ h',At B (env :: outer) e oe.cls (rawInt L) h' -> s.heap.UpToSlots h' -> Q () { s with heap := h' }) : wpAny M A (noteFrame (.ref e) env) Q E s := by
  unfold noteFrame
  simp only [hf]
  refine wpAny_bind (wpAny_field he hd h1 ?_)
  rw [if_neg (by decide)]
  exact qfb hfr hl hf he hkb hen hd (Array.getElem?_eq_some_iff.mp h1).1 h2 h
theorem q9f (hfr : A.frames = some (env :: outer)) (hf : env.frame = some L) (x : At B (env :: outer) e cls .none s.heap)
    (h : ∀ h',At B (env :: outer) e cls (rawInt L) h' -> s.heap.UpToSlots h' -> Q () { s with heap := h' }) : wpAny M A (noteFrame (.ref e) env) Q E s := by
  obtain ⟨hkb,hen,hl,oe,vs,T,oT,ts,he,hcls,hd,h1,h2,hnT,hTe,hT,hdT,h3⟩ := x
  subst hcls
  unfold noteFrame
  simp only [hf]
  refine wpAny_bind (wpAny_field he hd h1 ?_)
  rw [if_pos (show (Value.ref T != Value.none) = true from by simp)]
  refine wpAny_bind (wpAny_field hT hdT h3 ?_)
  rw [if_neg (show ¬ ((Value.none == rawInt L) = true) from by simp [rawInt])]
  refine wpAny_bind (wpAny_setField hT hdT (Array.getElem?_eq_some_iff.mp h3).1 ?_)
  have other : ∀ b,b ≠ T -> (s.heap.update T (Obj.mapFields (·.setIfInBounds 3 Value.none))).get? b = s.heap.get? b := fun b hb => Heap.get?_update_other _ _ (Ne.symm hb)
  have noRecord : ∀ b o,s.heap.get? b = some o -> (∀ vs,o.data ≠ .fields vs) -> b ≠ T := fun b o hb hnf q => by
    rw [q,hT] at hb; cases hb; exact hnf ts hdT
  refine qfb hfr (hl.of_keeps fun b o hb hnf => ⟨o,(other b (noRecord b o hb hnf)).trans hb,rfl⟩) hf ((other e (Ne.symm hTe)).trans he)
    (fun b o hbo => (other b fun q => by rw [q,hnT] at hbo; cases hbo).trans (hkb b o hbo)) hen hd (Array.getElem?_eq_some_iff.mp h1).1 h2 fun h' x1 x2 => h h' x1 fun b o hb hnf => x2 b o ((other b (noRecord b o hb hnf)).trans hb) hnf
theorem q8h {l : List Env} (x : At B l e cls fl s.heap) (h : ∀ h',At B l e cls .none h' -> s.heap.UpToSlots h' -> Q () { s with heap := h' }) : wpAny M A (setFlight (.ref e) none) Q E s := by
  obtain ⟨hkb,hen,hl,oe,vs,T,oT,ts,he,hcls,hd,h1,h2,hnT,hTe,hT,hdT,h3⟩ := x
  have hsz3 : 3 < ts.size := (Array.getElem?_eq_some_iff.mp h3).1
  have other : ∀ b,b ≠ T -> (s.heap.update T (Obj.mapFields (·.setIfInBounds 3 ((none : Option Addr).elim Value.none fun f => rawInt f)))).get? b = s.heap.get? b := fun b hb => Heap.get?_update_other _ _ (Ne.symm hb)
  have noRecord : ∀ b o,s.heap.get? b = some o -> (∀ vs,o.data ≠ .fields vs) -> b ≠ T := fun b o hb hnf q => by
    rw [q,hT] at hb; cases hb; exact hnf ts hdT
  unfold setFlight
  refine wpAny_bind (wpAny_field he hd h1 ?_)
  rw [if_pos (show (Value.ref T != Value.none) = true from by simp)]
  refine wpAny_setField hT hdT hsz3 (h _ ⟨fun b o hbo => (other b fun q => by rw [q,hnT] at hbo; cases hbo).trans (hkb b o hbo),hen,
    hl.of_keeps fun b o hb hnf => ⟨o,(other b (noRecord b o hb hnf)).trans hb,rfl⟩,?_⟩ fun b o hb hnf => ⟨o.slots,(other b (noRecord b o hb hnf)).trans hb⟩)
  exact ⟨oe,vs,T,_,_,(other e (Ne.symm hTe)).trans he,hcls,hd,h1,h2,hnT,hTe,Heap.get?_update_self _ hT (Obj.isFreed_of_fields (Obj.data_mapFields hdT _)),Obj.data_mapFields hdT _,by simp [hsz3]⟩
theorem At.pop {l : List Env} {h : Heap} (x : At B (env :: l) e cls fl h) : At B l e cls fl h := ⟨x.st,x.nw,x.fr.2.2,x.tr⟩
theorem qc8 {h : Heap} {args : List Value} (hfr : A.frames = some (env :: outer)) (hf : env.frame = some L) (hkb : B.StaysIn h) (hl : h.FunFrames B (env :: outer)) (hx : Heap.MadeExcOf h s.heap e cls args)
    (hQ : ∀ h',At B outer e cls .none h' -> s.heap.UpToSlots h' -> Q () { s with heap := h' }) : wpAny M A (leaving env (.ref e)) Q E s := by
  obtain ⟨t,he,htn,ht⟩ := hx.there
  have fresh : ∀ b,h.get? b = none -> B.get? b = none := fun b hb => by
    cases hq : B.get? b with
    | none => rfl
    | some o' => have := hkb b o' hq; rw [hb] at this; cases this
  unfold leaving
  refine wpAny_bind (qc7 hfr (hl.of_keeps fun b o hb _ => ⟨o,hx.keeps b o hb,rfl⟩) hf he (fun b o hb => hx.keeps b o (hkb b o hb)) (fresh e hx.new) rfl rfl rfl fun h' x up => ?_)
  exact q8h x fun h'' x' up' => hQ h'' x'.pop (up.trans up')
theorem qfe (hfr : A.frames = some (env :: outer)) (hf : env.frame = some L) (x : At B (env :: outer) e cls .none s.heap) (hQ : ∀ h',At B outer e cls .none h' -> s.heap.UpToSlots h' -> Q () { s with heap := h' }) :
    wpAny M A (leaving env (.ref e)) Q E s := by
  unfold leaving
  refine wpAny_bind (q9f hfr hf x fun h' x up => ?_)
  exact q8h x fun h'' x' up' => hQ h'' x'.pop (up.trans up')
end
end L2
namespace L2
open PySem PySem.Spec PyProof.Rows
structure Fly (P : Program) (w : World) (outer : List Env) (H : Hp) (s : Shared) (a C : Addr) (H' : Hp) (B : Heap) (s' : Shared) : Prop where
  os : s'.os = s.os
  bare : AllBare s'.gens
  hok : HOk P w H' B
  kp : ∀ b o,s.heap.get? b = some o -> H b = none -> b ∉ frs outer -> B.get? b = some o
  th : ∀ b o,s.heap.get? b = some o -> b ∉ frs outer -> ∃ o',B.get? b = some o'
  un : Un (frs outer) [] H H' s.heap s'.heap
  fly : At B outer a (.ref C) .none s'.heap
def CX1 (P : Program) (w : World) : CXT := fun outer H s E e s' => ∃ a C H' B,e = .ref a /\ Fly P w outer H s a C H' B s' /\ E (.ref C) none H'
section
variable {P : Program} {w : World} {outer : List Env} {H H' : Hp} {s s' : Shared} {a C : Addr} {B : Heap}
theorem Fly.on (F : Fly P w outer H s a C H' B s') (ff : ∀ b ∈ frs outer,H b = none /\ ∃ o,s.heap.get? b = some o /\ ∀ vs,o.data ≠ .fields vs) {h' : Heap} (fl : At B outer a (.ref C) .none h') (up : s'.heap.UpToSlots h') :
    Fly P w outer H s a C H' B { s' with heap := h' } where
  os := F.os
  bare := F.bare
  hok := F.hok
  kp := F.kp
  th := F.th
  fly := fl
  un := by
    have sl : ∀ b o,s.heap.get? b = some o -> b ∈ frs outer -> ∃ sl,h'.get? b = some { o with slots := sl } := fun b o q hf => by
      obtain ⟨n,o1,q1,nd⟩ := ff b hf
      rw [q] at q1; cases q1
      obtain ⟨sl,e⟩ := F.un.slot b o q n hf (by simp)
      obtain ⟨sl',e'⟩ := up b _ e nd
      exact ⟨sl',e'⟩
    refine ⟨fun b o q n nf _ => fl.st b o (F.kp b o q n nf),fun b o q n hf _ => sl b o q hf,F.un.free,fun b o q hx => ?_,F.un.tups,F.un.frzs,F.un.tbls⟩
    by_cases hb : b ∈ frs outer
    . obtain ⟨sl',e⟩ := sl b o q hb
      exact ⟨_,e⟩
    . obtain ⟨o',e⟩ := F.th b o q hb
      exact ⟨o',fl.st b o' e⟩
end
section
variable {X : Cx} {pins : List (Addr × Obj)} {σ : St} {H H' : Hp} {s s' : Shared} {a C : Addr} {B : Heap}
theorem Inv.ff (I : Inv X pins σ H s) : ∀ b ∈ frs X.stack,H b = none /\ ∃ o,s.heap.get? b = some o /\ ∀ vs,o.data ≠ .fields vs := fun b hb => ⟨I.q8f b hb,(I.stack.mem hb).2⟩
theorem Inv.ff0 (I : Inv X pins σ H s) : ∀ b ∈ frs X.outer,X.H₀ b = none /\ ∃ o,X.s₀.heap.get? b = some o /\ ∀ vs,o.data ≠ .fields vs := fun b hb => ⟨I.ok.frf b hb,(I.ok.funs.mem hb).2⟩
theorem Fly.inv (I : Inv X pins σ H s) (F : Fly X.prog X.w X.stack H s a C H' B s') : Inv X pins σ H' s' := by
  exact I.qcy F.os F.un (F.hok.kept F.fly.st) F.bare fun b hb => absurd hb (by simp)
theorem qce (I : Inv X pins σ H s) (st : X.stack = X.env :: X.outer) (ex : X.ex = []) (os : s'.os = s.os) (bare : AllBare s'.gens) (hok : HOk X.prog X.w H' B)
    (k1 : ∀ b o,s.heap.get? b = some o -> H b = none -> b ∉ frs X.stack -> B.get? b = some o) (k2 : ∀ b o,s.heap.get? b = some o -> b ∉ frs X.stack -> ∃ o',B.get? b = some o')
    (un : Un (frs X.stack) [] H H' s.heap s'.heap) (st' : B.StaysIn s'.heap) {h'' : Heap} (fl : At B X.outer a (.ref C) .none h'') (up : s'.heap.UpToSlots h'') : Fly X.prog X.w X.outer X.H₀ X.s₀ a C H' B { s' with heap := h'' } := by
  have I' : Inv X pins σ H' s' := I.qcy os un (hok.kept st') bare fun b hb => absurd hb (by simp)
  have nst : ∀ b o,X.s₀.heap.get? b = some o -> b ∉ frs X.outer -> b ∉ frs X.stack := fun b o q nf hb => by
    rcases List.mem_cons.mp (I.q74 b hb) with z | z
    . have e1 := Heap.lt_size q
      have e2 := I.ok.above
      rw [z] at e1
      exact absurd e1 (Nat.not_lt.mpr e2)
    . exact nf z
  have nex : ∀ b,b ∉ X.ex := fun b => by rw [ex]; simp
  have kk : ∀ b o,X.s₀.heap.get? b = some o -> X.H₀ b = none -> b ∉ frs X.outer -> B.get? b = some o := fun b o q n nf =>
    k1 b o (I.base.keep b o q n nf (nex b)) (I.base.free b o q n (nex b)) (nst b o q nf)
  have tt : ∀ b o,X.s₀.heap.get? b = some o -> b ∉ frs X.outer -> ∃ o',B.get? b = some o' := fun b o q nf => by
    obtain ⟨o1,e1⟩ := I.base.there b o q (nex b)
    exact k2 b o1 e1 (nst b o q nf)
  have sl : ∀ b o,X.s₀.heap.get? b = some o -> b ∈ frs X.outer -> ∃ sl,h''.get? b = some { o with slots := sl } := fun b o q hf => by
    obtain ⟨n,o1,q1,nd⟩ := I.ff0 b hf
    rw [q] at q1; cases q1
    obtain ⟨sl,e⟩ := I'.base.slot b o q n hf (nex b)
    obtain ⟨sl',e'⟩ := up b _ e nd
    exact ⟨sl',e'⟩
  refine ⟨os.trans I.os,bare,hok,kk,tt,?_,fl⟩
  refine ⟨fun b o q n nf _ => fl.st b o (kk b o q n nf),fun b o q n hf _ => sl b o q hf,fun b o q n _ => I'.base.free b o q n (nex b),fun b o q hx => ?_,I'.base.tups,I'.base.frzs,I'.base.tbls⟩
  by_cases hb : b ∈ frs X.outer
  . obtain ⟨sl',e⟩ := sl b o q hb
    exact ⟨_,e⟩
  . obtain ⟨o',e⟩ := tt b o q hb
    exact ⟨o',fl.st b o' e⟩
structure Out (X : Cx) (E : XK) : Prop where
  st : X.stack = X.env :: X.outer
  fr : X.env.frame = some X.env.locals
  ex : X.ex = []
  pass : ∀ a s',wpAny (model X.prog X.w) X.A (leaving X.env (.ref a)) (fun _ s'' => CX1 X.prog X.w X.outer X.H₀ X.s₀ E (.ref a) s'') (fun _ _ => False) s' -> X.xe (.ref a) s'
theorem Out.passes {E : XK} (O : Out X E) : Passes (CX1 X.prog X.w) X E := by
  intro pins σ H s e s' I hx
  obtain ⟨a,C,H',B,rfl,F,q⟩ := hx
  refine O.pass a s' (qfe (by rw [I.ok.frames,O.st]) O.fr (by rw [<- O.st]; exact F.fly) fun h' fl' up => ?_)
  exact ⟨a,C,H',B,rfl,qce I O.st O.ex F.os F.bare F.hok F.kp F.th F.un F.fly.st fl' up,q⟩
theorem Out.raised {E : XK} (O : Out X E) (I : Inv X pins σ H s) {h1 : Heap} {vs : List Value} (hx : Heap.MadeExcOf s.heap h1 a (.ref C) vs) (q : E (.ref C) none H) : X.xe (.ref a) { s with heap := h1 } := by
  have keep : ∀ b o,s.heap.get? b = some o -> b ∉ frs X.stack -> (PySem.W.hideAll s.heap (frs X.stack)).get? b = some o := fun b o e nb => PySem.W.hideAll_get _ e nb
  have hst : (PySem.W.hideAll s.heap (frs X.stack)).StaysIn s.heap := fun b o e => PySem.W.of_hideAll _ e
  have hff : s.heap.FunFrames (PySem.W.hideAll s.heap (frs X.stack)) (X.env :: X.outer) := by
    rw [<- O.st]
    exact PySem.W.funFrames_hide I.stack fun env he b hb => List.mem_filterMap.mpr ⟨env,he,hb⟩
  refine O.pass a _ (qc8 (h := s.heap) (B := PySem.W.hideAll s.heap (frs X.stack)) (by rw [I.ok.frames,O.st]) O.fr hst hff hx fun h' fl up => ?_)
  refine ⟨a,C,H,_,rfl,qce (s' := { s with heap := h1 }) (H' := H) I O.st O.ex rfl I.bare (fun b u e => ?_) (fun b o e n nb => keep b o e nb) (fun b o e nb => ⟨o,keep b o e nb⟩) (Un.kept hx.keeps) (fun b o e => hx.keeps b o (hst b o e)) fl up,q⟩
  refine (I.hok b u e).stay (fun c v hc z => keep c v z ?_) (fun _ z => z) fun _ _ z => z
  intro hm
  have n := I.q8f c hm
  rcases hc with rfl | hc
  . rw [e] at n; cases n
  . rw [hc] at n; cases n
end
end L2
namespace L2
open PySem PySem.Spec PyProof.Rows
theorem qhs {K : PySem.W.Frag} {h : Heap} {C : Addr} {bmB : List Value} {newId : String} (X : K.In h) (q : PySem.W.excIn K C bmB newId = true) :
    ∃ bm N nm q bs hdct sn sub ab col dd k0 k1 k2 k3 k5 mN,h.get? C = some (excClassObj nm q C N bs bm hdct sn sub ab col dd k0 k1 k2 k3 k5 newId) /\ h.Ns N mN /\ mN "__init__" = none /\ OwnTail h bmB bm := by
  unfold PySem.W.excIn at q
  split at q
  . rename_i dd cd sl ho
    split at q
    . rename_i C' bm k0 k1 k2 k3 n k5 hm hs
      simp only [Bool.and_eq_true,beq_iff_eq,Bool.not_eq_true'] at q
      obtain ⟨⟨⟨⟨⟨rfl,rfl⟩,hdel⟩,ht⟩,hok⟩,hni⟩ := q
      obtain ⟨nm,bs,mro,ns,qn,hd,sn,sub,ab,col,del⟩ := cd
      dsimp only at hm hdel hok hni
      subst hm hdel
      have hsl : sl = #[k0,k1,k2,k3,some (.builtin n),k5] := by
        obtain ⟨l⟩ := sl
        simp only at hs
        rw [hs]
      subst hsl
      exact ⟨bm,ns,nm,qn,bs,hd,sn,sub,ab,col,dd,k0,k1,k2,k3,k5,_,X _ _ ho, .of_isNs (PySem.W.isNs_of_in X hok),PySem.W.nsMap_none_of_in X hok hni,PySem.W.tail_of_in X ht⟩
    . cases q
  . cases q
def qej (C : Addr) (E : XK) (t : TA) : TS := fun _ σ H => t σ H fun vs H1 => vs.length <= sizeLine /\ E (.ref C) none H1
section
variable {X : Cx} {E : XK} {x : Str} {C : Addr} {B Bn newId nid initId inN : String} {bmN bmB : List Value} {e : Expr} {es : List Expr} {t : TA} {np cpos pos : Pos}
theorem q45 (O : Out X E) (hh : X.A.handled = none) (hg : Gl X x) (hm : X.mg x = some (.ref C)) (hx : PySem.W.excIn X.K C bmB newId = true) (Fn : ExcBaseFacts Bn newId inN bmN) (hBn : bmB.contains (.type Bn) = true)
    (FB : ExcBaseFacts B nid initId bmB) (ha : PA X (e :: es) t) (hdb : (x == ("__debug__" : Str)) = false := by decide) (he : starEach (e :: es) X.env = (false,eval e X.env) :: starEach es X.env := by rfl)
    (hpl : (backTo cpos (starEach es X.env)).any (·.1) = false := by rfl) : PS X (.Raise (some (.Call (.Name x np) (e :: es) [] cpos)) none pos) (qej C E t) := by
  intro pins s σ H D I h
  obtain ⟨tl,N,nm,q,bs,hdct,sn,sub,ab,col,dd,k0,k1,k2,k3,k5,mN,hC,hN,hni,T⟩ := qhs I.ok.mod.kin hx
  refine wpAny_Raise_call_subU (C := C) (nm := nm) (q := q) (N := N) (bs := bs) (bm := tl) (hdct := hdct) (sn := sn) (sub := sub) (ab := ab) (col := col) (dd := dd) (k0 := k0) (k1 := k1) (k2 := k2) (k3 := k3) (k5 := k5)
    Fn hBn FB (mN := mN) (T.hasType FB.hasBase) hh (by rw [he]; show (false || (backTo cpos (starEach es X.env)).any (·.1)) = false; rw [hpl]; rfl) hni (q56 I hg hm ⟨rfl,?_⟩ hdb)
  have h' := ha cpos pins s σ H _ I h
  rw [he] at h' ⊢
  refine Calls.evalArgs_plain (wpAny_mono h' (fun us s₂ h₂ => ?_) fun _ _ y => y)
  obtain ⟨vs,H2,I2,r,hl,qE⟩ := h₂
  exact ⟨rfl,by rw [<- r.length]; exact hl,I2.bk _ _ hC,hN.keeps I2.bk,T.keeps I2.bk,fun h1 a mx => O.raised I2 mx qE⟩
end
abbrev TX := St -> Hp -> VK -> XK -> Prop
def PX (X : Cx) (e : Expr) (t : TX) : Prop :=
  ∀ (pins : List (Addr × Obj)) (s : Shared) (σ : St) (H : Hp) (Q : VK) (E : XK),Inv X pins σ H s -> t σ H Q E ->
    wpAny (model X.prog X.w) X.A (eval e X.env) (EP X pins σ Q) (fun e s' => ∃ H1 s1,Inv X pins σ H1 s1 /\ CX1 X.prog X.w X.stack H1 s1 E e s') s
section
variable {X : Cx} {k : Nat} {f C : Addr} {fd : FuncData} {ps : List Str} {sp : Sp} {dvs : List V} {ds : List Value} {x m : Str} {p pos apos : Pos} {e o : Expr} {es : List Expr} {ta : TE} {t : TA}
theorem qi0 {pins : List (Addr × Obj)} {σ : St} {H : Hp} {s : Shared} {Q : VK} {E : XK} {us : List Value} {vs : List V} (F : FnOk X.prog X.w X.K X.mg X.base (CX1 X.prog X.w) k f fd ps sp) (hr : Room k X.A) (hb : Binds X.K fd ps ds) (hd : Vals dvs ds)
    (I : Inv X pins σ H s) (r : Vals vs us) (h : sp (vs ++ dvs) H Q E) : wpAny (model X.prog X.w) X.A (call (.ref f) us) (EP X pins σ Q) (fun e s' => ∃ H1 s1,Inv X pins σ H1 s1 /\ CX1 X.prog X.w X.stack H1 s1 E e s') s := by
  have r2 : Vals (vs ++ dvs) (us ++ ds) := r.append hd
  have hl : (us ++ ds).length = ps.length := by rw [<- r2.length]; exact F.len _ _ _ _ h
  refine wpAny_call (codeAny_mono (F.run X.A X.stack s H ⟨us,[]⟩ (us ++ ds) (vs ++ dvs) Q E hr I.env0 (hb s us I.kIn hl) r2 h) fun r s' hq => ?_)
  cases r with
  | error e => exact ⟨H,s,I,hq⟩
  | ok fl =>
    cases fl with
    | ret u => exact I.after hq
    | next => exact False.elim hq
    | brk => exact False.elim hq
    | cont => exact False.elim hq
end
def excO (a C : Addr) : HO := .ext fun h => ∃ o vs,h.get? a = some o /\ o.cls = .ref C /\ o.data = .fields vs /\ vs[2]? = some .none
abbrev Cx.inx (X : Cx) (a : Addr) : Cx := { X with A := X.A.mark (some (.ref a)),calm := false,xe := fun _ _ => False }
section
variable {X : Cx} {pins : List (Addr × Obj)} {σ : St} {H : Hp} {s : Shared} {a : Addr}
theorem Inv.inx (I : Inv X pins σ H s) (a : Addr) : Inv (X.inx a) pins σ H s :=
  have ok := I.ok
  ⟨⟨ok.mod,ok.kind,ok.glob,ok.blt,ok.above,ok.inj,ok.has,ok.cab,(fun z => by cases z),ok.frames,ok.stk,ok.exf,ok.bs,ok.bsz,ok.noex,ok.exfs,ok.funs,ok.frf⟩,I.os,I.bare,I.base,I.loc,I.cell,I.free,I.freeC,I.pin,I.hok,I.len⟩
theorem Inv.uninx {a : Addr} (J : X.Ok) (I : Inv (X.inx a) pins σ H s) : Inv X pins σ H s := ⟨J,I.os,I.bare,I.base,I.loc,I.cell,I.free,I.freeC,I.pin,I.hok,I.len⟩
theorem Inv.track2 {o : HO} (I : Inv X pins σ H s) (ha : H a = none) (h0 : X.s₀.heap.get? a = none) (hL : a ≠ X.env.locals) (hc : ∀ x c,X.env.cells.lookup x = some c -> c ≠ a) (hp : ∀ p ∈ X.pn ++ pins,p.1 ≠ a)
    (new : q2q X.prog X.w (upd H a o) s.heap a o) : Inv X pins σ (upd H a o) s := by
  have un : ∀ {b u},H b = some u -> upd H a o b = some u := fun {b u} e => by rw [q21 (q42 e ha)]; exact e
  refine ⟨I.ok,I.os,I.bare,⟨I.base.keep,I.base.slot,fun b ob q n hx => ?_,I.base.there,fun b xs q => un (I.base.tups b xs q),fun b ob u q => un (I.base.frzs b ob u q),fun b ps q => ?_⟩,I.loc,I.cell,?_,fun x c e => ?_,fun p hpp => ?_,fun b u e => ?_,I.len⟩
  . rw [q21 (fun z => by rw [z,h0] at q; cases q)]; exact I.base.free b ob q n hx
  . obtain ⟨more,e⟩ := I.base.tbls b ps q
    exact ⟨more,un e⟩
  . rw [q21 (Ne.symm hL)]; exact I.free
  . rw [q21 (hc x c e)]; exact I.freeC x c e
  . obtain ⟨e,n,r⟩ := I.pin p hpp
    exact ⟨e,by rw [q21 (hp p hpp)]; exact n,r⟩
  . by_cases hb : b = a
    . subst hb
      rw [q2t] at e; cases e
      exact new
    . rw [q21 hb] at e
      exact (I.hok b u e).stay (fun c v _ q => q) (fun c q => un q) fun c xs q => un q
theorem Inv.unset {j : Nat} {y : Str} {m : Str -> Option Value} {h' : Heap} {v : Option Value} {t' : Nat} (I : Inv X pins σ H s) (hN : X.N.Nodup) (hj : X.N[j]? = some y) (hn : s.heap.Ns X.env.locals m)
    (hl : ∀ (i : Nat) (x : Str) (v : V),X.N[i]? = some x -> σ[i]? = some (some v) -> Vis X.env.scope x -> ∃ u,RelV v u /\ Look X.env s.heap m x u)
    (hn' : h'.Ns X.env.locals (fun x => if x = y then v else m x)) (hs : Heap.SameBut X.env.locals s.heap h') : Inv X pins (σ.set j none) H { s with heap := h',toks := t' } := by
  have hjσ : j < σ.length := by rw [I.len]; exact (List.getElem?_eq_some_iff.mp hj).1
  have cne := I.cne
  refine ⟨I.ok,I.os,I.bare,⟨fun b o e n hb hx => ?_,fun b o e n hb hx => ?_,I.base.free,fun b o e hx => ?_,I.base.tups,I.base.frzs,I.base.tbls⟩,⟨_,hn',fun i x v' e1 e2 e3 => ?_⟩,fun x c e => ?_,I.free,I.freeC,fun p hp => ?_,fun b ob e => ?_,by simpa using I.len⟩
  . exact (hs.2 b (Nat.ne_of_lt (Nat.lt_of_lt_of_le (Heap.lt_size e) I.ok.above))).trans (I.base.keep b o e n hb hx)
  . obtain ⟨sl,e1⟩ := I.base.slot b o e n hb hx
    exact ⟨sl,(hs.2 b (Nat.ne_of_lt (Nat.lt_of_lt_of_le (Heap.lt_size e) I.ok.above))).trans e1⟩
  . obtain ⟨o',e1⟩ := I.base.there b o e hx
    exact ⟨o',(hs.2 b (Nat.ne_of_lt (Nat.lt_of_lt_of_le (Heap.lt_size e) I.ok.above))).trans e1⟩
  . by_cases hij : i = j
    . subst hij
      rw [List.getElem?_set_self hjσ] at e2
      cases e2
    . rw [List.getElem?_set_ne (Ne.symm hij)] at e2
      obtain ⟨u',r',q⟩ := hl i x v' e1 e2 e3
      refine ⟨u',r',?_⟩
      rcases q with ⟨k,e⟩ | ⟨k,c,e,z⟩
      . refine .inl ⟨k,?_⟩
        have : x ≠ y := fun e => hij (q8v hN e1 (e ▸ hj))
        simp [this,e]
      . exact .inr ⟨k,c,e,z.sameBut hs (cne x c e)⟩
  . obtain ⟨w',z⟩ := I.cell x c e
    exact ⟨w',z.sameBut hs (cne x c e)⟩
  . obtain ⟨e,n,ne,nf,d⟩ := I.pin p hp
    exact ⟨(hs.2 p.1 ne).trans e,n,ne,nf,d⟩
  . refine (I.hok b ob e).stay (fun c w' hc q => (hs.2 c ?_).trans q) (fun _ q => q) fun _ _ q => q
    rintro rfl
    rcases hc with rfl | hc
    . rw [I.free] at e; cases e
    . rw [I.free] at hc; cases hc
end
theorem qdt {M : Model} {A : Around} {K : PySem.W.Frag} {s : Shared} {a C D : Addr} {oe : Obj} {Q : Bool -> Shared -> Prop} {E : Value -> Shared -> Prop} {b : Bool} (X : K.In s.heap) (he : s.heap.get? a = some oe) (hc : oe.cls = .ref C)
    (h1 : PySem.W.instIn K (.ref D) (.type "tuple") = some false) (h2 : PySem.W.isClsIn K D = true) (h3 : PySem.W.subIn K (.ref D) (.type "BaseException") = some true) (h4 : PySem.W.subIn K (.ref C) (.ref D) = some b) (q : Q b s) :
    wpAny M A (excMatches (.ref a) (.ref D)) Q E s := by
  have L1 := PySem.W.looks_instIn (M := M) X h1
  have L3 := PySem.W.looks_subIn (M := M) X h3
  have L4 := PySem.W.looks_subIn (M := M) X h4
  have L2 : PySem.W.Looks M s.heap (isType (.ref D)) true := by
    unfold PySem.W.isClsIn PySem.W.clsIn at h2
    split at h2
    . rename_i ho
      intro A' Q' E' s' k q
      unfold isType loadHead
      exact wpAny_bind (wpAny_loadPart (k _ _ (X _ _ ho)) (wpAny_pure q))
    . cases h2
  have L5 : PySem.W.Looks M s.heap (typeOf (.ref a)) (.ref C) := by
    have := (PySem.W.Looks.ld (M := M) (part := none) he).andThen (f := fun o => pure o.cls) .now
    rw [hc] at this
    exact this
  have L6 : PySem.W.Looks M s.heap (isExcClass (.ref D)) true := L2.andThen (by simpa using L3)
  unfold excMatches
  refine wpAny_bind (L1.here ?_)
  rw [if_neg Bool.false_ne_true]
  refine wpAny_bind (wpAny_pure ?_)
  simp only [List.forIn_cons,List.forIn_nil]
  refine wpAny_bind (wpAny_bind (wpAny_bind (L6.here ?_)))
  rw [if_neg (by decide)]
  refine wpAny_pure (wpAny_pure ?_)
  refine wpAny_bind (L5.here ?_)
  refine wpAny_bind (wpAny_bind (wpAny_bind (L4.here ?_)))
  cases b with
  | true =>
    rw [if_pos rfl]
    exact wpAny_pure (wpAny_pure (wpAny_pure q))
  | false =>
    rw [if_neg Bool.false_ne_true]
    exact wpAny_pure (wpAny_pure (wpAny_pure q))
end L2
namespace L2
open PySem PySem.Spec PyProof.Rows
def tTry (K : PySem.W.Frag) (Dc : Addr) (i j : Nat) (tx : TX) (tb : Addr -> TS) : TS := fun D σ H =>
  tx σ H (fun v H1 => D.nx (σ.set i (some v)) H1) fun cv _ H1 => ∃ C,cv = .ref C /\ PySem.W.subIn K (.ref C) (.ref Dc) = some true /\
    ∀ a,H1 a = none -> tb a ⟨fun σ' H' => D.nx (σ'.set j none) H',D.rt,fun σ' H' => D.bk (σ'.set j none) H',fun σ' H' => D.ct (σ'.set j none) H'⟩ (σ.set j (some (.ref a))) (upd H1 a (excO a C))
section
variable {X : Cx} {i j : Nat} {x y v : Str} {Dc : Addr} {tx : TX} {tb : Addr -> TS} {e : Expr} {b₀ : Stmt} {suite : List Stmt} {np pos' apos hpos pos : Pos}
theorem Fly.new {pins : List (Addr × Obj)} {σ : St} {H H' : Hp} {s s' : Shared} {a C : Addr} {B : Heap} (I : Inv X pins σ H s) (F : Fly X.prog X.w X.stack H s a C H' B s') : s.heap.get? a = none /\ H' a = none := by
  have fl := F.fly
  obtain ⟨oe,vs,h1,h2,h3,h4⟩ := fl.tr.first
  refine ⟨?_,?_⟩
  . cases q : s.heap.get? a with
    | none => rfl
    | some o =>
      exfalso
      by_cases hb : a ∈ frs X.stack
      . obtain ⟨n,o1,q1,nd⟩ := I.ff a hb
        obtain ⟨sl,e⟩ := F.un.slot a o q n hb (by simp)
        rw [q] at q1; cases q1
        rw [h1] at e
        cases e
        exact nd vs h3
      . obtain ⟨o',e'⟩ := F.th a o q hb
        rw [fl.nw] at e'; cases e'
  . cases q : H' a with
    | none => rfl
    | some u =>
      exfalso
      have z := F.hok a u q
      have : ∃ o,B.get? a = some o := by
        cases u with
        | lst xs => obtain ⟨_,its,n,_,h⟩ := z; exact ⟨_,h⟩
        | tup xs => obtain ⟨_,its,_,o,h,_⟩ := z; exact ⟨_,h⟩
        | dK kvs => obtain ⟨_,_,vs,_,o,es,ep,h,_⟩ := z; exact ⟨_,h⟩
        | dT kvs => obtain ⟨_,_,xs,_,o,es,ep,h,_⟩ := z; exact ⟨_,h⟩
        | set S n => obtain ⟨ob,es,ep,t,e,c⟩ := z; exact ⟨_,e⟩
        | ins C dx fs => obtain ⟨_,_,_,h,_⟩ := z; exact ⟨_,h⟩
        | own x => exact z
        | xd fs => obtain ⟨mA,⟨o,es,ep,h,_⟩,_⟩ := z; exact ⟨_,h⟩
        | rng lo hi => obtain ⟨t,u,v,h⟩ := z; exact ⟨_,h⟩
        | frz o u => exact ⟨_,z.1⟩
        | tbl ps => exact ⟨_,z⟩
        | met f x => exact ⟨_,z⟩
        | ext φ => exact z.2.1
      obtain ⟨o,e⟩ := this
      rw [fl.nw] at e; cases e
theorem ps_try (st : X.stack = X.env :: X.outer) (fr : X.env.frame = some X.env.locals) (ex : X.ex = []) (hN : X.N.Nodup) (hi : X.N[i]? = some v) (hv : Loc X.env.scope v) (hj : X.N[j]? = some y) (hy : X.env.scope.names.lookup y = some .local)
    (hg : Gl X x) (hm : X.mg x = some (.ref Dc)) (h1 : PySem.W.instIn X.K (.ref Dc) (.type "tuple") = some false) (h2 : PySem.W.isClsIn X.K Dc = true) (h3 : PySem.W.subIn X.K (.ref Dc) (.type "BaseException") = some true)
    (hx : PX X e tx) (hs : ∀ a,PSs (X.inx a) (b₀ :: suite) (tb a)) (hdb : (x == ("__debug__" : Str)) = false := by decide) (hsw : swapsWith e (some (.Name v pos')) apos.line X.env = pure false := by rfl)
    (hf : X.fn v = true \/ X.env.scope.names.lookup v = some .local := by first | exact .inl rfl | exact .inr rfl | assumption) :
    PS X (.Try [.Assign [.Name v pos'] e apos] [.ExceptHandler (some (.Name x np)) (some y) (b₀ :: suite) hpos] [] [] pos) (tTry X.K Dc i j tx tb) := by
  intro pins s σ H D I h
  refine wpAny_Try_except (wpAny_execs_cons (wpAny_Assign_Name (wpAny_mono (hx pins s σ H _ _ I h) (fun u s1 ⟨z,H1,I1,r1,q1⟩ => ?ok) (fun e0 s1 hex => ?exc)) hsw))
  case ok =>
    exact q7f I1 hN hi hv r1 (fun s2 I2 => wpAny_execs_nil (wpAny_execs_nil ⟨_,H1,I2,q1⟩)) hf
  case exc =>
    obtain ⟨H0,s0,I0,a,C,H1,B,rfl,F,C',eC,hsub,k⟩ := hex
    cases eC
    refine q9f (by rw [I0.ok.frames,st]) fr (by rw [<- st]; exact F.fly) fun h4 hd4 up4 => ?_
    refine q8h hd4 fun h5 fl5 up5 => ?_
    have F5 := F.on I0.ff (by rw [st]; exact fl5) (up4.trans up5)
    have I5 : Inv X pins σ H1 { s1 with heap := h5 } := F5.inv I0
    obtain ⟨ob,_,hob,hobc,_⟩ := fl5.tr.first
    refine wpAny_handleBy_cons (codeAny_handlers_test (q56 (X := X.inx a) (I5.inx a) hg hm ?_ hdb)) (by intro q; cases q)
    refine qdt (X := I5.kIn) hob hobc h1 h2 h3 hsub ?_
    show codeAny _ _ _ _ _
    refine codeAny_handlers_suite_as ?_
    refine q8h fl5 fun h6 fl6 up6 => ?_
    have F6 := F5.on I0.ff (by rw [st]; exact fl6) up6
    have I6 : Inv X pins σ H1 { s1 with heap := h6 } := F6.inv I0
    obtain ⟨n0,n1⟩ := F6.new I0
    obtain ⟨oe,vs,g1,g2,g3,g4⟩ := fl6.tr.first
    have I7 : Inv X pins σ (upd H1 a (excO a C)) { s1 with heap := h6 } := by
      refine I6.track2 n1 ?_ ?_ (fun x c e z => ?_) (fun p hp z => ?_) ⟨⟨oe,vs,g1,g2,g3,g4⟩,⟨oe,g1⟩,fun ha hb ⟨o,vs,e1,e2,e3,e4⟩ kk => ⟨o,vs,kk _ e1,e2,e3,e4⟩⟩
      . cases q : X.s₀.heap.get? a with
        | none => rfl
        | some o =>
          obtain ⟨o',e'⟩ := I0.base.there a o q (by rw [ex]; simp)
          rw [n0] at e'; cases e'
      . rintro rfl
        obtain ⟨m,⟨o,es,ep,ho,_⟩,_⟩ := I0.loc
        rw [n0] at ho; cases ho
      . subst z
        obtain ⟨w',o,ho,_⟩ := I0.cell x c e
        rw [n0] at ho; cases ho
      . have := (I0.pin p hp).1
        rw [z,n0] at this; cases this
    refine q7f I7 hN hj (.inl hy) (v := .ref a) rfl (fun s8 I8 => ?_) (.inr hy)
    refine wpAny_mono (hs a pins s8 _ _ _ (I8.inx a) (k a n1)) (fun f s9 q => ?_) fun _ _ z => False.elim z
    have go : ∀ {σ' : St} {H' : Hp},Inv (X.inx a) pins σ' H' s9 -> ∀ {Q : Shared -> Prop},(∀ s',Inv X pins (σ'.set j none) H' s' -> Q s') -> wpAny (model X.prog X.w) X.A (do bindName X.env y .none; unbindBehindTheSuite X.env y hpos) (fun _ s₃ => Q s₃) X.xe s9 := fun {σ' H'} I9 {Q} hQ => by
      have I9' := I9.uninx I.ok
      obtain ⟨m,hn,hl⟩ := id I9'.loc
      refine wpAny_nameGoes_keeps hy hn (by rw [I.ok.kind]; rfl) fun h' v ns' sb => hQ _ (I9'.unset hN hj hn hl ns' sb)
    cases f with
    | next =>
      obtain ⟨σ',H',I9,q⟩ := q
      exact go I9 fun s' I' => ⟨_,_,I',q⟩
    | brk =>
      obtain ⟨σ',H',I9,q⟩ := q
      exact go I9 fun s' I' => ⟨_,_,I',q⟩
    | cont =>
      obtain ⟨σ',H',I9,q⟩ := q
      exact go I9 fun s' I' => ⟨_,_,I',q⟩
    | ret u =>
      obtain ⟨v', σ',H',I9,rv,q⟩ := q
      exact go I9 fun s' I' => ⟨v',_,_,I',rv,q⟩
end
end L2
namespace L2
open PySem PySem.Spec PyProof.Rows Builtin Builtin.ObjectAttr Builtin.Getset_descriptor
structure q48 (k : Nat) (A : Around) : Prop where
  dp : A.depth + 3 * k + 5 < recursionLimit
  un : A.units + 16 * k + 200 < cLine
theorem Room.x {k : Nat} {A : Around} (r : Room k A) : q48 k A := ⟨r.dp,r.un⟩
theorem q48.mono {j k : Nat} {A : Around} (r : q48 k A) (h : j <= k) : q48 j A := ⟨by have := r.dp; omega,by have := r.un; omega⟩
theorem q48.deeper {k : Nat} {A : Around} (r : q48 (k + 1) A) (env : Env) : q48 k (A.deeper env) :=
  ⟨by have := r.dp; show A.depth + 1 + 3 * k + 5 < _; omega,by have := r.un; show A.units + 3 + 16 * k + 200 < _; omega⟩
theorem q48.depth {k : Nat} {A : Around} (r : q48 k A) : A.depth < recursionLimit := by have := r.dp; omega
theorem q48.mark {k : Nat} {A : Around} {v : Option Value} (r : q48 k A) : q48 k (A.mark v) := ⟨r.dp,r.un⟩
def qaw (CX : CXT) (P : Program) (w : World) (K : PySem.W.Frag) (mg : Str -> Option Value) (base : Heap) (N : List Str) (qual : Str) (scope : Scope) (f : Addr) (cd : Value) (A : Around) (outer : List Env) (s : Shared) (H : Hp) (E : XK) : Cx :=
  { cxOf CX P w K mg base N qual scope f cd A outer s H E with calm := false }
section
variable {P : Program} {w : World} {K : PySem.W.Frag} {mg : Str -> Option Value} {base : Heap} {x qual : Str} {st : Stmt} {f : Addr} {fd : FuncData} {N ps : List Str} {k : Nat} {sp : Sp}
theorem q1l {qual : Str} {sc : Scope} {cdv : Value} {A : Around} {outer : List Env} {s : Shared} {H : Hp} {E : XK} : Out (cxOf (CX1 P w) P w K mg base N qual sc f cdv A outer s H E) E :=
  ⟨rfl,rfl,rfl,fun a s' h => wpAny_mono h (fun _ _ q => q) fun _ _ z => False.elim z⟩
theorem Fun.okR (F : Fun K x qual st f fd) (S : q1u N ps (q1e st)) (len : ∀ vs H Q E,sp vs H Q E -> vs.length = ps.length)
    (hbody : ∀ (cdv : Value) (A : Around) (outer : List Env) (s : Shared) (H : Hp) (vs : List V) (Q : VK) (E : XK),Room k (A.deeper (envOfC qual (q1e st) s.heap.objs.size f cdv)) -> sp vs H Q E ->
      ∃ t,PSs (cxOf (CX1 P w) P w K mg base N qual (q1e st) f cdv A outer s H E) (q1r st) t /\ t { nx := fun _ H' => Q .non H',rt := Q } (start N vs) H) : FnOk P w K mg base (CX1 P w) (k + 1) f fd ps sp := by
  obtain ⟨oc,od,kV,doc,pm,an,cdv,ct,osl,rfl,lk,hcd⟩ := F.ex
  exact qd7 lk hcd S len fun A outer s H vs Q E hr hsp => hbody cdv A outer s H vs Q E hr hsp
end
section
variable {K : PySem.W.Frag} {a C : Addr}
theorem q9q {M : Model} {h : Heap} (H : ∃ o vs,h.get? a = some o /\ o.cls = .ref C /\ o.data = .fields vs) : PySem.W.Looks M h (typeOf (.ref a)) (.ref C) := by
  obtain ⟨o,vs,he,hc,_⟩ := H
  have := (PySem.W.Looks.ld (M := M) (part := none) he).andThen (f := fun o => pure o.cls) .now
  rw [hc] at this
  exact this
theorem qbv {prog : Program} {w : World} {A : Around} {s : Shared} {tp : Value} {R : Result -> Shared -> Prop} (X : K.In s.heap) (I : ∃ o vs,s.heap.get? a = some o /\ o.cls = .ref C /\ o.data = .fields vs) (hm : PySem.W.mroIn K C (.type "object") = some true)
    (h : R (.ok (.ret (.ref C))) s) : codeAny (model prog w) A (.call (.builtin "getset_descriptor.__get__") ⟨[.builtin "object.__class__", .ref a,tp],[]⟩) R s := by
  obtain ⟨hh,g,dr,t,os⟩ := s
  have L0 := q9q (M := model prog w) I
  have L1 := PySem.W.looks_mroIn (M := model prog w) X hm
  refine codeAny_call_builtin PySem.W.KF.slot_gs.plain PySem.W.KF.entry_gs (PySem.W.KF.slot_gs.check _ _ _ _ _ _ _ _ PySem.W.KF.type_class (PySem.W.KF.args_gs _ _ _) ?_)
  unfold Builtin.«getset_descriptor.__get__» descrGet
  rw [PySem.W.dga_obj]
  refine wpAny_bind (wpAny_pure ?_)
  unfold descrGetter descrCheckInstance descrNameAndClass isInstance
  simp only [PySem.W.KF.owner_class]
  repeat lk
  refine ⟨Code.quiet_builtin _ (by decide +kernel),codeAny_builtin PySem.W.KF.entry_class ?_⟩
  unfold Builtin.«object.__class__» shownTypeOf
  repeat lk
  exact h
structure ExcK (K : PySem.W.Frag) (C : Addr) : Prop where
  cls : PySem.W.isClsIn K C = true
  ga : PySem.W.findIn K (.ref C) "__getattribute__" = some (some (.builtin "BaseException.__getattribute__"))
  gt : PySem.W.findIn K (.ref C) "__getattr__" = some none
  cl : PySem.W.findIn K (.ref C) "__class__" = some (some (.builtin "object.__class__"))
  gg : PySem.W.specialIn K (.builtin "object.__class__") "__get__" = some (some (.builtin "getset_descriptor.__get__"))
  tk : PySem.W.takesIn K (.builtin "object.__class__") = some true
  mo : PySem.W.mroIn K C (.type "object") = some true
  mb : PySem.W.mroIn K C (.type "BaseException") = some true
theorem qhc : builtinKind "BaseException.__getattribute__" = some .slot := by decide +kernel
theorem qgd : splitId "BaseException.__getattribute__" = some ("BaseException", "__getattribute__") := by decide +kernel
theorem qew {M : Model} {A : Around} {E : Value -> Shared -> Prop} {s : Shared} {nameV : Value} {Q : Unit -> Shared -> Prop} (Z : ExcK K C) (X : K.In s.heap) (I : ∃ o vs,s.heap.get? a = some o /\ o.cls = .ref C /\ o.data = .fields vs) (hq : Q () s) :
    wpAny M A (checkBuiltinCall "BaseException.__getattribute__" ⟨[.ref a,nameV],[]⟩) Q E s := by
  have LI : PySem.W.Looks M s.heap (isInstance (.ref a) (.type "BaseException")) true := (q9q I).andThen (PySem.W.looks_mroIn X Z.mb)
  have ha := F.args_bexc_ga (.ref a) nameV
  simp only [checkBuiltinCall,qhc,qgd]
  refine wpAny_bind (LI.here ?_)
  rw [if_neg (by decide)]
  exact wpAny_of_eq ha hq
theorem qff {prog : Program} {w : World} {A : Around} {E : Value -> Shared -> Prop} {s : Shared} {Q : Option Value -> Shared -> Prop} (Z : ExcK K C) (X : K.In s.heap) (I : ∃ o vs,s.heap.get? a = some o /\ o.cls = .ref C /\ o.data = .fields vs)
    (h : Q (some (.ref C)) { s with toks := s.toks + 1 }) : wpAny (model prog w) A (getAttr? (.ref a) "__class__") Q E s := by
  obtain ⟨hh,g,d,t,os⟩ := s
  have L0 := q9q (M := model prog w) I
  have L1 := PySem.W.looks_findIn (M := model prog w) X Z.ga
  have L2 := PySem.W.looks_findIn (M := model prog w) X Z.gt
  have L3 := PySem.W.looks_findIn (M := model prog w) X Z.cl
  have L4 := PySem.W.looks_specialIn (M := model prog w) X Z.gg
  have L5 := PySem.W.looks_takesIn (M := model prog w) X Z.tk
  have f3 := F.attr_ValueError.ga.bind (.ref a)
  unfold getAttr? getAttrBy? getAttrBy
  refine wpAny_bind (wpAny_mkText (wpAny_bind (wpAny_attempt (wpAny_holding (wpAny_bind (L0.at (wpAny_bind (L1.at ?_))))))))
  show wpAny _ _ (getAttrByItsOwn _ _ _ _ _ _) _ _ _
  unfold getAttrByItsOwn
  refine wpAny_bind (L2.at ?_)
  refine wpAny_bind (wpAny_attempt (wpAny_holding ?_))
  show wpAny _ _ (boundAndCalled _ _ _) _ _ _
  unfold boundAndCalled
  refine wpAny_bind (wpAny_of_eq f3 ?_)
  refine wpAny_call (codeAny_call_builtin F.attr_ValueError.ga.plain F.entry_bexc_ga (qew Z X I ?_))
  have LF : PySem.W.Looks (model prog w) hh (find (.ref a) (.ref C) "__class__") (.bind (.builtin "getset_descriptor.__get__") (.builtin "object.__class__")) :=
    L3.andThen (L4.andThen ((show PySem.W.Looks (model prog w) hh (dataDescriptor? (some (.builtin "object.__class__")) (some (.builtin "getset_descriptor.__get__"))) (some (.builtin "getset_descriptor.__get__", .builtin "object.__class__")) from L5.andThen .now).andThen (PySem.W.Looks.tag .now)))
  refine wpAny_bind (wpAny_pure (wpAny_bind (wpAny_pure (wpAny_bind (L0.at (wpAny_bind (LF.at ?_)))))))
  show wpAny _ _ (holding [Value.builtin "object.__class__"] (call (.builtin "getset_descriptor.__get__") [.builtin "object.__class__", .ref a, .ref C]) >>= ret) _ _ _
  refine wpAny_bind (wpAny_holding (wpAny_call (qbv X I Z.mo ?_)))
  exact wpAny_pure (wpAny_pure (wpAny_pure h))
theorem qgh (Z : ExcK K C) : PySem.W.KitX K (.ref a) (.ref C) (fun h => ∃ o vs,h.get? a = some o /\ o.cls = .ref C /\ o.data = .fields vs) where
  ty := fun _ _ _ I => q9q I
  it := fun _ _ X _ => by
    have h2 := Z.cls
    unfold PySem.W.isClsIn PySem.W.clsIn at h2
    split at h2
    . rename_i ho
      intro A' Q' E' s' k q
      unfold isType loadHead
      exact wpAny_bind (wpAny_loadPart (k _ _ (X _ _ ho)) (wpAny_pure q))
    . cases h2
  ne := fun h tp dd its n sl X htp => by
    have h2 := Z.cls
    refine Bool.eq_false_iff.mpr fun q => ?_
    have e : C = tp := Value.ref.inj (beq_iff_eq.mp q)
    subst e
    unfold PySem.W.isClsIn PySem.W.clsIn at h2
    split at h2
    . rename_i ho
      have z := (X _ _ ho).symm.trans htp
      cases z
    . cases h2
  ca := fun X I k => qff Z X I k
end
def q93 : V -> Bool | .ref _ => true | .ty _ => true | _ => false
def clsU : V -> Value | .ref a => .ref a | .ty n => .type n | _ => .none
theorem qgn {v : V} {u : Value} (h : q93 v = true) (r : RelV v u) : u = clsU v := by
  cases v <;> first | exact r | cases h
section
variable {X : Cx}
theorem q3p : q30 X (.builtin "isinstance") (fun xs H Q => ∃ a C cv b,xs = [.ref a,cv] /\ q93 cv = true /\ H a = some (excO a C) /\ ExcK X.K C /\ PySem.W.kitOne X.K (.ref C) (clsU cv) = some b /\ Q (.bl b) H) := by
  intro pins s σ H xs us Q I r h
  obtain ⟨a,C,cv,b,rfl,rc,ha,Z,e,q⟩ := h
  obtain ⟨u,w',rfl,ru,rw'⟩ := vals2 r
  cases (show u = Value.ref a from ru)
  cases qgn rc rw'
  obtain ⟨⟨zo,zv,z1,z2,z3,_⟩,_⟩ := (show q2q X.prog X.w H s.heap a (excO a C) from I.hok a _ ha)
  have hz : ∃ o vs,s.heap.get? a = some o /\ o.cls = .ref C /\ o.data = .fields vs := ⟨zo,zv,z1,z2,z3⟩
  exact PySem.W.kia_one (qgh Z) I.kIn hz e (fun z => nomatch z) fun tk => ⟨.bl b,H,I.tok tk,rfl,q⟩
end
end L2
namespace L2
open PySem PySem.Spec PyProof.Rows
section
variable {X : Cx}
abbrev TJ := Str -> TE
def PJ (X : Cx) (es : List Expr) (t : TJ) : Prop := ∀ (acc : Str) (pins : List (Addr × Obj)) (s : Shared) (σ : St) (H : Hp) (Q : VK),Inv X pins σ H s -> t acc σ H Q ->
  wpAny (model X.prog X.w) X.A (joinParts acc (evalEach es X.env)) (EP X pins σ Q) X.xe s
def jNil : TJ := fun acc _ H Q => acc.length <= sizeLine /\ Q (.str acc) H
def q94 (t : TE) (u : TJ) : TJ := fun acc σ H Q => t σ H fun v H1 => ∃ y,v = .str y /\ (acc ++ y).length <= sizeLine /\ u (acc ++ y) σ H1 Q
theorem q67 : PJ X [] jNil := fun acc pins s σ H Q I h => joinParts_nil (out := acc) ⟨.str acc,H,I.tok _,⟨_,rfl⟩,h.2⟩ h.1
theorem q2a {e : Expr} {es : List Expr} {t : TE} {u : TJ} (he : PE X e t) (hr : PJ X es u) (hev : evalEach (e :: es) X.env = eval e X.env :: evalEach es X.env := by rfl) : PJ X (e :: es) (q94 t u) := by
  intro acc pins s σ H Q I h
  rw [hev]
  refine joinParts_cons (thn (he pins s σ H _ I h) fun v s1 ⟨x,H1,I1,r,y,e1,hl,q⟩ => ?_)
  subst e1
  obtain ⟨t,rfl⟩ := r
  exact ⟨hl,hr _ pins s1 σ H1 Q I1 q⟩
theorem q54 {v1 v2 : Expr} {rest : List Expr} {pos : Pos} {u : TJ} (h : PJ X (v1 :: v2 :: rest) u) : PE X (.JoinedStr (v1 :: v2 :: rest) pos) (u Str.empty) := by
  intro pins s σ H Q I hw
  rw [arm_eval_JoinedStr]
  exact h Str.empty pins s σ H Q I hw
def tFmtI (t : TE) : TE := fun σ H Q => t σ H fun v H1 => ∃ i : Int,v = .int i /\ i.natAbs.log2 < 1920 /\ Q (.str (toString i)) H1
theorem q6z {e : Expr} {t : TE} {pos : Pos} (he : PE X e t) : PE X (.FormattedValue e (-1) none pos) (tFmtI t) := by
  intro pins s σ H Q I h
  refine FormattedValue_plain (thn (he pins s σ H _ I h) fun v s1 ⟨x,H1,I1,r,i,e1,hl,q⟩ => ?_)
  subst e1
  obtain ⟨t,rfl⟩ := r
  exact formatField_int_small hl ⟨.str _,H1,I1.tok _,⟨_,rfl⟩,q⟩
def tFmtS (t : TE) : TE := fun σ H Q => t σ H fun v H1 => ∃ y,v = .str y /\ y.length <= sizeLine /\ Q (.str y) H1
theorem q6c {e : Expr} {t : TE} {pos : Pos} (he : PE X e t) : PE X (.FormattedValue e (-1) none pos) (tFmtS t) := by
  intro pins s σ H Q I h
  refine FormattedValue_plain (thn (he pins s σ H _ I h) fun v s1 ⟨x,H1,I1,r,y,e1,hl,q⟩ => ?_)
  subst e1
  obtain ⟨t,rfl⟩ := r
  exact formatField_str (fun t' tk => ⟨.str _,H1,I1.tok _,⟨_,rfl⟩,q⟩) hl
def tFmtR (t : TE) : TE := fun σ H Q => t σ H fun v H1 => ∃ y,v = .str y /\ (reprText y).length <= sizeLine /\ Q (.str (reprText y)) H1
theorem q9z {e : Expr} {t : TE} {pos : Pos} (he : PE X e t) : PE X (.FormattedValue e 114 none pos) (tFmtR t) := by
  intro pins s σ H Q I h
  refine wpAny_FormattedValue_repr (thn (he pins s σ H _ I h) fun v s1 ⟨x,H1,I1,r,y,e1,hl,q⟩ => ?_)
  subst e1
  obtain ⟨t,rfl⟩ := r
  refine wpAny_pyReprObj_str ?_ hl
  exact formatField_str (fun t' tk => ⟨.str _,H1,(I1.tok _).tok _,⟨_,rfl⟩,q⟩) hl
end
structure ClsK (K : PySem.W.Frag) (C : Addr) : Prop where
  is : PySem.W.isClsIn K C = true
  ty : PySem.W.typeIn K (.ref C) = some (.type "type")
theorem q1j {K : PySem.W.Frag} {r c : Addr} {b : Bool} (C : ClsK K c) (self : PySem.W.subIn K (.ref r) (.ref r) = some true) (s : PySem.W.subIn K (.ref r) (.ref c) = some b) : PySem.W.kitOne K (.ref r) (.ref c) = some b := by
  unfold PySem.W.kitOne
  by_cases h : (Value.ref r == Value.ref c) = true
  . rw [if_pos h]
    have e : r = c := Value.ref.inj (beq_iff_eq.mp h)
    subst e
    rw [self] at s
    exact s
  . rw [if_neg h]
    unfold PySem.W.kitCls
    have h1 : ((PySem.W.clsIn K c).isSome && PySem.W.typeIn K (.ref c) == some (.type "type")) = true := by
      rw [C.ty,show (PySem.W.clsIn K c).isSome = true from C.is]; rfl
    dsimp only
    rw [if_pos h1]
    exact s
theorem q4j {K : PySem.W.Frag} {r : Addr} {T : String} {b : Bool} (m : PySem.W.kitMeta T = true) (s : PySem.W.subIn K (.ref r) (.type T) = some b) : PySem.W.kitOne K (.ref r) (.type T) = some b := by
  unfold PySem.W.kitOne
  rw [if_neg (by simp)]
  unfold PySem.W.kitCls
  dsimp only
  rw [if_pos m]
  exact s
abbrev bmVE : List Value := [.type "ValueError", .type "Exception", .type "BaseException", .type "object"]
end L2
namespace L2
open PySem PySem.Spec PyProof.Rows
section
variable {X : Cx}
theorem q72 {K : PySem.W.Frag} {ts : List Expr} {t : TGs} {kk : Nat} {tpos : Pos} {n : Nat} (hK : X.K = K) (hn : n = ts.length) (hc : X.calm = true) (h : PGs X ts t) (h1 : (assignEach ts X.env).length = n := by rfl) (h2 : (assignEach ts X.env).findIdx? (·.1) = none := by rfl) : PG X (.Tuple ts kk tpos) (gTup K n t) := by
  subst hK
  subst h1
  exact qc3 hc h rfl h2
end
end L2
namespace L2
open PySem PySem.Spec PyProof.Rows
structure Hq (A : Around) (a : Addr) (h : Heap) : Prop where
  hd : A.handled = some (.ref a)
  ob : ∃ o vs,h.get? a = some o /\ o.data = .fields vs /\ vs[2]? = some .none
theorem Hq.in1 {A : Around} {a : Addr} {h : Heap} (q : Hq A a h) : Hq A.in1 a h := ⟨q.hd,q.ob⟩
theorem Hq.keep {A : Around} {a : Addr} {h h' : Heap} (q : Hq A a h) (k : ∀ o,h.get? a = some o -> h'.get? a = some o) : Hq A a h' :=
  let ⟨o,vs,h1,h2,h3⟩ := q.ob; ⟨q.hd,o,vs,k _ h1,h2,h3⟩
theorem qap : entryFor table "proto.unchain" = some Builtin.«proto.unchain» := entryFor_of_fast (by kernel_rfl)
section
variable {prog : Program} {w : World} {A : Around} {E : Value -> Shared -> Prop} {s : Shared} {a : Addr}
theorem qeh {α : Type} {e : Addr} {oe : Obj} {ve : Array Value} {Q : α -> Shared -> Prop} (q : Hq A a s.heap) (ne : a ≠ e) (he : s.heap.get? e = some oe) (hde : oe.data = .fields ve) (hz : 2 < ve.size)
    (h : ∀ h',Heap.SameBut e s.heap h' -> (∃ o',h'.get? e = some o' /\ o'.cls = oe.cls) -> E (.ref e) { s with heap := h' }) : wpAny (model prog w) A (raiseNew (.ref e) : Sem α) Q E s := by
  obtain ⟨hh,oa,va,ha,hda,h2⟩ := q
  unfold raiseNew
  refine wpAny_bind (wpAny_handled ?_)
  rw [hh]
  have hne : (Value.ref a != Value.ref e) = true := by simp [ne]
  dsimp only
  rw [if_pos hne]
  refine wpAny_bind (wpAny_holding (wpAny_runValue (codeAny_builtin qap ?_)))
  unfold Builtin.«proto.unchain»
  dsimp only
  refine wpAny_bind (wpAny_field ha hda h2 ?_)
  rw [if_pos (by rfl)]
  refine wpAny_pure ?_
  refine wpAny_bind (wpAny_setField (i := 2) (x := .ref a) he hde hz (wpAny_throw ?_))
  refine h _ (Heap.SameBut.update ..) ⟨_,Heap.get?_update_self _ he (Obj.isFreed_of_fields (Obj.data_mapFields hde _)),Obj.cls_mapFields ..⟩
theorem stopQ {α : Type} {Q : α -> Shared -> Prop} (q : Hq A a s.heap) (h : ∀ h' e,(∀ b o,s.heap.get? b = some o -> h'.get? b = some o) -> (∃ o,h'.get? e = some o /\ o.cls = .type "StopIteration") -> E (.ref e) { s with heap := h' }) :
    wpAny (model prog w) A (newExc (.type "StopIteration") [] >>= fun e => (raiseNew e : Sem α)) Q E s := by
  refine wpAny_bind ?_
  simp only [newExc,newTuple]
  refine wpAny_bind (wpAny_newObj_type ?_ (by size_fits))
  refine wpAny_bind (m := firstArgMember _ _) (wpAny_of_eq (a := Value.none) (by first | rfl | (simp only [firstArgMember]; rfl)) ?_)
  refine wpAny_newObj_type ?_ (by size_fits)
  obtain ⟨_,oa,va,ha,_⟩ := id q
  have hlt := Heap.lt_size ha
  have keep : ∀ (o1 o2 : Obj) b o,s.heap.get? b = some o -> ((s.heap.push o1).push o2).get? b = some o := fun o1 o2 b o e => Heap.get?_push_of_some _ (Heap.get?_push_of_some _ e)
  refine qeh (q.keep fun o e => keep _ _ _ _ e) (by rw [Heap.size_push]; exact Nat.ne_of_lt (Nat.lt_succ_of_lt hlt)) (Heap.get?_push_size _ rfl) rfl (by show 2 < 6; decide) fun h' sb ho => ?_
  refine h h' _ (fun b o e => ?_) ho
  exact sb.extBut b o (by rw [Heap.size_push]; exact Nat.ne_of_lt (Nat.lt_succ_of_lt (Heap.lt_size e))) (keep _ _ b o e)
theorem q9s {it l : Addr} {i : Nat} {items} {Q : Option Value -> Shared -> Prop} (q : Hq A a s.heap) (ne : a ≠ it) (hit : s.heap.IsListIter it l i) (hl : s.heap.IsList l items) (hx : items[i]? = none)
    (hQ : ∀ h',(∀ b o,b ≠ it -> s.heap.get? b = some o -> h'.get? b = some o) -> Q none { s with heap := h' }) : wpAny (model prog w) A (pyNext (.ref it)) Q E s := by
  obtain ⟨o,ho,hc,hd⟩ := id hit
  obtain ⟨ol,hol,_,nl,hdl⟩ := hl
  unfold pyNext
  refine wpAny_bind (wpAny_attempt (wpAny_callSpecial?_slot (name := Str.ofString "__next__") hit.typeIs slot_listiter_next (wpAny_call_entry slot_listiter_next hit.typeIs entry_listiter_next ?_ (args_listiter_next _))))
  show wpAny _ _ (field (.ref it) 0 >>= _) _ _ s
  refine wpAny_bind (wpAny_field ho hd (x := .ref l) rfl ?_)
  show wpAny _ _ (if (Value.ref l == Value.none) = true then _ else _) _ _ s
  rw [if_neg (show ¬ ((Value.ref l == Value.none) = true) from Bool.false_ne_true)]
  show wpAny _ _ (field (.ref it) 1 >>= _) _ _ s
  refine wpAny_bind (wpAny_field ho hd (x := .int i 0) rfl ?_)
  show wpAny _ _ (seqItems? (.ref l) >>= _) _ _ s
  refine wpAny_bind (wpAny_seqItems hol hdl ?_)
  simp only [Int.toNat_natCast,hx]
  refine wpAny_bind (wpAny_rule (wpAny_bind (wpAny_setField ho hd (by simp) ?_)))
  have other : ∀ b,b ≠ it -> (s.heap.update it (Obj.mapFields (·.setIfInBounds 0 Value.none))).get? b = s.heap.get? b := fun b hb => Heap.get?_update_other _ _ (Ne.symm hb)
  refine stopQ (q.in1.keep fun o e => (other a ne).trans e) fun h' e k te => ?_
  obtain ⟨oe,e1,e2⟩ := te
  refine wpAny_bind (wpAny_isInstance (T := "StopIteration") (b := true) ⟨oe,e1,e2⟩ isSubtype_stop ?_)
  exact wpAny_pure (hQ _ fun b o hb e => k b o ((other b hb).trans e))
theorem q99 {it t : Addr} {i : Nat} {items} {Q : Option Value -> Shared -> Prop} (q : Hq A a s.heap) (ne : a ≠ it) (hit : IsTupIter s.heap it t i) (ht : IsTup s.heap t items) (hx : items[i]? = none)
    (hQ : ∀ h',(∀ b o,b ≠ it -> s.heap.get? b = some o -> h'.get? b = some o) -> Q none { s with heap := h' }) : wpAny (model prog w) A (pyNext (.ref it)) Q E s := by
  obtain ⟨o,ho,hc,hd⟩ := id hit
  obtain ⟨ol,hol,_,nl,hdl⟩ := ht
  unfold pyNext
  refine wpAny_bind (wpAny_attempt (wpAny_callSpecial?_slot (name := Str.ofString "__next__") hit.typeIs slot_tupleiter_next (wpAny_call_entry slot_tupleiter_next hit.typeIs entry_tupleiter_next ?_ (args_tupleiter_next _))))
  show wpAny _ _ (field (.ref it) 0 >>= _) _ _ s
  refine wpAny_bind (wpAny_field ho hd (x := .ref t) rfl ?_)
  show wpAny _ _ (if (Value.ref t == Value.none) = true then _ else _) _ _ s
  rw [if_neg (show ¬ ((Value.ref t == Value.none) = true) from Bool.false_ne_true)]
  show wpAny _ _ (field (.ref it) 1 >>= _) _ _ s
  refine wpAny_bind (wpAny_field ho hd (x := .int i 0) rfl ?_)
  show wpAny _ _ (seqItems? (.ref t) >>= _) _ _ s
  refine wpAny_bind (wpAny_seqItems hol hdl ?_)
  simp only [Int.toNat_natCast,hx]
  refine wpAny_bind (wpAny_rule (wpAny_bind (wpAny_setField ho hd (by simp) ?_)))
  have other : ∀ b,b ≠ it -> (s.heap.update it (Obj.mapFields (·.setIfInBounds 0 Value.none))).get? b = s.heap.get? b := fun b hb => Heap.get?_update_other _ _ (Ne.symm hb)
  refine stopQ (q.in1.keep fun o e => (other a ne).trans e) fun h' e k te => ?_
  obtain ⟨oe,e1,e2⟩ := te
  refine wpAny_bind (wpAny_isInstance (T := "StopIteration") (b := true) ⟨oe,e1,e2⟩ isSubtype_stop ?_)
  exact wpAny_pure (hQ _ fun b o hb e => k b o ((other b hb).trans e))
theorem qhg {t : Addr} {items : Array Value} {targets : List (Bool × (Value -> Sem Unit))} {Q : Unit -> Shared -> Prop} (q : Hq A a s.heap) (ht : IsTup s.heap t items)
    (hn : targets.length = items.size) (hstar : targets.findIdx? (·.1) = none)
    (h : ∀ h',Heap.ExtBut s.heap.objs.size s.heap h' -> wpAny (model prog w) A (assignInOrder (targets.map (·.2)) items.toList) Q E { s with heap := h' }) :
    wpAny (model prog w) A (unpack (.ref t) targets) Q E s := by
  have hlt : t ≠ s.heap.objs.size := by obtain ⟨o,ho,_⟩ := ht; exact Nat.ne_of_lt (Heap.lt_size ho)
  have hla : a ≠ s.heap.objs.size := by obtain ⟨_,o,_,ho,_⟩ := id q; exact Nat.ne_of_lt (Heap.lt_size ho)
  unfold unpack
  rw [hn,hstar]
  refine wpAny_bind (wpAny_holding ?_)
  unfold unpackItems
  refine wpAny_bind ?_
  unfold notIterableAtAll
  refine wpAny_bind (wpAny_specialOf ht.typeIs slot_tuple_iter.lookup ?_)
  refine wpAny_pure ?_
  simp only [Bool.false_eq_true,if_false]
  refine wpAny_bind (wpAny_holding (iter_tuple ht ?_))
  refine wpAny_bind (wpAny_holding (draw_tuple hlt items.size 0 _ _ ⟨_,Heap.get?_push_size _ rfl,rfl,rfl⟩ (ht.push _) (by omega) fun h₁ hit₁ hs₁ => ?_))
  have hall : List.take items.size (List.drop 0 items.toList) = items.toList := by
    rw [List.drop_zero]; exact List.take_of_length_le (by simp)
  rw [hall]
  rw [if_neg (by simp)]
  have ht₁ : IsTup h₁ t items := (ht.push _).extBut hs₁.extBut hlt
  have q₁ : Hq A a h₁ := q.keep fun o e => hs₁.extBut a o hla (Heap.get?_push_of_some _ e)
  refine wpAny_bind (wpAny_holding (q99 q₁ hla hit₁ ht₁ (by simp) fun h₂ he₂ => ?_))
  simp only [Option.isSome_none,Bool.false_eq_true,if_false]
  refine wpAny_pure (h h₂ fun b o hb e => he₂ b o hb (hs₁.extBut b o hb (Heap.get?_push_of_some _ e)))
end
end L2
namespace L2
open PySem PySem.Spec PyProof.Rows
structure qcx (P : Program) (w : World) (K : PySem.W.Frag) (ah : Addr) (tg : Expr) (J : It) (fp : List Addr) (it : Addr) (tn : Nat -> Heap -> Prop) : Prop where
  mem : it ∈ fp
  obj : ∀ i h,tn i h -> ∀ b ∈ fp, ∃ o,h.get? b = some o /\ ∀ v,o.data ≠ .cell v
  keep : ∀ i h h',tn i h -> (∀ b ∈ fp, ∀ o,h.get? b = some o -> h'.get? b = some o) -> tn i h'
  item : ∀ (X : Cx),X.prog = P -> X.w = w -> X.K = K -> X.A.handled = some (.ref ah) -> ∀ (i : Nat) (pins : List (Addr × Obj)) (s : Shared) (σ : St) (H : Hp) (E : Value -> Shared -> Prop),Inv X pins σ H s -> (∀ b ∈ fp,FpOk X pins H b) -> tn i s.heap -> J.go i H ->
    wpAny (model P w) X.A (pyNext (.ref it)) (fun r s1 => ∃ u,r = some u /\
      wpAny (model P w) X.A (letOwnedTupleGo tg (.ref it) u) (fun _ s2 => ∃ x H',Inv X pins σ H' s2 /\ RelV x u /\ J.yld i H x H' /\ tn (i + 1) s2.heap /\ ∀ b ∈ fp,H' b = none) E s1) E s
  done : ∀ (X : Cx),X.prog = P -> X.w = w -> X.K = K -> X.A.handled = some (.ref ah) -> ∀ (i : Nat) (pins : List (Addr × Obj)) (s : Shared) (σ : St) (H : Hp) (E : Value -> Shared -> Prop),Inv X pins σ H s -> (∀ b ∈ fp,FpOk X pins H b) -> tn i s.heap -> J.stop i H ->
    wpAny (model P w) X.A (pyNext (.ref it)) (fun r s1 => r = none /\ Inv X pins σ H s1) E s
  self : ∀ (A : Around) (i : Nat) (s : Shared) (Q : Value -> Shared -> Prop) (E : Value -> Shared -> Prop),tn i s.heap -> Q (.ref it) s -> wpAny (model P w) A (pyIter (.ref it)) Q E s
def PIEQ (X : Cx) (ah : Addr) (pins : List (Addr × Obj)) (σ : St) (tg : Expr) (R : It -> Hp -> Prop) (itv : Value) (s2 : Shared) : Prop :=
  ∃ (it : Addr) (fp : List Addr) (tn : Nat -> Heap -> Prop) (J : It) (H' : Hp),itv = .ref it /\ Inv X pins σ H' s2 /\ qcx X.prog X.w X.K ah tg J fp it tn /\ tn 0 s2.heap /\ (∀ b ∈ fp,FpOk X pins H' b) /\ R J H'
def PIQ (X : Cx) (ah : Addr) (tg iter : Expr) (wi : TI) : Prop :=
  ∀ (pins : List (Addr × Obj)) (s : Shared) (σ : St) (H : Hp) (R : It -> Hp -> Prop),Inv X pins σ H s -> wi σ H R ->
    wpAny (model X.prog X.w) X.A (eval iter X.env) (fun v s1 => wpAny (model X.prog X.w) X.A (pyIter v) (PIEQ X ah pins σ tg R) X.xe s1) X.xe s
theorem Inv.hq {X : Cx} {pins : List (Addr × Obj)} {σ : St} {H : Hp} {s : Shared} {ah C : Addr} (I : Inv X pins σ H s) (hc : X.A.handled = some (.ref ah)) (he : H ah = some (excO ah C)) : Hq X.A ah s.heap := by
  obtain ⟨⟨o,vs,h1,h2,h3,h4⟩,_⟩ := (show q2q X.prog X.w H s.heap ah (excO ah C) from I.hok ah _ he)
  exact ⟨hc,o,vs,h1,h3,h4⟩
def ItlQ (K : PySem.W.Frag) (ah C l : Addr) : It :=
  ⟨fun i H => (∃ xs x,SqL K H l xs /\ xs[i]? = some x) /\ H ah = some (excO ah C),fun i H x H' => H' = H /\ ∀ xs,SqL K H l xs -> xs[i]? = some x,fun i H => (∃ xs,SqL K H l xs /\ xs.length <= i) /\ H ah = some (excO ah C)⟩
theorem qdn {P : Program} {w : World} {K : PySem.W.Frag} {tg : Expr} (ah C l it : Addr) : qcx P w K ah tg (ItlQ K ah C l) [it] it (fun i h => h.IsListIter it l i) where
  mem := by simp
  obj := fun i h st b hb => by
    have e : b = it := by simpa using hb
    subst e
    obtain ⟨o,e,c,d⟩ := st
    exact ⟨o,e,fun v z => by rw [d] at z; cases z⟩
  keep := fun i h h' st k => st.at fun o e => k it (by simp) o e
  item := by
    intro X hP hw hK hc i pins s σ H E I hf st hg
    subst hP hw hK
    obtain ⟨⟨xs,x,hq,hx⟩,_⟩ := hg
    obtain ⟨its,rv,p,hz⟩ := I.list hq
    obtain ⟨u,hu,ru⟩ := rv.get hx
    obtain ⟨f0,f1,f2,f3,f4,f5⟩ := hf it (by simp)
    refine wpAny_pyNext_list_item st p.isList (x := u) (by simpa using hu) fun h' st' sb => ?_
    have I1 : Inv X pins σ H { s with heap := h' } := I.turned (t' := s.toks) (fun b o hb e => (sb.2 b hb).trans e) f0 f1 f3 f4 f5
    obtain ⟨o,e,c,d⟩ := id st'
    exact ⟨u,rfl,qd0 (s := { s with heap := h' }) e c d (by decide) ⟨x,H,I1,ru,⟨rfl,fun ys hy => by rw [I.qb8 hy hq]; exact hx⟩,st',fun b hb => (hf b hb).1⟩⟩
  done := by
    intro X hP hw hK hc i pins s σ H E I hf st hg
    subst hP hw hK
    obtain ⟨⟨xs,hq,hx⟩,he⟩ := hg
    obtain ⟨its,rv,p,hz⟩ := I.list hq
    obtain ⟨f0,f1,f2,f3,f4,f5⟩ := hf it (by simp)
    have hl := rv.length
    exact q9s (I.hq hc he) (q42 he f0) st p.isList (by simp; omega) fun h' eb => ⟨rfl,I.turned (t' := s.toks) (fun b o hb e => eb b o hb e) f0 f1 f3 f4 f5⟩
  self := fun _ _ _ _ _ st h => wpAny_pyIter_listiter st h
def qep (K : PySem.W.Frag) (ah : Addr) (tl : TE) : TI := fun σ H R => tl σ H fun x H1 => ∃ a C,x = .ref a /\ (∃ xs,SqL K H1 a xs) /\ R (ItlQ K ah C a) H1
theorem qg9 {X : Cx} {ah : Addr} {tg l : Expr} {tl : TE} (hl : PE X l tl) : PIQ X ah tg l (qep X.K ah tl) := by
  intro pins s σ H R I h
  refine thn (hl pins s σ H _ I h) fun v s1 ⟨x,H1,I1,r1,q1⟩ => ?_
  obtain ⟨a,C,e,⟨xs,hq⟩,q⟩ := q1
  subst e
  cases r1
  obtain ⟨its,rv,p,hz⟩ := I1.list hq
  refine wpAny_pyIter_list p.isList ?_
  refine ⟨s1.heap.objs.size,[s1.heap.objs.size],_,_,H1,rfl,I1.kept (t' := s1.toks) fun b o e => Heap.get?_push_of_some _ e,qdn ah C a _,⟨_,Heap.get?_push_size _ rfl,rfl,rfl⟩,fun b hb => ?_,q⟩
  have e : b = s1.heap.objs.size := by simpa using hb
  subst e
  exact I1.fpOk (Nat.le_refl _) (I1.hok.fresh (Nat.le_refl _))
section
variable {X : Cx} {pins : List (Addr × Obj)} {σ : St} {H : Hp} {s : Shared} {scope : Scope} {own : List Str} {fv : List (Str × Nat)}
theorem qhr {ah : Addr} {elt tg iter : Expr} {ifs : List Expr} {pos : Pos} {g : TG} {tc : TT} {te : TE} {R : Value -> Addr -> Result -> Shared -> Prop} {E : Value -> Shared -> Prop}
    (hc : X.A.handled = some (.ref ah)) (B : Blk X.env.scope X.N scope own fv) (hg : ∀ s H fp,PG (blk X scope own fv s H fp) tg g) (ht : ∀ s H fp,PTs (blk X scope own fv s H fp) ifs tc) (he : ∀ s H fp,PE (blk X scope own fv s H fp) elt te)
    {it : Addr} {fp : List Addr} {tn : Nat -> Heap -> Prop} {J : It} (I : Inv X pins σ H s) (T : qcx X.prog X.w X.K ah tg J fp it tn) (st : tn 0 s.heap) (hf : ∀ b ∈ fp,FpOk X pins H b) {Q : VK}
    (hw : ∀ D,H D = none -> LcW own fv J g tc te σ D Q (upd H D (.lst [])))
    (hR : ∀ D C H' s',Inv X pins σ H' s' -> FpOk X pins H' C -> (∃ m,s'.heap.Ns C m) -> Q (.ref D) H' -> R (.ref D) C (.ok .next) s') :
    wpAny (model X.prog X.w) X.A (newList []) (fun acc s₃ => wpAny (model X.prog X.w) X.A (newFunctionEnv scope X.env.globals (clos scope.names X.env.cells) [] X.env.qual none .none (some X.env)) (fun cenv s₄ =>
      codeAny (model X.prog X.w) X.A (.compStart (.ListComp elt [⟨tg,iter,ifs,0⟩] scope pos) 0 (.ref it) acc { cenv with scope := relabel scope X.env }) (R acc cenv.locals) s₄) E s₃) E s := by
  refine wpAny_newObj_type (wpAny_newFunctionEnv B.nocell (by intro y hy; simp at hy) (fun h₁ hns₁ hsb₁ => ?_) B.kind)
  dsimp only at hns₁ hsb₁ ⊢
  have I3 : Inv X pins σ (upd H s.heap.objs.size (.lst [])) { s with heap := s.heap.push { cls := .type "list",data := .seq ([] : List Value).toArray } } := I.lnew (t' := s.toks) .nil (Nat.zero_le _)
  obtain ⟨W,⟨m0,w0⟩,turn⟩ := hw s.heap.objs.size I.fresh
  have fpl : ∀ b ∈ fp,b < s.heap.objs.size := fun b hb => by
    obtain ⟨o,e,_⟩ := T.obj _ _ st b hb
    exact Heap.lt_size e
  have hf3 : ∀ b ∈ fp,FpOk X pins (upd H s.heap.objs.size (.lst [])) b := fun b hb => ⟨by rw [q21 (Nat.ne_of_lt (fpl b hb))]; exact (hf b hb).1,(hf b hb).2⟩
  generalize hS3 : ({ s with heap := s.heap.push { cls := .type "list",data := .seq ([] : List Value).toArray } } : Shared) = s3 at I3
  have hS3h : s.heap.push { cls := .type "list",data := .seq ([] : List Value).toArray } = s3.heap := by rw [<- hS3]
  have fpl3 : ∀ b ∈ fp,b < s3.heap.objs.size := fun b hb => by
    rw [<- hS3h,Heap.size_push]
    exact Nat.lt_succ_of_lt (fpl b hb)
  have e3 : ∀ (h : Heap) (tk : Nat),({ s with heap := h,toks := tk } : Shared) = { s3 with heap := h,toks := tk } := fun h tk => by rw [<- hS3]
  rw [hS3h] at hns₁ hsb₁ ⊢
  rw [e3]
  have k3 : ∀ b o,s3.heap.get? b = some o -> h₁.get? b = some o := fun b o e => hsb₁.extBut b o (Nat.ne_of_lt (Heap.lt_size e)) (Heap.get?_push_of_some _ e)
  have J0 := qa9 (σ := σ) I3 B hf3 fpl3 (tk := s.toks + ([] : List (Str × Value)).length) hns₁ k3
  have ksz : ∀ b o,s.heap.get? b = some o -> h₁.get? b = some o := fun b o e => k3 b o (by rw [<- hS3h]; exact Heap.get?_push_of_some _ e)
  have st1 : tn 0 h₁ := T.keep _ _ _ st fun b _ o e => ksz b o e
  have stat : ∀ {H' : Hp},(∀ b ∈ fp,H' b = none) -> ∀ b ∈ fp,FpOk (blk X scope own fv s3 (upd H s.heap.objs.size (.lst [])) fp) [] H' b := fun hn b hb =>
    ⟨hn b hb,Nat.ne_of_lt (fpl3 b hb),fun z => (by
      rcases List.mem_cons.mp (I.q74 b z) with e | e
      . exact (hf b hb).2.1 e
      . exact (hf b hb).2.2.1 e), .inl hb,fun x c e => (hf b hb).2.2.2.2.1 x c (q4i e),fun p hp => absurd (show p ∈ ([] : List (Addr × Obj)) from hp) (by simp)⟩
  generalize hX' : blk X scope own fv s3 (upd H s.heap.objs.size (.lst [])) fp = X' at J0 stat
  have eP : X'.prog = X.prog := by rw [<- hX']; rfl
  have eW : X'.w = X.w := by rw [<- hX']; rfl
  have eK : X'.K = X.K := by rw [<- hX']; rfl
  have eA : X'.A = X.A := by rw [<- hX']; rfl
  have eE : X'.xe = fun _ _ => False := by rw [<- hX']; rfl
  have eC : X'.A.handled = some (.ref ah) := by rw [eA]; exact hc
  have eEnv : compEnvC scope (clos scope.names X.env.cells) s3.heap.objs.size X.env = X'.env := by rw [<- hX']; rfl
  have Hg : PG X' tg g := by rw [<- hX']; exact hg _ _ _
  have Ht : PTs X' ifs tc := by rw [<- hX']; exact ht _ _ _
  have He : PE X' elt te := by rw [<- hX']; exact he _ _ _
  have loop : codeAny (model X.prog X.w) X.A (.compLoop (.ListComp elt [⟨tg,iter,ifs,0⟩] scope pos) 0 (.ref it) (.ref s.heap.objs.size) X'.env) (R (.ref s.heap.objs.size) s3.heap.objs.size) { s3 with heap := h₁,toks := s.toks + ([] : List (Str × Value)).length } := by
    refine q5n (fun n s' => ∃ i H',Inv X' [] (bσ own fv σ) H' s' /\ tn i s'.heap /\ (∀ b ∈ fp,H' b = none) /\ W i n H') ?_ m0 ⟨0,_,J0,st1,fun b hb => (hf3 b hb).1,w0⟩
    rintro n s4 ⟨i,H4,J4,st4,fr4,w4⟩
    rcases turn i n H4 w4 with ⟨stop,q⟩ | ⟨go,NE,NF,hNE,hNF,step⟩
    . have key := T.done X' eP eW eK eC i [] s4 _ H4 (fun _ _ => False) J4 (stat fr4) st4 stop
      rw [eA] at key
      refine thn key fun r s5 ⟨hr,J5⟩ => ?_
      subst hr
      rw [<- hX'] at J5
      obtain ⟨I5,c5,m5⟩ := qct I3 hf3 J5
      exact hR _ _ _ _ I5 c5 m5 q
    . have key := T.item X' eP eW eK eC i [] s4 _ H4 (fun _ _ => False) J4 (stat fr4) st4 go
      rw [eA] at key
      refine thn key fun r s5 ⟨u,hr,h5⟩ => ?_
      subst hr
      refine thn h5 fun _ s6 ⟨x,H6,J6,r6,y6,st6,fr6⟩ => ?_
      have J6' := J6.pinned (stat fr6) (T.obj _ _ st6)
      have kg := Hg _ s6 _ H6 x u _ J6' r6 (step x H6 y6)
      rw [eP,eW,eA,eE] at kg
      refine thn kg fun _ s7 ⟨σ7,H7,J7,⟨os,ol,eσ⟩,q7⟩ => ?_
      have kt := Ht _ s7 σ7 H7 _ J7 q7
      rw [eP,eW,eA,eE] at kt
      refine thn kt fun ok s8 ⟨H8,J8,q8⟩ => ?_
      have again : ∀ {s9 : Shared} {H9 : Hp} {mm : Nat},Inv X' ([] ++ q6s fp s6.heap) σ7 H9 s9 -> mm < n -> W (i + 1) mm H9 -> ∃ m,m < n /\ ∃ i H',Inv X' [] (bσ own fv σ) H' s9 /\ tn i s9.heap /\ (∀ b ∈ fp,H' b = none) /\ W i m H' := fun {s9 H9 mm} J9 hm w9 => by
        refine ⟨mm,hm,i + 1,H9,(J9.q6l).weak ?_ ?_,T.keep _ _ _ st6 fun b hb o e => (J9.pin (b,o) (List.mem_append_right _ (List.mem_append_right _ (q4p hb e)))).1,fun b hb => ?_,w9⟩
        . rw [eσ]; unfold bσ; rw [List.length_append,List.length_append,List.length_map,ol]
        . intro j v e
          rw [eσ]
          unfold bσ at e
          by_cases hj : j < own.length
          . rw [List.getElem?_append_left (by simpa using hj),List.getElem?_map] at e
            cases q : own[j]? with
            | none => rw [q] at e; cases e
            | some y => rw [q] at e; cases e
          . rw [List.getElem?_append_right (by simpa using hj),List.length_map] at e
            rw [List.getElem?_append_right (by omega),ol]
            exact e
        . obtain ⟨o,e,d⟩ := T.obj _ _ st6 b hb
          exact (J9.pin (b,o) (List.mem_append_right _ (List.mem_append_right _ (q4p hb e)))).2.1
      cases ok with
      | false =>
        rw [if_neg Bool.false_ne_true] at q8 ⊢
        obtain ⟨m',hm,w8⟩ := hNF _ q8
        exact again J8 hm w8
      | true =>
        rw [if_pos rfl] at q8 ⊢
        have ke := He _ s8 σ7 H8 _ J8 q8
        rw [eP,eW,eA,eE] at ke
        refine thn ke fun xv s9 ⟨v,H9,J9,r9,q9⟩ => ?_
        obtain ⟨ys,hD,hz,m',hm,w9⟩ := hNE v H9 q9
        have := (q3e (X := X')) _ s9 σ7 H9 (.ref s.heap.objs.size) [v] (.ref s.heap.objs.size) [xv] (fun _ H10 => W (i + 1) m' H10) J9 rfl (.cons r9 .nil) ⟨_,ys,v,rfl,rfl,hD,hz,w9⟩
        rw [eP,eW,eA,eE] at this
        exact thn this fun _ s10 ⟨_,H10,J10,_,w10⟩ => again J10 hm w10
  rw [<- eEnv] at loop
  exact codeAny_compStart_list loop (T.self _ 0 _ _ _ st1 loop)
end
section
variable {X : Cx} {scope : Scope} {own : List Str} {fv : List (Str × Nat)} {elt tg iter : Expr} {ifs : List Expr} {pos : Pos} {wi : TI} {g : TG} {tc : TT} {te : TE}
theorem pe_lcQ {ah : Addr} {osc : Scope} {N0 : List Str} (hc : X.A.handled = some (.ref ah)) (hsc : X.env.scope = osc) (hN0 : X.N = N0) (B : Blk osc N0 scope own fv) (hi : PIQ X ah tg iter wi) (hg : ∀ s H fp,PG (blk X scope own fv s H fp) tg g) (ht : ∀ s H fp,PTs (blk X scope own fv s H fp) ifs tc) (he : ∀ s H fp,PE (blk X scope own fv s H fp) elt te)
    (hs : ∀ x,foldedSetIterable iter X.env x = pure x := by intro _; rfl) : PE X (.ListComp elt [⟨tg,iter,ifs,0⟩] scope pos) (tLc own fv wi g tc te) := by
  subst hsc hN0
  intro pins s σ H Q I h
  rw [eval_ListComp]
  refine wpAny_comprehension_free (use := none) rfl hs (B.clos I.ok) B.kind B.loc (thn (hi pins s σ H _ I h) fun v s1 h1 => thn h1 fun itv s2 h2 => ?_)
  obtain ⟨it,fp,tn,J,H2,rfl,I2,T,st2,f2,hw⟩ := h2
  refine qhr hc B hg ht he I2 T st2 f2 hw fun D C H' s' I' c' m' q => ?_
  obtain ⟨m,hn⟩ := m'
  exact ⟨m,hn,fun h' hs' => ⟨.ref D,H',q8q I' c' hs',rfl,q⟩⟩
end
def gTupQ (K : PySem.W.Frag) (ah : Addr) (n : Nat) (t : TGs) : TG := fun v σ H Q => ∃ a C xs,v = .ref a /\ H ah = some (excO ah C) /\ SqT K H a xs /\ xs.length = n /\ t xs σ H Q
theorem qgt {X : Cx} {K : PySem.W.Frag} {ah : Addr} {ts : List Expr} {t : TGs} {kk : Nat} {tpos : Pos} {n : Nat} (hK : X.K = K) (hc : X.A.handled = some (.ref ah)) (h : PGs X ts t) (h1 : (assignEach ts X.env).length = n := by rfl) (h2 : (assignEach ts X.env).findIdx? (·.1) = none := by rfl) :
    PG X (.Tuple ts kk tpos) (gTupQ K ah n t) := by
  subst hK
  intro pins s σ H v u Q I r hw
  obtain ⟨a,C,xs,e1,he,hq,hl,hw⟩ := hw
  subst e1
  cases r
  obtain ⟨its,rv,ht,hz⟩ := I.tuple hq
  rw [assign_Tuple]
  refine wpAny_bind (wpAny_standAt (qhg (I.hq hc he) ht (by simp [h1, <- hl,rv.length]) h2 fun h' hx => ?_))
  have I1 : Inv X pins σ H { s with heap := h' } := I.kept (t' := s.toks) fun b o e => hx b o (Nat.ne_of_lt (Heap.lt_size e)) e
  exact h pins _ σ H xs _ Q I1 (by simpa using rv) hw
end L2
namespace L2
open PySem PySem.Spec PyProof.Rows
structure q8z (P : Program) (w : World) (K : PySem.W.Frag) (mg : Str -> Option Value) (base : Heap) (CX : CXT) (k : Nat) (f : Addr) (fd : FuncData) (ps : List Str) (sp : Sp) : Prop where
  len : ∀ vs H Q E,sp vs H Q E -> vs.length = ps.length
  run : ∀ (A : Around) (outer : List Env) (s : Shared) (H : Hp) (args : Args) (us : List Value) (vs : List V) (Q : VK) (E : XK),q48 k A -> (∃ ah,A.handled = some (.ref ah) /\ vs.head? = some (.ref ah)) -> Env0 P w K mg base A outer s H -> BindsTo s fd args (ps.zip us) -> Vals vs us -> sp vs H Q E ->
    codeAny (model P w) A (.call (.ref f) args) (CR CX outer P w H s Q E) s
theorem fn_ofQ {CX : CXT} {P : Program} {w : World} {K : PySem.W.Frag} {mg : Str -> Option Value} {base : Heap} {k : Nat} {f : Addr} {name qual : Str} {params : Arguments} {body : List Stmt} {scope : Scope} {dV kV doc pm cdv ct oc : Value} {an od : Option Addr}
    {osl : Array (Option Value)} {N ps : List Str} {sp : Sp} (lk : K.lookup f = some ⟨oc,od, .func (PySem.W.fnOf name qual params body scope dV kV doc pm an cdv ct),osl⟩) (hcd : PySem.W.codeIn K cdv qual = true) (S : q1u N ps scope)
    (len : ∀ vs H Q E,sp vs H Q E -> vs.length = ps.length)
    (hbody : ∀ (A : Around) (outer : List Env) (s : Shared) (H : Hp) (vs : List V) (Q : VK) (E : XK) (ah : Addr),q48 k (A.deeper (envOfC qual scope s.heap.objs.size f cdv)) -> A.handled = some (.ref ah) -> vs.head? = some (.ref ah) -> sp vs H Q E ->
      ∃ t,PSs (qaw CX P w K mg base N qual scope f cdv A outer s H E) body t /\ t { nx := fun _ H' => Q .non H',rt := Q } (start N vs) H) :
    q8z P w K mg base CX (k + 1) f (PySem.W.fnOf name qual params body scope dV kV doc pm an cdv ct) ps sp := by
  refine ⟨len,fun A outer s H args us vs Q E hr ⟨ah,hA,hv⟩ e0 hb r hsp => ?_⟩
  have hl := len _ _ _ _ hsp
  have KX : K.In s.heap := e0.mod.kin.keeps fun b o e => (e0.bs b o e).1
  have lim : s.heap.NoLimit := e0.mod.nolimit.keeps fun b o e => (e0.bs b o e).1
  have hkind : ∀ y ∈ ps.zip us,scope.names.lookup y.1 = some .local \/ (scope.names.lookup y.1 = some .cell /\ ((cellsFrom (s.heap.objs.size + 1) scope.names []).lookup y.1).isSome = true) := fun ⟨n,v⟩ hy => by
    rcases S.par n (List.of_mem_zip hy).1 with q | q
    . exact .inl q
    . exact .inr ⟨q,PySem.W.cellsFrom_some _ _ _ (.inl q)⟩
  refine codeAny_call_function hr.depth (KX _ _ lk) rfl S.co S.gen rfl (PySem.W.codeRec_of KX hcd) (hb _ _ _ _ ?_)
  refine wpAny_newFunctionEnv_cells S.kind hkind fun env he s1 x => ?_
  subst he
  refine ⟨lim.keeps x.toInCall.keep,codeAny_func ?_⟩
  obtain ⟨t,ht,hq⟩ := hbody A outer s H vs Q E ah (hr.deeper _) hA hv hsp
  have e1 : Env0 P w K mg base { A with handled := none } outer s H := ⟨e0.frames,e0.mod,e0.bs,e0.bsz,e0.funs,e0.frf,e0.hok,e0.bare⟩
  have I0 : Inv (cxOf CX P w K mg base N qual scope f cdv { A with handled := none } outer s H E) [] (start N vs) H s1 := qa7 S rfl e1 hl r x
  have I : Inv (qaw CX P w K mg base N qual scope f cdv A outer s H E) [] (start N vs) H s1 := by
    have ok := I0.ok
    exact ⟨⟨ok.mod,ok.kind,ok.glob,ok.blt,ok.above,ok.inj,ok.has,ok.cab,(fun z => by cases z),ok.frames,ok.stk,ok.exf,ok.bs,ok.bsz,ok.noex,ok.exfs,ok.funs,ok.frf⟩,I0.os,I0.bare,I0.base,I0.loc,I0.cell,I0.free,I0.freeC,I0.pin,I0.hok,I0.len⟩
  refine wpAny_mono (ht [] s1 (start N vs) H _ I hq) (fun fl s' hs => ?_) fun e s' hs => hs
  have fin : ∀ {σ' : St} {H' : Hp} {v : V} {u : Value},Inv (qaw CX P w K mg base N qual scope f cdv A outer s H E) [] σ' H' s' -> RelV v u -> Q v H' -> CE outer P w H s Q u s' :=
    fun {σ' H' v u} J rv q => ⟨v,H',J.os,J.bare,J.base,J.hok,rv,q⟩
  cases fl with
  | ret u =>
    obtain ⟨v, σ',H',J,rv,q⟩ := hs
    exact fin J rv q
  | next =>
    obtain ⟨σ',H',J,q⟩ := hs
    exact fin (v := V.non) (u := Value.none) J rfl q
  | brk =>
    obtain ⟨_,_,_,q⟩ := hs
    exact False.elim q
  | cont =>
    obtain ⟨_,_,_,q⟩ := hs
    exact False.elim q
section
variable {P : Program} {w : World} {K : PySem.W.Frag} {mg : Str -> Option Value} {base : Heap} {x qual : Str} {st : Stmt} {f : Addr} {fd : FuncData} {N ps : List Str} {k : Nat} {sp : Sp}
theorem Fun.okQ (F : Fun K x qual st f fd) (S : q1u N ps (q1e st)) (len : ∀ vs H Q E,sp vs H Q E -> vs.length = ps.length)
    (hbody : ∀ (cdv : Value) (A : Around) (outer : List Env) (s : Shared) (H : Hp) (vs : List V) (Q : VK) (E : XK) (ah : Addr),q48 k (A.deeper (envOfC qual (q1e st) s.heap.objs.size f cdv)) -> A.handled = some (.ref ah) -> vs.head? = some (.ref ah) -> sp vs H Q E ->
      ∃ t,PSs (qaw CX0 P w K mg base N qual (q1e st) f cdv A outer s H E).nox (q1r st) t /\ t { nx := fun _ H' => Q .non H',rt := Q } (start N vs) H) : q8z P w K mg base CX0 (k + 1) f fd ps sp := by
  obtain ⟨oc,od,kV,doc,pm,an,cdv,ct,osl,rfl,lk,hcd⟩ := F.ex
  refine fn_ofQ lk hcd S len fun A outer s H vs Q E ah hr hA hv hsp => ?_
  obtain ⟨t,h,q⟩ := hbody cdv A outer s H vs Q E ah hr hA hv hsp
  exact ⟨t,h.nox,q⟩
end
section
variable {X : Cx} {CX : CXT} {k : Nat} {f C ah : Addr} {fd : FuncData} {ps : List Str} {sp : Sp} {dvs : List V} {ds : List Value} {E : XK} {x m : Str} {p pos apos : Pos} {e o : Expr} {es : List Expr} {ta : TE} {t : TA}
def qf1 (ah : Addr) (sp : Sp) (dvs : List V) (E : XK) (t : TA) : TE := fun σ H Q => t σ H fun vs H1 => (vs ++ dvs).head? = some (.ref ah) /\ sp (vs ++ dvs) H1 Q E
theorem qfn (F : q8z X.prog X.w X.K X.mg X.base CX k f fd ps sp) (hr : q48 k X.A) (hc : X.A.handled = some (.ref ah)) (hg : Gl X x) (hm : X.mg x = some (.ref f)) (hk : PySem.W.keepIn X.K (.ref f) = true) (hb : Binds X.K fd ps ds) (hd : Vals dvs ds) (hx : Passes CX X E)
    (ha : PA X (e :: es) t) (hdb : (x == ("__debug__" : Str)) = false := by decide) (he : starEach (e :: es) X.env = (false,eval e X.env) :: starEach es X.env := by rfl) (hpl : (backTo pos (starEach es X.env)).any (·.1) = false := by rfl) :
    PE X (.Call (.Name x p) (e :: es) [] pos) (qf1 ah sp dvs E t) := by
  intro pins s σ H Q I h
  refine wpAny_Call_Name_kw (q56 I hg hm ?_ hdb)
  refine PySem.W.callWith_K (h₀ := X.base) I.ok.mod.kin hk (thn (ha pos pins s σ H _ I h) fun us s1 ⟨vs,H1,I1,r,hv,q⟩ => ⟨I1.kIn,?_⟩) he hpl
  have r2 : Vals (vs ++ dvs) (us ++ ds) := r.append hd
  have hl : (us ++ ds).length = ps.length := by rw [<- r2.length]; exact F.len _ _ _ _ q
  refine wpAny_call (codeAny_mono (F.run X.A X.stack s1 H1 ⟨us,[]⟩ (us ++ ds) (vs ++ dvs) Q E hr ⟨ah,hc,hv⟩ I1.env0 (hb s1 us I1.kIn hl) r2 q) fun r s' hq => ?_)
  cases r with
  | error e => exact hx pins σ H1 s1 e s' I1 hq
  | ok fl =>
    cases fl with
    | ret u => exact I1.after hq
    | next => exact False.elim hq
    | brk => exact False.elim hq
    | cont => exact False.elim hq
def qen (C : Addr) (m : Str) (sp : Sp) (dvs : List V) (ta : TE) (t : TA) : TX := fun σ H Q E => ta σ H fun x H1 => ∃ a dx fs,x = .ref a /\ H1 a = some (.ins C dx fs) /\ fs.lookup m = none /\ t σ H1 fun vs H2 => sp (x :: (vs ++ dvs)) H2 Q E
theorem qha {pl : Sem Bool} (he : PE X.nox o ta) (c : Cls X.K C) (hm : Meth X.K C m f) (F : FnOk X.prog X.w X.K X.mg X.base (CX1 X.prog X.w) k f fd ps sp) (hr : Room k X.A) (hb : Binds X.K fd ps ds) (hd : Vals dvs ds) (ha : PA X.nox (e :: es) t)
    (hst : starEach (e :: es) X.env = (false,eval e X.env) :: starEach es X.env := by rfl) (hpl : (backTo pos (starEach es X.env)).any (·.1) = false := by rfl)
    (ht : eval (.Call (.Attribute o m apos) (e :: es) [] pos) X.env = (do
      let ov <- eval o X.env
      standAt apos.atName
      let (f,first) <- holding [ov] (getMethod ov m pl)
      callWith pos f first (backTo pos (starEach (e :: es) X.env)) (backToKw pos (keywordEach [] X.env))) := by rfl) :
    PX X (.Call (.Attribute o m apos) (e :: es) [] pos) (qen C m sp dvs ta t) := by
  intro pins s σ H Q E I h
  refine PySem.W.methodCall_KW (pl := pl) (wpAny_mono (he pins s σ H _ (I.wish _) h) (fun u s1 ⟨x,H1,I1,rx,a,dx,fs,ex,ea,l,q⟩ => ?_) fun _ _ z => False.elim z) ht
  subst ex
  obtain rfl : u = Value.ref a := rx
  refine q69 I1.q4x ea c hm l ?_
  refine PySem.W.callWith_K (first := [.ref a]) (h₀ := X.base) I.ok.mod.kin hm.kp (wpAny_mono (ha pos pins s1 σ H1 _ I1 q) (fun us s2 ⟨vs,H2,I2,r,q2⟩ => ⟨I2.kIn,?_⟩) fun _ _ z => False.elim z) hst hpl
  exact qi0 (us := .ref a :: us) (vs := .ref a :: vs) F hr hb hd I2.q4x (.cons rfl r) q2
end
theorem q9c : ∀ {ys : List Str} {us : List Value},Vals (ys.map V.str) us -> StrsAre us ys
  | [],_, .nil => .nil
  | y :: ys,_, .cons r rs => by
    obtain ⟨t,rfl⟩ := r
    exact .cons y t (q9c rs)
def rJoin (K : PySem.W.Frag) : V -> List V -> Hp -> VK -> Prop := fun x vs H Q => ∃ (sep : Str) (p : Addr) (ys : List Str),x = .str sep /\ vs = [.ref p] /\ SqL K H p (ys.map V.str) /\ sep.length <= 16 /\ (ys.map (·.length)).sum + ys.length <= 1048576 /\ Q (.str (Txt.join sep ys)) H
theorem qhh {X : Cx} : MtM X "str.join" (rJoin X.K) := by
  intro pins s σ H x vs v us Q I rx rv h
  obtain ⟨sep,p,ys,rfl,rfl,hS,h1,h2,q⟩ := h
  obtain ⟨t,rfl⟩ := rx
  obtain ⟨u,rfl,ru⟩ := rv.one
  cases ru
  obtain ⟨its,r,pl,_⟩ := I.list hS
  exact join_listW pl.isList (q9c r) h1 h2 fun t' k => ⟨.str _,H,I.tok k,⟨t',rfl⟩,q⟩
end L2
namespace L2
open PySem PySem.Spec PyProof.Rows
theorem q6p (xs : Array (Int × Tok)) : ∀ n,n <= xs.size -> preSum (numAt xs) n = ((xs.toList.map (·.1)).take n).sum
  | 0,_ => rfl
  | n + 1,h => by
    have hlt : n < xs.size := h
    have e : (xs.toList.map (·.1))[n]? = some (numAt xs n) := by
      rw [List.getElem?_map,Array.getElem?_toList]
      unfold numAt
      rw [Array.getElem?_eq_getElem hlt]
      rfl
    rw [preSum,q6p xs n (by omega),List.take_add_one,e]
    simp
theorem sum_bound : ∀ (ns : List Int),(∀ n ∈ ns, -(2 ^ 32) <= n /\ n <= 2 ^ 32) -> -(2 ^ 32) * (ns.length : Int) <= ns.sum /\ ns.sum <= 2 ^ 32 * (ns.length : Int)
  | [],_ => by simp
  | n :: ns,h => by
    have h1 := h n (List.mem_cons_self ..)
    have h2 := sum_bound ns fun m hm => h m (List.mem_cons_of_mem _ hm)
    rw [List.sum_cons,List.length_cons]
    omega
section
variable {X : Cx}
theorem qfz (hc : X.calm = true) : q30 X (.builtin "sum") (fun xs H Q => ∃ p, ∃ ns : List Int,xs = [.ref p] /\ SqL X.K H p (ns.map V.int) /\ (∀ n ∈ ns, -(2 ^ 32) <= n /\ n <= 2 ^ 32) /\ ns.length <= 100000 /\ Q (.int ns.sum) H) := by
  intro pins s σ H xs us Q I r h
  obtain ⟨p,ns,rfl,hS,hb,hl,q⟩ := h
  obtain ⟨u,rfl,ru⟩ := vals1 r
  cases ru
  obtain ⟨its,rv,pl,_⟩ := I.list hS
  have hi := intsAre_of rv
  obtain ⟨ys,e⟩ := hi.allInts.items
  have hns : ns = ys.toList.map (·.1) := by rw [<- hi.numsOf, <- nums_intItems, <- e]
  have hlist := pl.isList
  rw [e] at hlist
  have hsz : ys.size = ns.length := by rw [hns,List.length_map,Array.length_toList]
  refine sum_intList (I.ok.hd hc) hlist (fun j hj => ?_) fun h' tk t' hk => ?_
  . have hj' : j < ns.length := by omega
    have e1 : numAt ys j ∈ ns := by
      rw [hns]
      refine List.mem_map.mpr ⟨ys[j],by simp,?_⟩
      unfold numAt
      simp [hj]
    have b1 := hb _ e1
    rw [q6p ys (j + 1) (by omega), <- hns]
    have b2 := sum_bound (ns.take (j + 1)) fun m hm => hb m (List.mem_of_mem_take hm)
    have b3 : (ns.take (j + 1)).length <= 100000 := Nat.le_trans (by rw [List.length_take]; omega) hl
    refine ⟨⟨by omega,by omega⟩,⟨?_,?_⟩⟩ <;> omega
  . refine ⟨.int ns.sum,H,I.kept hk,⟨t',?_⟩,q⟩
    rw [q6p ys ys.size (Nat.le_refl _), <- hns,hsz,List.take_length]
end
end L2
namespace L2
open PySem PySem.Spec PyProof.Rows
section
variable {X : Cx} {e : Expr} {te : TE} {pos p2 p3 p4 : Pos}
def tRev (K : PySem.W.Frag) (te : TE) : TE := fun σ H Q => te σ H fun x H1 => ∃ a xs,x = .ref a /\ SqL K H1 a xs /\ ∀ p,H1 p = none -> Q (.ref p) (upd H1 p (.lst xs.reverse))
theorem pe_rev {lit : Expr} {tl : TE} (he : PE X e te) (hl : PE X lit tl) (ht : ∀ σ H Q,Q (.int (-1)) H -> tl σ H Q) : PE X (.Subscript e (.Slice none none (some lit) p2) pos) (tRev X.K te) := by
  intro pins s σ H Q I h
  refine Subscript_ (thn (he pins s σ H _ I h) fun v s1 ⟨x,H1,I1,r1,q1⟩ => ?_)
  obtain ⟨a,xs,rfl,hx,q⟩ := q1
  cases r1
  refine wpAny_Slice ?_
  rw [evalPart_none,evalPart_some]
  refine wpAny_pure (wpAny_pure (thn (hl pins s1 σ H1 (fun y H' => y = .int (-1) /\ H' = H1) I1 (ht _ _ _ ⟨rfl,rfl⟩)) fun vk s2 ⟨y,H2,I2,r2,z1,z2⟩ => ?_))
  subst z1 z2
  obtain ⟨t,rfl⟩ := r2
  have I4 : Inv X pins σ H2 { s2 with heap := s2.heap.push { cls := .type "slice",data := .fields #[.none, .none, .int (-1) t] } } := I2.kept (t' := s2.toks) fun b ob q => Heap.get?_push_of_some _ q
  obtain ⟨its,r,ht,hz⟩ := I4.list hx
  have hlen := r.length
  refine tail_any (ops := [.ref a, .ref s2.heap.objs.size]) ht.isList.typeIs slot_list_getitem.lookup ?_ (by with_unfolding_all rfl)
  refine wpAny_getItem_list_slice (st := some (-1)) ht.isList (Heap.IsSliceOf.new ..) .none .none (.int (-1) t) (by decide) ?_ (by rw [List.size_toArray] <;> omega)
  rw [PySem.W.krv_pick]
  refine ⟨.ref _,_,I4.laid (t' := s2.toks) (o := .lst xs.reverse) (fun b ob q => Heap.get?_push_of_some _ q) (Nat.le_refl _) ?_,rfl,q _ (I4.hok.fresh (Nat.le_refl _))⟩
  refine ⟨by rw [List.length_reverse]; exact hz,its.reverse,0,?_,Heap.get?_push_size _ rfl⟩
  exact r.reverse
end
end L2
set_option maxHeartbeats 8000000
namespace L2
open PySem PySem.Spec PyProof.Rows
def meet {κ : Type} [DecidableEq κ] (acc : List κ) (x : κ) : List κ := if x ∈ acc then acc else acc ++ [x]
def metK {κ : Type} [DecidableEq κ] (xs : List κ) : List κ := xs.foldl meet []
theorem qdy {κ : Type} [DecidableEq κ] (xs : List κ) (x : κ) : metK (xs ++ [x]) = meet (metK xs) x := by unfold metK; rw [List.foldl_append]; rfl
theorem qg8 {κ : Type} [DecidableEq κ] {acc : List κ} {x y : κ} : y ∈ meet acc x ↔ y ∈ acc \/ y = x := by
  unfold meet
  split
  . rename_i h
    constructor
    . exact .inl
    . rintro (h' | rfl)
      . exact h'
      . exact h
  . rw [List.mem_append,List.mem_singleton]
theorem qhj {κ : Type} [DecidableEq κ] (xs : List κ) : ∀ acc : List κ,(xs.foldl meet acc).length <= acc.length + xs.length := by
  induction xs with
  | nil => intro acc; exact Nat.le_refl _
  | cons x r ih =>
    intro acc
    have h1 := ih (meet acc x)
    have h2 : (meet acc x).length <= acc.length + 1 := by
      unfold meet; split
      . omega
      . rw [List.length_append]; exact Nat.le_refl _
    rw [List.foldl_cons,List.length_cons]; omega
section
variable {prog : Program} {w : World} {A : Around} {R : Result -> Shared -> Prop} {I : Addr} {fp wr : List Addr} {G : Array GenState -> Array GenState -> Prop} {P : Nat -> Value -> Prop} {St : Nat -> Shared -> Prop} {xs : List Str}
theorem qgq (W : WalksS prog w A.in1 I fp wr G xs.length P St) (S : Addr) (nf : S ∉ fp) (hv : ∀ i v,P i v -> ∃ x t,xs[i]? = some x /\ v = .str x t) (hb : xs.length + 1 < scanBound) : ∀ (k i : Nat) (s : Shared),xs.length - i = k -> i <= xs.length -> St i s ->
      s.heap.SetOf (PySem.strKind prog w) S (fun y => decide (y ∈ metK (xs.take i))) (metK (xs.take i)).length ->
      (∀ s',Moved (S :: wr) G s s' -> s'.heap.SetOf (PySem.strKind prog w) S (fun y => decide (y ∈ metK xs)) (metK xs).length -> R (.ok (.ret .none)) s') ->
      codeAny (model prog w) A (.builtin "set.update.loop" ⟨[.ref S, .ref I],[]⟩) R s := by
  have nw : S ∉ wr := fun z => nf (W.sub _ z)
  have up : ∀ b ∈ wr,b ∈ S :: wr := fun b z => List.mem_cons_of_mem _ z
  have stay : ∀ {s s' : Shared} {S' : Str -> Bool} {n : Nat},Moved wr G s s' -> s.heap.SetOf (PySem.strKind prog w) S S' n -> s'.heap.SetOf (PySem.strKind prog w) S S' n := fun m ⟨o,es,ep,t,ho,rest⟩ => ⟨o,es,ep,t,m.heap S _ nw ho,rest⟩
  intro k
  induction k with
  | zero =>
    intro i s hk hi st hS hR
    obtain rfl : i = xs.length := by omega
    refine codeAny_builtin F.entry_set_update_loop ?_
    rw [Around.under_plainId F.plain_set_update_loop _]
    show wpAny _ A.in1 (pyNext (.ref I) >>= _) _ _ s
    rw [List.take_length] at hS
    refine wpAny_bind (W.done s _ _ st fun s' m => ?_)
    exact wpAny_pure (hR s' (m.mono up) (stay m hS))
  | succ k ih =>
    intro i s hk hi st hS hR
    have lt : i < xs.length := by omega
    refine codeAny_builtin F.entry_set_update_loop ?_
    rw [Around.under_plainId F.plain_set_update_loop _]
    show wpAny _ A.in1 (pyNext (.ref I) >>= _) _ _ s
    refine wpAny_bind (W.item i s _ _ lt st fun v s1 hP st1 m1 => ?_)
    obtain ⟨x,t,hx,rfl⟩ := hv i v hP
    have hS1 := stay m1 hS
    have tk : metK (xs.take (i + 1)) = meet (metK (xs.take i)) x := by rw [List.take_add_one,hx]; exact qdy _ _
    have le : (metK (xs.take i)).length <= i := by
      have := qhj (xs.take i) ([] : List Str)
      rw [List.length_take] at this
      unfold metK
      simp at this; omega
    show wpAny _ A.in1 (holding [Value.str x t] (setAdd S (.str x t)) >>= _) _ _ s1
    refine wpAny_bind (wpAny_holding ?_)
    unfold setAdd
    refine wpAny_holding (wpAny_bind ((PySem.strKind prog w).pyHash (k := x) (strKind_is _ _ _ _) ?_))
    refine wpAny_setAddHashed_of (knd := PySem.strKind prog w) (s := { s1 with toks := s1.toks + 1 }) (strKind_is _ _ _ _) rfl hS1 (by omega) fun h' sb hS2 => ?_
    have hS3 : h'.SetOf (PySem.strKind prog w) S (fun y => decide (y ∈ metK (xs.take (i + 1)))) (metK (xs.take (i + 1))).length := by
      refine SetOf_congr hS2 (fun y => ?_) ?_
      . rw [tk,Bool.eq_iff_iff]
        simp only [Bool.or_eq_true,decide_eq_true_eq]
        exact qg8.symm
      . rw [tk]; unfold meet
        by_cases z : x ∈ metK (xs.take i)
        . rw [if_pos (by exact decide_eq_true z),if_pos z]
        . rw [if_neg (by simpa using z),if_neg z,List.length_append]; rfl
    refine wpAny_pure ⟨plainId_quiet F.plain_set_update_loop _,ih (i + 1) _ (by omega) lt (W.frame _ s1 _ _ st1 (Nat.le_succ _) fun b hb' o e => ?_) hS3 fun s2 m2 hS4 => ?_⟩
    . rw [sb.2 b fun z => nf (z ▸ hb')]; exact e
    . refine hR s2 (Moved.trans W.gtrans ((m1.mono up).then_heap (Nat.le_succ _) fun b o hb' e => ?_) m2) hS4
      rw [sb.2 b fun z => hb' (z ▸ List.mem_cons_self)]; exact e
end
section
variable {prog : Program} {w : World} {A : Around} {E : Value -> Shared -> Prop} {s : Shared}
theorem qbm {l : Addr} {its : Array Value} {xs : List Str} {Q : Value -> Shared -> Prop} (hh : A.handled = none) (hl : s.heap.IsList l its) (hi : ∀ (i : Nat) v,its[i]? = some v -> ∃ x t,xs[i]? = some x /\ v = .str x t) (hz : its.size = xs.length) (hb : xs.length + 1 < scanBound)
    (h : ∀ (h' : Heap) (tk : Nat),h'.SetOf (PySem.strKind prog w) s.heap.objs.size (fun y => decide (y ∈ metK xs)) (metK xs).length ->
      (∀ b o,b < s.heap.objs.size -> s.heap.get? b = some o -> h'.get? b = some o) -> Q (.ref s.heap.objs.size) { s with heap := h',toks := tk }) : wpAny (model prog w) A (call (.type "set") [.ref l]) Q E s := by
  obtain ⟨c,tl,hmro⟩ := F.called_set.mro
  have hmade := F.called_set.made
  have hsub := F.called_set.sub
  refine wpAny_call (codeAny_of_tree (by
    show wpAny _ _ (callAny (.type "set") _) _ _ _
    refine wpAny_pure ⟨Code.quiet_builtin _ (by decide +kernel),codeAny_builtin F.entry_type_call ?_⟩
    rw [Around.under_plain (weight_type_call_type "set" [.ref l] []) rfl]
    have n1 := F.called_set.notType
    have n2 := F.called_set.canCreate
    have n3 := F.typeCall_set_1 (.ref l)
    repeat (any_goals (first | wp_step | assumption))
    refine codeAny_mono (code_set_new_1 (.ref l) (E := E) (Q₁ := fun ob s1 => ∃ led : Bool,ob = .ref s.heap.objs.size /\ s1 = { s with heap := s.heap.push ({ cls := .type "set",dict := none,data := .set #[] 0 (.fresh 0 0 led) }) }) fun led => ⟨led,rfl,rfl⟩) fun r s1 hr => ?_
    cases r with
    | error e => exact hr
    | ok fl =>
      cases fl with
      | ret ob =>
        obtain ⟨led,rfl,rfl⟩ := hr
        have gS : (s.heap.push ({ cls := .type "set",dict := none,data := .set #[] 0 (.fresh 0 0 led) })).get? s.heap.objs.size = some ({ cls := .type "set",dict := none,data := .set #[] 0 (.fresh 0 0 led) }) := Heap.get?_push_size _ rfl
        have tS : Shared.TypeIs { s with heap := s.heap.push ({ cls := .type "set",dict := none,data := .set #[] 0 (.fresh 0 0 led) }) } (.ref s.heap.objs.size) "set" := ⟨_,gS,rfl⟩
        have i1 := F.called_set.init.lookup
        have i2 := F.called_set.init.bind (.ref s.heap.objs.size)
        repeat (any_goals (first | wp_step | assumption))
        refine codeAny_mono (codeAny_call_builtin (R := wants (fun r s2 => r = .none /\ ∃ h' tk,s2 = { s with heap := h',toks := tk } /\ h'.SetOf (PySem.strKind prog w) s.heap.objs.size (fun y => decide (y ∈ metK xs)) (metK xs).length /\
            (∀ b o,b < s.heap.objs.size -> s.heap.get? b = some o -> h'.get? b = some o)) E) F.called_set.init.plain F.entry_set_init (check_set_init_1 tS ?_)) fun r2 s2 hr2 => ?_
        . obtain ⟨ol,q1,q2,nl,q3⟩ := hl
          obtain ⟨oc,od,oda,os⟩ := ol
          simp only at q2 q3
          subst q2; subst q3
          have q4 : (s.heap.push ({ cls := .type "set",dict := none,data := .set #[] 0 (.fresh 0 0 led) })).get? l = some { cls := .type "list",dict := od,data := .seq its nl,slots := os } := Heap.get?_push_of_some _ q1
          have u1 := F.sub_list_set
          have u2 := F.sub_list_frozenset
          have u3 : (Value.type "list" == Value.type "dict") = false := by decide
          have L1 : (s.heap.push ({ cls := .type "set",dict := none,data := .set #[] 0 (.fresh 0 0 led) })).IsList l its := ⟨_,q4,rfl,nl,rfl⟩
          unfold Builtin.«set.__init__» noKeywords Builtin.Frozenset.updateFrom
          generalize hPI : pyIter = PI
          wp_walk
          subst hPI
          refine wpAny_pyIter_list L1 ?_
          refine (wpAny_bind (wpAny_runValue ?_))
          have ls : l < s.heap.objs.size := Heap.lt_size q1
          have hd3 : A.in1.in1.in1.handled = none := by simp [hh]
          have ne : l ≠ (s.heap.push ({ cls := .type "set",dict := none,data := .set #[] 0 (.fresh 0 0 led) })).objs.size := by rw [Heap.size_push]; exact Nat.ne_of_lt (Nat.lt_succ_of_lt ls)
          have nS : s.heap.objs.size ∉ [(s.heap.push ({ cls := .type "set",dict := none,data := .set #[] 0 (.fresh 0 0 led) })).objs.size,l] := by
            rw [Heap.size_push]
            intro z
            rcases List.mem_cons.mp z with z | z
            . exact absurd z (Nat.ne_of_lt (Nat.lt_succ_self _))
            . rw [List.mem_singleton] at z; exact absurd z (Nat.ne_of_gt ls)
          have WK := (Walks.list (prog := prog) (w := w) hd3 (s.heap.push ({ cls := .type "set",dict := none,data := .set #[] 0 (.fresh 0 0 led) })).objs.size l ne its).toS
          rw [hz] at WK
          refine qgq (xs := xs) WK s.heap.objs.size nS (fun i v z => hi i v z) hb (xs.length - 0) 0 _ (by omega) (Nat.zero_le _) ⟨⟨_,Heap.get?_push_size _ rfl,rfl,rfl⟩,(L1.push _)⟩ ?_ ?_
          . have gg : ((s.heap.push ({ cls := .type "set",dict := none,data := .set #[] 0 (.fresh 0 0 led) })).push { cls := .type "list_iterator",data := .fields #[.ref l, .int 0 0] }).get? s.heap.objs.size = some { cls := .type "set",dict := none,data := .set #[] 0 (.fresh 0 0 led) } := Heap.get?_push_of_some _ gS
            exact SetOf_congr ((setObjOf_fresh (knd := PySem.strKind prog w) led).setOf gg (by unfold scanBound; omega)) (fun _ => rfl) rfl
          . intro s' m hS'
            obtain ⟨h',g',d',tk',os'⟩ := s'
            obtain rfl : g' = s.gens := m.gens
            obtain rfl : d' = s.drawn := m.drawn
            obtain rfl : os' = s.os := m.os
            refine wpAny_pure (wpAny_pure ⟨rfl,h',tk',rfl,hS',fun b o hb' e => ?_⟩)
            refine m.heap b o (fun z => ?_) (Heap.get?_push_of_some _ (Heap.get?_push_of_some _ e))
            rcases List.mem_cons.mp z with z | z
            . exact absurd z (Nat.ne_of_lt hb')
            . rw [List.mem_singleton,Heap.size_push] at z; exact absurd z (Nat.ne_of_lt (Nat.lt_succ_of_lt hb'))
        . cases r2 with
          | error e => exact hr2
          | ok f2 =>
            cases f2 with
            | ret r =>
              obtain ⟨rfl,h',tk,rfl,hS',hk'⟩ := hr2
              repeat (any_goals (first | wp_step | assumption))
              exact h _ _ hS' hk'
            | _ => exact hr2.elim
      | _ => exact hr.elim))
end
end L2
namespace L2
open PySem PySem.Spec PyProof.Rows
section
variable {X : Cx}
def SetS (P : Program) (w : World) (a : Addr) (ts : List Str) : HO := .ext fun h => h.SetOf (PySem.strKind P w) a (fun y => decide (y ∈ metK ts)) (metK ts).length
theorem qeb (hc : X.calm = true) : q30 X (.type "set") (fun xs H Q => ∃ p, ∃ ts : List Str,xs = [.ref p] /\ SqL X.K H p (ts.map V.str) /\ ts.length <= 1000 /\ ∀ a,H a = none -> Q (.ref a) (upd H a (SetS X.prog X.w a ts))) := by
  intro pins s σ H xs us Q I r h
  obtain ⟨p,ts,rfl,hS,hl,q⟩ := h
  obtain ⟨u,rfl,ru⟩ := vals1 r
  cases ru
  obtain ⟨its,rv,pl,_⟩ := I.list hS
  have hlen : its.length = ts.length := by have := rv.length; simpa using this.symm
  refine qbm (xs := ts) (I.ok.hd hc) pl.isList (fun i v hv => ?_) (by simp [hlen]) (by unfold scanBound; omega) fun h' tk hset hk => ?_
  . have hi : i < ts.length := by
      have := (Array.getElem?_eq_some_iff.mp hv).1
      simp [hlen] at this; exact this
    obtain ⟨u,hu,ru⟩ := rv.get (show (ts.map V.str)[i]? = some (.str ts[i]) by rw [List.getElem?_map,List.getElem?_eq_getElem hi]; rfl)
    have : its[i]? = some v := by simpa using hv
    rw [this] at hu; cases hu
    obtain ⟨t,rfl⟩ := ru
    exact ⟨ts[i],t,List.getElem?_eq_getElem hi,rfl⟩
  . have k : ∀ b o,s.heap.get? b = some o -> h'.get? b = some o := fun b o e => hk b o (Heap.lt_size e) e
    refine ⟨.ref s.heap.objs.size,_,I.laid (t' := tk) (o := SetS X.prog X.w s.heap.objs.size ts) k (Nat.le_refl _) ?_,rfl,q _ (I.hok.fresh (Nat.le_refl _))⟩
    refine ⟨hset,?_,fun h1 h2 hs1 kk => ?_⟩
    . obtain ⟨o,_,_,_,ho,_⟩ := hset
      exact ⟨o,ho⟩
    . obtain ⟨o,es,ep,t,ho,rest⟩ := hs1
      exact ⟨o,es,ep,t,kk o ho,rest⟩
theorem qer : q30 X (.builtin "len") (fun xs H Q => ∃ a, ∃ ts : List Str,xs = [.ref a] /\ H a = some (SetS X.prog X.w a ts) /\ Q (.int ((metK ts).length : Nat)) H) := by
  intro pins s σ H xs us Q I r h
  obtain ⟨a,ts,rfl,ha,q⟩ := h
  obtain ⟨u,rfl,ru⟩ := vals1 r
  cases ru
  obtain ⟨hset,_⟩ := (show q2q X.prog X.w H s.heap a (SetS X.prog X.w a ts) from I.hok a _ ha)
  obtain ⟨o,es,ep,t,ho,hex,hd,_,_,hsz,hf,hn⟩ := hset
  refine call_len_set ho hex hd hf (by unfold scanBound at hsz; omega) ⟨.int ((metK ts).length : Nat),H,I.tok _,⟨_,by rw [hn]⟩,q⟩
theorem q3d : Passes (CX1 X.prog X.w) X (fun _ _ _ => False) := by
  intro pins σ H s e s' I hx
  obtain ⟨a,C,H',B,_,_,q⟩ := hx
  exact q.elim
end
structure Base (K : PySem.W.Frag) (C : Addr) (m : Str) (f : Addr) : Prop where
  sp : PySem.W.specialIn K (.ref C) "__getattribute__" = some (some (.builtin "type.__getattribute__"))
  rd : PySem.W.readsIn K C (.type "type") = true
  fc : PySem.W.findCls K (.ref C) (.type "type") m = some (.val (.ref f))
  kp : PySem.W.keepIn K (.ref f) = true
section
variable {X : Cx} {CX : CXT} {k : Nat} {f C : Addr} {fd : FuncData} {ps : List Str} {sp : Sp} {dvs : List V} {ds : List Value} {E : XK} {x m : Str} {p pos apos : Pos} {e o : Expr} {es : List Expr} {ta : TE} {t : TA}
theorem q6d {pl : Sem Bool} (hg : Gl X x) (hm : X.mg x = some (.ref C)) (b : Base X.K C m f) (F : FnOk X.prog X.w X.K X.mg X.base CX k f fd ps sp) (hr : Room k X.A) (hb : Binds X.K fd ps ds) (hd : Vals dvs ds) (hx : Passes CX X E) (ha : PA X (e :: es) t)
    (hdb : (x == ("__debug__" : Str)) = false := by decide)
    (hst : starEach (e :: es) X.env = (false,eval e X.env) :: starEach es X.env := by rfl) (hpl : (backTo pos (starEach es X.env)).any (·.1) = false := by rfl)
    (ht : eval (.Call (.Attribute (.Name x p) m apos) (e :: es) [] pos) X.env = (do
      let ov <- eval (.Name x p) X.env
      standAt apos.atName
      let (f,first) <- holding [ov] (getMethod ov m pl)
      callWith pos f first (backTo pos (starEach (e :: es) X.env)) (backToKw pos (keywordEach [] X.env))) := by rfl) :
    PE X (.Call (.Attribute (.Name x p) m apos) (e :: es) [] pos) (qaz sp dvs E t) := by
  intro pins s σ H Q I h
  have he : PE X (.Name x p) (fun σ H Q => Q (.ref C) H) := q40 (v := .ref C) hg hm rfl hdb
  refine PySem.W.methodCall_KW (pl := pl) (thn (he pins s σ H (fun y H' => y = .ref C /\ H' = H) I ⟨rfl,rfl⟩) fun u s1 ⟨y,H1,I1,ry,z1,z2⟩ => ?_) ht
  subst z1 z2
  obtain rfl : u = Value.ref C := ry
  refine PySem.W.method_cls I1.kIn b.sp (PySem.W.cls_value I1.kIn b.rd b.fc rfl ?_)
  have I2 := I1.tok (s1.toks + 1)
  refine PySem.W.callWith_K (first := []) (h₀ := X.base) I.ok.mod.kin b.kp (thn (ha pos pins _ σ H1 _ I2 h) fun us s2 ⟨vs,H2,I3,r,q2⟩ => ⟨I3.kIn,?_⟩) hst hpl
  exact q7z F hr hb hd hx I3 r q2
end
end L2
namespace L2
open PySem PySem.Spec PyProof.Rows
section
variable {X : Cx} {pins : List (Addr × Obj)} {σ : St} {H : Hp} {s : Shared} {l b : Addr} {xs ys zs : List V}
theorem Inv.lstR (I : Inv X pins σ H s) (hH : Rd H l (.lst xs)) : xs.length <= sizeLine /\ ∃ (its : List Value) (n : Nat),Vals xs its /\ xs.length = its.length /\ s.heap.get? l = some { cls := .type "list",data := .seq its.toArray n } := by
  obtain ⟨z,its,n,r,e⟩ := hH.ok I.hok
  exact ⟨z,its,n,r,r.length,e⟩
def rCatR : R2 := fun x y H Q => ∃ l b xs zs,x = .ref l /\ y = .ref b /\ Rd H l (.lst xs) /\ Rd H b (.lst zs) /\ xs.length + zs.length <= sizeLine /\ ∀ p,H p = none -> Q (.ref p) (upd H p (.lst (xs ++ zs)))
theorem q6t : OpR X (binaryOp .Add) rCatR := by
  intro pins s σ H x y v u Q I rx ry h
  obtain ⟨l,b,xs,zs,rfl,rfl,hH,hB,hz,q⟩ := h
  cases rx
  cases ry
  obtain ⟨z,its,n,r,hl,e⟩ := I.lstR hH
  obtain ⟨z2,its2,n2,r2,hl2,e2⟩ := I.lstR hB
  refine PySem.P.add_list e e2 ?_ (by rw [List.size_toArray,List.size_toArray]; omega)
  have ea : its.toArray ++ its2.toArray = (its ++ its2).toArray := by simp
  rw [ea]
  exact ⟨.ref _,_,I.lnew (t' := s.toks) (r.append r2) (by rw [List.length_append]; omega),rfl,q _ I.fresh⟩
end
end L2
namespace L2
open PySem PySem.Spec PyProof.Rows
inductive TyZ (K : PySem.W.Frag) (H : Hp) : V -> Value -> Prop where
  | of {x : V} {t : Value} (h : TyOf K H x t) : TyZ K H x t
  | tup {a : Addr} {xs : List V} (h : SqT K H a xs) : TyZ K H (.ref a) (.type "tuple")
  | lst {a : Addr} {xs : List V} (h : Rd H a (.lst xs)) : TyZ K H (.ref a) (.type "list")
  | dK {a : Addr} {kvs : List (Key × V)} (h : Rd H a (.dK kvs)) : TyZ K H (.ref a) (.type "dict")
section
variable {X : Cx}
theorem TyZ.kit {pins : List (Addr × Obj)} {σ : St} {H : Hp} {s : Shared} {x : V} {u t : Value} (I : Inv X pins σ H s) (rx : RelV x u) (ty : TyZ X.K H x t) : ∃ HH,PySem.W.KitX X.K u t HH /\ HH s.heap /\ u ≠ .builtin "__main__.__loader__#opaque" := by
  cases ty with
  | of h => exact h.kit I rx
  | @tup a xs h =>
    cases (show u = Value.ref a from rx)
    obtain ⟨its,r,p,hz⟩ := I.tuple h
    obtain ⟨o,h1,h2,_⟩ := p
    exact ⟨_,PySem.W.kitx_tuple,⟨o,h1,h2⟩,fun z => nomatch z⟩
  | @lst a xs h =>
    cases (show u = Value.ref a from rx)
    obtain ⟨_,_,n,_,h1⟩ := h.ok I.hok
    exact ⟨_,PySem.W.kitx_list,⟨_,h1,rfl⟩,fun z => nomatch z⟩
  | @dK a kvs h =>
    cases (show u = Value.ref a from rx)
    obtain ⟨_,_,vs,_,p⟩ := h.ok I.hok
    obtain ⟨o,es,ep,h1,h2,_⟩ := p
    exact ⟨_,PySem.W.kitx_dict,⟨o,h1,h2.1⟩,fun z => nomatch z⟩
def rIsi (K : PySem.W.Frag) : List V -> Hp -> VK -> Prop := fun xs H Q => ∃ x n t b,xs = [x, .ty n] /\ TyZ K H x t /\ PySem.W.kitOne K t (.type n) = some b /\ Q (.bl b) H
theorem q3o : q30 X (.builtin "isinstance") (rIsi X.K) := by
  intro pins s σ H xs us Q I r h
  obtain ⟨x,n,t,b,rfl,ty,e,q⟩ := h
  obtain ⟨u,w',rfl,ru,rw'⟩ := vals2 r
  cases rw'
  obtain ⟨HH,Z,hh,hne⟩ := ty.kit I ru
  exact PySem.W.kia_one Z I.kIn hh e hne fun tk => ⟨.bl b,H,I.tok tk,rfl,q⟩
def rIsiT (K : PySem.W.Frag) : List V -> Hp -> VK -> Prop := fun xs H Q => ∃ x p, ∃ ns : List String, ∃ t b,xs = [x, .ref p] /\ H p = some (.tup (ns.map V.ty)) /\ TyZ K H x t /\ PySem.W.kitAny K t (ns.map Value.type) = some b /\ Q (.bl b) H
theorem qcz : q30 X (.builtin "isinstance") (rIsiT X.K) := by
  intro pins s σ H xs us Q I r h
  obtain ⟨x,p,ns,t,b,rfl,hp,ty,e,q⟩ := h
  obtain ⟨u,w',rfl,ru,rw'⟩ := vals2 r
  cases rw'
  obtain ⟨HH,Z,hh,hne⟩ := ty.kit I ru
  obtain ⟨_,its,rv,o,h1,h2,n,h3⟩ := (show q2q X.prog X.w H s.heap p (.tup (ns.map V.ty)) from I.hok p _ hp)
  have ei : its = ns.map Value.type := qcw rv
  obtain ⟨oc,od,odt,osl⟩ := o
  cases h2
  cases h3
  subst ei
  exact PySem.W.kia_tup Z I.kIn hh h1 e hne fun tk => ⟨.bl b,H,I.tok tk,rfl,q⟩
def rLen (K : PySem.W.Frag) : List V -> Hp -> VK -> Prop := fun xs H Q => (∃ p ys,xs = [.ref p] /\ (SqL K H p ys \/ SqT K H p ys) /\ Q (.int ys.length) H) \/ ∃ z,xs = [.str z] /\ z.length <= sizeLine /\ Q (.int z.length) H
theorem q5f : q30 X (.builtin "len") (rLen X.K) := q30.or qbn qbg
def qcm (K : PySem.W.Frag) : List V -> Hp -> VK -> Prop := fun xs H Q => ∃ p ys,xs = [.ref p] /\ (SqL K H p ys \/ SqT K H p ys) /\ ∀ l,H l = none -> Q (.ref l) (upd H l (.lst ys))
theorem qd5 : q30 X (.type "list") (qcm X.K) := qbh
def qbt (K : PySem.W.Frag) : List V -> Hp -> VK -> Prop := fun xs H Q => ∃ p ys,xs = [.ref p] /\ ((SqL K H p ys /\ ∀ l,H l = none -> Q (.ref l) (upd H l (.tup ys))) \/ (SqT K H p ys /\ Q (.ref p) H))
theorem q6q : q30 X (.type "tuple") (qbt X.K) := qal
def rAll (K : PySem.W.Frag) : List V -> Hp -> VK -> Prop := fun xs H Q => ∃ p, ∃ bs : List Bool,xs = [.ref p] /\ SqL K H p (bs.map V.bl) /\ Q (.bl (bs.all id)) H
theorem qa6 (hc : X.calm = true) : q30 X (.builtin "all") (rAll X.K) := qfs hc
def rSum (K : PySem.W.Frag) : List V -> Hp -> VK -> Prop := fun xs H Q => ∃ p, ∃ ns : List Int,xs = [.ref p] /\ SqL K H p (ns.map V.int) /\ (∀ n ∈ ns, -(2 ^ 32) <= n /\ n <= 2 ^ 32) /\ ns.length <= 100000 /\ Q (.int ns.sum) H
theorem qfg (hc : X.calm = true) : q30 X (.builtin "sum") (rSum X.K) := qfz hc
def rInt1 : List V -> Hp -> VK -> Prop := fun xs H Q => (∃ i,xs = [.int i] /\ Q (.int i) H) \/ ∃ k,xs = [.bl k] /\ Q (.int (if k then 1 else 0)) H
theorem qdd : q30 X (.type "int") rInt1 := qee
def rStrI : List V -> Hp -> VK -> Prop := fun xs H Q => ∃ i,xs = [.int i] /\ i.natAbs.log2 < 1920 /\ Q (.str (toString i)) H
theorem q4g : q30 X (.type "str") rStrI := qb6
end
end L2
namespace L2
open PySem PySem.Spec PyProof.Rows
section
variable {X : Cx} {K : PySem.W.Frag} {tg : Expr}
theorem q6j : SlR X (rSlL X.K) := qhf
theorem qgw : SlR X (rSlT X.K) := sl_tup
theorem q5j : OpR X (compareOp .In) (rIn X.K false) := qe4
theorem qan : OpR X (compareOp .NotIn) (rIn X.K true) := qb5
theorem qg4 : OpR X (binaryOp .Add) (qdl X.K) := qhw
theorem qci {e : Expr} {f : Str} {ta : TE} {pos : Pos} (h : X.K = K) (he : PE X e ta) (hb : attributeBase e f X.env (eval e X.env) = eval e X.env) : PE X (.Attribute e f pos) (tFld K ta f) := h ▸ q1y he hb
end
end L2
namespace L2
open PySem PySem.Spec PyProof.Rows
section
variable {X : Cx} {K : PySem.W.Frag}
theorem qam (bs : List Bool) : ((List.range bs.length).any fun i => bs.getD i false) = bs.any id := by
  rw [Bool.eq_iff_iff,List.any_eq_true,List.any_eq_true]
  constructor
  . rintro ⟨i,hi,h⟩
    have hlt := List.mem_range.mp hi
    rw [List.getD_eq_getElem?_getD,List.getElem?_eq_getElem hlt] at h
    exact ⟨_,List.getElem_mem hlt,h⟩
  . rintro ⟨x,hx,h⟩
    obtain ⟨i,hi⟩ := List.getElem?_of_mem hx
    have hlt := (List.getElem?_eq_some_iff.mp hi).1
    exact ⟨i,List.mem_range.mpr hlt,by rw [List.getD_eq_getElem?_getD,hi]; exact h⟩
def rAny (K : PySem.W.Frag) : List V -> Hp -> VK -> Prop := fun xs H Q => ∃ p, ∃ bs : List Bool,xs = [.ref p] /\ SqL K H p (bs.map V.bl) /\ Q (.bl (bs.any id)) H
theorem qdx (hc : X.calm = true) : q30 X (.builtin "any") (rAny X.K) := by
  intro pins s σ H xs us Q I r h
  obtain ⟨p,bs,rfl,hq,q⟩ := h
  obtain ⟨u,rfl,ru⟩ := vals1 r
  cases ru
  obtain ⟨its,rv,pl,hz⟩ := I.list hq
  have hlen : bs.length = its.length := by have := rv.length; simpa using this
  have hv : ∀ (i : Nat) v,its[i]? = some v -> v = .bool (bs.getD i false) := fun i v hi => by
    have hib : i < bs.length := by rw [hlen]; exact (List.getElem?_eq_some_iff.mp hi).1
    have hb : (bs.map V.bl)[i]? = some (.bl (bs.getD i false)) := by
      rw [List.getElem?_map,List.getElem?_eq_getElem hib,List.getD_eq_getElem?_getD,List.getElem?_eq_getElem hib]; rfl
    obtain ⟨u,hu,ru⟩ := rv.get hb
    rw [hi] at hu; cases hu
    exact ru
  have hne : p ≠ s.heap.objs.size := Nat.ne_of_lt (by obtain ⟨o,n,e,_⟩ := pl; exact Heap.lt_size e)
  refine call_any_walk ?_
  refine wpAny_pyIter_list pl.isList ?_
  refine ⟨s.heap.objs.size,_,_,its.toArray.size,_,_,fun i => bs.getD i false,rfl,Walks.list (A := X.A.in1) (I.ok.hd hc) s.heap.objs.size p hne its.toArray,⟨⟨_,Heap.get?_push_size _ rfl,rfl,rfl⟩,?_⟩,?_,?_⟩
  . exact pl.isList.at fun o e => Heap.get?_push_of_some _ e
  . intro i v s' Q' E' hP hQ'
    have hP : its.toArray[i]? = some v := hP
    rw [hv i v (by simpa using hP)]
    exact wpAny_truthy_bool hQ'
  . intro h' tk kk
    rw [List.size_toArray, <- hlen,qam]
    refine ⟨.bl _,H,I.kept fun b o e => kk b o ?_ (Heap.get?_push_of_some _ e),rfl,q⟩
    intro z
    have z : b = s.heap.objs.size := by simpa using z
    exact absurd (z ▸ Heap.lt_size e) (Nat.lt_irrefl _)
end
end L2
namespace Z
open PySem L2
inductive AV where
  | non | bl (b : Bool) | int (i : Int) | str (x : Str)
  | tup (xs : List AV) | lst (xs : List AV) | dk (ks : List Key) (xs : List AV) | ref (k : Nat)
  | kst (xs : List AV)
  | xc (c : Nat)
inductive Cell where
  | dead | lst (xs : List AV) | dk (ks : List Key) (xs : List AV) | ins (c : Nat) (fs : List (Nat × AV))
abbrev AEnv := List (Option AV)
abbrev AH := List Cell
inductive Re (α : Type) where
  | ok (x : α) (h : AH) | ex (c : Nat) (h : AH) | no
def Re.bind {α β : Type} (r : Re α) (f : α -> AH -> Re β) : Re β := match r with | .ok x h => f x h | .ex c h => .ex c h | .no => .no
@[simp] theorem Re.q9x {α β : Type} (x : α) (h : AH) (f : α -> AH -> Re β) : (Re.ok x h).bind f = f x h := rfl
@[simp] theorem Re.bind_ex {α β : Type} (c : Nat) (h : AH) (f : α -> AH -> Re β) : (Re.ex c h : Re α).bind f = .ex c h := rfl
@[simp] theorem Re.bind_no {α β : Type} (f : α -> AH -> Re β) : (Re.no : Re α).bind f = .no := rfl
structure Ct where
  K : PySem.W.Frag
  cl : Nat -> Addr
  fn : Nat -> Str
  fl : Nat -> List Nat
  inj : ∀ c i j,i ∈ fl c -> j ∈ fl c -> fn i = fn j -> i = j
  fld : ∀ c i,i ∈ fl c -> Cls K (cl c) /\ q1x K (cl c) (fn i)
  fg : Nat -> List Nat
  pin : Option (Addr × Addr) := none
structure Wd where
  ρ : List Addr
  Fz : Addr -> Prop
  h : AH
  H : Hp
mutual
def Tr (C : Ct) (w : Wd) : AV -> V -> Prop
  | .non,v => v = .non
  | .bl b,v => v = .bl b
  | .int i,v => v = .int i
  | .str x,v => v = .str x
  | .tup xs,v => ∃ a vs,v = .ref a /\ SqT C.K w.H a vs /\ Trs C w xs vs
  | .lst xs,v => ∃ a vs,v = .ref a /\ w.Fz a /\ Rd w.H a (.lst vs) /\ Trs C w xs vs
  | .dk ks xs,v => ∃ a kvs,v = .ref a /\ w.Fz a /\ Rd w.H a (.dK kvs) /\ kvs.map (·.1) = ks /\ Trs C w xs (kvs.map (·.2))
  | .ref k,v => ∃ a,v = .ref a /\ w.ρ[k]? = some a
  | .kst xs,v => ∃ a vs,v = .ref a /\ ((w.Fz a /\ Rd w.H a (.lst vs)) \/ SqL C.K (fun _ => none) a vs) /\ Trs C w xs vs
  | .xc c,v => ∃ a,v = .ref a /\ C.pin = some (a,C.cl c)
def Trs (C : Ct) (w : Wd) : List AV -> List V -> Prop
  | [],vs => vs = []
  | x :: xs,vs => ∃ v us,vs = v :: us /\ Tr C w x v /\ Trs C w xs us
end
def Flds (C : Ct) (w : Wd) : List (Nat × AV) -> List (Str × V) -> Prop
  | [],fs => fs = []
  | p :: r,fs => ∃ v us,fs = (C.fn p.1,v) :: us /\ Tr C w p.2 v /\ Flds C w r us
def q78 (C : Ct) (w : Wd) : Cell -> Addr -> Prop
  | .dead,_ => True
  | .lst xs,a => ∃ vs,w.H a = some (.lst vs) /\ Trs C w xs vs
  | .dk ks xs,a => ∃ kvs,w.H a = some (.dK kvs) /\ kvs.map (·.1) = ks /\ Trs C w xs (kvs.map (·.2))
  | .ins c fs,a => ((∀ p ∈ fs,p.1 ∈ C.fl c) /\ C.fl c = C.fg c) /\ ∃ dx fvs,w.H a = some (.ins (C.cl c) dx fvs) /\ Flds C w fs fvs
def Live (w : Wd) (a : Addr) : Prop := ∃ (k : Nat) (c : Cell),w.h[k]? = some c /\ c ≠ .dead /\ w.ρ[k]? = some a
structure Ok (C : Ct) (w : Wd) : Prop where
  len : w.ρ.length = w.h.length
  nd : w.ρ.Nodup
  th : ∀ a ∈ w.ρ,w.H a ≠ none
  cell : ∀ (k : Nat) c a,w.h[k]? = some c -> w.ρ[k]? = some a -> q78 C w c a
  fz : ∀ a,Live w a -> ¬ w.Fz a
  fzt : ∀ a,w.Fz a -> w.H a ≠ none
  pn : ∀ a c,C.pin = some (a,c) -> w.H a = some (excO a c)
def Kept (f : Prop) (o : HO) (r : Option HO) : Prop := r = some o \/ (f /\ ∃ ob kvs,o = .dK kvs /\ r = some (.frz ob o))
structure Le (w w' : Wd) : Prop where
  pre : ∃ t,w'.ρ = w.ρ ++ t
  fz : ∀ a,w.Fz a -> w'.Fz a
  ks : ∀ b, ¬ Live w b -> ∀ o,w.H b = some o -> Kept (w'.Fz b) o (w'.H b)
  fn : ∀ a,w'.Fz a -> w.Fz a \/ w.H a = none \/ Live w a
  nw : ∀ a,Live w' a -> w.H a = none \/ Live w a
  nn : ∀ a,w.H a ≠ none -> w'.H a ≠ none
  rn : ∀ a,a ∈ w'.ρ -> a ∈ w.ρ \/ w.H a = none
theorem Rd.ne {H : Hp} {a : Addr} {u : HO} (r : Rd H a u) : H a ≠ none := by
  rcases r with r | ⟨o,r⟩ <;> rw [r] <;> intro z <;> cases z
theorem Le.kp {w w' : Wd} (le : Le w w') (b : Addr) (hb : ¬ Live w b) (u : HO) (r : Rd w.H b u) : Rd w'.H b u := by
  rcases r with r | ⟨o,r⟩
  . rcases le.ks b hb _ r with q | ⟨_,ob,kvs,rfl,q⟩
    . exact .inl q
    . exact .inr ⟨ob,q⟩
  . rcases le.ks b hb _ r with q | ⟨_,ob,kvs,e,q⟩
    . exact .inr ⟨o,q⟩
    . cases e
theorem Le.refl (w : Wd) : Le w w := ⟨⟨[],by simp⟩,fun _ h => h,fun _ _ _ h => .inl h,fun _ h => .inl h,fun _ h => .inr h,fun _ h => h,fun _ h => .inl h⟩
theorem Le.trans {w w' w'' : Wd} (a : Le w w') (b : Le w' w'') : Le w w'' := by
  have hl : ∀ x,Live w' x -> w.H x = none \/ Live w x := a.nw
  have hn : ∀ x,w'.H x = none -> w.H x = none := fun x z => by
    cases e : w.H x with
    | none => rfl
    | some o => exact absurd z (a.nn x (by rw [e]; intro q; cases q))
  refine ⟨?_,fun x h => b.fz x (a.fz x h),fun x hx o r => ?_,fun x h => ?_,fun x hx => ?_,fun x h => b.nn x (a.nn x h),fun x h => ?_⟩
  . obtain ⟨t,e⟩ := a.pre
    obtain ⟨t',e'⟩ := b.pre
    exact ⟨t ++ t',by rw [e',e,List.append_assoc]⟩
  . have hx' : ¬ Live w' x := fun z => by
      rcases hl x z with z | z
      . rw [r] at z; cases z
      . exact hx z
    rcases a.ks x hx o r with q | ⟨f,ob,kvs,e,q⟩
    . exact b.ks x hx' o q
    . rcases b.ks x hx' _ q with q' | ⟨_,ob',kvs',e',q'⟩
      . exact .inr ⟨b.fz x f,ob,kvs,e,q'⟩
      . cases e'
  . rcases b.fn x h with z | z | z
    . exact a.fn x z
    . exact .inr (.inl (hn x z))
    . rcases hl x z with z | z
      . exact .inr (.inl z)
      . exact .inr (.inr z)
  . rcases b.nw x hx with z | z
    . exact .inl (hn x z)
    . exact hl x z
  . rcases b.rn x h with z | z
    . exact a.rn x z
    . exact .inr (hn x z)
section
variable {C : Ct} {w w' : Wd}
theorem Ok.notup (ok : Ok C w) {a : Addr} (hl : Live w a) {vs : List V} : ¬ Rd w.H a (.tup vs) := by
  obtain ⟨k,c,e1,e2,e3⟩ := hl
  have := ok.cell k c a e1 e3
  intro r
  cases c with
  | dead => exact e2 rfl
  | lst xs => obtain ⟨vs',e,_⟩ := this; rcases r with r | ⟨o,r⟩ <;> rw [e] at r <;> cases r
  | dk ks xs => obtain ⟨kvs,e,_⟩ := this; rcases r with r | ⟨o,r⟩ <;> rw [e] at r <;> cases r
  | ins cc fs => obtain ⟨_,dx,fvs,e,_⟩ := this; rcases r with r | ⟨o,r⟩ <;> rw [e] at r <;> cases r
theorem Ok.sqT (ok : Ok C w) (le : Le w w') {a : Addr} {vs : List V} (h : SqT C.K w.H a vs) : SqT C.K w'.H a vs := by
  rcases h with h | h
  . exact .inl (le.kp a (fun hl => ok.notup hl h) _ h)
  . exact .inr h
mutual
theorem Tr.mono (ok : Ok C w) (le : Le w w') : ∀ {x : AV} {v : V},Tr C w x v -> Tr C w' x v
  | .non,v,h => by rw [Tr] at h ⊢; exact h
  | .bl _,v,h => by rw [Tr] at h ⊢; exact h
  | .int _,v,h => by rw [Tr] at h ⊢; exact h
  | .str _,v,h => by rw [Tr] at h ⊢; exact h
  | .tup xs,v,h => by
    rw [Tr] at h ⊢
    obtain ⟨a,vs,e,hs,ht⟩ := h
    exact ⟨a,vs,e,ok.sqT le hs,Trs.mono ok le ht⟩
  | .lst xs,v,h => by
    rw [Tr] at h ⊢
    obtain ⟨a,vs,e,f,r,ht⟩ := h
    exact ⟨a,vs,e,le.fz a f,le.kp a (fun hl => ok.fz a hl f) _ r,Trs.mono ok le ht⟩
  | .dk ks xs,v,h => by
    rw [Tr] at h ⊢
    obtain ⟨a,kvs,e,f,r,hk,ht⟩ := h
    exact ⟨a,kvs,e,le.fz a f,le.kp a (fun hl => ok.fz a hl f) _ r,hk,Trs.mono ok le ht⟩
  | .ref k,v,h => by
    rw [Tr] at h ⊢
    obtain ⟨a,e,hk⟩ := h
    obtain ⟨t,et⟩ := le.pre
    refine ⟨a,e,?_⟩
    rw [et,List.getElem?_append_left (List.getElem?_eq_some_iff.mp hk).1]; exact hk
  | .kst xs,v,h => by
    rw [Tr] at h ⊢
    obtain ⟨a,vs,e,hs,ht⟩ := h
    refine ⟨a,vs,e,?_,Trs.mono ok le ht⟩
    rcases hs with ⟨f,r⟩ | r
    . exact .inl ⟨le.fz a f,le.kp a (fun hl => ok.fz a hl f) _ r⟩
    . exact .inr r
  | .xc c,v,h => by rw [Tr] at h ⊢; exact h
theorem Trs.mono (ok : Ok C w) (le : Le w w') : ∀ {xs : List AV} {vs : List V},Trs C w xs vs -> Trs C w' xs vs
  | [],vs,h => by rw [Trs] at h ⊢; exact h
  | x :: xs,vs,h => by
    rw [Trs] at h ⊢
    obtain ⟨v,us,e,h1,h2⟩ := h
    exact ⟨v,us,e,Tr.mono ok le h1,Trs.mono ok le h2⟩
end
theorem Flds.mono (ok : Ok C w) (le : Le w w') : ∀ {xs : List (Nat × AV)} {vs : List (Str × V)},Flds C w xs vs -> Flds C w' xs vs
  | [],vs,h => h
  | x :: xs,vs,h => by
    obtain ⟨v,us,e,h1,h2⟩ := h
    exact ⟨v,us,e,Tr.mono ok le h1,Flds.mono ok le h2⟩
theorem Trs.nil : Trs C w [] [] := by rw [Trs]
theorem Trs.cons {x : AV} {v : V} {xs : List AV} {vs : List V} (a : Tr C w x v) (b : Trs C w xs vs) : Trs C w (x :: xs) (v :: vs) := by rw [Trs]; exact ⟨v,vs,rfl,a,b⟩
theorem Trs.len : ∀ {xs : List AV} {vs : List V},Trs C w xs vs -> xs.length = vs.length
  | [],vs,h => by rw [Trs] at h; rw [h]; rfl
  | x :: xs,vs,h => by
    rw [Trs] at h
    obtain ⟨v,us,e,h1,h2⟩ := h
    rw [e,List.length_cons,List.length_cons,Trs.len h2]
theorem Trs.get : ∀ {xs : List AV} {vs : List V} {i : Nat} {x : AV},Trs C w xs vs -> xs[i]? = some x -> ∃ v,vs[i]? = some v /\ Tr C w x v
  | [],vs,i,x,h,e => by simp at e
  | y :: xs,vs,0,x,h,e => by
    rw [Trs] at h
    obtain ⟨v,us,e',h1,h2⟩ := h
    simp at e; subst e; subst e'
    exact ⟨v,rfl,h1⟩
  | y :: xs,vs,i + 1,x,h,e => by
    rw [Trs] at h
    obtain ⟨v,us,e',h1,h2⟩ := h
    subst e'
    obtain ⟨v',q,t⟩ := Trs.get (i := i) h2 (by simpa using e)
    exact ⟨v',by simpa using q,t⟩
theorem Trs.app : ∀ {xs ys : List AV} {vs us : List V},Trs C w xs vs -> Trs C w ys us -> Trs C w (xs ++ ys) (vs ++ us)
  | [],ys,vs,us,h,g => by rw [Trs] at h; subst h; exact g
  | x :: xs,ys,vs,us,h,g => by
    rw [Trs] at h
    obtain ⟨v,us',e,h1,h2⟩ := h
    subst e
    exact .cons h1 (Trs.app h2 g)
theorem Trs.one {x : AV} {v : V} (h : Tr C w x v) : Trs C w [x] [v] := .cons h .nil
theorem Trs.take (n : Nat) : ∀ {xs : List AV} {vs : List V},Trs C w xs vs -> Trs C w (xs.take n) (vs.take n) := fun {xs vs} h => by
  induction n generalizing xs vs with
  | zero => simp only [List.take_zero]; exact .nil
  | succ n ih =>
    cases xs with
    | nil => rw [Trs] at h; subst h; simp only [List.take_nil]; exact .nil
    | cons x xs =>
      rw [Trs] at h
      obtain ⟨v,us,e,h1,h2⟩ := h
      subst e
      exact .cons h1 (ih h2)
theorem Trs.drop (n : Nat) : ∀ {xs : List AV} {vs : List V},Trs C w xs vs -> Trs C w (xs.drop n) (vs.drop n) := fun {xs vs} h => by
  induction n generalizing xs vs with
  | zero => exact h
  | succ n ih =>
    cases xs with
    | nil => rw [Trs] at h; subst h; simp only [List.drop_nil]; exact .nil
    | cons x xs =>
      rw [Trs] at h
      obtain ⟨v,us,e,h1,h2⟩ := h
      subst e
      exact ih h2
structure q27 (C : Ct) (w : Wd) (env : AEnv) (σ : St) : Prop where
  len : env.length = σ.length
  at_ : ∀ (i : Nat) x,env[i]? = some (some x) -> ∃ v, σ[i]? = some (some v) /\ Tr C w x v
theorem q27.mono {env : AEnv} {σ : St} (e : q27 C w env σ) (ok : Ok C w) (le : Le w w') : q27 C w' env σ :=
  ⟨e.len,fun i x h => let ⟨v,q,t⟩ := e.at_ i x h; ⟨v,q,t.mono ok le⟩⟩
theorem q27.set {env : AEnv} {σ : St} {x : AV} {v : V} (e : q27 C w env σ) (i : Nat) (t : Tr C w x v) : q27 C w (env.set i (some x)) (σ.set i (some v)) := by
  refine ⟨by rw [List.length_set,List.length_set]; exact e.len,fun j y h => ?_⟩
  by_cases hj : i = j
  . subst hj
    by_cases hi : i < env.length
    . rw [List.getElem?_set_self hi] at h
      cases h
      exact ⟨v,by rw [List.getElem?_set_self (by rw [<- e.len]; exact hi)],t⟩
    . rw [List.getElem?_eq_none (by rw [List.length_set]; omega)] at h; cases h
  . rw [List.getElem?_set_ne hj] at h
    obtain ⟨u,q,t'⟩ := e.at_ j y h
    exact ⟨u,by rw [List.getElem?_set_ne hj]; exact q,t'⟩
theorem q27.unset {env : AEnv} {σ : St} {o : Option V} (e : q27 C w env σ) (i : Nat) : q27 C w (env.set i none) (σ.set i o) := by
  refine ⟨by rw [List.length_set,List.length_set]; exact e.len,fun j y h => ?_⟩
  by_cases hj : i = j
  . subst hj
    by_cases hi : i < env.length
    . rw [List.getElem?_set_self hi] at h
      cases h
    . rw [List.getElem?_eq_none (by rw [List.length_set]; omega)] at h; cases h
  . rw [List.getElem?_set_ne hj] at h
    obtain ⟨u,q,t'⟩ := e.at_ j y h
    exact ⟨u,by rw [List.getElem?_set_ne hj]; exact q,t'⟩
end
end Z
namespace Z
open PySem L2
section
variable {C : Ct} {w : Wd}
theorem qbj {α : Type} : ∀ {l : List α} {i j : Nat} {x : α},l.Nodup -> l[i]? = some x -> l[j]? = some x -> i = j
  | [],i,j,x,_,h,_ => by simp at h
  | y :: l,0,0,x,_,_,_ => rfl
  | y :: l,0,j + 1,x,n,h,g => by
    have e : y = x := by simpa using h
    subst e
    exact absurd (List.mem_of_getElem? (show l[j]? = some y by simpa using g)) (List.nodup_cons.mp n).1
  | y :: l,i + 1,0,x,n,h,g => by
    have e : y = x := by simpa using g
    subst e
    exact absurd (List.mem_of_getElem? (show l[i]? = some y by simpa using h)) (List.nodup_cons.mp n).1
  | y :: l,i + 1,j + 1,x,n,h,g => by
    rw [qbj (List.nodup_cons.mp n).2 (show l[i]? = some x by simpa using h) (show l[j]? = some x by simpa using g)]
theorem Ok.liveH (ok : Ok C w) {a : Addr} (hl : Live w a) : a ∈ w.ρ := by
  obtain ⟨k,c,e1,e2,e3⟩ := hl
  exact List.mem_of_getElem? e3
theorem q5t {H : Hp} {a p : Addr} {o u : HO} (hp : H p = none) (h : H a = some o) : upd H p u a = some o := by
  rw [q21 (q42 h hp)]; exact h
theorem q3x {H : Hp} {a p : Addr} {u : HO} (h : H a ≠ none) : upd H p u a ≠ none := by
  unfold upd; split
  . intro z; cases z
  . exact h
theorem q78.mono {w' : Wd} (ok : Ok C w) (le : Le w w') {c : Cell} {a : Addr} (hH : w'.H a = w.H a) (h : q78 C w c a) : q78 C w' c a := by
  cases c with
  | dead => trivial
  | lst xs => obtain ⟨vs,e,t⟩ := h; exact ⟨vs,hH.trans e,t.mono ok le⟩
  | dk ks xs => obtain ⟨kvs,e,hk,t⟩ := h; exact ⟨kvs,hH.trans e,hk,t.mono ok le⟩
  | ins cc fs => obtain ⟨hf,dx,fvs,e,t⟩ := h; exact ⟨hf,dx,fvs,hH.trans e,t.mono ok le⟩
theorem Ok.pinne (ok : Ok C w) {a b c : Addr} (hl : Live w a) (h : C.pin = some (b,c)) : b ≠ a := by
  obtain ⟨k,cc,e1,e2,e3⟩ := hl
  have hc := ok.cell k cc a e1 e3
  have hp := ok.pn b c h
  intro z; subst z
  cases cc with
  | dead => exact e2 rfl
  | lst xs => obtain ⟨vs,e,_⟩ := hc; rw [hp] at e; cases e
  | dk ks xs => obtain ⟨vs,e,_⟩ := hc; rw [hp] at e; cases e
  | ins c fs => obtain ⟨_,dx,fvs,e,_⟩ := hc; rw [hp] at e; cases e
def Wd.fresh (w : Wd) (p : Addr) (o : HO) : Wd := { w with H := upd w.H p o }
def Wd.frozen (w : Wd) (p : Addr) (o : HO) : Wd := { w with H := upd w.H p o,Fz := fun a => a = p \/ w.Fz a }
theorem Ok.q3w (ok : Ok C w) {p : Addr} (hp : w.H p = none) (o : HO) : Le w (w.fresh p o) :=
  ⟨⟨[],by simp [Wd.fresh]⟩,fun _ h => h,fun b _ o r => .inl (q5t hp r),fun a h => .inl h,fun a h => .inr h,fun a h => q3x h,fun a h => .inl h⟩
theorem Ok.fresh (ok : Ok C w) {p : Addr} (hp : w.H p = none) (o : HO) : Ok C (w.fresh p o) := by
  have le := ok.q3w hp o
  refine ⟨ok.len,ok.nd,fun a ha => q3x (ok.th a ha),fun k c a e ea => ?_,ok.fz,fun a h => q3x (ok.fzt a h),fun a c h => q5t hp (ok.pn a c h)⟩
  have hne : a ≠ p := fun z => ok.th a (List.mem_of_getElem? ea) (z ▸ hp)
  exact (ok.cell k c a e ea).mono ok le (q21 hne)
theorem Ok.q4n (ok : Ok C w) {p : Addr} (hp : w.H p = none) (o : HO) : Le w (w.frozen p o) :=
  ⟨⟨[],by simp [Wd.frozen]⟩,fun _ h => .inr h,fun b _ o r => .inl (q5t hp r),fun a h => h.elim (fun z => .inr (.inl (z ▸ hp))) .inl,fun a h => .inr h,fun a h => q3x h,fun a h => .inl h⟩
theorem Ok.frozen (ok : Ok C w) {p : Addr} (hp : w.H p = none) (o : HO) : Ok C (w.frozen p o) := by
  have le := ok.q4n hp o
  refine ⟨ok.len,ok.nd,fun a ha => q3x (ok.th a ha),fun k c a e ea => ?_,fun a hl hz => ?_,fun a h => ?_,fun a c h => q5t hp (ok.pn a c h)⟩
  . have hne : a ≠ p := fun z => ok.th a (List.mem_of_getElem? ea) (z ▸ hp)
    exact (ok.cell k c a e ea).mono ok le (q21 hne)
  . rcases hz with rfl | hz
    . exact ok.th a (ok.liveH hl) hp
    . exact ok.fz a hl hz
  . rcases h with rfl | h
    . show upd w.H a o a ≠ none
      rw [q2t]; intro z; cases z
    . exact q3x (ok.fzt a h)
theorem Ok.q97 (ok : Ok C w) {p : Addr} {xs : List AV} {vs : List V} (hp : w.H p = none) (t : Trs C w xs vs) : Tr C (w.fresh p (.tup vs)) (.tup xs) (.ref p) := by
  rw [Tr]; exact ⟨p,vs,rfl,SqT.of q2t,t.mono ok (ok.q3w hp _)⟩
theorem Ok.q7y (ok : Ok C w) {p : Addr} {xs : List AV} {vs : List V} (hp : w.H p = none) (t : Trs C w xs vs) : Tr C (w.frozen p (.lst vs)) (.lst xs) (.ref p) := by
  rw [Tr]; exact ⟨p,vs,rfl, .inl rfl, .inl q2t,t.mono ok (ok.q4n hp _)⟩
def Wd.cell (w : Wd) (p : Addr) (o : HO) (c : Cell) : Wd := { w with H := upd w.H p o, ρ := w.ρ ++ [p],h := w.h ++ [c] }
theorem qa8 (ok : Ok C w) {p : Addr} {o : HO} {c : Cell} {a : Addr} (h : Live (w.cell p o c) a) : a = p \/ Live w a := by
  obtain ⟨k,c',e1,e2,e3⟩ := h
  have hl := ok.len
  by_cases hk : k < w.h.length
  . exact .inr ⟨k,c',by rw [<- List.getElem?_append_left (l₂ := [c]) hk]; exact e1,e2,by rw [<- List.getElem?_append_left (l₂ := [p]) (by omega)]; exact e3⟩
  . have hlt := (List.getElem?_eq_some_iff.mp e3).1
    have : (w.cell p o c).ρ.length = w.ρ.length + 1 := by simp [Wd.cell]
    have hk' : k = w.ρ.length := by omega
    have e3' : (w.ρ ++ [p])[k]? = some a := e3
    rw [hk',List.getElem?_append_right (Nat.le_refl _),Nat.sub_self] at e3'
    exact .inl (by simpa using e3'.symm)
theorem Ok.q77 (ok : Ok C w) {p : Addr} (hp : w.H p = none) (o : HO) (c : Cell) : Le w (w.cell p o c) := by
  refine ⟨⟨[p],rfl⟩,fun _ h => h,fun b _ o r => .inl (q5t hp r),fun a h => .inl h,fun a h => ?_,fun a h => q3x h,fun a h => ?_⟩
  rotate_left
  . rcases List.mem_append.mp (show a ∈ w.ρ ++ [p] from h) with z | z
    . exact .inl z
    . exact .inr (by rw [List.mem_singleton.mp z]; exact hp)
  rcases qa8 ok h with rfl | h
  . exact .inl hp
  . exact .inr h
theorem Ok.qa0 (ok : Ok C w) {p : Addr} (hp : w.H p = none) {o : HO} {c : Cell} (hc : q78 C (w.cell p o c) c p) : Ok C (w.cell p o c) := by
  have le := ok.q77 hp o c
  have hl := ok.len
  have hnp : p ∉ w.ρ := fun z => ok.th p z hp
  refine ⟨by simp [Wd.cell,hl],?_,fun a ha => ?_,fun k c' a e ea => ?_,fun a hlv hz => ?_,fun a h => q3x (ok.fzt a h),fun a c h => q5t hp (ok.pn a c h)⟩
  . show (w.ρ ++ [p]).Nodup
    rw [List.nodup_append]
    exact ⟨ok.nd,by simp,fun a ha b hb => by simp at hb; subst hb; intro z; subst z; exact hnp ha⟩
  . show upd w.H p o a ≠ none
    by_cases ha' : a = p
    . subst ha'; rw [q2t]; intro z; cases z
    . have : a ∈ w.ρ := by
        rcases List.mem_append.mp (show a ∈ w.ρ ++ [p] from ha) with z | z
        . exact z
        . exact absurd (by simpa using z) ha'
      exact q3x (ok.th a this)
  . by_cases hk : k < w.h.length
    . have e' : w.h[k]? = some c' := by rw [<- List.getElem?_append_left (l₂ := [c]) hk]; exact e
      have ea' : w.ρ[k]? = some a := by rw [<- List.getElem?_append_left (l₂ := [p]) (by omega)]; exact ea
      have hne : a ≠ p := fun z => hnp (z ▸ List.mem_of_getElem? ea')
      exact (ok.cell k c' a e' ea').mono ok le (q21 hne)
    . have hlt := (List.getElem?_eq_some_iff.mp ea).1
      have : (w.cell p o c).ρ.length = w.ρ.length + 1 := by simp [Wd.cell]
      have hk' : k = w.ρ.length := by omega
      have e3' : (w.ρ ++ [p])[k]? = some a := ea
      rw [hk',List.getElem?_append_right (Nat.le_refl _),Nat.sub_self] at e3'
      have e4 : (w.h ++ [c])[k]? = some c' := e
      rw [hk',hl,List.getElem?_append_right (Nat.le_refl _),Nat.sub_self] at e4
      have a1 : p = a := by simpa using e3'
      have a2 : c = c' := by simpa using e4
      subst a1 a2
      exact hc
  . rcases qa8 ok hlv with rfl | h
    . exact ok.fzt a hz hp
    . exact ok.fz a h hz
theorem Ok.q7g (ok : Ok C w) {p : Addr} {o : HO} {c : Cell} : Tr C (w.cell p o c) (.ref w.h.length) (.ref p) := by
  rw [Tr]
  refine ⟨p,rfl,?_⟩
  show (w.ρ ++ [p])[w.h.length]? = some p
  rw [<- ok.len,List.getElem?_append_right (Nat.le_refl _),Nat.sub_self]; rfl
def Wd.put (w : Wd) (k : Nat) (c : Cell) (a : Addr) (o : HO) : Wd := { w with h := w.h.set k c,H := upd w.H a o }
theorem qbx {k : Nat} {c : Cell} {a b : Addr} {o : HO} (ea : w.ρ[k]? = some a) (hl : Live w a) (h : Live (w.put k c a o) b) : Live w b := by
  obtain ⟨j,c',e1,e2,e3⟩ := h
  by_cases hj : k = j
  . subst hj
    have e3' : w.ρ[k]? = some b := e3
    have : b = a := by rw [ea] at e3'; cases e3'; rfl
    subst this; exact hl
  . exact ⟨j,c',by rw [<- List.getElem?_set_ne hj (a := c)]; exact e1,e2,e3⟩
theorem Ok.q96 (ok : Ok C w) {k : Nat} {a : Addr} (ea : w.ρ[k]? = some a) (hl : Live w a) (c : Cell) (o : HO) : Le w (w.put k c a o) := by
  refine ⟨⟨[],by simp [Wd.put]⟩,fun _ h => h,fun b hb u r => ?_,fun b h => .inl h,fun b h => .inr (qbx ea hl h),fun b h => q3x h,fun b h => .inl h⟩
  have hne : b ≠ a := fun z => hb (z ▸ hl)
  exact .inl ((q21 hne).trans r)
theorem Ok.put (ok : Ok C w) {k : Nat} {a : Addr} (ea : w.ρ[k]? = some a) (hl : Live w a) {c : Cell} {o : HO} (hc : q78 C (w.put k c a o) c a) : Ok C (w.put k c a o) := by
  have le := ok.q96 ea hl c o
  refine ⟨by show w.ρ.length = (w.h.set k c).length; rw [List.length_set]; exact ok.len,ok.nd,fun b hb => q3x (ok.th b hb),fun j c' b e eb => ?_,fun b hlv hz => ok.fz b (qbx ea hl hlv) hz,fun b h => q3x (ok.fzt b h),fun b c h => (q21 (ok.pinne hl h)).trans (ok.pn b c h)⟩
  by_cases hj : k = j
  . subst hj
    have eb' : w.ρ[k]? = some b := eb
    have : b = a := by rw [ea] at eb'; cases eb'; rfl
    subst this
    have hk : k < w.h.length := by
      have := (List.getElem?_eq_some_iff.mp e).1
      have z : (w.put k c b o).h.length = w.h.length := List.length_set
      omega
    have e' : (w.h.set k c)[k]? = some c' := e
    rw [List.getElem?_set_self hk] at e'
    cases e'
    exact hc
  . have e' : w.h[j]? = some c' := by rw [<- List.getElem?_set_ne hj (a := c)]; exact e
    have hne : b ≠ a := fun z => by
      subst z
      exact hj (qbj ok.nd ea eb)
    exact (ok.cell j c' b e' eb).mono ok le (q21 hne)
mutual
def closed (n : Nat) : AV -> Bool
  | .tup xs => q3j n xs
  | .lst xs => q3j n xs
  | .dk _ xs => q3j n xs
  | .ref k => decide (k < n)
  | .kst xs => q3j n xs
  | _ => true
def q3j (n : Nat) : List AV -> Bool
  | [] => true
  | x :: xs => closed n x && q3j n xs
end
mutual
theorem Tr.closed : ∀ {x : AV} {v : V},Tr C w x v -> closed w.ρ.length x = true
  | .non,v,h => by rw [Z.closed]; all_goals (intros; exact AV.noConfusion ‹_›)
  | .bl _,v,h => by rw [Z.closed]; all_goals (intros; exact AV.noConfusion ‹_›)
  | .int _,v,h => by rw [Z.closed]; all_goals (intros; exact AV.noConfusion ‹_›)
  | .str _,v,h => by rw [Z.closed]; all_goals (intros; exact AV.noConfusion ‹_›)
  | .tup xs,v,h => by
    rw [Tr] at h
    obtain ⟨a,vs,e,hs,ht⟩ := h
    rw [Z.closed]; exact Trs.q3j ht
  | .lst xs,v,h => by
    rw [Tr] at h
    obtain ⟨a,vs,e,f,r,ht⟩ := h
    rw [Z.closed]; exact Trs.q3j ht
  | .dk ks xs,v,h => by
    rw [Tr] at h
    obtain ⟨a,kvs,e,f,r,hk,ht⟩ := h
    rw [Z.closed]; exact Trs.q3j ht
  | .ref k,v,h => by
    rw [Tr] at h
    obtain ⟨a,e,hk⟩ := h
    rw [Z.closed]; exact decide_eq_true (List.getElem?_eq_some_iff.mp hk).1
  | .kst xs,v,h => by
    rw [Tr] at h
    obtain ⟨a,vs,e,hs,ht⟩ := h
    rw [Z.closed]; exact Trs.q3j ht
  | .xc _,v,h => by rw [Z.closed]; all_goals (intros; exact AV.noConfusion ‹_›)
theorem Trs.q3j : ∀ {xs : List AV} {vs : List V},Trs C w xs vs -> q3j w.ρ.length xs = true
  | [],vs,h => by rw [Z.q3j]
  | x :: xs,vs,h => by
    rw [Trs] at h
    obtain ⟨v,us,e,h1,h2⟩ := h
    rw [Z.q3j,Tr.closed h1,Trs.q3j h2]; rfl
end
def Wd.poke (w : Wd) (D : Addr) (o : HO) : Wd := { w with H := upd w.H D o }
structure Lone (w : Wd) (D : Addr) (ys : List V) : Prop where
  at_ : w.H D = some (.lst ys)
  nf : ¬ w.Fz D
  nl : ¬ Live w D
  nr : D ∉ w.ρ
theorem Lone.rd {D : Addr} {ys : List V} (L : Lone w D ys) {o : HO} {a : Addr} {u : HO} (hu : ∀ zs,u ≠ .lst zs) (r : Rd w.H a u) : Rd (upd w.H D o) a u := by
  have hne : a ≠ D := fun z => by
    subst z
    rcases r with r | ⟨z,r⟩ <;> rw [L.at_] at r <;> cases r
    exact hu _ rfl
  rcases r with r | ⟨z,r⟩
  . exact .inl ((q21 hne).trans r)
  . exact .inr ⟨z,(q21 hne).trans r⟩
mutual
theorem Tr.poke {D : Addr} {ys : List V} (L : Lone w D ys) (o : HO) : ∀ {x : AV} {v : V},Tr C w x v -> Tr C (w.poke D o) x v
  | .non,v,h => by rw [Tr] at h ⊢; exact h
  | .bl _,v,h => by rw [Tr] at h ⊢; exact h
  | .int _,v,h => by rw [Tr] at h ⊢; exact h
  | .str _,v,h => by rw [Tr] at h ⊢; exact h
  | .tup xs,v,h => by
    rw [Tr] at h ⊢
    obtain ⟨a,vs,e,hs,ht⟩ := h
    refine ⟨a,vs,e,?_,Trs.poke L o ht⟩
    rcases hs with hs | hs
    . exact .inl (L.rd (by intro zs z; cases z) hs)
    . exact .inr hs
  | .lst xs,v,h => by
    rw [Tr] at h ⊢
    obtain ⟨a,vs,e,f,r,ht⟩ := h
    have hne : a ≠ D := fun z => L.nf (z ▸ f)
    refine ⟨a,vs,e,f,?_,Trs.poke L o ht⟩
    rcases r with r | ⟨z,r⟩
    . exact .inl ((q21 hne).trans r)
    . exact .inr ⟨z,(q21 hne).trans r⟩
  | .dk ks xs,v,h => by
    rw [Tr] at h ⊢
    obtain ⟨a,kvs,e,f,r,hk,ht⟩ := h
    exact ⟨a,kvs,e,f,L.rd (by intro zs z; cases z) r,hk,Trs.poke L o ht⟩
  | .ref k,v,h => by rw [Tr] at h ⊢; exact h
  | .kst xs,v,h => by
    rw [Tr] at h ⊢
    obtain ⟨a,vs,e,hs,ht⟩ := h
    refine ⟨a,vs,e,?_,Trs.poke L o ht⟩
    rcases hs with ⟨f,r⟩ | r
    . have hne : a ≠ D := fun z => L.nf (z ▸ f)
      refine .inl ⟨f,?_⟩
      rcases r with r | ⟨z,r⟩
      . exact .inl ((q21 hne).trans r)
      . exact .inr ⟨z,(q21 hne).trans r⟩
    . exact .inr r
  | .xc c,v,h => by rw [Tr] at h ⊢; exact h
theorem Trs.poke {D : Addr} {ys : List V} (L : Lone w D ys) (o : HO) : ∀ {xs : List AV} {vs : List V},Trs C w xs vs -> Trs C (w.poke D o) xs vs
  | [],vs,h => by rw [Trs] at h ⊢; exact h
  | x :: xs,vs,h => by
    rw [Trs] at h ⊢
    obtain ⟨v,us,e,h1,h2⟩ := h
    exact ⟨v,us,e,Tr.poke L o h1,Trs.poke L o h2⟩
end
theorem Flds.poke {D : Addr} {ys : List V} (L : Lone w D ys) (o : HO) : ∀ {fs : List (Nat × AV)} {us : List (Str × V)},Flds C w fs us -> Flds C (w.poke D o) fs us
  | [],us,h => h
  | p :: r,us,h => by
    obtain ⟨v,us,e,h1,h2⟩ := h
    exact ⟨v,us,e,Tr.poke L o h1,Flds.poke L o h2⟩
theorem Ok.poke (ok : Ok C w) {D : Addr} {ys : List V} (L : Lone w D ys) (o : HO) : Ok C (w.poke D o) := by
  refine ⟨ok.len,ok.nd,fun a ha => q3x (ok.th a ha),fun k c a e ea => ?_,ok.fz,fun a h => q3x (ok.fzt a h),fun a c h => (q21 (ne_of (ok.pn a c h) L.at_ (by intro z; cases z))).trans (ok.pn a c h)⟩
  have h := ok.cell k c a e ea
  cases c with
  | dead => trivial
  | lst xs =>
    have hne : a ≠ D := fun z => L.nl (z ▸ ⟨k,_,e,(by intro z; cases z),ea⟩)
    obtain ⟨vs,hH,ht⟩ := h
    exact ⟨vs,(q21 hne).trans hH,ht.poke L o⟩
  | dk ks xs =>
    have hne : a ≠ D := fun z => L.nl (z ▸ ⟨k,_,e,(by intro z; cases z),ea⟩)
    obtain ⟨kvs,hH,hk,ht⟩ := h
    exact ⟨kvs,(q21 hne).trans hH,hk,ht.poke L o⟩
  | ins cc fs =>
    have hne : a ≠ D := fun z => L.nl (z ▸ ⟨k,_,e,(by intro z; cases z),ea⟩)
    obtain ⟨hf,dx,fvs,hH,ht⟩ := h
    exact ⟨hf,dx,fvs,(q21 hne).trans hH,ht.poke L o⟩
theorem Lone.le {w' : Wd} {D : Addr} {ys : List V} (L : Lone w D ys) (le : Le w w') : Lone w' D ys := by
  have hn : w.H D ≠ none := by rw [L.at_]; intro z; cases z
  refine ⟨?_,fun z => ?_,fun z => ?_,fun z => (le.rn D z).elim L.nr hn⟩
  . rcases le.ks D L.nl _ L.at_ with q | ⟨_,ob,kvs,e,q⟩
    . exact q
    . cases e
  . rcases le.fn D z with q | q | q
    . exact L.nf q
    . exact hn q
    . exact L.nl q
  . rcases le.nw D z with q | q
    . exact hn q
    . exact L.nl q
theorem Le.poke {w0 : Wd} {D : Addr} {o : HO} (le : Le w0 w) (h0 : w0.H D = none) : Le w0 (w.poke D o) := by
  refine ⟨le.pre,le.fz,fun b hb u r => ?_,le.fn,le.nw,fun b h => q3x (le.nn b h),le.rn⟩
  have hne : b ≠ D := fun z => by rw [z,h0] at r; cases r
  have := le.ks b hb u r
  show Kept (w.Fz b) u (upd w.H D o b)
  rw [q21 hne]; exact this
def Wd.keep (w : Wd) (D : Addr) : Wd := { w with Fz := fun a => a = D \/ w.Fz a }
mutual
theorem Tr.keep {D : Addr} : ∀ {x : AV} {v : V},Tr C w x v -> Tr C (w.keep D) x v
  | .non,v,h => by rw [Tr] at h ⊢; exact h
  | .bl _,v,h => by rw [Tr] at h ⊢; exact h
  | .int _,v,h => by rw [Tr] at h ⊢; exact h
  | .str _,v,h => by rw [Tr] at h ⊢; exact h
  | .tup xs,v,h => by
    rw [Tr] at h ⊢
    obtain ⟨a,vs,e,hs,ht⟩ := h
    exact ⟨a,vs,e,hs,Trs.keep ht⟩
  | .lst xs,v,h => by
    rw [Tr] at h ⊢
    obtain ⟨a,vs,e,f,r,ht⟩ := h
    exact ⟨a,vs,e, .inr f,r,Trs.keep ht⟩
  | .dk ks xs,v,h => by
    rw [Tr] at h ⊢
    obtain ⟨a,kvs,e,f,r,hk,ht⟩ := h
    exact ⟨a,kvs,e, .inr f,r,hk,Trs.keep ht⟩
  | .ref k,v,h => by rw [Tr] at h ⊢; exact h
  | .kst xs,v,h => by
    rw [Tr] at h ⊢
    obtain ⟨a,vs,e,hs,ht⟩ := h
    exact ⟨a,vs,e,hs.elim (fun z => .inl ⟨.inr z.1,z.2⟩) .inr,Trs.keep ht⟩
  | .xc c,v,h => by rw [Tr] at h ⊢; exact h
theorem Trs.keep {D : Addr} : ∀ {xs : List AV} {vs : List V},Trs C w xs vs -> Trs C (w.keep D) xs vs
  | [],vs,h => by rw [Trs] at h ⊢; exact h
  | x :: xs,vs,h => by
    rw [Trs] at h ⊢
    obtain ⟨v,us,e,h1,h2⟩ := h
    exact ⟨v,us,e,Tr.keep h1,Trs.keep h2⟩
end
theorem Flds.keep {D : Addr} : ∀ {fs : List (Nat × AV)} {us : List (Str × V)},Flds C w fs us -> Flds C (w.keep D) fs us
  | [],us,h => h
  | p :: r,us,h => by
    obtain ⟨v,us,e,h1,h2⟩ := h
    exact ⟨v,us,e,Tr.keep h1,Flds.keep h2⟩
theorem Ok.keep (ok : Ok C w) {D : Addr} {ys : List V} (L : Lone w D ys) : Ok C (w.keep D) := by
  refine ⟨ok.len,ok.nd,ok.th,fun k c a e ea => ?_,fun a hl hz => ?_,fun a h => ?_,ok.pn⟩
  . have h := ok.cell k c a e ea
    cases c with
    | dead => trivial
    | lst xs => obtain ⟨vs,hH,ht⟩ := h; exact ⟨vs,hH,ht.keep⟩
    | dk ks xs => obtain ⟨kvs,hH,hk,ht⟩ := h; exact ⟨kvs,hH,hk,ht.keep⟩
    | ins cc fs => obtain ⟨hf,dx,fvs,hH,ht⟩ := h; exact ⟨hf,dx,fvs,hH,ht.keep⟩
  . rcases hz with rfl | hz
    . exact L.nl hl
    . exact ok.fz a hl hz
  . rcases h with rfl | h
    . show w.H a ≠ none
      rw [L.at_]; intro z; cases z
    . exact ok.fzt a h
end
end Z
namespace Z
open PySem L2
abbrev AE := AEnv -> AH -> Re AV
abbrev AT := AEnv -> AH -> Re Bool
abbrev AA := AEnv -> AH -> Re (List AV)
def Sat (C : Ct) (E : XK) (w : Wd) {α : Type} (r : Re α) (P : α -> Wd -> Prop) : Prop :=
  match r with
  | .ok x h' => ∀ w' : Wd,w'.h = h' -> Ok C w' -> Le w w' -> P x w'
  | .ex c h' => ∀ w' : Wd,w'.h = h' -> Ok C w' -> Le w w' -> E (.ref (C.cl c)) none w'.H
  | .no => False
section
variable {C : Ct} {E : XK} {w : Wd} {α β : Type}
theorem Sat.mono {r : Re α} {P P' : α -> Wd -> Prop} (s : Sat C E w r P) (k : ∀ x w',Ok C w' -> Le w w' -> P x w' -> P' x w') : Sat C E w r P' := by
  cases r with
  | ok x h => exact fun w' e ok le => k x w' ok le (s w' e ok le)
  | ex c h => exact s
  | no => exact s
theorem Sat.le {w0 : Wd} {r : Re α} {P : α -> Wd -> Prop} (le : Le w0 w) (s : Sat C E w0 r P) : Sat C E w r P := by
  cases r with
  | ok x h => exact fun w' e ok l => s w' e ok (le.trans l)
  | ex c h => exact fun w' e ok l => s w' e ok (le.trans l)
  | no => exact s
theorem Sat.bind {r : Re α} {f : α -> AH -> Re β} {P : β -> Wd -> Prop} (s : Sat C E w (r.bind f) P) : Sat C E w r (fun x w1 => Sat C E w1 (f x w1.h) P) := by
  cases r with
  | ok x h =>
    intro w' e ok le
    subst e
    exact Sat.le le s
  | ex c h => exact s
  | no => exact s
theorem Sat.here {x : α} {P : α -> Wd -> Prop} (s : Sat C E w (.ok x w.h) P) (ok : Ok C w) : P x w := s w rfl ok (Le.refl w)
end
abbrev want (C : Ct) (Q : VK) : AV -> Wd -> Prop := fun x w' => ∀ v,Tr C w' x v -> Q v w'.H
def SE (C : Ct) (E : XK) (t : TE) (m : AE) : Prop := ∀ (w : Wd) (env : AEnv) (σ : St) (Q : VK),Ok C w -> q27 C w env σ -> Sat C E w (m env w.h) (want C Q) -> t σ w.H Q
def STs (C : Ct) (E : XK) (t : TT) (m : AT) : Prop := ∀ (w : Wd) (env : AEnv) (σ : St) (Q : Bool -> Hp -> Prop),Ok C w -> q27 C w env σ -> Sat C E w (m env w.h) (fun b w' => Q b w'.H) -> t σ w.H Q
def SA (C : Ct) (E : XK) (n : Nat) (t : TA) (m : AA) : Prop :=
  (∀ env h xs h',m env h = .ok xs h' -> xs.length = n) /\
  ∀ (w : Wd) (env : AEnv) (σ : St) (Q : List V -> Hp -> Prop),Ok C w -> q27 C w env σ -> Sat C E w (m env w.h) (fun xs w' => ∀ vs,Trs C w' xs vs -> Q vs w'.H) -> t σ w.H Q
def S2 (C : Ct) (E : XK) (r : R2) (f : AV -> AV -> AH -> Re AV) : Prop := ∀ (w : Wd) (x y : AV) (u v : V) (Q : VK),Ok C w -> Tr C w x u -> Tr C w y v -> Sat C E w (f x y w.h) (want C Q) -> r u v w.H Q
def SC (C : Ct) (E : XK) (n : Nat) (r : List V -> Hp -> VK -> Prop) (f : List AV -> AH -> Re AV) : Prop := ∀ (w : Wd) (xs : List AV) (vs : List V) (Q : VK),xs.length = n -> Ok C w -> Trs C w xs vs -> Sat C E w (f xs w.h) (want C Q) -> r vs w.H Q
def SMt (C : Ct) (E : XK) (n : Nat) (r : V -> List V -> Hp -> VK -> Prop) (f : AV -> List AV -> AH -> Re AV) : Prop := ∀ (w : Wd) (x : AV) (u : V) (xs : List AV) (vs : List V) (Q : VK),xs.length = n -> Ok C w -> Tr C w x u -> Trs C w xs vs -> Sat C E w (f x xs w.h) (want C Q) -> r u vs w.H Q
@[simp] def aVar (i : Nat) : AE := fun env h => match env[i]? with | some (some x) => .ok x h | _ => .no
@[simp] def aK (x : AV) : AE := fun _ h => .ok x h
@[simp] def a1 (f : AV -> AH -> Re AV) (a : AE) : AE := fun env h => (a env h).bind f
@[simp] def a2 (f : AV -> AV -> AH -> Re AV) (a b : AE) : AE := fun env h => (a env h).bind fun x h => (b env h).bind fun y h => f x y h
@[simp] def aNil : AA := fun _ h => .ok [] h
@[simp] def q19 (a : AE) (r : AA) : AA := fun env h => (a env h).bind fun x h => (r env h).bind fun xs h => .ok (x :: xs) h
@[simp] def aC (f : List AV -> AH -> Re AV) (a : AA) : AE := fun env h => (a env h).bind f
@[simp] def aTup (a : AA) : AE := fun env h => (a env h).bind fun xs h => .ok (.tup xs) h
@[simp] def aLst (a : AA) : AE := fun env h => (a env h).bind fun xs h => .ok (.lst xs) h
@[simp] def q9h (a : AA) : AE := fun env h => (a env h).bind fun xs h => .ok (.ref h.length) (h ++ [.lst xs])
@[simp] def toB : AV -> AH -> Re Bool
  | .bl b,h => .ok b h
  | _,_ => .no
@[simp] def aB (a : AE) : AT := fun env h => (a env h).bind toB
@[simp] def aAnd (a b : AT) : AT := fun env h => (a env h).bind fun c h => if c = true then b env h else .ok false h
@[simp] def aOr (a b : AT) : AT := fun env h => (a env h).bind fun c h => if c = true then .ok true h else b env h
@[simp] def aNot (a : AT) : AT := fun env h => (a env h).bind fun c h => .ok (!c) h
@[simp] def q6a (a b : AE) : AE := fun env h => (a env h).bind fun x h => (toB x h).bind fun c h => if c = true then b env h else .ok (.bl false) h
@[simp] def aOrV (a b : AE) : AE := fun env h => (a env h).bind fun x h => (toB x h).bind fun c h => if c = true then .ok (.bl true) h else b env h
@[simp] def aNotV (a : AE) : AE := fun env h => (a env h).bind fun x h => (toB x h).bind fun c h => .ok (.bl (!c)) h
@[simp] def qc0 (f g : AV -> AV -> AH -> Re AV) (a b c : AE) : AE := fun env h => (a env h).bind fun x h => (b env h).bind fun y h => (f x y h).bind fun z h => (toB z h).bind fun k h =>
  if k = true then (c env h).bind fun v h => g y v h else .ok (.bl false) h
section
variable {C : Ct} {E : XK} {ta tb tc : TE} {ma mb mc : AE}
theorem q1a {i : Nat} : SE C E (tVar i) (aVar i) := by
  intro w env σ Q ok en s
  unfold aVar at s
  split at s
  . rename_i x e
    obtain ⟨v,q,t⟩ := en.at_ i x e
    exact ⟨v,q,s.here ok v t⟩
  . exact s.elim
theorem se_k {v : V} {x : AV} (h : ∀ w,Tr C w x v) : SE C E (tC v) (aK x) := fun w env σ Q ok en s => s.here ok v (h w)
theorem q1m {i : Int} : SE C E (tC (.int i)) (aK (.int i)) := se_k fun w => by rw [Tr]
theorem q4z {b : Bool} : SE C E (tC (.bl b)) (aK (.bl b)) := se_k fun w => by rw [Tr]
theorem q1k {x : Str} : SE C E (tC (.str x)) (aK (.str x)) := se_k fun w => by rw [Tr]
theorem se_non : SE C E (tC .non) (aK .non) := se_k fun w => by rw [Tr]
theorem q1o {r : R2} {f : AV -> AV -> AH -> Re AV} (hr : S2 C E r f) (ha : SE C E ta ma) (hb : SE C E tb mb) : SE C E (tOp r ta tb) (a2 f ma mb) := fun w env σ Q ok en s =>
  ha w env σ _ ok en (s.bind.mono fun x w1 ok1 le1 s1 v tv => hb w1 env σ _ ok1 (en.mono ok le1) (s1.bind.mono fun y w2 ok2 le2 s2 u tu => hr w2 x y v u Q ok2 (tv.mono ok1 le2) tu s2))
theorem q1d : SA C E 0 tNil aNil := ⟨fun env h xs h' e => by cases e; rfl,fun w env σ Q ok en s => s.here ok [] .nil⟩
theorem q1b {n : Nat} {t : TA} {m : AA} (ha : SE C E ta ma) (hr : SA C E n t m) : SA C E (n + 1) (q49 ta t) (q19 ma m) := by
  refine ⟨fun env h xs h' e => ?_,fun w env σ Q ok en s => ?_⟩
  . unfold q19 at e
    cases e1 : ma env h with
    | ok x h1 =>
      rw [e1,Re.q9x] at e
      cases e2 : m env h1 with
      | ok ys h2 =>
        rw [e2,Re.q9x] at e
        cases e
        rw [List.length_cons,hr.1 env h1 ys _ e2]
      | ex c h2 => rw [e2] at e; cases e
      | no => rw [e2] at e; cases e
    | ex c h1 => rw [e1] at e; cases e
    | no => rw [e1] at e; cases e
  . exact ha w env σ _ ok en (s.bind.mono fun x w1 ok1 le1 s1 v tv => hr.2 w1 env σ _ ok1 (en.mono ok le1) (s1.bind.mono fun ys w2 ok2 le2 s2 vs tvs => s2.here ok2 (v :: vs) (.cons (tv.mono ok1 le2) tvs)))
theorem SA.run {n : Nat} {t : TA} {m : AA} (h : SA C E n t m) {w : Wd} {env : AEnv} {σ : St} {Q : List V -> Hp -> Prop} {f : List AV -> AH -> Re AV} {P : AV -> Wd -> Prop} (ok : Ok C w) (en : q27 C w env σ) (s : Sat C E w ((m env w.h).bind f) P)
    (k : ∀ xs w',xs.length = n -> Ok C w' -> Le w w' -> Sat C E w' (f xs w'.h) P -> ∀ vs,Trs C w' xs vs -> Q vs w'.H) : t σ w.H Q := by
  refine h.2 w env σ Q ok en ?_
  have hl := h.1 env w.h
  have s' := s.bind
  revert s'
  cases e : m env w.h with
  | ok xs h' => exact fun s' w' e' ok' le vs tv => k xs w' (hl xs h' e) ok' le (s' w' e' ok' le) vs tv
  | ex c h' => exact fun s' => s'
  | no => exact fun s' => s'
theorem q2e {n : Nat} {t : TA} {m : AA} (h : SA C E n t m) (hn : n <= sizeLine := by decide) : SE C E (tTup t) (aTup m) := fun w env σ Q ok en s =>
  h.run ok en s fun xs w1 hl ok1 le1 s1 vs tv => ⟨by rw [<- tv.len,hl]; exact hn,fun p hp => s1 (w1.fresh p (.tup vs)) rfl (ok1.fresh hp _) (ok1.q3w hp _) _ (ok1.q97 hp tv)⟩
theorem q3m {n : Nat} {t : TA} {m : AA} (h : SA C E n t m) (hn : n <= sizeLine := by decide) : SE C E (tLst t) (aLst m) := fun w env σ Q ok en s =>
  h.run ok en s fun xs w1 hl ok1 le1 s1 vs tv => ⟨by rw [<- tv.len,hl]; exact hn,fun p hp => s1 (w1.frozen p (.lst vs)) rfl (ok1.frozen hp _) (ok1.q4n hp _) _ (ok1.q7y hp tv)⟩
theorem Ok.qdk {w : Wd} (ok : Ok C w) {p : Addr} {xs : List AV} {vs : List V} (hp : w.H p = none) (t : Trs C w xs vs) : Ok C (w.cell p (.lst vs) (.lst xs)) :=
  ok.qa0 hp ⟨vs,q2t,t.mono ok (ok.q77 hp _ _)⟩
theorem q8b {n : Nat} {t : TA} {m : AA} (h : SA C E n t m) (hn : n <= sizeLine := by decide) : SE C E (tLst t) (q9h m) := fun w env σ Q ok en s =>
  h.run ok en s fun xs w1 hl ok1 le1 s1 vs tv => ⟨by rw [<- tv.len,hl]; exact hn,fun p hp => s1 (w1.cell p (.lst vs) (.lst xs)) rfl (ok1.qdk hp tv) (ok1.q77 hp _ _) _ ok1.q7g⟩
theorem q3f {n : Nat} {t : TA} {m : AA} {r : List V -> Hp -> VK -> Prop} {f : List AV -> AH -> Re AV} (hr : SC C E n r f) (h : SA C E n t m) : SE C E (tCB r t) (aC f m) := fun w env σ Q ok en s =>
  h.run ok en s fun xs w1 hl ok1 le1 s1 vs tv => hr w1 xs vs Q hl ok1 tv s1
theorem q7b {w : Wd} {x : AV} {v : V} {P : Bool -> Wd -> Prop} (ok : Ok C w) (tv : Tr C w x v) (s : Sat C E w (toB x w.h) P) : ∃ c,v = .bl c /\ P c w := by
  cases x with
  | bl b => rw [Tr] at tv; exact ⟨b,tv,s.here ok⟩
  | non => exact s.elim
  | int i => exact s.elim
  | str x => exact s.elim
  | tup xs => exact s.elim
  | lst xs => exact s.elim
  | dk ks xs => exact s.elim
  | ref k => exact s.elim
  | kst xs => exact s.elim
  | xc c => exact s.elim
theorem st_b (ha : SE C E ta ma) : STs C E (tB ta) (aB ma) := fun w env σ Q ok en s =>
  ha w env σ _ ok en (s.bind.mono fun x w1 ok1 le1 s1 v tv => q7b ok1 tv s1)
theorem q32 (ha : SE C E ta ma) : STs C E (qd6 ta) (aB ma) := fun w env σ Q ok en s =>
  ha w env σ _ ok en (s.bind.mono fun x w1 ok1 le1 s1 v tv => q7b ok1 tv s1)
variable {tA tB' : TT} {mA mB : AT}
theorem q83 (ha : STs C E tA mA) (hb : STs C E tB' mB) : STs C E (tAnd tA tB') (aAnd mA mB) := fun w env σ Q ok en s =>
  ha w env σ _ ok en (s.bind.mono fun c w1 ok1 le1 s1 => by
    cases c with
    | true => exact iteT (hb w1 env σ _ ok1 (en.mono ok le1) (by simpa using s1))
    | false => exact iteF (Sat.here (by simpa using s1) ok1))
theorem qar (ha : STs C E tA mA) (hb : STs C E tB' mB) : STs C E (tOr tA tB') (aOr mA mB) := fun w env σ Q ok en s =>
  ha w env σ _ ok en (s.bind.mono fun c w1 ok1 le1 s1 => by
    cases c with
    | true => exact iteT (Sat.here (by simpa using s1) ok1)
    | false => exact iteF (hb w1 env σ _ ok1 (en.mono ok le1) (by simpa using s1)))
theorem q6u (ha : STs C E tA mA) : STs C E (tNot tA) (aNot mA) := fun w env σ Q ok en s =>
  ha w env σ _ ok en (s.bind.mono fun c w1 ok1 le1 s1 => s1.here ok1)
theorem q75 (ha : SE C E ta ma) (hb : SE C E tb mb) : SE C E (tAndV ta tb) (q6a ma mb) := fun w env σ Q ok en s =>
  ha w env σ _ ok en (s.bind.mono fun x w1 ok1 le1 s1 v tv => by
    obtain ⟨c,e,s2⟩ := q7b ok1 tv s1.bind
    refine ⟨c,e,?_⟩
    cases c with
    | true => exact iteT (hb w1 env σ _ ok1 (en.mono ok le1) (by simpa using s2))
    | false => exact iteF (Sat.here (P := want C Q) (x := AV.bl false) (by simpa using s2) ok1 _ (by rw [Tr])))
theorem se_or (ha : SE C E ta ma) (hb : SE C E tb mb) : SE C E (tOrV ta tb) (aOrV ma mb) := fun w env σ Q ok en s =>
  ha w env σ _ ok en (s.bind.mono fun x w1 ok1 le1 s1 v tv => by
    obtain ⟨c,e,s2⟩ := q7b ok1 tv s1.bind
    refine ⟨c,e,?_⟩
    cases c with
    | true => exact iteT (Sat.here (P := want C Q) (x := AV.bl true) (by simpa using s2) ok1 _ (by rw [Tr]))
    | false => exact iteF (hb w1 env σ _ ok1 (en.mono ok le1) (by simpa using s2)))
theorem se_not (ha : SE C E ta ma) : SE C E (tNotV ta) (aNotV ma) := fun w env σ Q ok en s =>
  ha w env σ _ ok en (s.bind.mono fun x w1 ok1 le1 s1 v tv => by
    obtain ⟨c,e,s2⟩ := q7b ok1 tv s1.bind
    exact ⟨c,e,s2.here ok1 _ (by rw [Tr])⟩)
theorem qc4 {r r' : R2} {f g : AV -> AV -> AH -> Re AV} (hr : S2 C E r f) (hr' : S2 C E r' g) (ha : SE C E ta ma) (hb : SE C E tb mb) (hc : SE C E tc mc) : SE C E (qbz r r' ta tb tc) (qc0 f g ma mb mc) := fun w env σ Q ok en s =>
  ha w env σ _ ok en (s.bind.mono fun x w1 ok1 le1 s1 v tv => hb w1 env σ _ ok1 (en.mono ok le1) (s1.bind.mono fun y w2 ok2 le2 s2 u tu =>
    hr w2 x y v u _ ok2 (tv.mono ok1 le2) tu (s2.bind.mono fun z w3 ok3 le3 s3 q tq => by
      obtain ⟨k,e,s4⟩ := q7b ok3 tq s3.bind
      refine ⟨k,e,?_⟩
      cases k with
      | true =>
        have s4' : Sat C E w3 ((mc env w3.h).bind fun v h => g y v h) (want C Q) := by simpa using s4
        exact iteT (hc w3 env σ _ ok3 (en.mono ok (le1.trans (le2.trans le3))) (s4'.bind.mono fun p w4 ok4 le4 s5 p' tp => hr' w4 y p u p' Q ok4 (tu.mono ok2 (le3.trans le4)) tp s5))
      | false => exact iteF (Sat.here (P := want C Q) (x := AV.bl false) (by simpa using s4) ok3 _ (by rw [Tr])))))
end
end Z
namespace Z
open PySem L2
@[simp] def q65 (h : AH) : AV -> Option (List AV)
  | .lst xs => some xs
  | .ref k => match h[k]? with | some (.lst xs) => some xs | _ => none
  | _ => none
@[simp] def q4e (h : AH) : AV -> Option (List AV)
  | .lst xs => some xs
  | .kst xs => some xs
  | .ref k => match h[k]? with | some (.lst xs) => some xs | _ => none
  | _ => none
@[simp] def tupOf : AV -> Option (List AV)
  | .tup xs => some xs
  | _ => none
@[simp] def q61 (h : AH) : AV -> Option (List AV)
  | .tup xs => some xs
  | .lst xs => some xs
  | .kst xs => some xs
  | .ref k => match h[k]? with | some (.lst xs) => some xs | _ => none
  | _ => none
@[simp] def intsOf : List AV -> Option (List Int)
  | [] => some []
  | .int i :: r => (intsOf r).map (i :: ·)
  | _ => none
@[simp] def q5l : List AV -> Option (List Bool)
  | [] => some []
  | .bl i :: r => (q5l r).map (i :: ·)
  | _ => none
@[simp] def strsOf : List AV -> Option (List Str)
  | [] => some []
  | .str i :: r => (strsOf r).map (i :: ·)
  | _ => none
@[simp] def fI (g : Int -> Int -> AV) : AV -> AV -> AH -> Re AV
  | .int i, .int j,h => .ok (g i j) h
  | _,_,_ => .no
@[simp] def fIC (c : Int -> Int -> Bool) (g : Int -> Int -> AV) : AV -> AV -> AH -> Re AV
  | .int i, .int j,h => if c i j = true then .ok (g i j) h else .no
  | _,_,_ => .no
abbrev fAdd := fI fun i j => .int (i + j)
abbrev fSub := fI fun i j => .int (i - j)
abbrev fMul := fIC (fun i j => decide ((-(2 ^ 64) < i /\ i < 2 ^ 64) \/ (-(2 ^ 64) < j /\ j < 2 ^ 64))) fun i j => .int (i * j)
abbrev fDiv := fIC (fun _ j => decide (0 < j /\ j < 1073741824)) fun i j => .int (i / j)
abbrev fMod := fIC (fun _ j => decide (0 < j)) fun i j => .int (i % j)
abbrev fLt := fI fun i j => .bl (decide (i < j))
abbrev fLe := fI fun i j => .bl (decide (i <= j))
abbrev fGt := fI fun i j => .bl (decide (j < i))
@[simp] def eqS : AV -> AV -> Option Bool
  | .int i, .int j => some (decide (i = j))
  | .str i, .str j => some (decide (i = j))
  | .bl i, .bl j => some (decide (i = j))
  | .non, .non => some true
  | .non, .int _ => some false | .int _, .non => some false | .non, .bl _ => some false | .bl _, .non => some false | .non, .str _ => some false | .str _, .non => some false
  | .int _, .str _ => some false | .str _, .int _ => some false | .bl _, .str _ => some false | .str _, .bl _ => some false
  | _,_ => none
@[simp] def fEq : AV -> AV -> AH -> Re AV := fun x y h => match eqS x y with | some b => .ok (.bl b) h | none => .no
@[simp] def fNe : AV -> AV -> AH -> Re AV := fun x y h => match eqS x y with | some b => .ok (.bl (!b)) h | none => .no
@[simp] def q3n : AV -> AV -> AH -> Re AV
  | .str x, .str y,h => if x.length + y.length <= sizeLine then .ok (.str (x ++ y)) h else .no
  | _,_,_ => .no
@[simp] def fCat : AV -> AV -> AH -> Re AV := fun x y h => match q65 h x,q65 h y with
  | some xs,some ys => if xs.length + ys.length <= sizeLine then .ok (.lst (xs ++ ys)) h else .no
  | _,_ => .no
@[simp] def fIx : AV -> AV -> AH -> Re AV := fun x y h => match q61 h x,y with
  | some xs, .int i => match atI xs i with | some z => .ok z h | none => .no
  | _,_ => .no
@[simp] def qc1 : AV -> Bool
  | .non => true
  | _ => false
@[simp] def fIsN : AV -> AH -> Re AV := fun x h => .ok (.bl (qc1 x)) h
@[simp] def fNotN : AV -> AH -> Re AV := fun x h => .ok (.bl (!qc1 x)) h
section
variable {C : Ct} {E : XK} {w : Wd}
theorem q4c {x : AV} {xs : List AV} {v : V} (ok : Ok C w) (e : q65 w.h x = some xs) (t : Tr C w x v) : ∃ a vs,v = .ref a /\ Rd w.H a (.lst vs) /\ Trs C w xs vs := by
  cases x with
  | lst ys =>
    cases e
    rw [Tr] at t
    obtain ⟨a,vs,e,f,r,ht⟩ := t
    exact ⟨a,vs,e,r,ht⟩
  | ref k =>
    rw [Tr] at t
    obtain ⟨a,rfl,ea⟩ := t
    have e : (match w.h[k]? with | some (.lst xs) => some xs | _ => none) = some xs := e
    split at e
    . rename_i ys eh
      cases e
      obtain ⟨vs,hH,ht⟩ := ok.cell k _ a eh ea
      exact ⟨a,vs,rfl, .inl hH,ht⟩
    . cases e
  | non => cases e
  | bl b => cases e
  | int i => cases e
  | str x => cases e
  | tup xs => cases e
  | dk ks xs => cases e
  | kst xs => cases e
  | xc c => cases e
theorem sq_of {H : Hp} {a : Addr} {vs : List V} (h : (w.Fz a /\ Rd w.H a (.lst vs)) \/ SqL C.K (fun _ => none) a vs) : SqL C.K w.H a vs := by
  rcases h with h | (h | ⟨o,h⟩) | h
  . exact .inl h.2
  . cases h
  . cases h
  . exact .inr h
theorem q4k {x : AV} {xs : List AV} {v : V} (ok : Ok C w) (e : q4e w.h x = some xs) (t : Tr C w x v) : ∃ a vs,v = .ref a /\ SqL C.K w.H a vs /\ Trs C w xs vs := by
  cases x with
  | kst ys =>
    cases e
    rw [Tr] at t
    obtain ⟨a,vs,e,r,ht⟩ := t
    exact ⟨a,vs,e,sq_of (H := w.H) r,ht⟩
  | lst ys =>
    obtain ⟨a,vs,e,r,ht⟩ := q4c ok (x := .lst ys) e t
    exact ⟨a,vs,e, .inl r,ht⟩
  | ref k =>
    obtain ⟨a,vs,e,r,ht⟩ := q4c ok (x := .ref k) e t
    exact ⟨a,vs,e, .inl r,ht⟩
  | _ => cases e
theorem q6e {x : AV} {xs : List AV} {v : V} (ok : Ok C w) (e : q61 w.h x = some xs) (t : Tr C w x v) : ∃ a vs,v = .ref a /\ (SqL C.K w.H a vs \/ SqT C.K w.H a vs) /\ Trs C w xs vs := by
  cases x with
  | lst ys =>
    cases e
    rw [Tr] at t
    obtain ⟨a,vs,e,f,r,ht⟩ := t
    exact ⟨a,vs,e, .inl (.inl r),ht⟩
  | tup ys =>
    cases e
    rw [Tr] at t
    obtain ⟨a,vs,e,r,ht⟩ := t
    exact ⟨a,vs,e, .inr r,ht⟩
  | ref k =>
    obtain ⟨a,vs,e,r,ht⟩ := q4c ok (x := .ref k) e t
    exact ⟨a,vs,e, .inl (.inl r),ht⟩
  | kst ys =>
    obtain ⟨a,vs,e,r,ht⟩ := q4k ok (x := .kst ys) e t
    exact ⟨a,vs,e, .inl r,ht⟩
  | non => cases e
  | bl b => cases e
  | int i => cases e
  | str x => cases e
  | dk ks xs => cases e
  | xc c => cases e
theorem qah : ∀ {xs : List AV} {ns : List Int} {vs : List V},intsOf xs = some ns -> Trs C w xs vs -> vs = ns.map V.int
  | [],ns,vs,e,t => by cases e; rw [Trs] at t; exact t
  | x :: xs,ns,vs,e,t => by
    rw [Trs] at t
    obtain ⟨v,us,rfl,h1,h2⟩ := t
    cases x with
    | int i =>
      rw [intsOf] at e
      cases e1 : intsOf xs with
      | none => rw [e1] at e; cases e
      | some ms =>
        rw [e1] at e
        cases e
        rw [Tr] at h1
        rw [h1,qah e1 h2]; rfl
    | _ => cases e
theorem q8p : ∀ {xs : List AV} {ns : List Bool} {vs : List V},q5l xs = some ns -> Trs C w xs vs -> vs = ns.map V.bl
  | [],ns,vs,e,t => by cases e; rw [Trs] at t; exact t
  | x :: xs,ns,vs,e,t => by
    rw [Trs] at t
    obtain ⟨v,us,rfl,h1,h2⟩ := t
    cases x with
    | bl i =>
      rw [q5l] at e
      cases e1 : q5l xs with
      | none => rw [e1] at e; cases e
      | some ms =>
        rw [e1] at e
        cases e
        rw [Tr] at h1
        rw [h1,q8p e1 h2]; rfl
    | _ => cases e
theorem q7v : ∀ {xs : List AV} {ns : List Str} {vs : List V},strsOf xs = some ns -> Trs C w xs vs -> vs = ns.map V.str
  | [],ns,vs,e,t => by cases e; rw [Trs] at t; exact t
  | x :: xs,ns,vs,e,t => by
    rw [Trs] at t
    obtain ⟨v,us,rfl,h1,h2⟩ := t
    cases x with
    | str i =>
      rw [strsOf] at e
      cases e1 : strsOf xs with
      | none => rw [e1] at e; cases e
      | some ms =>
        rw [e1] at e
        cases e
        rw [Tr] at h1
        rw [h1,q7v e1 h2]; rfl
    | _ => cases e
theorem s2_I {g : Int -> Int -> V} {g' : Int -> Int -> AV} (hg : ∀ i j w,Tr C w (g' i j) (g i j)) : S2 C E (rI0 g) (fI g') := by
  intro w x y u v Q ok tx ty s
  unfold fI at s
  split at s
  . rename_i h i j
    rw [Tr] at tx; rw [Tr] at ty
    exact ⟨i,j,tx,ty,s.here ok _ (hg i j w)⟩
  . exact s.elim
theorem qdo {c : Int -> Int -> Bool} {P : Int -> Int -> Prop} {g : Int -> Int -> V} {g' : Int -> Int -> AV} (hc : ∀ i j,c i j = true -> P i j) (hg : ∀ i j w,Tr C w (g' i j) (g i j)) : S2 C E (rI P g) (fIC c g') := by
  intro w x y u v Q ok tx ty s
  unfold fIC at s
  split at s
  . rename_i h i j
    rw [Tr] at tx; rw [Tr] at ty
    by_cases hh : c i j = true
    . rw [if_pos hh] at s
      exact ⟨i,j,tx,ty,hc i j hh,s.here ok _ (hg i j w)⟩
    . rw [if_neg hh] at s
      exact s.elim
  . exact s.elim
theorem qby : S2 C E (rI0 fun i j => .int (i + j)) fAdd := s2_I fun i j w => by rw [Tr]
theorem qfi : S2 C E (rI0 fun i j => .int (i - j)) fSub := s2_I fun i j w => by rw [Tr]
theorem qeu : S2 C E (rI CMul fun i j => .int (i * j)) fMul := qdo (fun i j h => (of_decide_eq_true h : (-(2 ^ 64) < i /\ i < 2 ^ 64) \/ (-(2 ^ 64) < j /\ j < 2 ^ 64))) fun i j w => by rw [Tr]
theorem q7u : S2 C E (rI CDiv fun i j => .int (i / j)) fDiv := qdo (fun i j h => (of_decide_eq_true h : 0 < j /\ j < 1073741824)) fun i j w => by rw [Tr]
theorem q6g : S2 C E (rI (fun _ j => 0 < j) fun i j => .int (i % j)) fMod := qdo (fun i j h => of_decide_eq_true h) fun i j w => by rw [Tr]
theorem s2_lt : S2 C E (rI0 fun i j => .bl (decide (i < j))) fLt := s2_I fun i j w => by rw [Tr]
theorem qas : S2 C E (rI0 fun i j => .bl (decide (i <= j))) fLe := s2_I fun i j w => by rw [Tr]
theorem s2_gt : S2 C E (rI0 fun i j => .bl (decide (j < i))) fGt := s2_I fun i j w => by rw [Tr]
theorem qea {x y : AV} {u v : V} {b : Bool} (e : eqS x y = some b) (tx : Tr C w x u) (ty : Tr C w y v) : scal u v = true /\ decide (u = v) = b := by
  cases x <;> cases y <;> simp only [eqS,Option.some.injEq,reduceCtorEq] at e
  all_goals (rw [Tr] at tx; rw [Tr] at ty; subst tx; subst ty; subst e)
  all_goals first | exact ⟨rfl,rfl⟩ | exact ⟨rfl,decide_eq_decide.mpr ⟨fun h => by injection h,fun h => by rw [h]⟩⟩
theorem q5h : S2 C E rEq fEq := by
  intro w x y u v Q ok tx ty s
  unfold fEq at s
  split at s
  . rename_i b e
    obtain ⟨h1,h2⟩ := qea e tx ty
    exact ⟨h1,by rw [h2]; exact s.here ok _ (by rw [Tr])⟩
  . exact s.elim
theorem q91 : S2 C E rNe fNe := by
  intro w x y u v Q ok tx ty s
  unfold fNe at s
  split at s
  . rename_i b e
    obtain ⟨h1,h2⟩ := qea e tx ty
    exact ⟨h1,by rw [h2]; exact s.here ok _ (by rw [Tr])⟩
  . exact s.elim
theorem qbl {x : AV} {u : V} (t : Tr C w x u) : decide (u = V.non) = qc1 x := by
  cases x with
  | non => rw [Tr] at t; subst t; rfl
  | bl b => rw [Tr] at t; subst t; rfl
  | int i => rw [Tr] at t; subst t; rfl
  | str x => rw [Tr] at t; subst t; rfl
  | tup xs => rw [Tr] at t; obtain ⟨a,vs,rfl,_⟩ := t; rfl
  | lst xs => rw [Tr] at t; obtain ⟨a,vs,rfl,_⟩ := t; rfl
  | dk ks xs => rw [Tr] at t; obtain ⟨a,vs,rfl,_⟩ := t; rfl
  | ref k => rw [Tr] at t; obtain ⟨a,rfl,_⟩ := t; rfl
  | kst xs => rw [Tr] at t; obtain ⟨a,vs,rfl,_⟩ := t; rfl
  | xc c => rw [Tr] at t; obtain ⟨a,rfl,_⟩ := t; rfl
theorem qez {ta : TE} {ma : AE} (ha : SE C E ta ma) : SE C E (tIsN ta) (a1 fIsN ma) := fun w env σ Q ok en s =>
  ha w env σ _ ok en (s.bind.mono fun x w1 ok1 le1 s1 v tv => by show Q (V.bl (decide (v = V.non))) w1.H; rw [qbl tv]; exact s1.here ok1 _ (by rw [Tr]))
theorem qh4 {ta : TE} {ma : AE} (ha : SE C E ta ma) : SE C E (tNotN ta) (a1 fNotN ma) := fun w env σ Q ok en s =>
  ha w env σ _ ok en (s.bind.mono fun x w1 ok1 le1 s1 v tv => by show Q (V.bl (!decide (v = V.non))) w1.H; rw [qbl tv]; exact s1.here ok1 _ (by rw [Tr]))
theorem q5o : S2 C E (fun x y H Q => ∃ i j,x = .str i /\ y = .str j /\ i.length + j.length <= sizeLine /\ Q (.str (i ++ j)) H) q3n := by
  intro w x y u v Q ok tx ty s
  unfold q3n at s
  split at s
  . rename_i h i j
    rw [Tr] at tx; rw [Tr] at ty
    by_cases hh : i.length + j.length <= sizeLine
    . rw [if_pos hh] at s
      exact ⟨i,j,tx,ty,hh,s.here ok _ (by rw [Tr])⟩
    . rw [if_neg hh] at s; exact s.elim
  . exact s.elim
theorem q7w : S2 C E rCatR fCat := by
  intro w x y u v Q ok tx ty s
  unfold fCat at s
  split at s
  . rename_i xs ys e1 e2
    obtain ⟨a,vs,rfl,r1,t1⟩ := q4c ok e1 tx
    obtain ⟨b,us,rfl,r2,t2⟩ := q4c ok e2 ty
    by_cases hh : xs.length + ys.length <= sizeLine
    . rw [if_pos hh] at s
      exact ⟨a,b,vs,us,rfl,rfl,r1,r2,by rw [<- t1.len, <- t2.len]; exact hh,fun p hp => s (w.frozen p _) rfl (ok.frozen hp _) (ok.q4n hp _) _ (ok.q7y hp (t1.app t2))⟩
    . rw [if_neg hh] at s; exact s.elim
  . exact s.elim
theorem Trs.atI {xs : List AV} {vs : List V} {i : Int} {x : AV} (t : Trs C w xs vs) (e : L2.atI xs i = some x) : ∃ v,L2.atI vs i = some v /\ Tr C w x v := by
  unfold L2.atI at e ⊢
  rw [<- t.len]
  cases q : ixN xs.length i with
  | none => rw [q] at e; cases e
  | some j =>
    rw [q] at e
    obtain ⟨v,e',tv⟩ := t.get (show xs[j]? = some x from e)
    exact ⟨v,e',tv⟩
theorem q34 : S2 C E (rIx C.K) fIx := by
  intro w x y u v Q ok tx ty s
  unfold fIx at s
  split at s
  . rename_i xs i e1
    rw [Tr] at ty
    obtain ⟨a,vs,rfl,r1,t1⟩ := q6e ok e1 tx
    split at s
    . rename_i z ez
      obtain ⟨q,eq,tq⟩ := t1.atI ez
      rcases r1 with r1 | r1
      . exact .inl ⟨a,vs,i,q,rfl,ty,r1,eq,s.here ok _ tq⟩
      . exact .inr (.inl ⟨a,vs,i,q,rfl,ty,r1,eq,s.here ok _ tq⟩)
    . exact s.elim
  . exact s.elim
end
end Z
namespace Z
open PySem L2
inductive SRe where
  | nx (env : AEnv) (h : AH) | rt (x : AV) (h : AH) | bk (env : AEnv) (h : AH) | ct (env : AEnv) (h : AH) | ex (c : Nat) (h : AH) | no
abbrev AS := AEnv -> AH -> SRe
def Re.to {α : Type} (r : Re α) (f : α -> AH -> SRe) : SRe := match r with | .ok x h => f x h | .ex c h => .ex c h | .no => .no
@[simp] theorem Re.to_ok {α : Type} (x : α) (h : AH) (f : α -> AH -> SRe) : (Re.ok x h).to f = f x h := rfl
@[simp] theorem Re.to_ex {α : Type} (c : Nat) (h : AH) (f : α -> AH -> SRe) : (Re.ex c h : Re α).to f = .ex c h := rfl
@[simp] theorem Re.to_no {α : Type} (f : α -> AH -> SRe) : (Re.no : Re α).to f = .no := rfl
def SRe.then (r : SRe) (f : AEnv -> AH -> SRe) : SRe := match r with | .nx env h => f env h | r => r
@[simp] theorem SRe.then_nx (env : AEnv) (h : AH) (f : AEnv -> AH -> SRe) : (SRe.nx env h).then f = f env h := rfl
@[simp] theorem SRe.then_rt (x : AV) (h : AH) (f : AEnv -> AH -> SRe) : (SRe.rt x h).then f = .rt x h := rfl
@[simp] theorem SRe.then_bk (env : AEnv) (h : AH) (f : AEnv -> AH -> SRe) : (SRe.bk env h).then f = .bk env h := rfl
@[simp] theorem SRe.then_ct (env : AEnv) (h : AH) (f : AEnv -> AH -> SRe) : (SRe.ct env h).then f = .ct env h := rfl
@[simp] theorem SRe.then_ex (c : Nat) (h : AH) (f : AEnv -> AH -> SRe) : (SRe.ex c h).then f = .ex c h := rfl
@[simp] theorem SRe.then_no (f : AEnv -> AH -> SRe) : SRe.no.then f = .no := rfl
def SSat (C : Ct) (E : XK) (w : Wd) (r : SRe) (D : Ends) : Prop :=
  match r with
  | .nx env h => ∀ (w' : Wd) (σ : St),w'.h = h -> Ok C w' -> Le w w' -> q27 C w' env σ -> D.nx σ w'.H
  | .bk env h => ∀ (w' : Wd) (σ : St),w'.h = h -> Ok C w' -> Le w w' -> q27 C w' env σ -> D.bk σ w'.H
  | .ct env h => ∀ (w' : Wd) (σ : St),w'.h = h -> Ok C w' -> Le w w' -> q27 C w' env σ -> D.ct σ w'.H
  | .rt x h => ∀ (w' : Wd) (v : V),w'.h = h -> Ok C w' -> Le w w' -> Tr C w' x v -> D.rt v w'.H
  | .ex c h => ∀ w' : Wd,w'.h = h -> Ok C w' -> Le w w' -> E (.ref (C.cl c)) none w'.H
  | .no => False
def SS (C : Ct) (E : XK) (t : TS) (m : AS) : Prop := ∀ (w : Wd) (env : AEnv) (σ : St) (D : Ends),Ok C w -> q27 C w env σ -> SSat C E w (m env w.h) D -> t D σ w.H
def SG (C : Ct) (E : XK) (g : TG) (m : AV -> AEnv -> AH -> Re AEnv) : Prop := ∀ (w : Wd) (x : AV) (v : V) (env : AEnv) (σ : St) (Q : St -> Hp -> Prop),Ok C w -> q27 C w env σ -> Tr C w x v ->
  Sat C E w (m x env w.h) (fun env' w' => ∀ σ',q27 C w' env' σ' -> Q σ' w'.H) -> g v σ w.H Q
def SGs (C : Ct) (E : XK) (g : TGs) (m : List AV -> AEnv -> AH -> Re AEnv) : Prop := ∀ (w : Wd) (xs : List AV) (vs : List V) (env : AEnv) (σ : St) (Q : St -> Hp -> Prop),Ok C w -> q27 C w env σ -> Trs C w xs vs ->
  Sat C E w (m xs env w.h) (fun env' w' => ∀ σ',q27 C w' env' σ' -> Q σ' w'.H) -> g vs σ w.H Q
section
variable {C : Ct} {E : XK} {w : Wd}
theorem SSat.le {w0 : Wd} {r : SRe} {D : Ends} (le : Le w0 w) (s : SSat C E w0 r D) : SSat C E w r D := by
  cases r with
  | nx env h => exact fun w' σ e ok l en => s w' σ e ok (le.trans l) en
  | bk env h => exact fun w' σ e ok l en => s w' σ e ok (le.trans l) en
  | ct env h => exact fun w' σ e ok l en => s w' σ e ok (le.trans l) en
  | rt x h => exact fun w' v e ok l t => s w' v e ok (le.trans l) t
  | ex c h => exact fun w' e ok l => s w' e ok (le.trans l)
  | no => exact s
theorem Sat.to {α : Type} {r : Re α} {f : α -> AH -> SRe} {D : Ends} (s : SSat C E w (r.to f) D) : Sat C E w r (fun x w1 => SSat C E w1 (f x w1.h) D) := by
  cases r with
  | ok x h => exact fun w' e ok le => by subst e; exact SSat.le le s
  | ex c h => exact s
  | no => exact s
end
@[simp] def q2i : AS := fun env h => .nx env h
@[simp] def sSeq (a b : AS) : AS := fun env h => (a env h).then b
@[simp] def q1s (a : AE) : AS := fun env h => (a env h).to fun _ h => .nx env h
@[simp] def sRet (a : AE) : AS := fun env h => (a env h).to fun x h => .rt x h
@[simp] def sIf (t : AT) (a b : AS) : AS := fun env h => (t env h).to fun c h => if c = true then a env h else b env h
@[simp] def sAsg (a : AE) (g : AV -> AEnv -> AH -> Re AEnv) : AS := fun env h => (a env h).to fun x h => (g x env h).to fun env h => .nx env h
@[simp] def gN (i : Nat) : AV -> AEnv -> AH -> Re AEnv := fun x env h => .ok (env.set i (some x)) h
@[simp] def q62 : List AV -> AEnv -> AH -> Re AEnv
  | [],env,h => .ok env h
  | _,_,_ => .no
@[simp] def q31 (g : AV -> AEnv -> AH -> Re AEnv) (r : List AV -> AEnv -> AH -> Re AEnv) : List AV -> AEnv -> AH -> Re AEnv
  | x :: xs,env,h => (g x env h).bind fun env h => r xs env h
  | [],_,_ => .no
@[simp] def gT (n : Nat) (r : List AV -> AEnv -> AH -> Re AEnv) : AV -> AEnv -> AH -> Re AEnv
  | .tup xs,env,h => if xs.length = n then r xs env h else .no
  | _,_,_ => .no
@[simp] def putL : AV -> AV -> AV -> AH -> Option AH
  | .ref k, .int i,x,h => match h[k]? with
    | some (.lst xs) => match ixN xs.length i with | some j => some (h.set k (.lst (xs.set j x))) | none => none
    | _ => none
  | _,_,_,_ => none
section
variable {C : Ct} {E : XK}
theorem q2m : SS C E tNext q2i := fun w env σ D ok en s => s w σ rfl ok (Le.refl w) en
theorem q1g {t u : TS} {a b : AS} (ha : SS C E t a) (hb : SS C E u b) : SS C E (tSeq t u) (sSeq a b) := by
  intro w env σ D ok en s
  refine ha w env σ _ ok en ?_
  unfold sSeq at s
  cases e : a env w.h with
  | nx env' h' =>
    rw [e] at s
    intro w' σ' e' ok' le' en'
    subst e'
    exact hb w' env' σ' D ok' en' (SSat.le le' s)
  | bk env' h' => rw [e] at s; exact s
  | ct env' h' => rw [e] at s; exact s
  | rt x h' => rw [e] at s; exact s
  | ex c h' => rw [e] at s; exact s
  | no => rw [e] at s; exact s
theorem q1p {t : TE} {m : AE} (h : SE C E t m) : SS C E (tDrop t) (q1s m) := fun w env σ D ok en s =>
  h w env σ _ ok en (Sat.mono (Sat.to s) fun x w1 ok1 le1 s1 v tv => s1 w1 σ rfl ok1 (Le.refl w1) (en.mono ok le1))
theorem q3a {t : TE} {m : AE} (h : SE C E t m) : SS C E (tRet t) (sRet m) := fun w env σ D ok en s =>
  h w env σ _ ok en (Sat.mono (Sat.to s) fun x w1 ok1 le1 s1 v tv => s1 w1 v rfl ok1 (Le.refl w1) tv)
theorem q38 {c : TT} {t u : TS} {mc : AT} {a b : AS} (hc : STs C E c mc) (ha : SS C E t a) (hb : SS C E u b) : SS C E (tIfS c t u) (sIf mc a b) := fun w env σ D ok en s =>
  hc w env σ _ ok en (Sat.mono (Sat.to s) fun c w1 ok1 le1 s1 => by
    cases c with
    | true => exact iteT (ha w1 env σ D ok1 (en.mono ok le1) (by simpa using s1))
    | false => exact iteF (hb w1 env σ D ok1 (en.mono ok le1) (by simpa using s1)))
theorem q2h {t : TE} {m : AE} {g : TG} {mg : AV -> AEnv -> AH -> Re AEnv} (h : SE C E t m) (hg : SG C E g mg) : SS C E (tAsg t g) (sAsg m mg) := fun w env σ D ok en s =>
  h w env σ _ ok en (Sat.mono (Sat.to s) fun x w1 ok1 le1 s1 v tv => hg w1 x v env σ _ ok1 (en.mono ok le1) tv (Sat.mono (Sat.to s1) fun env2 w2 ok2 le2 s2 σ2 en2 => s2 w2 σ2 rfl ok2 (Le.refl w2) en2))
theorem q1v {i : Nat} : SG C E (q7m i) (gN i) := fun w x v env σ Q ok en t s => s.here ok _ (en.set i t)
theorem qcj : SGs C E gNil q62 := by
  intro w xs vs env σ Q ok en t s
  cases xs with
  | nil => rw [Trs] at t; exact ⟨t,Sat.here (P := fun env' w' => ∀ σ',q27 C w' env' σ' -> Q σ' w'.H) s ok _ en⟩
  | cons x xs => exact s.elim
theorem q7o {g : TG} {u : TGs} {m : AV -> AEnv -> AH -> Re AEnv} {r : List AV -> AEnv -> AH -> Re AEnv} (hg : SG C E g m) (hr : SGs C E u r) : SGs C E (qdg g u) (q31 m r) := by
  intro w xs vs env σ Q ok en t s
  cases xs with
  | nil => exact s.elim
  | cons x xs =>
    rw [Trs] at t
    obtain ⟨v,us,rfl,t1,t2⟩ := t
    have s' : Sat C E w ((m x env w.h).bind fun env h => r xs env h) (fun env' w' => ∀ σ',q27 C w' env' σ' -> Q σ' w'.H) := s
    exact ⟨v,us,rfl,hg w x v env σ _ ok en t1 (s'.bind.mono fun env1 w1 ok1 le1 s1 σ1 en1 => hr w1 xs us env1 σ1 Q ok1 en1 (t2.mono ok le1) s1)⟩
theorem qdz {n : Nat} {g : TGs} {m : List AV -> AEnv -> AH -> Re AEnv} (hg : SGs C E g m) : SG C E (gTup C.K n g) (gT n m) := by
  intro w x v env σ Q ok en t s
  cases x with
  | tup xs =>
    rw [Tr] at t
    obtain ⟨a,vs,rfl,hs,ht⟩ := t
    have s' : Sat C E w (if xs.length = n then m xs env w.h else .no) (fun env' w' => ∀ σ',q27 C w' env' σ' -> Q σ' w'.H) := s
    by_cases hl : xs.length = n
    . rw [if_pos hl] at s'
      exact ⟨a,vs,rfl,hs,by rw [<- ht.len]; exact hl,hg w xs vs env σ Q ok en ht s'⟩
    . rw [if_neg hl] at s'; exact s'.elim
  | _ => exact s.elim
theorem Ok.putLst {w : Wd} (ok : Ok C w) {k : Nat} {a : Addr} {xs xs' : List AV} {vs' : List V} (e : w.h[k]? = some (.lst xs)) (ea : w.ρ[k]? = some a) (t : Trs C w xs' vs') :
    Ok C (w.put k (.lst xs') a (.lst vs')) /\ Le w (w.put k (.lst xs') a (.lst vs')) := by
  have hl : Live w a := ⟨k,_,e,(by intro z; cases z),ea⟩
  have le := ok.q96 ea hl (.lst xs') (.lst vs')
  exact ⟨ok.put ea hl ⟨vs',q2t,t.mono ok le⟩,le⟩
mutual
def beqA : AV -> AV -> Bool
  | .non, .non => true
  | .bl a, .bl b => a == b
  | .int a, .int b => a == b
  | .str a, .str b => a == b
  | .tup a, .tup b => q4b a b
  | .lst a, .lst b => q4b a b
  | .dk k a, .dk l b => decide (k = l) && q4b a b
  | .ref a, .ref b => a == b
  | .kst a, .kst b => q4b a b
  | .xc a, .xc b => a == b
  | _,_ => false
def q4b : List AV -> List AV -> Bool
  | [],[] => true
  | x :: xs,y :: ys => beqA x y && q4b xs ys
  | _,_ => false
end
mutual
theorem qhq : ∀ {x y : AV},beqA x y = true -> x = y
  | .non,y,h => by cases y <;> simp_all [beqA]
  | .bl a,y,h => by cases y <;> simp_all [beqA]
  | .int a,y,h => by cases y <;> simp_all [beqA]
  | .str a,y,h => by cases y <;> simp_all [beqA]
  | .tup a,y,h => by
    cases y with
    | tup b => rw [beqA] at h; rw [q5r h]
    | _ => simp [beqA] at h
  | .lst a,y,h => by
    cases y with
    | lst b => rw [beqA] at h; rw [q5r h]
    | _ => simp [beqA] at h
  | .dk k a,y,h => by
    cases y with
    | dk l b =>
      rw [beqA,Bool.and_eq_true] at h
      rw [q5r h.2,of_decide_eq_true h.1]
    | _ => simp [beqA] at h
  | .ref a,y,h => by cases y <;> simp_all [beqA]
  | .kst a,y,h => by
    cases y with
    | kst b => rw [beqA] at h; rw [q5r h]
    | _ => simp [beqA] at h
  | .xc a,y,h => by cases y <;> simp_all [beqA]
theorem q5r : ∀ {xs ys : List AV},q4b xs ys = true -> xs = ys
  | [],ys,h => by cases ys <;> simp_all [q4b]
  | x :: xs,ys,h => by
    cases ys with
    | nil => simp [q4b] at h
    | cons y ys =>
      rw [q4b,Bool.and_eq_true] at h
      rw [qhq h.1,q5r h.2]
end
mutual
theorem qgp : ∀ (x : AV),beqA x x = true
  | .non => by rw [beqA]
  | .bl a => by rw [beqA]; exact beq_self_eq_true a
  | .int a => by rw [beqA]; exact beq_self_eq_true a
  | .str a => by rw [beqA]; exact beq_self_eq_true a
  | .tup a => by rw [beqA]; exact q5c a
  | .lst a => by rw [beqA]; exact q5c a
  | .dk k a => by rw [beqA,q5c a,decide_eq_true rfl]; rfl
  | .ref a => by rw [beqA]; exact beq_self_eq_true a
  | .kst a => by rw [beqA]; exact q5c a
  | .xc a => by rw [beqA]; exact beq_self_eq_true a
theorem q5c : ∀ (xs : List AV),q4b xs xs = true
  | [] => by rw [q4b]
  | x :: xs => by rw [q4b,qgp x,q5c xs]; rfl
end
def okW (h : AH) (all : List AV) : Option Nat -> Bool
  | none => true
  | some k => match h[k]? with | some (.lst ys) => q4b ys all | _ => false
theorem q46 {h : AH} {all : List AV} : okW h all none = true := rfl
theorem qc2 {h : AH} {all : List AV} {k : Nat} (e : h[k]? = some (.lst all)) : okW h all (some k) = true := by
  simp only [okW,e]; exact q5c all
theorem of_okW {h : AH} {all : List AV} {k : Nat} (e : okW h all (some k) = true) : h[k]? = some (.lst all) := by
  simp only [okW] at e
  split at e
  . rename_i ys q; rw [q,q5r e]
  . cases e
abbrev AI := AEnv -> AH -> Re (List AV × Option Nat)
structure ItOk (C : Ct) (w1 : Wd) (J : It) (all : List AV) (wt : Option Nat) : Prop where
  go : ∀ (w : Wd) (i : Nat),Ok C w -> Le w1 w -> okW w.h all wt = true -> i < all.length -> J.go i w.H
  yld : ∀ (w : Wd) (i : Nat) (x : AV) (v : V) (H' : Hp),Ok C w -> Le w1 w -> okW w.h all wt = true -> all[i]? = some x -> J.yld i w.H v H' -> ∃ w',w'.H = H' /\ w'.h = w.h /\ Ok C w' /\ Le w w' /\ Tr C w' x v
  stop : ∀ (w : Wd) (i : Nat),Ok C w -> Le w1 w -> okW w.h all wt = true -> i = all.length -> J.stop i w.H
def SI (C : Ct) (E : XK) (wi : TI) (m : AI) : Prop := ∀ (w : Wd) (env : AEnv) (σ : St) (R : It -> Hp -> Prop),Ok C w -> q27 C w env σ -> Sat C E w (m env w.h) (fun p w' => ∀ J,ItOk C w' J p.1 p.2 -> R J w'.H) -> wi σ w.H R
def q3b (wt : Option Nat) (all : List AV) (g : AV -> AEnv -> AH -> Re AEnv) (body : AS) : List AV -> AEnv -> AH -> SRe
  | [],env,h => if okW h all wt = true then .nx env h else .no
  | x :: xs,env,h => if okW h all wt = true then (g x env h).to fun env h => match body env h with
      | .nx env h => q3b wt all g body xs env h
      | .ct env h => q3b wt all g body xs env h
      | .bk env h => .nx env h
      | .rt x h => .rt x h
      | .ex c h => .ex c h
      | .no => .no
    else .no
@[simp] def sFor (it : AI) (g : AV -> AEnv -> AH -> Re AEnv) (body : AS) : AS := fun env h => (it env h).to fun p h => q3b p.2 p.1 g body p.1 env h
theorem q4l {wi : TI} {it : AI} {g : TG} {mg : AV -> AEnv -> AH -> Re AEnv} {tb : TS} {body : AS} (hi : SI C E wi it) (hg : SG C E g mg) (hb : SS C E tb body) : SS C E (tFor wi g tb) (sFor it mg body) := by
  intro w env σ D ok en s
  refine hi w env σ _ ok en (Sat.mono (Sat.to s) fun p w1 ok1 le1 s1 J hJ => ?_)
  obtain ⟨all,wt⟩ := p
  refine ⟨fun i m σ H => m = all.length - i /\ i <= all.length /\ ∃ w env,w.H = H /\ Ok C w /\ Le w1 w /\ q27 C w env σ /\ SSat C E w (q3b wt all mg body (all.drop i) env w.h) D,
    ⟨all.length,by simp,Nat.zero_le _,w1,env,rfl,ok1,Le.refl w1,en.mono ok le1,s1⟩,?_⟩
  rintro i m σ H ⟨rfl,hi,w2,env2,rfl,ok2,le2,en2,s2⟩
  by_cases hlt : i < all.length
  . right
    have hx : all[i]? = some all[i] := List.getElem?_eq_getElem hlt
    rw [List.drop_eq_getElem_cons hlt,q3b] at s2
    by_cases hw : okW w2.h all wt = true
    . rw [if_pos hw] at s2
      refine ⟨hJ.go w2 i ok2 le2 hw hlt,fun σ' H' => ∃ w env,w.H = H' /\ Ok C w /\ Le w1 w /\ q27 C w env σ' /\ SSat C E w (q3b wt all mg body (all.drop (i + 1)) env w.h) D,fun σ' H' q => ⟨all.length - (i + 1),by omega,rfl,hlt,q⟩,fun v H' y => ?_⟩
      obtain ⟨w3,rfl,e3,ok3,le3,t3⟩ := hJ.yld w2 i _ v H' ok2 le2 hw hx y
      rw [<- e3] at s2
      refine hg w3 _ v env2 σ _ ok3 (en2.mono ok2 le3) t3 (Sat.mono (Sat.to (SSat.le le3 s2)) fun env4 w4 ok4 le4 s4 σ4 en4 => ?_)
      refine hb w4 env4 σ4 _ ok4 en4 ?_
      have le14 : Le w1 w4 := le2.trans (le3.trans le4)
      cases e : body env4 w4.h with
      | nx env5 h5 =>
        rw [e] at s4
        intro w5 σ5 e5 ok5 le5 en5
        subst e5
        exact ⟨w5,env5,rfl,ok5,le14.trans le5,en5,SSat.le le5 s4⟩
      | ct env5 h5 =>
        rw [e] at s4
        intro w5 σ5 e5 ok5 le5 en5
        subst e5
        exact ⟨w5,env5,rfl,ok5,le14.trans le5,en5,SSat.le le5 s4⟩
      | bk env5 h5 => rw [e] at s4; exact s4
      | rt x h5 => rw [e] at s4; exact s4
      | ex c h5 => rw [e] at s4; exact s4
      | no => rw [e] at s4; exact s4
    . rw [if_neg hw] at s2; exact s2.elim
  . left
    have hd : all.drop i = [] := List.drop_eq_nil_of_le (by omega)
    rw [hd,q3b] at s2
    by_cases hw : okW w2.h all wt = true
    . rw [if_pos hw] at s2
      exact ⟨hJ.stop w2 i ok2 le2 hw (Nat.le_antisymm hi (Nat.le_of_not_lt hlt)),s2 w2 σ rfl ok2 (Le.refl w2) en2⟩
    . rw [if_neg hw] at s2; exact s2.elim
end
end Z
namespace Z
open PySem L2
@[simp] def watch : AV -> Option Nat
  | .ref k => some k
  | _ => none
@[simp] def iLst (a : AE) : AI := fun env h => (a env h).bind fun x h => match q4e h x with | some xs => .ok (xs,watch x) h | none => .no
def intsFrom (lo : Int) (n : Nat) : List AV := (List.range n).map fun i : Nat => AV.int (lo + (i : Int))
def rng1 : AV -> AH -> Re (List AV × Option Nat) := fun x h => match x with
  | .int (.ofNat n) => if n <= 16777216 then .ok (intsFrom 0 n,none) h else .no
  | .int (.negSucc n) => if n <= 16777216 then .ok (intsFrom 0 0,none) h else .no
  | _ => .no
@[simp] def q3t (a : AE) : AI := fun env h => (a env h).bind rng1
theorem q8w {n : Nat} {h : AH} (h1 : n <= 1000000) : rng1 (.int (n : Int)) h = .ok (intsFrom 0 n,none) h := by
  show (if _ then _ else _) = _
  rw [if_pos (by omega)]
theorem len_from (i : Int) (n : Nat) : (intsFrom i n).length = n := by simp [intsFrom]
def strA (x : Str) : List AV := x.cps.toList.map fun c => AV.str ⟨#[c]⟩
@[simp] def iStrA (a : AE) : AI := fun env h => (a env h).bind fun x h => match x with
  | .str z => .ok (strA z,none) h
  | _ => .no
section
variable {C : Ct} {E : XK} {ta tb : TE} {ma mb : AE}
theorem qbf {w1 w : Wd} {x : AV} {xs : List AV} {v : V} (ok1 : Ok C w1) (e : q4e w1.h x = some xs) (t : Tr C w1 x v) (ok : Ok C w) (le : Le w1 w) (hw : okW w.h xs (watch x) = true) : ∃ a vs,v = .ref a /\ SqL C.K w.H a vs /\ Trs C w xs vs := by
  have t' := t.mono ok1 le
  have e' : q4e w.h x = some xs := by
    cases x with
    | lst ys => exact e
    | kst ys => exact e
    | ref k => simp only [q4e,of_okW hw]
    | _ => cases e
  obtain ⟨a,vs,h1,h2,h3⟩ := q4k ok e' t'
  exact ⟨a,vs,h1,h2,h3⟩
theorem q3v (ha : SE C E ta ma) : SI C E (iList C.K ta) (iLst ma) := by
  intro w env σ R ok en s
  refine ha w env σ _ ok en (s.bind.mono fun x w1 ok1 le1 s1 v tv => ?_)
  split at s1
  . rename_i xs e
    obtain ⟨a,vs,rfl,r,t⟩ := q4k ok1 e tv
    refine ⟨a,rfl,⟨vs,r⟩,s1.here ok1 _ ?_⟩
    have key : ∀ w,Ok C w -> Le w1 w -> okW w.h xs (watch x) = true -> ∃ us,SqL C.K w.H a us /\ Trs C w xs us := fun w ok le hw => by
      obtain ⟨a',us,e',h2,h3⟩ := qbf ok1 e tv ok le hw
      cases e'
      exact ⟨us,h2,h3⟩
    refine ⟨fun w i ok le hw hi => ?_,fun w i y v H' ok le hw hy yl => ?_,fun w i ok le hw hi => ?_⟩
    . obtain ⟨us,h2,h3⟩ := key w ok le hw
      exact ⟨us,us[i]'(by rw [<- h3.len]; exact hi),h2,List.getElem?_eq_getElem _⟩
    . obtain ⟨us,h2,h3⟩ := key w ok le hw
      obtain ⟨rfl,hq⟩ := yl
      obtain ⟨q,e1,tq⟩ := h3.get hy
      have := hq us h2
      rw [e1] at this; cases this
      exact ⟨w,rfl,rfl,ok,Le.refl w,tq⟩
    . obtain ⟨us,h2,h3⟩ := key w ok le hw
      exact ⟨us,h2,by rw [<- h3.len]; exact Nat.le_of_eq hi.symm⟩
  . exact s1.elim
theorem qdv {w1 : Wd} {lo : Int} {n : Nat} : ItOk C w1 (Itr lo n) (intsFrom lo n) none := by
  refine ⟨fun w i ok le hw hi => ?_,fun w i y v H' ok le hw hy yl => ?_,fun w i ok le hw hi => ?_⟩
  . unfold intsFrom at hi; rw [List.length_map,List.length_range] at hi; exact hi
  . obtain ⟨rfl,rfl⟩ := yl
    unfold intsFrom at hy
    rw [List.getElem?_map] at hy
    cases e : (List.range n)[i]? with
    | none => rw [e] at hy; cases hy
    | some k =>
      rw [e] at hy
      obtain ⟨h1,h2⟩ := List.getElem?_eq_some_iff.mp e
      rw [List.getElem_range] at h2
      subst h2
      cases hy
      exact ⟨w,rfl,rfl,ok,Le.refl w,by rw [Tr]⟩
  . unfold intsFrom at hi; rw [List.length_map,List.length_range] at hi; exact Nat.le_of_eq hi.symm
theorem q5e (ha : SE C E ta ma) : SI C E (iRng1 (q49 ta tNil)) (q3t ma) := by
  intro w env σ R ok en s
  refine ha w env σ _ ok en (s.bind.mono fun x w1 ok1 le1 s1 v tv => ?_)
  unfold rng1 at s1
  split at s1
  . rename_i n
    rw [Tr] at tv; subst tv
    by_cases hj : n <= 16777216
    . rw [if_pos hj] at s1
      exact ⟨_,rfl,by show (_ : Int) <= (n : Int); omega,by show (n : Int) < _; omega,s1.here ok1 _ qdv⟩
    . rw [if_neg hj] at s1; exact s1.elim
  . rename_i n
    rw [Tr] at tv; subst tv
    by_cases hj : n <= 16777216
    . rw [if_pos hj] at s1
      exact ⟨_,rfl,by rw [Int.negSucc_eq]; omega,by rw [Int.negSucc_eq]; omega,s1.here ok1 _ qdv⟩
    . rw [if_neg hj] at s1; exact s1.elim
  . exact s1.elim
theorem si_str (ha : SE C E ta ma) : SI C E (iStr ta) (iStrA ma) := by
  intro w env σ R ok en s
  refine ha w env σ _ ok en (s.bind.mono fun x w1 ok1 le1 s1 v tv => ?_)
  split at s1
  . rename_i z
    rw [Tr] at tv; subst tv
    refine ⟨z,rfl,s1.here ok1 _ ?_⟩
    have hl : (strA z).length = z.cps.toList.length := by unfold strA; rw [List.length_map]
    refine ⟨fun w i ok le hw hi => ?_,fun w i y v H' ok le hw hy yl => ?_,fun w i ok le hw hi => ?_⟩
    . rw [hl] at hi; exact hi
    . obtain ⟨rfl,c,hc,rfl⟩ := yl
      unfold strA at hy
      rw [List.getElem?_map,hc] at hy
      cases hy
      exact ⟨w,rfl,rfl,ok,Le.refl w,by rw [Tr]⟩
    . rw [hl] at hi; exact hi
  . exact s1.elim
def SGo (C : Ct) (E : XK) (n : Nat) (g : TG) (m : AV -> AEnv -> AH -> Re AEnv) : Prop := ∀ (w : Wd) (x : AV) (v : V) (env : AEnv) (σ : St) (Q : St -> Hp -> Prop),Ok C w -> q27 C w env σ -> Tr C w x v ->
  Sat C E w (m x env w.h) (fun env' w' => ∀ σ',q27 C w' env' σ' -> σ'.length = σ.length -> σ'.drop n = σ.drop n -> Q σ' w'.H) -> g v σ w.H Q
def SGos (C : Ct) (E : XK) (n : Nat) (g : TGs) (m : List AV -> AEnv -> AH -> Re AEnv) : Prop := ∀ (w : Wd) (xs : List AV) (vs : List V) (env : AEnv) (σ : St) (Q : St -> Hp -> Prop),Ok C w -> q27 C w env σ -> Trs C w xs vs ->
  Sat C E w (m xs env w.h) (fun env' w' => ∀ σ',q27 C w' env' σ' -> σ'.length = σ.length -> σ'.drop n = σ.drop n -> Q σ' w'.H) -> g vs σ w.H Q
theorem q2k {i n : Nat} (h : i < n := by decide) : SGo C E n (q7m i) (gN i) := fun w x v env σ Q ok en t s => s.here ok _ (en.set i t) List.length_set (List.drop_set_of_lt h)
theorem q5s {n : Nat} : SGos C E n gNil q62 := by
  intro w xs vs env σ Q ok en t s
  cases xs with
  | nil => rw [Trs] at t; exact ⟨t,Sat.here (P := fun env' w' => ∀ σ',q27 C w' env' σ' -> σ'.length = σ.length -> σ'.drop n = σ.drop n -> Q σ' w'.H) s ok _ en rfl rfl⟩
  | cons x xs => exact s.elim
theorem q2w {n : Nat} {g : TG} {u : TGs} {m : AV -> AEnv -> AH -> Re AEnv} {r : List AV -> AEnv -> AH -> Re AEnv} (hg : SGo C E n g m) (hr : SGos C E n u r) : SGos C E n (qdg g u) (q31 m r) := by
  intro w xs vs env σ Q ok en t s
  cases xs with
  | nil => exact s.elim
  | cons x xs =>
    rw [Trs] at t
    obtain ⟨v,us,rfl,t1,t2⟩ := t
    have s' : Sat C E w ((m x env w.h).bind fun env h => r xs env h) (fun env' w' => ∀ σ',q27 C w' env' σ' -> σ'.length = σ.length -> σ'.drop n = σ.drop n -> Q σ' w'.H) := s
    exact ⟨v,us,rfl,hg w x v env σ _ ok en t1 (s'.bind.mono fun env1 w1 ok1 le1 s1 σ1 en1 l1 d1 => hr w1 xs us env1 σ1 Q ok1 en1 (t2.mono ok le1) (s1.mono fun env2 w2 ok2 le2 s2 σ2 en2 l2 d2 => s2 σ2 en2 (l2.trans l1) (d2.trans d1)))⟩
theorem q7a {n k : Nat} {g : TGs} {m : List AV -> AEnv -> AH -> Re AEnv} (hg : SGos C E n g m) : SGo C E n (gTup C.K k g) (gT k m) := by
  intro w x v env σ Q ok en t s
  cases x with
  | tup xs =>
    rw [Tr] at t
    obtain ⟨a,vs,rfl,hs,ht⟩ := t
    have s' : Sat C E w (if xs.length = k then m xs env w.h else .no) (fun env' w' => ∀ σ',q27 C w' env' σ' -> σ'.length = σ.length -> σ'.drop n = σ.drop n -> Q σ' w'.H) := s
    by_cases hl : xs.length = k
    . rw [if_pos hl] at s'
      exact ⟨a,vs,rfl,hs,by rw [<- ht.len]; exact hl,hg w xs vs env σ Q ok en ht s'⟩
    . rw [if_neg hl] at s'; exact s'.elim
  | _ => exact s.elim
@[simp] def Re.noex {α : Type} : Re α -> Re α
  | .ok x h => .ok x h
  | _ => .no
@[simp] theorem Re.noex_ok {α : Type} (x : α) (h : AH) : (Re.ok x h).noex = .ok x h := rfl
def bEnv (n : Nat) (fv : List Nat) (env : AEnv) : AEnv := List.replicate n none ++ fv.map fun i => (env[i]?).join
def lcL (wt : Option Nat) (all : List AV) (g : AV -> AEnv -> AH -> Re AEnv) (tc : AT) (te : AE) (be : AEnv) : List AV -> List AV -> AH -> Re (List AV)
  | [],acc,h => if okW h all wt = true then .ok acc h else .no
  | x :: xs,acc,h => if okW h all wt = true then (g x be h).bind fun env h => (tc env h).bind fun b h => if b = true then (te env h).bind fun y h => lcL wt all g tc te be xs (acc ++ [y]) h else lcL wt all g tc te be xs acc h else .no
@[simp] def aLcL (n : Nat) (fv : List Nat) (it : AI) (g : AV -> AEnv -> AH -> Re AEnv) (tc : AT) (te : AE) : AA := fun env h => (it env h).bind fun p h => if p.1.length <= sizeLine then (lcL p.2 p.1 g tc te (bEnv n fv env) p.1 [] h).noex else .no
@[simp] def aLc (n : Nat) (fv : List Nat) (it : AI) (g : AV -> AEnv -> AH -> Re AEnv) (tc : AT) (te : AE) : AE := fun env h => (aLcL n fv it g tc te env h).bind fun xs h => .ok (.lst xs) h
@[simp] def aYes : AT := fun _ h => .ok true h
theorem q5m : STs C E tYes aYes := fun w env σ Q ok en s => s.here ok
theorem qh0 {w : Wd} {env : AEnv} {σ : St} (en : q27 C w env σ) (own : List Str) (fv : List (Str × Nat)) : q27 C w (bEnv own.length (fv.map (·.2)) env) (bσ own fv σ) := by
  unfold bEnv bσ q7h
  refine ⟨by simp,fun i x h => ?_⟩
  by_cases hi : i < own.length
  . rw [List.getElem?_append_left (by simpa using hi),List.getElem?_replicate,if_pos hi] at h
    cases h
  . rw [List.getElem?_append_right (by simpa using hi),List.length_replicate,List.getElem?_map,List.getElem?_map] at h
    rw [List.getElem?_append_right (by simpa using hi),List.length_map,List.getElem?_map]
    cases e : fv[i - own.length]? with
    | none => rw [e] at h; cases h
    | some p =>
      rw [e] at h
      have h : (env[p.2]?).join = some x := by simpa using h
      have h' : env[p.2]? = some (some x) := by
        cases q : env[p.2]? with
        | none => rw [q] at h; cases h
        | some o => rw [q] at h; rw [show o = some x from h]
      obtain ⟨v,hv,tv⟩ := en.at_ p.2 x h'
      exact ⟨v,by simp [hv],tv⟩
theorem Sat.nb {α β γ : Type} {w1 : Wd} {X : Re α} {g : α -> AH -> Re β} {f : β -> AH -> Re γ} {P : γ -> Wd -> Prop} (s : Sat C E w1 ((X.bind g).noex.bind f) P) : Sat C E0 w1 X (fun x w' => Sat C E w1 ((g x w'.h).noex.bind f) P) := by
  cases X with
  | ok x h => exact fun w' e ok le => by subst e; exact s
  | ex c h => exact s.elim
  | no => exact s
theorem lc_sim {own : List Str} {fv : List (Str × Nat)} {wi : TI} {it : AI} {g : TG} {mg : AV -> AEnv -> AH -> Re AEnv} {tc : TT} {mc : AT} {te : TE} {me : AE} (hi : SI C E wi it) (hg : SGo C E0 own.length g mg) (hc : STs C E0 tc mc) (he : SE C E0 te me)
    {w : Wd} {env : AEnv} {σ : St} {Q : VK} (ok : Ok C w) (en : q27 C w env σ) {f : List AV -> AH -> Re AV} {P : AV -> Wd -> Prop} (s : Sat C E w ((aLcL own.length (fv.map (·.2)) it mg mc me env w.h).bind f) P)
    (k : ∀ (w0 w' : Wd) xs D vs,Ok C w0 -> Le w w0 -> w0.H D = none -> Ok C w' -> Le w0 w' -> Lone w' D vs -> Trs C w' xs vs -> Sat C E w0 (f xs w'.h) P -> Q (.ref D) w'.H) : tLc own fv wi g tc te σ w.H Q := by
  have s0 : Sat C E w ((it env w.h).bind fun p h => (if p.1.length <= sizeLine then (lcL p.2 p.1 mg mc me (bEnv own.length (fv.map (·.2)) env) p.1 [] h).noex else .no : Re (List AV)).bind f) P := by
    unfold aLcL at s
    revert s
    cases it env w.h <;> exact fun s => s
  refine hi w env σ _ ok en (s0.bind.mono fun p w1 ok1 le1 s1 J hJ D hD => ?_)
  obtain ⟨all,wt⟩ := p
  by_cases hsz : all.length <= sizeLine
  . have s1 : Sat C E w1 ((if all.length <= sizeLine then (lcL wt all mg mc me (bEnv own.length (fv.map (·.2)) env) all [] w1.h).noex else .no : Re (List AV)).bind f) P := s1
    rw [if_pos hsz] at s1
    have en1 := en.mono ok le1
    refine ⟨fun i m H => m = all.length - i /\ i <= all.length /\ ∃ w2 acc ys,w2.H = H /\ Ok C w2 /\ Le w1 w2 /\ Lone w2 D ys /\ Trs C w2 acc ys /\ acc.length <= i /\ Sat C E w1 ((lcL wt all mg mc me (bEnv own.length (fv.map (·.2)) env) (all.drop i) acc w2.h).noex.bind f) P,⟨all.length,by simp,Nat.zero_le _,w1.fresh D (.lst []),[],[],rfl,ok1.fresh hD _,ok1.q3w hD _,?_, .nil,Nat.zero_le _,s1⟩,?_⟩
    . exact ⟨q2t,fun z => ok1.fzt D z hD,fun z => ok1.th D (ok1.liveH z) hD,fun z => ok1.th D z hD⟩
    . rintro i m H ⟨rfl,hi,w2,acc,ys,rfl,ok2,le2,L2,t2,hal,s3⟩
      by_cases hlt : i < all.length
      . right
        have hx : all[i]? = some all[i] := List.getElem?_eq_getElem hlt
        rw [List.drop_eq_getElem_cons hlt,lcL] at s3
        by_cases hw : okW w2.h all wt = true
        . rw [if_pos hw] at s3
          refine ⟨hJ.go w2 i ok2 le2 hw hlt,fun v H5 => ∃ w5 acc' ys,w5.H = H5 /\ Ok C w5 /\ Le w1 w5 /\ Lone w5 D ys /\ (∃ y,Tr C w5 y v /\ Trs C w5 acc' ys /\ acc'.length <= i /\ Sat C E w1 ((lcL wt all mg mc me (bEnv own.length (fv.map (·.2)) env) (all.drop (i + 1)) (acc' ++ [y]) w5.h).noex.bind f) P),
            fun H4 => ∃ w4 acc' ys,w4.H = H4 /\ Ok C w4 /\ Le w1 w4 /\ Lone w4 D ys /\ Trs C w4 acc' ys /\ acc'.length <= i /\ Sat C E w1 ((lcL wt all mg mc me (bEnv own.length (fv.map (·.2)) env) (all.drop (i + 1)) acc' w4.h).noex.bind f) P,?_,?_,?_⟩
          . rintro v H5 ⟨w5,acc',ys',rfl,ok5,le5,L5,y,ty,t5,hal5,s5⟩
            refine ⟨ys',L5.at_,?_,all.length - (i + 1),by omega,rfl,hlt,w5.poke D (.lst (ys' ++ [v])),acc' ++ [y],ys' ++ [v],rfl,ok5.poke L5 _,le5.poke hD,?_,(t5.app (.one ty)).poke L5 _,?_,s5⟩
            . have := t5.len; omega
            . exact ⟨q2t,L5.nf,L5.nl,L5.nr⟩
            . rw [List.length_append,List.length_singleton]; omega
          . rintro H4 ⟨w4,acc',ys',rfl,ok4,le4,L4,t4,hal4,s4⟩
            exact ⟨all.length - (i + 1),by omega,rfl,hlt,w4,acc',ys',rfl,ok4,le4,L4,t4,by omega,s4⟩
          . intro v H' yl
            obtain ⟨w3,rfl,e3,ok3,le3,t3⟩ := hJ.yld w2 i _ v H' ok2 le2 hw hx yl
            have en3 := qh0 ((en1.mono ok1 le2).mono ok2 le3) own fv
            rw [<- e3] at s3
            refine hg w3 _ v _ _ _ ok3 en3 t3 ((Sat.nb s3).le (le2.trans le3) |>.mono fun env4 w4 ok4 le4 s4 σ4 en4 l4 d4 => ⟨?_,?_⟩)
            . refine ⟨σ4.take own.length,?_,?_⟩
              . have hl : (bσ own fv σ).length = own.length + fv.length := by unfold bσ q7h; simp
                rw [List.length_take]; omega
              . have hd : (bσ own fv σ).drop own.length = q7h fv σ := by
                  unfold bσ
                  rw [List.drop_append_of_le_length (by simp)]
                  simp
                rw [<- hd, <- d4,List.take_append_drop]
            . have le14 : Le w1 w4 := le2.trans (le3.trans le4)
              refine hc w4 env4 σ4 _ ok4 en4 ((Sat.nb s4).le le14 |>.mono fun b w5 ok5 le5 s5 => ?_)
              have L5 : Lone w5 D ys := L2.le (le3.trans (le4.trans le5))
              have t5 : Trs C w5 acc ys := t2.mono ok2 (le3.trans (le4.trans le5))
              cases b with
              | true =>
                refine iteT (he w5 env4 σ4 _ ok5 (en4.mono ok4 le5) ?_)
                have s5' : Sat C E w1 (((me env4 w5.h).bind fun y h => lcL wt all mg mc me (bEnv own.length (fv.map (·.2)) env) (all.drop (i + 1)) (acc ++ [y]) h).noex.bind f) P := by simpa using s5
                refine (Sat.nb s5').le (le14.trans le5) |>.mono fun y w6 ok6 le6 s6 q tq => ?_
                exact ⟨w6,acc,ys,rfl,ok6,le14.trans (le5.trans le6),L5.le le6,y,tq,t5.mono ok5 le6,hal,s6⟩
              | false =>
                refine iteF ⟨w5,acc,ys,rfl,ok5,le14.trans le5,L5,t5,hal,by simpa using s5⟩
        . rw [if_neg hw] at s3; exact s3.elim
      . left
        have hd : all.drop i = [] := List.drop_eq_nil_of_le (by omega)
        rw [hd,lcL] at s3
        by_cases hw : okW w2.h all wt = true
        . rw [if_pos hw] at s3
          exact ⟨hJ.stop w2 i ok2 le2 hw (Nat.le_antisymm hi (Nat.le_of_not_lt hlt)),k w1 w2 acc D ys ok1 le1 hD ok2 le2 L2 t2 s3⟩
        . rw [if_neg hw] at s3; exact s3.elim
  . have s1 : Sat C E w1 ((if all.length <= sizeLine then (lcL wt all mg mc me (bEnv own.length (fv.map (·.2)) env) all [] w1.h).noex else .no : Re (List AV)).bind f) P := s1
    rw [if_neg hsz] at s1
    exact s1.elim
theorem Le.keep {w0 w : Wd} {D : Addr} (le : Le w0 w) (h0 : w0.H D = none) : Le w0 (w.keep D) :=
  ⟨le.pre,fun a h => .inr (le.fz a h),fun b hb o r => (le.ks b hb o r).elim .inl fun z => .inr ⟨.inr z.1,z.2⟩,fun a h => h.elim (fun z => .inr (.inl (z ▸ h0))) (le.fn a),le.nw,le.nn,le.rn⟩
section
variable {own : List Str} {fv : List (Str × Nat)} {wi : TI} {it : AI} {g : TG} {mg : AV -> AEnv -> AH -> Re AEnv} {tc : TT} {mc : AT} {te : TE} {me : AE}
theorem q5z (hi : SI C E wi it) (hg : SGo C E0 own.length g mg) (hc : STs C E0 tc mc) (he : SE C E0 te me) : SE C E (tLc own fv wi g tc te) (aLc own.length (fv.map (·.2)) it mg mc me) := fun w env σ Q ok en s =>
  lc_sim hi hg hc he ok en s fun w0 w' xs D vs ok0 le0 h0 ok' le' L t s' => s' (w'.keep D) rfl (ok'.keep L) (le'.keep h0) _ (by rw [Tr]; exact ⟨D,vs,rfl, .inl rfl, .inl L.at_,t.keep⟩)
end
end
end Z
namespace Z
open PySem L2
abbrev AF := List AV -> AH -> Re AV
def spZ (C : Ct) (n : Nat) (m : AF) : Sp := fun vs H Q E => ∃ (w : Wd) (xs : List AV),w.H = H /\ Ok C w /\ Trs C w xs vs /\ xs.length = n /\ Sat C E w (m xs w.h) (want C Q)
theorem q20 {C : Ct} {n : Nat} {m : AF} {vs : List V} {H : Hp} {Q : VK} {E : XK} (h : spZ C n m vs H Q E) : vs.length = n := by
  obtain ⟨w,xs,_,_,t,hl,_⟩ := h
  rw [<- t.len]; exact hl
@[simp] def SRe.out : SRe -> Re AV
  | .rt x h => .ok x h
  | .nx _ h => .ok .non h
  | .ex c h => .ex c h
  | _ => .no
@[simp] theorem SRe.out_rt (x : AV) (h : AH) : (SRe.rt x h).out = .ok x h := rfl
@[simp] theorem SRe.out_nx (e : AEnv) (h : AH) : (SRe.nx e h).out = .ok .non h := rfl
@[simp] theorem SRe.out_ex (c : Nat) (h : AH) : (SRe.ex c h).out = .ex c h := rfl
@[simp] def fnZ (N : Nat) (body : AS) : AF := fun xs h => (body (xs.map some ++ List.replicate (N - xs.length) none) h).out
section
variable {C : Ct} {E : XK}
theorem qg5 {w : Wd} {N : List Str} {xs : List AV} {vs : List V} (t : Trs C w xs vs) : q27 C w (xs.map some ++ List.replicate (N.length - xs.length) none) (L2.start N vs) := by
  unfold L2.start
  have hl := t.len
  refine ⟨by simp [hl],fun i x h => ?_⟩
  by_cases hi : i < xs.length
  . rw [List.getElem?_append_left (by simpa using hi),List.getElem?_map] at h
    cases e : xs[i]? with
    | none => rw [e] at h; cases h
    | some y =>
      rw [e] at h
      cases h
      obtain ⟨v,hv,tv⟩ := t.get e
      exact ⟨v,by rw [List.getElem?_append_left (by simp; omega),List.getElem?_map,hv]; rfl,tv⟩
  . rw [List.getElem?_append_right (by simpa using hi),List.getElem?_replicate] at h
    split at h <;> cases h
theorem q1z {N : List Str} {n k : Nat} {t : TS} {body : AS} {vs : List V} {H : Hp} {Q : VK} (hs : SS C E t body) (hN : N.length = k) (h : spZ C n (fnZ k body) vs H Q E) : t { nx := fun _ H' => Q .non H',rt := Q } (L2.start N vs) H := by
  obtain ⟨w,xs,rfl,ok,tr,hl,s⟩ := h
  subst hN
  refine hs w _ _ _ ok (qg5 (N := N) tr) ?_
  unfold fnZ at s
  revert s
  cases body (xs.map some ++ List.replicate (N.length - xs.length) none) w.h with
  | rt x h => exact fun s w' v e ok' le tv => s w' e ok' le v tv
  | nx env h => exact fun s w' σ e ok' le en => s w' e ok' le .non (by rw [Tr])
  | ex c h => exact fun s => s
  | bk env h => exact fun s => s.elim
  | ct env h => exact fun s => s.elim
  | no => exact fun s => s.elim
def beqFs : List (Nat × AV) -> List (Nat × AV) -> Bool
  | [],[] => true
  | p :: r,q :: s => (p.1 == q.1) && beqA p.2 q.2 && beqFs r s
  | _,_ => false
def beqC : Cell -> Cell -> Bool
  | .dead, .dead => true
  | .lst a, .lst b => q4b a b
  | .dk k a, .dk l b => decide (k = l) && q4b a b
  | .ins c f, .ins d g => (c == d) && beqFs f g
  | _,_ => false
theorem q28 {n : Nat} {m : AF} {t : TA} {ma : AA} (ha : SA C E n t ma) : SE C E (qaz (spZ C n m) [] E t) (aC m ma) := fun w env σ Q ok en s =>
  ha.run ok en s fun xs w1 hl ok1 le1 s1 vs tv => by
    rw [List.append_nil]
    exact ⟨w1,xs,rfl,ok1,tv,hl,s1⟩
@[simp] def q5g (h : AH) : AV -> Option (Nat × List (Nat × AV))
  | .ref k => match h[k]? with | some (.ins c fs) => some (c,fs) | _ => none
  | _ => none
@[simp] def q29 (c : Nat) (m : AF) (o : AE) (ma : AA) : AE := fun env h => (o env h).bind fun x h => match q5g h x with
  | some (d,_) => if d = c then (ma env h).bind fun xs h => m (x :: xs) h else .no
  | none => .no
@[simp] def q66 (c : Nat) (m : AF) (ma : AA) : AE := fun env h => (ma env h).bind fun xs h => (m (.ref h.length :: xs) (h ++ [.ins c []])).bind fun y h' => match y with | .non => .ok (.ref h.length) h' | _ => .no
theorem q7l {w : Wd} {x : AV} {v : V} {c : Nat} {fs : List (Nat × AV)} (ok : Ok C w) (e : q5g w.h x = some (c,fs)) (t : Tr C w x v) : ∃ k a dx fvs,x = .ref k /\ v = .ref a /\ w.h[k]? = some (.ins c fs) /\ w.ρ[k]? = some a /\ w.H a = some (.ins (C.cl c) dx fvs) /\ Flds C w fs fvs /\ (∀ p ∈ fs,p.1 ∈ C.fl c) := by
  cases x with
  | ref k =>
    rw [Tr] at t
    obtain ⟨a,rfl,ea⟩ := t
    have e : (match w.h[k]? with | some (.ins c fs) => some (c,fs) | _ => none) = some (c,fs) := e
    split at e
    . rename_i c' fs' eh
      cases e
      obtain ⟨hf,dx,fvs,hH,ht⟩ := ok.cell k _ a eh ea
      exact ⟨k,a,dx,fvs,rfl,rfl,eh,ea,hH,ht,hf.1⟩
    . cases e
  | _ => cases e
theorem Flds.lookup {w : Wd} {c : Nat} : ∀ {fs : List (Nat × AV)} {us : List (Str × V)} {i : Nat},Flds C w fs us -> (∀ p ∈ fs,p.1 ∈ C.fl c) -> i ∈ C.fl c -> match fs.lookup i with | some x => ∃ v,us.lookup (C.fn i) = some v /\ Tr C w x v | none => us.lookup (C.fn i) = none
  | [],us,i,h,_,_ => by
    have : us = [] := h
    subst this; rfl
  | (j,y) :: r,us,i,h,hf,hi => by
    obtain ⟨v,us,rfl,t,hr⟩ := h
    have hj : j ∈ C.fl c := hf (j,y) (by simp)
    have ih := Flds.lookup (i := i) hr (fun p hp => hf p (List.mem_cons_of_mem _ hp)) hi
    by_cases e : i = j
    . subst e
      simp only [List.lookup,beq_self_eq_true]
      exact ⟨v,rfl,t⟩
    . have e1 : (i == j) = false := by simpa using e
      have e2 : (C.fn i == C.fn j) = false := by
        rw [beq_eq_false_iff_ne]
        exact fun z => e (C.inj c i j hi hj z)
      simp only [List.lookup,e1,e2]
      exact ih
theorem Flds.q9p {w : Wd} {c : Nat} {m : Str} (hm : ∀ i ∈ C.fl c,C.fn i ≠ m) : ∀ {fs : List (Nat × AV)} {us : List (Str × V)},Flds C w fs us -> (∀ p ∈ fs,p.1 ∈ C.fl c) -> us.lookup m = none
  | [],us,h,_ => by
    have : us = [] := h
    subst this; rfl
  | (j,y) :: r,us,h,hf => by
    obtain ⟨v,us,rfl,t,hr⟩ := h
    have e2 : (m == C.fn j) = false := by
      rw [beq_eq_false_iff_ne]
      exact fun z => hm j (hf (j,y) (by simp)) z.symm
    simp only [List.lookup,e2]
    exact Flds.q9p hm hr (fun p hp => hf p (List.mem_cons_of_mem _ hp))
theorem q22 {c n : Nat} {m : AF} {ta : TE} {o : AE} {t : TA} {ma : AA} {mn : Str} (hm : ∀ i ∈ C.fl c,C.fn i ≠ mn) (ho : SE C E ta o) (ha : SA C E n t ma) : SE C E (qb3 (C.cl c) mn (spZ C (n + 1) m) [] E ta t) (q29 c m o ma) := by
  intro w env σ Q ok en s
  refine ho w env σ _ ok en (s.bind.mono fun x w1 ok1 le1 s1 v tv => ?_)
  split at s1
  . rename_i d fs e
    by_cases hd : d = c
    . rw [if_pos hd] at s1
      subst hd
      obtain ⟨k,a,dx,fvs,rfl,rfl,eh,ea,hH,hF,hf⟩ := q7l ok1 e tv
      refine ⟨a,dx,fvs,rfl,hH,hF.q9p hm hf,ha.run ok1 (en.mono ok le1) s1 fun xs w2 hl ok2 le2 s2 vs tvs => ?_⟩
      rw [List.append_nil]
      exact ⟨w2, .ref k :: xs,rfl,ok2, .cons (tv.mono ok1 le2) tvs,by rw [List.length_cons,hl],s2⟩
    . rw [if_neg hd] at s1; exact s1.elim
  . exact s1.elim
theorem q4o {c n : Nat} {m : AF} {t : TA} {ma : AA} (hg : C.fl c = C.fg c) (ha : SA C E n t ma) : SE C E (qd8 (C.cl c) (spZ C (n + 1) m) [] E t) (q66 c m ma) := by
  intro w env σ Q ok en s
  refine ha.run ok en s fun xs w1 hl ok1 le1 s1 vs tv x dx hx hdx hne => ?_
  rw [List.append_nil]
  have ok2 := ok1.fresh hdx (.own x)
  have le2 := ok1.q3w hdx (.own x)
  have hx2 : (w1.fresh dx (.own x)).H x = none := by show upd w1.H dx (.own x) x = none; rw [q21 (Ne.symm hne)]; exact hx
  have ok3 : Ok C ((w1.fresh dx (.own x)).cell x (.ins (C.cl c) dx []) (.ins c [])) := ok2.qa0 hx2 ⟨⟨fun p hp => (by cases hp),hg⟩,dx,[],q2t,rfl⟩
  have le3 := ok2.q77 hx2 (.ins (C.cl c) dx []) (.ins c [])
  have le13 := le2.trans le3
  refine ⟨_, .ref w1.h.length :: xs,rfl,ok3, .cons ok2.q7g (tv.mono ok1 le13),by rw [List.length_cons,hl],?_⟩
  have s2 : Sat C E ((w1.fresh dx (.own x)).cell x (.ins (C.cl c) dx []) (.ins c [])) ((m (.ref w1.h.length :: xs) (w1.h ++ [.ins c []])).bind fun y h' => match y with | .non => .ok (.ref w1.h.length) h' | _ => .no) (want C Q) := Sat.le le13 s1
  refine s2.bind.mono fun y w4 ok4 le4 s4 v tv4 => ?_
  cases y with
  | non => exact ⟨by rw [Tr] at tv4; exact tv4,s4.here ok4 _ (ok2.q7g.mono ok3 le4)⟩
  | _ => exact s4.elim
@[simp] def fFld (i : Nat) : AV -> AH -> Re AV := fun x h => match q5g h x with
  | some (_,fs) => match fs.lookup i with | some y => .ok y h | none => .no
  | none => .no
@[simp] def aFld (i : Nat) (a : AE) : AE := a1 (fFld i) a
@[simp] def putA (i : Nat) (x : AV) : List (Nat × AV) -> List (Nat × AV)
  | [] => [(i,x)]
  | (j,y) :: r => if j = i then (j,x) :: r else (j,y) :: putA i x r
@[simp] def q9e (fl : Nat -> List Nat) (i : Nat) (o x : AV) (h : AH) : Option AH := match o with
  | .ref k => match h[k]? with
    | some (.ins c fs) => if (fl c).contains i = true /\ fs.length < 1000 then some (h.set k (.ins c (putA i x fs))) else none
    | _ => none
  | _ => none
@[simp] def q2z (fl : Nat -> List Nat) (i : Nat) (o v : AE) : AS := fun env h => (v env h).to fun x h => (o env h).to fun a h => match q9e fl i a x h with | some h => .nx env h | none => .no
@[simp] def clsAt (h : AH) (a : AV) : Nat := match q5g h a with | some (c,_) => c | none => 0
@[simp] def q6h (fl : Nat -> List Nat) (i : Nat) (f : AV -> AV -> AH -> Re AV) (o v : AE) : AS := fun env h => (o env h).to fun a h0 => (fFld i a h0).to fun x h => (v env h).to fun y h => (f x y h).to fun z h => if clsAt h a = clsAt h0 a then (match q9e fl i a z h with | some h => .nx env h | none => .no) else .no
theorem lookup_mem {i : Nat} {y : AV} : ∀ {fs : List (Nat × AV)},fs.lookup i = some y -> ∃ p ∈ fs,p.1 = i
  | [],h => by cases h
  | (j,z) :: r,h => by
    by_cases e : i = j
    . exact ⟨(j,z),by simp,e.symm⟩
    . have e1 : (i == j) = false := by simpa using e
      simp only [List.lookup,e1] at h
      obtain ⟨p,hp,q⟩ := lookup_mem h
      exact ⟨p,List.mem_cons_of_mem _ hp,q⟩
theorem qcb {w : Wd} {i : Nat} {x : AV} {v : V} {P : AV -> Wd -> Prop} (ok : Ok C w) (t : Tr C w x v) (s : Sat C E w (fFld i x w.h) P) : ∃ k a c dx fs fvs y q,x = .ref k /\ v = .ref a /\ w.h[k]? = some (.ins c fs) /\ w.ρ[k]? = some a /\ w.H a = some (.ins (C.cl c) dx fvs) /\ Cls C.K (C.cl c) /\ q1x C.K (C.cl c) (C.fn i) /\ fvs.lookup (C.fn i) = some q /\ Tr C w y q /\ P y w := by
  unfold fFld at s
  split at s
  . rename_i c fs e
    obtain ⟨k,a,dx,fvs,rfl,rfl,eh,ea,hH,hF,hf⟩ := q7l ok e t
    split at s
    . rename_i y ey
      obtain ⟨p,hp,rfl⟩ := lookup_mem ey
      have hi := hf p hp
      have := hF.lookup hf hi
      rw [ey] at this
      obtain ⟨q,e1,tq⟩ := this
      obtain ⟨h1,h2⟩ := C.fld c p.1 hi
      exact ⟨k,a,c,dx,fs,fvs,y,q,rfl,rfl,eh,ea,hH,h1,h2,e1,tq,s.here ok⟩
    . exact s.elim
  . exact s.elim
theorem q1w {i : Nat} {f : Str} {ta : TE} {a : AE} (hf : f = C.fn i) (ha : SE C E ta a) : SE C E (tFld C.K ta f) (aFld i a) := by
  subst hf
  intro w env σ Q ok en s
  refine ha w env σ _ ok en (s.bind.mono fun x w1 ok1 le1 s1 v tv => ?_)
  obtain ⟨k,a,c,dx,fs,fvs,y,q,rfl,rfl,eh,ea,hH,h1,h2,e1,tq,p⟩ := qcb ok1 tv s1
  exact ⟨a,C.cl c,dx,fvs,q,rfl,hH,h1,h2,e1,p q tq⟩
theorem Flds.put {w : Wd} {c i : Nat} {x : AV} {v : V} (t : Tr C w x v) (hi : i ∈ C.fl c) : ∀ {fs : List (Nat × AV)} {us : List (Str × V)},Flds C w fs us -> (∀ p ∈ fs,p.1 ∈ C.fl c) -> Flds C w (putA i x fs) (putF (C.fn i) v us)
  | [],us,h,_ => by
    have : us = [] := h
    subst this
    exact ⟨v,[],rfl,t,rfl⟩
  | (j,y) :: r,us,h,hf => by
    obtain ⟨u,us,rfl,tu,hr⟩ := h
    have hj : j ∈ C.fl c := hf (j,y) (by simp)
    unfold putA putF
    by_cases e : j = i
    . subst e
      rw [if_pos rfl,if_pos rfl]
      exact ⟨v,us,rfl,t,hr⟩
    . rw [if_neg e,if_neg (fun z => e (C.inj c j i hj hi z))]
      exact ⟨u,_,rfl,tu,Flds.put t hi hr (fun p hp => hf p (List.mem_cons_of_mem _ hp))⟩
theorem qco {c i : Nat} {x : AV} (hi : i ∈ C.fl c) : ∀ {fs : List (Nat × AV)},(∀ p ∈ fs,p.1 ∈ C.fl c) -> ∀ p ∈ putA i x fs,p.1 ∈ C.fl c
  | [],_,p,hp => by
    have : p = (i,x) := by simpa [putA] using hp
    rw [this]; exact hi
  | (j,y) :: r,hf,p,hp => by
    unfold putA at hp
    split at hp
    . next e =>
      rcases List.mem_cons.mp hp with e1 | e1
      . rw [e1]; exact hf (j,y) (by simp)
      . exact hf p (List.mem_cons_of_mem _ e1)
    . rcases List.mem_cons.mp hp with e1 | e1
      . rw [e1]; exact hf (j,y) (by simp)
      . exact qco hi (fun q hq => hf q (List.mem_cons_of_mem _ hq)) p e1
theorem Flds.len {w : Wd} : ∀ {fs : List (Nat × AV)} {us : List (Str × V)},Flds C w fs us -> fs.length = us.length
  | [],us,h => by
    have : us = [] := h
    subst this; rfl
  | p :: r,us,h => by
    obtain ⟨v,us,rfl,t,hr⟩ := h
    rw [List.length_cons,List.length_cons,Flds.len hr]
theorem qaj {w : Wd} {i : Nat} {o x : AV} {u v : V} {h' : AH} (ok : Ok C w) (e : q9e C.fg i o x w.h = some h') (to : Tr C w o u) (tx : Tr C w x v) :
    ∃ k a c fs dx fvs,o = .ref k /\ w.h[k]? = some (.ins c fs) /\ u = .ref a /\ w.H a = some (.ins (C.cl c) dx fvs) /\ Cls C.K (C.cl c) /\ q1x C.K (C.cl c) (C.fn i) /\ fvs.length < 1000 /\ ∃ w',w'.h = h' /\ w'.H = upd w.H a (.ins (C.cl c) dx (putF (C.fn i) v fvs)) /\ Ok C w' /\ Le w w' := by
  unfold q9e at e
  split at e
  . rename_i k
    split at e
    . rename_i c fs eh
      split at e
      . rename_i hc
        cases e
        rw [Tr] at to
        obtain ⟨a,rfl,ea⟩ := to
        obtain ⟨hf,dx,fvs,hH,hF⟩ := ok.cell k _ a eh ea
        have hi : i ∈ C.fl c := by rw [hf.2]; simpa using hc.1
        obtain ⟨h1,h2⟩ := C.fld c i hi
        have hl : Live w a := ⟨k,_,eh,(by intro z; cases z),ea⟩
        have le := ok.q96 ea hl (.ins c (putA i x fs)) (.ins (C.cl c) dx (putF (C.fn i) v fvs))
        exact ⟨k,a,c,fs,dx,fvs,rfl,eh,rfl,hH,h1,h2,by rw [<- hF.len]; exact hc.2,w.put k (.ins c (putA i x fs)) a (.ins (C.cl c) dx (putF (C.fn i) v fvs)),rfl,rfl,ok.put ea hl (c := .ins c (putA i x fs)) ⟨⟨qco hi hf.1,hf.2⟩,dx,_,q2t,(hF.put tx hi hf.1).mono ok le⟩,le⟩
      . cases e
    . cases e
  . cases e
theorem q2l {i : Nat} {f : Str} {ta tv : TE} {o v : AE} (hf : f = C.fn i) (ho : SE C E ta o) (hv : SE C E tv v) : SS C E (sFld C.K ta tv f) (q2z C.fg i o v) := by
  subst hf
  intro w env σ D ok en s
  refine hv w env σ _ ok en (Sat.mono (Sat.to s) fun x w1 ok1 le1 s1 u tu => ho w1 env σ _ ok1 (en.mono ok le1) (Sat.mono (Sat.to s1) fun a w2 ok2 le2 s2 u2 tu2 => ?_))
  split at s2
  . rename_i h' e
    obtain ⟨_,a,c,_,dx,fvs,_,_,e1,hH,h1,h2,hl,w',e3,e4,o',l'⟩ := qaj ok2 e tu2 (tu.mono ok1 le2)
    refine ⟨a,C.cl c,dx,fvs,e1,hH,h1,h2,hl,?_⟩
    have := s2 w' σ e3 o' l' (en.mono ok (le1.trans (le2.trans l')))
    rw [e4] at this
    exact this
  . exact s2.elim
theorem q7x {i : Nat} {f : Str} {ta tv : TE} {o v : AE} {r : R2} {g : AV -> AV -> AH -> Re AV} (hf : f = C.fn i) (hr : S2 C E r g) (ho : SE C E ta o) (hv : SE C E tv v) : SS C E (qcn C.K ta tv r f) (q6h C.fg i g o v) := by
  subst hf
  intro w env σ D ok en s
  refine ho w env σ _ ok en (Sat.mono (Sat.to s) fun a w1 ok1 le1 s1 u tu => ?_)
  obtain ⟨k,a',c,dx,fs,fvs,y,q,rfl,rfl,eh,ea,hH,h1,h2,e1,tq,p⟩ := qcb ok1 tu (Sat.to s1)
  refine ⟨a',C.cl c,dx,fvs,q,rfl,hH,h1,h2,e1,hv w1 env σ _ ok1 (en.mono ok le1) (Sat.mono (Sat.to p) fun z w2 ok2 le2 s2 b tb => hr w2 y z q b _ ok2 (tq.mono ok1 le2) tb (Sat.mono (Sat.to s2) fun x w3 ok3 le3 s3 d td => ?_))⟩
  split at s3
  . rename_i hc
    split at s3
    . rename_i h' e
      have ec : clsAt w1.h (.ref k) = c := by simp only [clsAt,q5g,eh]
      rw [ec] at hc
      obtain ⟨k2,a2,c2,fs2,dx2,fvs2,ek,eh2,e1',hH2,g1,g2,hl,w',e3,e4,o',l'⟩ := qaj ok3 e (tu.mono ok1 (le2.trans le3)) td
      cases e1'
      cases ek
      have hc2 : c2 = c := by
        rw [<- hc]
        simp only [clsAt,q5g,eh2]
      subst hc2
      refine ⟨dx2,fvs2,hH2,hl,?_⟩
      have := s3 w' σ e3 o' l' (en.mono ok (le1.trans (le2.trans (le3.trans l'))))
      rw [e4] at this
      exact this
    . exact s3.elim
  . exact s3.elim
end
end Z
namespace Z
open PySem L2
@[simp] def fLen : List AV -> AH -> Re AV
  | [.str z],h => if z.length <= sizeLine then .ok (.int z.length) h else .no
  | [x],h => match q61 h x with | some xs => .ok (.int xs.length) h | none => .no
  | _,_ => .no
@[simp] def fMin2 : List AV -> AH -> Re AV
  | [.int i, .int j],h => .ok (.int (if j < i then j else i)) h
  | _,_ => .no
@[simp] def qau : List AV -> AH -> Re AV
  | [.int i],h => .ok (.int i) h
  | [.bl b],h => .ok (.int (if b then 1 else 0)) h
  | _,_ => .no
@[simp] def q3y : List AV -> AH -> Re AV
  | [.int i],h => if i.natAbs.log2 < 1920 then .ok (.str (toString i)) h else .no
  | _,_ => .no
@[simp] def fList : List AV -> AH -> Re AV
  | [x],h => match q61 h x with | some xs => .ok (.lst xs) h | none => .no
  | _,_ => .no
@[simp] def q68 : List AV -> AH -> Re AV
  | [x],h => match q61 h x with | some xs => .ok (.tup xs) h | none => .no
  | _,_ => .no
@[simp] def fAll : List AV -> AH -> Re AV
  | [x],h => match (q65 h x).bind q5l with | some bs => .ok (.bl (bs.all id)) h | none => .no
  | _,_ => .no
@[simp] def fAny : List AV -> AH -> Re AV
  | [x],h => match (q65 h x).bind q5l with | some bs => .ok (.bl (bs.any id)) h | none => .no
  | _,_ => .no
def qb2 (ns : List Int) : Bool := ns.all (fun n => decide (-(2 ^ 32) <= n) && decide (n <= 2 ^ 32)) && decide (ns.length <= 100000)
@[simp] def fSum : List AV -> AH -> Re AV
  | [x],h => match (q65 h x).bind intsOf with | some ns => if qb2 ns = true then .ok (.int ns.sum) h else .no | none => .no
  | _,_ => .no
inductive Ty where | int | bool | str | list | tuple | dict | none
  deriving DecidableEq
def Ty.nm : Ty -> String
  | .int => "int" | .bool => "bool" | .str => "str" | .list => "list" | .tuple => "tuple" | .dict => "dict" | .none => "NoneType"
@[simp] def tyA (h : AH) : AV -> Option Ty
  | .non => some .none
  | .bl _ => some .bool
  | .int _ => some .int
  | .str _ => some .str
  | .tup _ => some .tuple
  | .lst _ => some .list
  | .dk _ _ => some .dict
  | .kst _ => Option.none
  | .xc _ => Option.none
  | .ref k => match h[k]? with | some (.lst _) => some .list | some (.dk _ _) => some .dict | _ => Option.none
@[simp] def isiB (a b : Ty) : Bool := decide (a = b) || (decide (a = .bool) && decide (b = .int))
@[simp] def fIsi (b : Ty) : AV -> AH -> Re AV := fun x h => match tyA h x with | some a => .ok (.bl (isiB a b)) h | Option.none => .no
@[simp] def qdh (bs : List Ty) : AV -> AH -> Re AV := fun x h => match tyA h x with | some a => .ok (.bl (bs.any (isiB a))) h | Option.none => .no
section
variable {C : Ct} {E : XK}
theorem q4v {w : Wd} {x : AV} {vs : List V} (t : Trs C w [x] vs) : ∃ v,vs = [v] /\ Tr C w x v := by
  rw [Trs] at t
  obtain ⟨v,us,rfl,t1,t2⟩ := t
  rw [Trs] at t2; subst t2
  exact ⟨v,rfl,t1⟩
theorem len1 {xs : List AV} (h : xs.length = 1) : ∃ x,xs = [x] := by
  match xs,h with
  | [x],_ => exact ⟨x,rfl⟩
theorem q6r : SC C E 1 (rLen C.K) fLen := by
  intro w xs vs Q hl ok t s
  obtain ⟨x,rfl⟩ := len1 hl
  obtain ⟨v,rfl,tv⟩ := q4v t
  by_cases hx : ∃ z,x = .str z
  . obtain ⟨z,rfl⟩ := hx
    rw [Tr] at tv; subst tv
    have s : Sat C E w (if z.length <= sizeLine then .ok (.int z.length) w.h else .no) (want C Q) := s
    by_cases hz : z.length <= sizeLine
    . rw [if_pos hz] at s
      exact .inr ⟨z,rfl,hz,s.here ok _ (by rw [Tr])⟩
    . rw [if_neg hz] at s; exact s.elim
  . have e : fLen [x] w.h = match q61 w.h x with | some xs => .ok (.int xs.length) w.h | none => .no := by
      cases x <;> first | rfl | exact absurd ⟨_,rfl⟩ hx
    rw [e] at s
    split at s
    . rename_i ys ey
      obtain ⟨a,us,rfl,r,t'⟩ := q6e ok ey tv
      exact .inl ⟨a,us,rfl,r,by rw [<- t'.len]; exact s.here ok _ (by rw [Tr])⟩
    . exact s.elim
theorem qh3 : SC C E 1 rInt1 qau := by
  intro w xs vs Q hl ok t s
  obtain ⟨x,rfl⟩ := len1 hl
  obtain ⟨v,rfl,tv⟩ := q4v t
  cases x with
  | int i => rw [Tr] at tv; subst tv; exact .inl ⟨i,rfl,Sat.here (P := want C Q) s ok _ (by rw [Tr])⟩
  | bl b => rw [Tr] at tv; subst tv; exact .inr ⟨b,rfl,Sat.here (P := want C Q) s ok _ (by rw [Tr])⟩
  | _ => exact s.elim
theorem q5q : SC C E 1 rStrI q3y := by
  intro w xs vs Q hl ok t s
  obtain ⟨x,rfl⟩ := len1 hl
  obtain ⟨v,rfl,tv⟩ := q4v t
  cases x with
  | int i =>
    rw [Tr] at tv; subst tv
    have s : Sat C E w (if i.natAbs.log2 < 1920 then .ok (.str (toString i)) w.h else .no) (want C Q) := s
    by_cases hz : i.natAbs.log2 < 1920
    . rw [if_pos hz] at s; exact ⟨i,rfl,hz,s.here ok _ (by rw [Tr])⟩
    . rw [if_neg hz] at s; exact s.elim
  | _ => exact s.elim
theorem qh1 : SC C E 1 (qcm C.K) fList := by
  intro w xs vs Q hl ok t s
  obtain ⟨x,rfl⟩ := len1 hl
  obtain ⟨v,rfl,tv⟩ := q4v t
  have s : Sat C E w (match q61 w.h x with | some xs => .ok (.lst xs) w.h | none => .no) (want C Q) := s
  split at s
  . rename_i ys ey
    obtain ⟨a,us,rfl,r,t'⟩ := q6e ok ey tv
    exact ⟨a,us,rfl,r,fun p hp => s (w.frozen p _) rfl (ok.frozen hp _) (ok.q4n hp _) _ (ok.q7y hp t')⟩
  . exact s.elim
theorem q8s : SC C E 1 (qbt C.K) q68 := by
  intro w xs vs Q hl ok t s
  obtain ⟨x,rfl⟩ := len1 hl
  obtain ⟨v,rfl,tv⟩ := q4v t
  have s : Sat C E w (match q61 w.h x with | some xs => .ok (.tup xs) w.h | none => .no) (want C Q) := s
  split at s
  . rename_i ys ey
    obtain ⟨a,us,rfl,r,t'⟩ := q6e ok ey tv
    rcases r with r | r
    . exact ⟨a,us,rfl, .inl ⟨r,fun p hp => s (w.fresh p _) rfl (ok.fresh hp _) (ok.q3w hp _) _ (ok.q97 hp t')⟩⟩
    . exact ⟨a,us,rfl, .inr ⟨r,s.here ok _ (by rw [Tr]; exact ⟨a,us,rfl,r,t'⟩)⟩⟩
  . exact s.elim
theorem qf7 : SC C E 1 (rAll C.K) fAll := by
  intro w xs vs Q hl ok t s
  obtain ⟨x,rfl⟩ := len1 hl
  obtain ⟨v,rfl,tv⟩ := q4v t
  have s : Sat C E w (match (q65 w.h x).bind q5l with | some bs => .ok (.bl (bs.all id)) w.h | none => .no) (want C Q) := s
  split at s
  . rename_i bs eb
    obtain ⟨ys,ey,eb⟩ := Option.bind_eq_some_iff.mp eb
    obtain ⟨a,us,rfl,r,t'⟩ := q4c ok ey tv
    have := q8p eb t'
    subst this
    exact ⟨a,bs,rfl, .inl r,s.here ok _ (by rw [Tr])⟩
  . exact s.elim
theorem sc_any : SC C E 1 (rAny C.K) fAny := by
  intro w xs vs Q hl ok t s
  obtain ⟨x,rfl⟩ := len1 hl
  obtain ⟨v,rfl,tv⟩ := q4v t
  have s : Sat C E w (match (q65 w.h x).bind q5l with | some bs => .ok (.bl (bs.any id)) w.h | none => .no) (want C Q) := s
  split at s
  . rename_i bs eb
    obtain ⟨ys,ey,eb⟩ := Option.bind_eq_some_iff.mp eb
    obtain ⟨a,us,rfl,r,t'⟩ := q4c ok ey tv
    have := q8p eb t'
    subst this
    exact ⟨a,bs,rfl, .inl r,s.here ok _ (by rw [Tr])⟩
  . exact s.elim
theorem sc_sum : SC C E 1 (rSum C.K) fSum := by
  intro w xs vs Q hl ok t s
  obtain ⟨x,rfl⟩ := len1 hl
  obtain ⟨v,rfl,tv⟩ := q4v t
  have s : Sat C E w (match (q65 w.h x).bind intsOf with | some ns => if qb2 ns = true then .ok (.int ns.sum) w.h else .no | none => .no) (want C Q) := s
  split at s
  . rename_i bs eb
    obtain ⟨ys,ey,eb⟩ := Option.bind_eq_some_iff.mp eb
    obtain ⟨a,us,rfl,r,t'⟩ := q4c ok ey tv
    have := qah eb t'
    subst this
    by_cases ho : qb2 bs = true
    . rw [if_pos ho] at s
      unfold qb2 at ho
      rw [Bool.and_eq_true,List.all_eq_true] at ho
      refine ⟨a,bs,rfl, .inl r,fun n hn => ?_,of_decide_eq_true ho.2,s.here ok _ (by rw [Tr])⟩
      have := ho.1 n hn
      rw [Bool.and_eq_true] at this
      exact ⟨of_decide_eq_true this.1,of_decide_eq_true this.2⟩
    . rw [if_neg ho] at s; exact s.elim
  . exact s.elim
theorem q4j {K : PySem.W.Frag} (a b : Ty) (hb : b ≠ .none) : PySem.W.kitOne K (.type a.nm) (.type b.nm) = some (isiB a b) := by
  cases a <;> cases b <;> first | rfl | exact absurd rfl hb
theorem qev {w : Wd} {x : AV} {v : V} {a : Ty} (ok : Ok C w) (e : tyA w.h x = some a) (t : Tr C w x v) : TyZ C.K w.H v (.type a.nm) := by
  cases x with
  | non => cases e; rw [Tr] at t; subst t; exact .of .non
  | bl b => cases e; rw [Tr] at t; subst t; exact .of (.bl b)
  | int i => cases e; rw [Tr] at t; subst t; exact .of (.int i)
  | str x => cases e; rw [Tr] at t; subst t; exact .of (.str x)
  | tup xs => cases e; rw [Tr] at t; obtain ⟨a,vs,rfl,h,_⟩ := t; exact .tup h
  | lst xs => cases e; rw [Tr] at t; obtain ⟨a,vs,rfl,_,h,_⟩ := t; exact .lst h
  | dk ks xs => cases e; rw [Tr] at t; obtain ⟨a,vs,rfl,_,h,_⟩ := t; exact .dK h
  | ref k =>
    rw [Tr] at t
    obtain ⟨ad,rfl,ea⟩ := t
    simp only [tyA] at e
    split at e
    . rename_i xs eh
      cases e
      obtain ⟨vs,hH,_⟩ := ok.cell k _ ad eh ea
      exact .lst (.inl hH)
    . rename_i ks xs eh
      cases e
      obtain ⟨vs,hH,_⟩ := ok.cell k _ ad eh ea
      exact .dK (.inl hH)
    . cases e
  | kst xs => cases e
  | xc c => cases e
theorem q4y {ta : TE} {ma : AE} (b : Ty) {n : String} (hn : n = b.nm) (hb : b ≠ .none) (ha : SE C E ta ma) : SE C E (tCB (rIsi C.K) (q49 ta (q49 (tC (.ty n)) tNil))) (a1 (fIsi b) ma) := by
  subst hn
  intro w env σ Q ok en s
  refine ha w env σ _ ok en (s.bind.mono fun x w1 ok1 le1 s1 v tv => ?_)
  unfold fIsi at s1
  split at s1
  . rename_i a e
    exact ⟨v,b.nm,_,_,rfl,qev ok1 e tv,q4j a b hb,s1.here ok1 _ (by rw [Tr])⟩
  . exact s1.elim
theorem qcf {K : PySem.W.Frag} (a : Ty) : ∀ (bs : List Ty),(∀ b ∈ bs,b ≠ .none) -> PySem.W.kitAny K (.type a.nm) ((bs.map Ty.nm).map Value.type) = some (bs.any (isiB a))
  | [],_ => rfl
  | b :: bs,h => by
    rw [List.map_cons,List.map_cons,PySem.W.kitAny,q4j a b (h b (by simp)),List.any_cons]
    cases isiB a b with
    | true => rfl
    | false => exact qcf a bs fun c hc => h c (List.mem_cons_of_mem _ hc)
theorem qg6 {ta : TE} {ma : AE} (ha : SE C E ta ma) : SE C E (tCB (rIsiT C.K) (q49 ta (q49 (tTup (q49 (tC (.ty "list")) (q49 (tC (.ty "tuple")) tNil))) tNil))) (a1 (qdh [.list, .tuple]) ma) := by
  intro w env σ Q ok en s
  refine ha w env σ _ ok en (s.bind.mono fun x w1 ok1 le1 s1 v tv => ?_)
  unfold qdh at s1
  split at s1
  . rename_i a e
    refine ⟨by show 2 <= sizeLine; decide,fun p hp => ?_⟩
    have ok2 := ok1.fresh hp (.tup [.ty "list", .ty "tuple"])
    have le2 := ok1.q3w hp (.tup [.ty "list", .ty "tuple"])
    exact ⟨v,p,["list", "tuple"],_,_,rfl,q2t,qev ok2 (show tyA (w1.fresh p _).h x = some a from e) (tv.mono ok1 le2),qcf a [.list, .tuple] (by intro b hb; simp at hb; rcases hb with rfl | rfl <;> intro z <;> cases z),s1 (w1.fresh p _) rfl ok2 le2 _ (by rw [Tr])⟩
  . exact s1.elim
@[simp] def aMtL (f : AV -> List AV -> AH -> Re AV) (o : AE) (ma : AA) : AE := fun env h => (o env h).bind fun x h => match q65 h x with | some _ => (ma env h).bind fun xs h => f x xs h | none => .no
@[simp] def aMtS (f : AV -> List AV -> AH -> Re AV) (o : AE) (ma : AA) : AE := fun env h => (o env h).bind fun x h => match x with | .str _ => (ma env h).bind fun xs h => f x xs h | _ => .no
@[simp] def q2y : AV -> List AV -> AH -> Re AV
  | .ref k,[y],h => match h[k]? with
    | some (.lst xs) => if xs.length < sizeLine then .ok .non (h.set k (.lst (xs ++ [y]))) else .no
    | _ => .no
  | _,_,_ => .no
theorem q4t {n : Nat} {r : V -> List V -> Hp -> VK -> Prop} {f : AV -> List AV -> AH -> Re AV} {to : TE} {o : AE} {t : TA} {ma : AA} (hr : SMt C E n r f) (ho : SE C E to o) (ha : SA C E n t ma) : SE C E (tBM C.K "list" r to t) (aMtL f o ma) := by
  intro w env σ Q ok en s
  refine ho w env σ _ ok en (s.bind.mono fun x w1 ok1 le1 s1 v tv => ?_)
  split at s1
  . rename_i xs e
    obtain ⟨a,vs,rfl,r1,t1⟩ := q4c ok1 e tv
    refine ⟨.inl ⟨rfl,vs, .inl r1⟩,ha.run ok1 (en.mono ok le1) s1 fun ys w2 hl ok2 le2 s2 us tus => hr w2 x _ ys us Q hl ok2 (tv.mono ok1 le2) tus s2⟩
  . exact s1.elim
theorem se_bmS {n : Nat} {r : V -> List V -> Hp -> VK -> Prop} {f : AV -> List AV -> AH -> Re AV} {to : TE} {o : AE} {t : TA} {ma : AA} (hr : SMt C E n r f) (ho : SE C E to o) (ha : SA C E n t ma) : SE C E (tBM C.K "str" r to t) (aMtS f o ma) := by
  intro w env σ Q ok en s
  refine ho w env σ _ ok en (s.bind.mono fun x w1 ok1 le1 s1 v tv => ?_)
  split at s1
  . rename_i z
    have tv' := tv
    rw [Tr] at tv; subst tv
    exact ⟨rfl,ha.run ok1 (en.mono ok le1) s1 fun ys w2 hl ok2 le2 s2 us tus => hr w2 _ _ ys us Q hl ok2 (tv'.mono ok1 le2) tus s2⟩
  . exact s1.elim
theorem cellL {w : Wd} {k : Nat} {xs : List AV} {v : V} (ok : Ok C w) (e : w.h[k]? = some (.lst xs)) (t : Tr C w (.ref k) v) : ∃ a vs,v = .ref a /\ w.ρ[k]? = some a /\ w.H a = some (.lst vs) /\ Trs C w xs vs := by
  rw [Tr] at t
  obtain ⟨a,rfl,ea⟩ := t
  obtain ⟨vs,hH,ht⟩ := ok.cell k _ a e ea
  exact ⟨a,vs,rfl,ea,hH,ht⟩
theorem q3q : SMt C E 1 qcu q2y := by
  intro w x u xs vs Q hl ok tx t s
  obtain ⟨y,rfl⟩ := len1 hl
  obtain ⟨v,rfl,tv⟩ := q4v t
  cases x with
  | ref k =>
    have s : Sat C E w (match w.h[k]? with | some (.lst xs) => if xs.length < sizeLine then .ok .non (w.h.set k (.lst (xs ++ [y]))) else .no | _ => .no) (want C Q) := s
    split at s
    . rename_i zs e
      obtain ⟨a,us,rfl,ea,hH,ht⟩ := cellL ok e tx
      split at s
      . rename_i hz
        obtain ⟨o1,l1⟩ := ok.putLst e ea (ht.app (.one tv))
        exact ⟨a,us,v,rfl,rfl,hH,by rw [<- ht.len]; exact hz,s _ rfl o1 l1 _ (by rw [Tr])⟩
      . exact s.elim
    . exact s.elim
  | _ => exact s.elim
@[simp] def eqF : AV -> AV -> Bool
  | .non, .non => true
  | .bl a, .bl b => a == b
  | .bl a, .int b => (if a then 1 else 0) == b
  | .int a, .bl b => a == (if b then 1 else 0)
  | .int a, .int b => a == b
  | .str a, .str b => a == b
  | _,_ => false
@[simp] def q43 : AV -> Bool
  | .non => true
  | .bl _ => true
  | .int _ => true
  | .str _ => true
  | _ => false
def inA (x : AV) (xs : List AV) : Bool := xs.any fun y => eqF y x
@[simp] def fIn (neg : Bool) : AV -> AV -> AH -> Re AV := fun x y h => match q61 h y with
  | some ys => if (q43 x && ys.all q43) = true then .ok (.bl (if neg then !inA x ys else inA x ys)) h else .no
  | none => .no
theorem qbk {w : Wd} {x : AV} {v : V} (t : Tr C w x v) (h : q43 x = true) : q5x v = true := by
  cases x with
  | non => rw [Tr] at t; subst t; rfl
  | bl b => rw [Tr] at t; subst t; rfl
  | int i => rw [Tr] at t; subst t; rfl
  | str x => rw [Tr] at t; subst t; rfl
  | _ => cases h
theorem eqF_ok {w : Wd} {x y : AV} {u v : V} (tx : Tr C w x u) (ty : Tr C w y v) (hx : q43 x = true) (hy : q43 y = true) : eqV u v = eqF x y := by
  cases x <;> simp only [q43,Bool.false_eq_true] at hx <;> cases y <;> simp only [q43,Bool.false_eq_true] at hy
  all_goals (rw [Tr] at tx; rw [Tr] at ty; subst tx; subst ty; rfl)
theorem qeg {w : Wd} {x : AV} {u : V} (tx : Tr C w x u) (hx : q43 x = true) : ∀ {ys : List AV} {vs : List V},Trs C w ys vs -> ys.all q43 = true -> inV u vs = inA x ys /\ vs.all q5x = true
  | [],vs,t,_ => by rw [Trs] at t; subst t; exact ⟨rfl,rfl⟩
  | y :: ys,vs,t,h => by
    rw [Trs] at t
    obtain ⟨v,us,rfl,t1,t2⟩ := t
    rw [List.all_cons,Bool.and_eq_true] at h
    obtain ⟨h1,h2⟩ := qeg tx hx t2 h.2
    refine ⟨?_,by rw [List.all_cons,qbk t1 h.1,h2]; rfl⟩
    have h1' : us.any (fun y => eqV y u) = ys.any (fun y => eqF y x) := h1
    show (v :: us).any (fun y => eqV y u) = (y :: ys).any (fun y => eqF y x)
    rw [List.any_cons,List.any_cons,eqF_ok t1 tx h.1 hx,h1']
theorem q89 {neg : Bool} : S2 C E (rIn C.K neg) (fIn neg) := by
  intro w x y u v Q ok tx ty s
  unfold fIn at s
  split at s
  . rename_i ys e
    obtain ⟨a,vs,rfl,r,t⟩ := q6e ok e ty
    split at s
    . rename_i hf
      rw [Bool.and_eq_true] at hf
      obtain ⟨h1,h2⟩ := qeg tx hf.1 t hf.2
      exact ⟨a,vs,rfl,r,qbk tx hf.1,h2,by rw [h1]; exact s.here ok _ (by rw [Tr])⟩
    . exact s.elim
  . exact s.elim
@[simp] def fInS : AV -> AV -> AH -> Re AV
  | .str a, .str z,h => match a.cps.toList with | [c] => .ok (.bl (decide (c ∈ z.cps.toList))) h | _ => .no
  | _,_,_ => .no
theorem s2_inS : S2 C E (fun x y H Q => ∃ c z,x = V.str ⟨#[c]⟩ /\ y = .str z /\ Q (.bl (decide (c ∈ z.cps.toList))) H) fInS := by
  intro w x y u v Q ok tx ty s
  unfold fInS at s
  split at s
  . rename_i h a z
    rw [Tr] at tx; rw [Tr] at ty
    split at s
    . rename_i c e
      have ea : a = ⟨#[c]⟩ := by
        cases a with
        | mk cps =>
          have : cps.toList = [c] := e
          have e2 : cps = #[c] := by rw [<- Array.toArray_toList (xs := cps),this]
          rw [e2]
      exact ⟨c,z,by rw [tx,ea],ty,s.here ok _ (by rw [Tr])⟩
    . exact s.elim
  . exact s.elim
def cutA (xs : List AV) (lo hi : Option Int) : List AV := (xs.drop (HT.sIx xs.length 0 lo)).take (HT.sIx xs.length xs.length hi - HT.sIx xs.length 0 lo)
abbrev AO := AEnv -> AH -> Re (Option Int)
@[simp] def q60 : AO := fun _ h => .ok none h
@[simp] def q51 (a : AE) : AO := fun env h => (a env h).bind fun x h => match x with | .int i => .ok (some i) h | _ => .no
@[simp] def aSl (f : AV -> Option Int -> Option Int -> AH -> Re AV) (a : AE) (lo hi : AO) : AE := fun env h => (a env h).bind fun x h => (lo env h).bind fun l h => (hi env h).bind fun u h => f x l u h
@[simp] def fSlL : AV -> Option Int -> Option Int -> AH -> Re AV := fun x lo hi h => match q4e h x with | some xs => .ok (.lst (cutA xs lo hi)) h | none => .no
def SO (C : Ct) (E : XK) (t : TO) (m : AO) : Prop := ∀ (w : Wd) (env : AEnv) (σ : St) (Q : Option Int -> Hp -> Prop),Ok C w -> q27 C w env σ -> Sat C E w (m env w.h) (fun o w' => Q o w'.H) -> t σ w.H Q
def S3 (C : Ct) (E : XK) (r : V -> Option Int -> Option Int -> Hp -> VK -> Prop) (f : AV -> Option Int -> Option Int -> AH -> Re AV) : Prop := ∀ (w : Wd) (x : AV) (u : V) (lo hi : Option Int) (Q : VK),Ok C w -> Tr C w x u -> Sat C E w (f x lo hi w.h) (want C Q) -> r u lo hi w.H Q
theorem q76 : SO C E qcl q60 := fun w env σ Q ok en s => s.here ok
theorem q5p {t : TE} {a : AE} (h : SE C E t a) : SO C E (tPart t) (q51 a) := fun w env σ Q ok en s =>
  h w env σ _ ok en (s.bind.mono fun x w1 ok1 le1 s1 v tv => by
    cases x with
    | int i => rw [Tr] at tv; exact ⟨i,tv,s1.here ok1⟩
    | _ => exact s1.elim)
theorem q8c {r : V -> Option Int -> Option Int -> Hp -> VK -> Prop} {f : AV -> Option Int -> Option Int -> AH -> Re AV} {te : TE} {a : AE} {tl th : TO} {lo hi : AO} (hr : S3 C E r f) (ha : SE C E te a) (hl : SO C E tl lo) (hh : SO C E th hi) : SE C E (tSl r te tl th) (aSl f a lo hi) := fun w env σ Q ok en s =>
  ha w env σ _ ok en (s.bind.mono fun x w1 ok1 le1 s1 v tv => hl w1 env σ _ ok1 (en.mono ok le1) (s1.bind.mono fun l w2 ok2 le2 s2 => hh w2 env σ _ ok2 (en.mono ok (le1.trans le2)) (s2.bind.mono fun u w3 ok3 le3 s3 => hr w3 x v l u Q ok3 (tv.mono ok1 (le2.trans le3)) s3)))
theorem Trs.cut {w : Wd} {xs : List AV} {vs : List V} (t : Trs C w xs vs) (lo hi : Option Int) : Trs C w (cutA xs lo hi) (cutV vs lo hi) := by
  unfold cutA cutV
  rw [t.len]
  exact (t.drop _).take _
theorem q7c : S3 C E (rSlL C.K) fSlL := by
  intro w x u lo hi Q ok tx s
  unfold fSlL at s
  split at s
  . rename_i xs e
    obtain ⟨a,vs,rfl,r,t⟩ := q4k ok e tx
    exact ⟨a,vs,rfl,r,fun p hp => s (w.frozen p _) rfl (ok.frozen hp _) (ok.q4n hp _) _ (ok.q7y hp (t.cut lo hi))⟩
  . exact s.elim
end
end Z
namespace Z
open PySem L2
@[simp] def keyOf : AV -> Option Key
  | .int i => some (.inl i)
  | .str x => some (.inr x)
  | _ => none
@[simp] def dkOf (h : AH) : AV -> Option (List Key × List AV)
  | .dk ks xs => some (ks,xs)
  | .ref k => match h[k]? with | some (.dk ks xs) => some (ks,xs) | _ => none
  | _ => none
def dval : List Key -> List AV -> Key -> Option AV
  | k :: ks,x :: xs,j => if k = j then some x else dval ks xs j
  | _,_,_ => none
def dputV (j : Key) (y : AV) : List Key -> List AV -> List AV
  | k :: ks,x :: xs => (if k = j then y else x) :: dputV j y ks xs
  | _,_ => []
def dput (ks : List Key) (xs : List AV) (j : Key) (y : AV) : List Key × List AV :=
  if (ks.any fun k => decide (k = j)) = true then (ks,dputV j y ks xs) else (ks ++ [j],xs ++ [y])
@[simp] def fDGet : AV -> AV -> AH -> Re AV := fun d y h => match dkOf h d,keyOf y with
  | some (ks,xs),some j => match dval ks xs j with | some x => .ok x h | none => .no
  | _,_ => .no
@[simp] def fDIn : AV -> AV -> AH -> Re AV := fun y d h => match dkOf h d,keyOf y with
  | some (ks,xs),some j => .ok (.bl (dval ks xs j).isSome) h
  | _,_ => .no
@[simp] def qbo (d y : AE) : AE := fun env h => (d env h).bind fun a h => match dkOf h a with
  | some _ => (y env h).bind fun b h => match dkOf h a,keyOf b with
    | some (ks,xs),some j => .ok ((dval ks xs j).getD .non) h
    | _,_ => .no
  | none => .no
@[simp] def putD (d y x : AV) (h : AH) : Option AH := match d,keyOf y with
  | .ref k,some j => match h[k]? with
    | some (.dk ks xs) => if ks.length < sizeLine then some (h.set k (.dk (dput ks xs j x).1 (dput ks xs j x).2)) else none
    | _ => none
  | _,_ => none
@[simp] def qf3 (d y v : AE) : AS := fun env h => (v env h).to fun x h => (d env h).to fun a h => (y env h).to fun b h => match putD a b x h with | some h => .nx env h | none => .no
@[simp] def qe2 : AE := fun _ h => .ok (.ref h.length) (h ++ [.dk [] []])
section
variable {C : Ct} {E : XK}
theorem q8u {w : Wd} {y : AV} {v : V} {j : Key} (e : keyOf y = some j) (t : Tr C w y v) : v = kV j := by
  cases y with
  | int i => cases e; rw [Tr] at t; exact t
  | str x => cases e; rw [Tr] at t; exact t
  | _ => cases e
theorem q9t {w : Wd} {x : AV} {v : V} {ks : List Key} {xs : List AV} (ok : Ok C w) (e : dkOf w.h x = some (ks,xs)) (t : Tr C w x v) : ∃ a kvs,v = .ref a /\ Rd w.H a (.dK kvs) /\ kvs.map (·.1) = ks /\ Trs C w xs (kvs.map (·.2)) := by
  cases x with
  | dk ls ys =>
    cases e
    rw [Tr] at t
    obtain ⟨a,kvs,e,f,r,hk,ht⟩ := t
    exact ⟨a,kvs,e,r,hk,ht⟩
  | ref k =>
    rw [Tr] at t
    obtain ⟨a,rfl,ea⟩ := t
    have e : (match w.h[k]? with | some (.dk ks xs) => some (ks,xs) | _ => none) = some (ks,xs) := e
    split at e
    . rename_i ls ys eh
      cases e
      obtain ⟨kvs,hH,hk,ht⟩ := ok.cell k _ a eh ea
      exact ⟨a,kvs,rfl, .inl hH,hk,ht⟩
    . cases e
  | _ => cases e
theorem q9v {w : Wd} {j : Key} : ∀ {kvs : List (Key × V)} {xs : List AV},Trs C w xs (kvs.map (·.2)) -> match dval (kvs.map (·.1)) xs j with | some x => ∃ v,valV kvs j = some v /\ Tr C w x v | none => valV kvs j = none
  | [],xs,t => by
    cases xs with
    | nil => rfl
    | cons x xs => have := t.len; simp at this
  | p :: r,xs,t => by
    cases xs with
    | nil => have := t.len; simp at this
    | cons x xs =>
      rw [List.map_cons,Trs] at t
      obtain ⟨v,us,e,t1,t2⟩ := t
      cases e
      rw [List.map_cons,dval]
      by_cases h : p.1 = j
      . rw [if_pos h]
        exact ⟨p.2,q7j h,t1⟩
      . rw [if_neg h,q7k h]
        exact q9v t2
theorem qg3 {kvs : List (Key × V)} {xs : List AV} {j : Key} {y : AV} {v : V} : (putK kvs j v).map (·.1) = (dput (kvs.map (·.1)) xs j y).1 := by
  unfold putK dput
  have e : (kvs.any fun kv => decide (kv.1 = j)) = ((kvs.map (·.1)).any fun k => decide (k = j)) := by rw [List.any_map]; rfl
  rw [e]
  split
  . rw [List.map_map]
    apply List.map_congr_left
    intro p _
    show (if p.1 = j then (p.1,v) else p).1 = p.1
    split <;> rfl
  . rw [List.map_append]; rfl
theorem qft {w : Wd} {j : Key} {y : AV} {v : V} (ty : Tr C w y v) {kvs : List (Key × V)} {xs : List AV} (t : Trs C w xs (kvs.map (·.2))) : Trs C w (dput (kvs.map (·.1)) xs j y).2 ((putK kvs j v).map (·.2)) := by
  unfold putK dput
  have e : (kvs.any fun kv => decide (kv.1 = j)) = ((kvs.map (·.1)).any fun k => decide (k = j)) := by rw [List.any_map]; rfl
  rw [e]
  split
  . rename_i hh
    clear e hh
    induction kvs generalizing xs with
    | nil => exact .nil
    | cons p r ih =>
      cases xs with
      | nil => have := t.len; simp at this
      | cons x xs =>
        rw [List.map_cons,Trs] at t
        obtain ⟨u,us,e,t1,t2⟩ := t
        cases e
        rw [List.map_cons,List.map_cons,List.map_cons]
        refine .cons ?_ (ih t2)
        show Tr C w (if p.1 = j then y else x) (if p.1 = j then (p.1,v) else p).2
        by_cases h : p.1 = j
        . rw [if_pos h,if_pos h]; exact ty
        . rw [if_neg h,if_neg h]; exact t1
  . rw [List.map_append]
    exact t.app (.one ty)
theorem dget_o {w : Wd} {j : Key} {kvs : List (Key × V)} {xs : List AV} (t : Trs C w xs (kvs.map (·.2))) : (valV kvs j).isSome = (dval (kvs.map (·.1)) xs j).isSome := by
  have hv := q9v (j := j) t
  split at hv
  . rename_i q eq
    obtain ⟨p,hp,tp⟩ := hv
    rw [hp,eq]; rfl
  . rename_i eq
    rw [hv,eq]; rfl
theorem se_din {td ty : TE} {d y : AE} (hy : SE C E ty y) (hd : SE C E td d) : SE C E (tDIn ty td) (a2 fDIn y d) := fun w env σ Q ok en s =>
  hy w env σ _ ok en (s.bind.mono fun x w1 ok1 le1 s1 v tv => hd w1 env σ _ ok1 (en.mono ok le1) (s1.bind.mono fun z w2 ok2 le2 s2 u tu => by
    unfold fDIn at s2
    split at s2
    . rename_i ks xs j e1 e2
      obtain ⟨a,kvs,rfl,r,rfl,t⟩ := q9t ok2 e1 tu
      have hj := q8u e2 (tv.mono ok1 le2)
      subst hj
      exact ⟨a,_,rfl, .inl ⟨kvs,j,r,rfl,rfl⟩,by rw [dget_o t]; exact s2.here ok2 _ (by rw [Tr])⟩
    . exact s2.elim))
theorem qdp {w : Wd} {j : Key} {kvs : List (Key × V)} {xs : List AV} {z : AV} {q : V} (t : Trs C w xs (kvs.map (·.2))) (tz : Tr C w z q) : Tr C w ((dval (kvs.map (·.1)) xs j).getD z) ((valV kvs j).getD q) := by
  have hv := q9v (j := j) t
  split at hv
  . rename_i p eq
    obtain ⟨v,hp,tp⟩ := hv
    rw [hp,eq]; exact tp
  . rename_i eq
    rw [hv,eq]; exact tz
theorem qbu {td ty : TE} {d y : AE} (hd : SE C E td d) (hy : SE C E ty y) : SE C E (qdu td ty) (qbo d y) := fun w env σ Q ok en s =>
  hd w env σ _ ok en (s.bind.mono fun x w1 ok1 le1 s1 v tv => by
    split at s1
    . rename_i kx e0
      obtain ⟨ks0,xs0⟩ := kx
      obtain ⟨a,kvs0,rfl,r0,_,_⟩ := q9t ok1 e0 tv
      refine ⟨a,rfl, .inl ⟨kvs0,r0⟩,hy w1 env σ _ ok1 (en.mono ok le1) (s1.bind.mono fun z w2 ok2 le2 s2 u tu => ?_)⟩
      split at s2
      . rename_i ks xs j e1 e2
        obtain ⟨a',kvs,ea,r,rfl,t⟩ := q9t ok2 e1 (tv.mono ok1 le2)
        cases ea
        have hj := q8u e2 tu
        subst hj
        exact ⟨_, .inl ⟨kvs,j,r,rfl,rfl⟩,s2.here ok2 _ (qdp t (by rw [Tr]))⟩
      . exact s2.elim
    . exact s1.elim)
theorem Ok.putDk {w : Wd} (ok : Ok C w) {k : Nat} {a : Addr} {ks ks' : List Key} {xs xs' : List AV} {kvs' : List (Key × V)} (e : w.h[k]? = some (.dk ks xs)) (ea : w.ρ[k]? = some a) (hk : kvs'.map (·.1) = ks') (t : Trs C w xs' (kvs'.map (·.2))) :
    Ok C (w.put k (.dk ks' xs') a (.dK kvs')) /\ Le w (w.put k (.dk ks' xs') a (.dK kvs')) := by
  have hl : Live w a := ⟨k,_,e,(by intro z; cases z),ea⟩
  have le := ok.q96 ea hl (.dk ks' xs') (.dK kvs')
  exact ⟨ok.put ea hl ⟨kvs',q2t,hk,t.mono ok le⟩,le⟩
theorem qhl {w : Wd} {d y x : AV} {u v q : V} {h' : AH} (ok : Ok C w) (e : putD d y x w.h = some h') (td : Tr C w d u) (ty : Tr C w y v) (tx : Tr C w x q) :
    ∃ a H',u = .ref a /\ DPut w.H a v q H' /\ ∃ w',w'.h = h' /\ w'.H = H' /\ Ok C w' /\ Le w w' := by
  unfold putD at e
  split at e
  . rename_i k j ek
    have hj := q8u ek ty
    subst hj
    rw [Tr] at td
    obtain ⟨a,rfl,ea⟩ := td
    split at e
    . rename_i ks xs eh
      split at e
      . rename_i hl
        cases e
        obtain ⟨kvs,hH,rfl,ht⟩ := ok.cell k _ a eh ea
        rw [List.length_map] at hl
        obtain ⟨o1,l1⟩ := ok.putDk eh ea (qg3 (kvs := kvs) (xs := xs) (j := j) (y := x) (v := q)) (qft tx ht)
        exact ⟨a,_,rfl, .inl ⟨kvs,j,hH,rfl,hl,rfl⟩,_,rfl,rfl,o1,l1⟩
      . cases e
    . cases e
  . cases e
theorem qho {td ty tv : TE} {d y v : AE} (hd : SE C E td d) (hy : SE C E ty y) (hv : SE C E tv v) : SS C E (sDPut td ty tv) (qf3 d y v) := fun w env σ D ok en s =>
  hv w env σ _ ok en (Sat.mono (Sat.to s) fun x w1 ok1 le1 s1 q tq => hd w1 env σ _ ok1 (en.mono ok le1) (Sat.mono (Sat.to s1) fun a w2 ok2 le2 s2 u tu => hy w2 env σ _ ok2 (en.mono ok (le1.trans le2)) (Sat.mono (Sat.to s2) fun b w3 ok3 le3 s3 p tp => by
    split at s3
    . rename_i h' e
      obtain ⟨a',H',e1,hp,w',e3,e4,o',l'⟩ := qhl ok3 e (tu.mono ok2 le3) tp (tq.mono ok1 (le2.trans le3))
      refine ⟨a',H',e1,hp,?_⟩
      have := s3 w' σ e3 o' l' (en.mono ok (le1.trans (le2.trans (le3.trans l'))))
      rw [e4] at this
      exact this
    . exact s3.elim)))
theorem qge : SE C E qf5 qe2 := fun w env σ Q ok en s p hp => s (w.cell p (.dK []) (.dk [] [])) rfl (ok.qa0 hp ⟨[],q2t,rfl, .nil⟩) (ok.q77 hp _ _) _ ok.q7g
abbrev AM := AEnv -> AH -> Re Unit
def SMs (C : Ct) (E : XK) (t : TE) (m : AM) : Prop := ∀ (w : Wd) (env : AEnv) (σ : St) (Q : VK),Ok C w -> q27 C w env σ -> Sat C E w (m env w.h) (fun _ w' => ∀ v,Q v w'.H) -> t σ w.H Q
def SJm (C : Ct) (E : XK) (n : Nat) (u : TJ) (m : AM) : Prop := ∀ (w : Wd) (env : AEnv) (σ : St) (acc : Str) (Q : VK),Ok C w -> q27 C w env σ -> acc.length + n <= sizeLine -> Sat C E w (m env w.h) (fun _ w' => ∀ v,Q v w'.H) -> u acc σ w.H Q
@[simp] def mNil : AM := fun _ h => .ok () h
@[simp] def mInt (a : AE) (r : AM) : AM := fun env h => (a env h).bind fun x h => match x with | .int i => if i.natAbs.log2 < 1920 then r env h else .no | _ => .no
@[simp] def mStr (a : AE) (r : AM) : AM := fun env h => (a env h).bind fun x h => match x with | .str y => if y.length <= 1000 then r env h else .no | _ => .no
def cpOk (y : Str) : Bool := y.cps.toList.all fun c => decide (c < 16 ^ 8)
@[simp] def mRep (a : AE) (r : AM) : AM := fun env h => (a env h).bind fun x h => match x with | .str y => if y.length <= 1000 /\ cpOk y = true then r env h else .no | _ => .no
theorem q3r (x y : Str) : (x ++ y : Str).length = x.length + y.length := by
  show (x.cps ++ y.cps).size = x.cps.size + y.cps.size
  exact Array.size_append
theorem q5d : SJm C E 0 jNil mNil := fun w env σ acc Q ok en hl s => ⟨by omega,s.here ok _⟩
theorem q3l {n : Nat} {x : Str} {u : TJ} {m : AM} (hu : SJm C E n u m) : SJm C E (n + x.length) (q94 (tC (.str x)) u) m := fun w env σ acc Q ok en hl s =>
  ⟨x,rfl,by rw [q3r]; omega,hu w env σ _ Q ok en (by rw [q3r]; omega) s⟩
theorem q6w {n : Nat} {t : TE} {a : AE} {u : TJ} {m : AM} (ha : SE C E t a) (hu : SJm C E n u m) : SJm C E (n + 1921) (q94 (tFmtI t) u) (mInt a m) := fun w env σ acc Q ok en hl s =>
  ha w env σ _ ok en (s.bind.mono fun x w1 ok1 le1 s1 v tv => by
    cases x with
    | int i =>
      rw [Tr] at tv; subst tv
      have s1 : Sat C E w1 (if i.natAbs.log2 < 1920 then m env w1.h else .no) (fun _ w' => ∀ v,Q v w'.H) := s1
      by_cases hi : i.natAbs.log2 < 1920
      . rw [if_pos hi] at s1
        have hb : (toString i : Str).length <= 1921 := PyProof.Rows.int_text_len_1921 hi
        exact ⟨i,rfl,hi,_,rfl,by rw [q3r]; omega,hu w1 env σ _ Q ok1 (en.mono ok le1) (by rw [q3r]; omega) s1⟩
      . rw [if_neg hi] at s1; exact s1.elim
    | _ => exact s1.elim)
theorem q6b {n : Nat} {t : TE} {a : AE} {u : TJ} {m : AM} (ha : SE C E t a) (hu : SJm C E n u m) : SJm C E (n + 1000) (q94 (tFmtS t) u) (mStr a m) := fun w env σ acc Q ok en hl s =>
  ha w env σ _ ok en (s.bind.mono fun x w1 ok1 le1 s1 v tv => by
    cases x with
    | str y =>
      rw [Tr] at tv; subst tv
      have s1 : Sat C E w1 (if y.length <= 1000 then m env w1.h else .no) (fun _ w' => ∀ v,Q v w'.H) := s1
      by_cases hi : y.length <= 1000
      . rw [if_pos hi] at s1
        exact ⟨y,rfl,by omega,_,rfl,by rw [q3r]; omega,hu w1 env σ _ Q ok1 (en.mono ok le1) (by rw [q3r]; omega) s1⟩
      . rw [if_neg hi] at s1; exact s1.elim
    | _ => exact s1.elim)
theorem q9r {n : Nat} {t : TE} {a : AE} {u : TJ} {m : AM} (ha : SE C E t a) (hu : SJm C E n u m) : SJm C E (n + 10002) (q94 (tFmtR t) u) (mRep a m) := fun w env σ acc Q ok en hl s =>
  ha w env σ _ ok en (s.bind.mono fun x w1 ok1 le1 s1 v tv => by
    cases x with
    | str y =>
      rw [Tr] at tv; subst tv
      have s1 : Sat C E w1 (if y.length <= 1000 /\ cpOk y = true then m env w1.h else .no) (fun _ w' => ∀ v,Q v w'.H) := s1
      by_cases hi : y.length <= 1000 /\ cpOk y = true
      . rw [if_pos hi] at s1
        have hb := PySem.StrLaws.reprText_len y (fun c hc => by
          have := List.all_eq_true.mp hi.2 c hc
          exact of_decide_eq_true this)
        have h1 := hi.1
        exact ⟨y,rfl,by omega,_,rfl,by rw [q3r]; omega,hu w1 env σ _ Q ok1 (en.mono ok le1) (by rw [q3r]; omega) s1⟩
      . rw [if_neg hi] at s1; exact s1.elim
    | _ => exact s1.elim)
theorem q53 {n : Nat} {u : TJ} {m : AM} (hu : SJm C E n u m) (hn : n <= sizeLine) : SMs C E (u Str.empty) m := fun w env σ Q ok en s => hu w env σ Str.empty Q ok en (by show 0 + n <= sizeLine; omega) s
theorem ms_lit {x : Str} : SMs C E (tC (.str x)) mNil := fun w env σ Q ok en s => s.here ok _
theorem ms_add {x : Str} {t : TE} {a : AE} (hx : x.length <= 1000) (ha : SE C E t a) : SMs C E (tOp (fun x y H Q => ∃ i j,x = .str i /\ y = .str j /\ i.length + j.length <= sizeLine /\ Q (.str (i ++ j)) H) (tC (.str x)) t) (mStr a mNil) := fun w env σ Q ok en s =>
  ha w env σ _ ok en (s.bind.mono fun z w1 ok1 le1 s1 v tv => by
    cases z with
    | str y =>
      rw [Tr] at tv; subst tv
      have s1 : Sat C E w1 (if y.length <= 1000 then mNil env w1.h else .no) (fun _ w' => ∀ v,Q v w'.H) := s1
      by_cases hi : y.length <= 1000
      . rw [if_pos hi] at s1
        exact ⟨x,y,rfl,rfl,Nat.le_trans (show x.length + y.length <= 2000 by omega) (by decide),s1.here ok1 _⟩
      . rw [if_neg hi] at s1; exact s1.elim
    | _ => exact s1.elim)
@[simp] def q4h (c : Nat) (m : AM) : AS := fun env h => (m env h).to fun _ h => .ex c h
theorem q47 {c : Nat} {t : TE} {m : AM} (hm : SMs C E t m) : SS C E (qej (C.cl c) E (q49 t tNil)) (q4h c m) := fun w env σ D ok en s =>
  hm w env σ _ ok en (Sat.mono (Sat.to s) fun _ w1 ok1 le1 s1 v => ⟨by show 1 <= sizeLine; decide,s1 w1 rfl ok1 (Le.refl w1)⟩)
@[simp] def qa2 : AV -> AH -> Re AV := fun x h => match (q4e h x).bind strsOf with | some ts => if ts.length <= 1000 then .ok (.int ((metK ts).length : Nat)) h else .no | none => .no
theorem qe5 {P : Program} {w0 : World} {t : TE} {a : AE} (ha : SE C E t a) :
    SE C E (tCB (fun xs H Q => ∃ a, ∃ ts : List Str,xs = [V.ref a] /\ H a = some (SetS P w0 a ts) /\ Q (.int ((metK ts).length : Nat)) H) (q49 (tCB (fun xs H Q => ∃ p, ∃ ts : List Str,xs = [V.ref p] /\ SqL C.K H p (ts.map V.str) /\ ts.length <= 1000 /\ ∀ a,H a = none -> Q (.ref a) (upd H a (SetS P w0 a ts))) (q49 t tNil)) tNil)) (a1 qa2 a) := fun w env σ Q ok en s =>
  ha w env σ _ ok en (s.bind.mono fun x w1 ok1 le1 s1 v tv => by
    unfold qa2 at s1
    split at s1
    . rename_i ts e
      obtain ⟨ys,ey,es⟩ := Option.bind_eq_some_iff.mp e
      obtain ⟨p,us,rfl,r,t'⟩ := q4k ok1 ey tv
      have := q7v es t'
      subst this
      split at s1
      . rename_i hl
        refine ⟨p,ts,rfl,r,hl,fun q hq => ⟨q,ts,rfl,q2t,?_⟩⟩
        exact s1 (w1.fresh q _) rfl (ok1.fresh hq _) (ok1.q3w hq _) _ (by rw [Tr])
      . exact s1.elim
    . exact s1.elim)
theorem fn_no {P : Program} {w : World} {K : PySem.W.Frag} {mg : Str -> Option Value} {base : Heap} {CX : CXT} {k n : Nat} {f : Addr} {fd : FuncData} {ps : List Str} (hn : n = ps.length) : FnOk P w K mg base CX k f fd ps (spZ C n fun _ _ => .no) :=
  ⟨fun vs H Q E h => by rw [<- hn]; exact q20 h,fun A outer s H args us vs Q E _ _ _ _ h => by obtain ⟨w,xs,_,_,_,_,s⟩ := h; exact s.elim⟩
def q8x (K : PySem.W.Frag) : Sp := fun vs H Q _ => ∃ (a : Addr) (ns : List Int),vs = [.ref a] /\ SqL K H a (ns.map V.int) /\ ns.length <= 63 /\ ∀ H',Q (.bl true) H'
theorem q7q {w : Wd} : ∀ (ns : List Int),Trs C w (ns.map AV.int) (ns.map V.int)
  | [] => .nil
  | n :: ns => .cons (by rw [Tr]) (q7q ns)
theorem qfd (hp : C.pin = none) {m : AF} {vs : List V} {H : Hp} {Q : VK} {E : XK} (ht : ∀ ns : List Int,ns.length <= 63 -> ∃ h,m [.kst (ns.map AV.int)] [] = .ok (.bl true) h) (h : q8x C.K vs H Q E) : spZ C 1 m vs H Q E0 := by
  obtain ⟨a,ns,rfl,hS,hl,q⟩ := h
  obtain ⟨h',e⟩ := ht ns hl
  rcases hS with r | r
  . refine ⟨⟨[],fun b => b = a,[],H⟩,[.kst (ns.map AV.int)],rfl,⟨rfl, .nil,fun b hb => absurd hb (by simp),fun k c b e => absurd e (by simp),fun b hb => ?_,fun b hb => ?_,fun b c z => (by rw [hp] at z; cases z)⟩, .one ?_,rfl,?_⟩
    . obtain ⟨k,c,e1,_⟩ := hb
      simp at e1
    . subst hb; exact Rd.ne r
    . rw [Tr]; exact ⟨a,_,rfl, .inl ⟨rfl,r⟩,q7q ns⟩
    . rw [e]; exact fun w' _ _ _ v tv => by rw [Tr] at tv; subst tv; exact q _
  . refine ⟨⟨[],fun _ => False,[],H⟩,[.kst (ns.map AV.int)],rfl,⟨rfl, .nil,fun b hb => absurd hb (by simp),fun k c b e => absurd e (by simp),fun b hb => ?_,fun b hb => hb.elim,fun b c z => (by rw [hp] at z; cases z)⟩, .one ?_,rfl,?_⟩
    . obtain ⟨k,c,e1,_⟩ := hb
      simp at e1
    . rw [Tr]; exact ⟨a,_,rfl, .inr (.inr r),q7q ns⟩
    . rw [e]; exact fun w' _ _ _ v tv => by rw [Tr] at tv; subst tv; exact q _
theorem qhn : S2 C E rAdd fAdd := by
  intro w x y u v Q ok tx ty s
  exact qby (C := C) w x y u v Q ok tx ty s
theorem qcc : S2 C E rSub fSub := by
  intro w x y u v Q ok tx ty s
  exact qfi (C := C) w x y u v Q ok tx ty s
end
end Z
namespace Z
open PySem L2
section
variable {C : Ct} {E : XK}
def Ct.at (C : Ct) (a c : Addr) : Ct := { C with pin := some (a,c) }
@[simp] def fIsX (sub : Nat -> Option Bool) : AV -> AH -> Re AV
  | .xc c,h => match sub c with | some b => .ok (.bl b) h | none => .no
  | _,_ => .no
abbrev rIsX (K : PySem.W.Frag) : List V -> Hp -> VK -> Prop := fun xs H Q => ∃ a C cv b,xs = [.ref a,cv] /\ q93 cv = true /\ H a = some (excO a C) /\ ExcK K C /\ PySem.W.kitOne K (.ref C) (clsU cv) = some b /\ Q (.bl b) H
theorem q4s {cv : V} {t : TE} {a : AE} {sub : Nat -> Option Bool} (hc : q93 cv = true) (hs : ∀ c b,sub c = some b -> ExcK C.K (C.cl c) /\ PySem.W.kitOne C.K (.ref (C.cl c)) (clsU cv) = some b) (ha : SE C E t a) :
    SE C E (tCB (rIsX C.K) (q49 t (q49 (tC cv) tNil))) (a1 (fIsX sub) a) := fun w env σ Q ok en s =>
  ha w env σ _ ok en (s.bind.mono fun x w1 ok1 le1 s1 v tv => by
    unfold fIsX at s1
    split at s1
    . rename_i h c
      rw [Tr] at tv
      obtain ⟨ad,rfl,ep⟩ := tv
      split at s1
      . rename_i b eb
        obtain ⟨h1,h2⟩ := hs c b eb
        exact ⟨ad,C.cl c,cv,b,rfl,hc,ok1.pn _ _ ep,h1,h2,s1.here ok1 _ (by rw [Tr])⟩
      . exact s1.elim
    . exact s1.elim)
theorem qgr {ah c : Addr} {ta : TE} {ma : AE} (hp : C.pin = some (ah,c)) (ha : SE C E ta ma) : SI C E (qep C.K ah ta) (iLst ma) := by
  intro w env σ R ok en s
  refine ha w env σ _ ok en (s.bind.mono fun x w1 ok1 le1 s1 v tv => ?_)
  split at s1
  . rename_i xs e
    obtain ⟨a,vs,rfl,r,t⟩ := q4k ok1 e tv
    refine ⟨a,c,rfl,⟨vs,r⟩,s1.here ok1 _ ?_⟩
    have key : ∀ w,Ok C w -> Le w1 w -> okW w.h xs (watch x) = true -> ∃ us,SqL C.K w.H a us /\ Trs C w xs us := fun w ok le hw => by
      obtain ⟨a',us,e',h2,h3⟩ := qbf ok1 e tv ok le hw
      cases e'
      exact ⟨us,h2,h3⟩
    refine ⟨fun w i ok le hw hi => ?_,fun w i y v H' ok le hw hy yl => ?_,fun w i ok le hw hi => ?_⟩
    . obtain ⟨us,h2,h3⟩ := key w ok le hw
      exact ⟨⟨us,us[i]'(by rw [<- h3.len]; exact hi),h2,List.getElem?_eq_getElem _⟩,ok.pn _ _ hp⟩
    . obtain ⟨us,h2,h3⟩ := key w ok le hw
      obtain ⟨rfl,hq⟩ := yl
      obtain ⟨q,e1,tq⟩ := h3.get hy
      have := hq us h2
      rw [e1] at this; cases this
      exact ⟨w,rfl,rfl,ok,Le.refl w,tq⟩
    . obtain ⟨us,h2,h3⟩ := key w ok le hw
      exact ⟨⟨us,h2,by rw [<- h3.len]; exact Nat.le_of_eq hi.symm⟩,ok.pn _ _ hp⟩
  . exact s1.elim
theorem qgi {ah c : Addr} {n k : Nat} {g : TGs} {m : List AV -> AEnv -> AH -> Re AEnv} (hp : C.pin = some (ah,c)) (hg : SGos C E n g m) : SGo C E n (gTupQ C.K ah k g) (gT k m) := by
  intro w x v env σ Q ok en t s
  cases x with
  | tup xs =>
    rw [Tr] at t
    obtain ⟨a,vs,rfl,hs,ht⟩ := t
    have s' : Sat C E w (if xs.length = k then m xs env w.h else .no) (fun env' w' => ∀ σ',q27 C w' env' σ' -> σ'.length = σ.length -> σ'.drop n = σ.drop n -> Q σ' w'.H) := s
    by_cases hl : xs.length = k
    . rw [if_pos hl] at s'
      exact ⟨a,c,vs,rfl,ok.pn _ _ hp,hs,by rw [<- ht.len]; exact hl,hg w xs vs env σ Q ok en ht s'⟩
    . rw [if_neg hl] at s'; exact s'.elim
  | _ => exact s.elim
def qb9 (sep : Str) (ys : List Str) : Bool := decide (sep.length <= 16) && decide ((ys.map (·.length)).sum + ys.length <= 1048576)
@[simp] def fJoin : AV -> List AV -> AH -> Re AV
  | .str sep,[x],h => match (q4e h x).bind strsOf with | some ys => if qb9 sep ys = true then .ok (.str (Txt.join sep ys)) h else .no | none => .no
  | _,_,_ => .no
theorem qhx : SMt C E 1 (rJoin C.K) fJoin := by
  intro w x u xs vs Q hl ok tx t s
  obtain ⟨y,rfl⟩ := len1 hl
  obtain ⟨v,rfl,tv⟩ := q4v t
  cases x with
  | str sep =>
    rw [Tr] at tx; subst tx
    have s : Sat C E w (match (q4e w.h y).bind strsOf with | some ys => if qb9 sep ys = true then .ok (.str (Txt.join sep ys)) w.h else .no | none => .no) (want C Q) := s
    split at s
    . rename_i ys ey
      obtain ⟨zs,ez,es⟩ := Option.bind_eq_some_iff.mp ey
      obtain ⟨p,us,rfl,r,t'⟩ := q4k ok ez tv
      have := q7v es t'
      subst this
      split at s
      . rename_i ho
        unfold qb9 at ho
        rw [Bool.and_eq_true] at ho
        exact ⟨sep,p,ys,rfl,rfl,r,of_decide_eq_true ho.1,of_decide_eq_true ho.2,s.here ok _ (by rw [Tr])⟩
      . exact s.elim
    . exact s.elim
  | _ => exact s.elim
def q90 (C : Ct) (wd : Nat -> Option Str) : Sp := fun vs H Q _ => ∃ a c x,vs = [.ref a] /\ H a = some (excO a (C.cl c)) /\ wd c = some x /\ ∀ H',Same H H' -> Q (.str x) H'
theorem qdb {ah : Addr} {m : AF} {wd : Nat -> Option Str} {vs : List V} {H : Hp} {Q : VK} {E1 : XK} (hv : vs.head? = some (.ref ah)) (ht : ∀ c x,wd c = some x -> ∃ h,m [.xc c] [] = .ok (.str x) h) (h : q90 C wd vs H Q E1) : ∃ c,spZ (C.at ah (C.cl c)) 1 m vs H Q E0 := by
  obtain ⟨a,c,x,rfl,he,hw,q⟩ := h
  have ea : a = ah := by simpa using hv
  subst ea
  obtain ⟨h',e⟩ := ht c x hw
  refine ⟨c,⟨[],fun _ => False,[],H⟩,[.xc c],rfl,⟨rfl, .nil,fun b hb => absurd hb (by simp),fun k c b e => absurd e (by simp),fun b hb => ?_,fun b hb => hb.elim,fun b c' z => ?_⟩, .one ?_,rfl,?_⟩
  . obtain ⟨k,c,e1,_⟩ := hb
    simp at e1
  . have z : some (a,C.cl c) = some (b,c') := z
    cases z; exact he
  . rw [Tr]; exact ⟨a,rfl,rfl⟩
  . rw [e]
    intro w' _ _ le v tv
    rw [Tr] at tv; subst tv
    refine q _ fun b o hb => ?_
    rcases le.ks b (by rintro ⟨k,c,e1,_⟩; simp at e1) o hb with z | ⟨f,_⟩
    . exact z
    . exfalso
      rcases le.fn b f with z | z | ⟨k,c,e1,_⟩
      . exact z
      . have z : H b = none := z
        rw [z] at hb; cases hb
      . simp at e1
theorem Ok.grow {w : Wd} (ok : Ok C w) {H' : Hp} (hs : Same w.H H') : Ok C { w with H := H' } /\ Le w { w with H := H' } := by
  have nn : ∀ a,w.H a ≠ none -> H' a ≠ none := fun a h => by
    cases e : w.H a with
    | none => exact absurd e h
    | some o => rw [hs a o e]; intro z; cases z
  have le : Le w { w with H := H' } := ⟨⟨[],by simp⟩,fun _ h => h,fun b _ o r => .inl (hs b o r),fun _ h => .inl h,fun _ h => .inr h,nn,fun _ h => .inl h⟩
  refine ⟨⟨ok.len,ok.nd,fun a ha => nn a (ok.th a ha),fun k c a e ea => ?_,ok.fz,fun a h => nn a (ok.fzt a h),fun a c h => hs _ _ (ok.pn a c h)⟩,le⟩
  have h := ok.cell k c a e ea
  cases c with
  | dead => trivial
  | lst xs => obtain ⟨vs,hH,t⟩ := h; exact ⟨vs,hs _ _ hH,t.mono ok le⟩
  | dk ks xs => obtain ⟨kvs,hH,hk,t⟩ := h; exact ⟨kvs,hs _ _ hH,hk,t.mono ok le⟩
  | ins cc fs => obtain ⟨hf,dx,fvs,hH,t⟩ := h; exact ⟨hf,dx,fvs,hs _ _ hH,t.mono ok le⟩
def SX (C : Ct) (tx : TX) (m : AE) : Prop := ∀ (w : Wd) (env : AEnv) (σ : St) (Q : VK) (E : XK),Ok C w -> q27 C w env σ -> Sat C E w (m env w.h) (want C Q) -> tx σ w.H Q E
@[simp] def qf4 (c : Nat) (m : AF) (o : AE) (ma : AA) : AE := fun env h => (o env h).noex.bind fun x h => match q5g h x with
  | some (d,_) => if d = c then (ma env h).noex.bind fun xs h => m (x :: xs) h else .no
  | none => .no
theorem Sat.nx {α β : Type} {w : Wd} {r : Re α} {f : α -> AH -> Re β} {P : β -> Wd -> Prop} (s : Sat C E w (r.noex.bind f) P) : Sat C E0 w r (fun x w1 => Sat C E w1 (f x w1.h) P) := by
  cases r with
  | ok x h => exact fun w' e ok le => by subst e; exact Sat.le le s
  | ex c h => exact s.elim
  | no => exact s
theorem SA.runX {n : Nat} {t : TA} {m : AA} (h : SA C E0 n t m) {w : Wd} {env : AEnv} {σ : St} {Q : List V -> Hp -> Prop} {f : List AV -> AH -> Re AV} {P : AV -> Wd -> Prop} (ok : Ok C w) (en : q27 C w env σ) (s : Sat C E w ((m env w.h).noex.bind f) P)
    (k : ∀ xs w',xs.length = n -> Ok C w' -> Le w w' -> Sat C E w' (f xs w'.h) P -> ∀ vs,Trs C w' xs vs -> Q vs w'.H) : t σ w.H Q := by
  refine h.2 w env σ Q ok en ?_
  have hl := h.1 env w.h
  have s' := Sat.nx s
  revert s'
  cases e : m env w.h with
  | ok xs h' => exact fun s' w' e' ok' le vs tv => k xs w' (hl xs h' e) ok' le (s' w' e' ok' le) vs tv
  | ex c h' => exact fun s' => s'
  | no => exact fun s' => s'
theorem qhk {c n : Nat} {m : AF} {ta : TE} {o : AE} {t : TA} {ma : AA} {mn : Str} (hm : ∀ i ∈ C.fl c,C.fn i ≠ mn) (ho : SE C E0 ta o) (ha : SA C E0 n t ma) : SX C (qen (C.cl c) mn (spZ C (n + 1) m) [] ta t) (qf4 c m o ma) := by
  intro w env σ Q E ok en s
  refine ho w env σ _ ok en ((Sat.nx s).mono fun x w1 ok1 le1 s1 v tv => ?_)
  split at s1
  . rename_i d fs e
    by_cases hd : d = c
    . rw [if_pos hd] at s1
      subst hd
      obtain ⟨k,a,dx,fvs,rfl,rfl,eh,ea,hH,hF,hf⟩ := q7l ok1 e tv
      refine ⟨a,dx,fvs,rfl,hH,hF.q9p hm hf,ha.runX ok1 (en.mono ok le1) s1 fun xs w2 hl ok2 le2 s2 vs tvs => ?_⟩
      rw [List.append_nil]
      exact ⟨w2, .ref k :: xs,rfl,ok2, .cons (tv.mono ok1 le2) tvs,by rw [List.length_cons,hl],s2⟩
    . rw [if_neg hd] at s1; exact s1.elim
  . exact s1.elim
@[simp] def qd3 (i j f : Nat) (wd : Nat -> Option Str) (m : AE) : AS := fun env h => match m env h with
  | .ok x h => .nx (env.set i (some x)) h
  | .ex c h => match wd c with
    | some s => if j < env.length then .nx (((env.set j none).set f (some (.str s))).set j none) h else .no
    | none => .no
  | .no => .no
theorem qhi {Dc : Addr} {i j f : Nat} {wd : Nat -> Option Str} {tx : TX} {m : AE} {E1 : XK} (hx : SX C tx m) (hsub : ∀ c x,wd c = some x -> PySem.W.subIn C.K (.ref (C.cl c)) (.ref Dc) = some true) :
    SS C E (tTry C.K Dc i j tx (fun a => tAsg (qf1 a (q90 C wd) [] E1 (q49 (tVar j) tNil)) (q7m f))) (qd3 i j f wd m) := by
  intro w env σ D ok en s
  refine hx w env σ _ _ ok en ?_
  unfold qd3 at s
  revert s
  cases m env w.h with
  | ok x h => exact fun s w' e ok' le v tv => s w' _ e ok' le ((en.mono ok le).set i tv)
  | no => exact fun s => s
  | ex c h =>
    intro s w' e ok' le
    have s : SSat C E w (match wd c with | some s => if j < env.length then .nx (((env.set j none).set f (some (.str s))).set j none) h else .no | none => .no) D := s
    split at s
    . rename_i x hw
      split at s
      . rename_i hj
        refine ⟨C.cl c,rfl,hsub c x hw,fun a ha => ?_⟩
        refine ⟨.ref a,by rw [List.getElem?_set_self (by rw [<- en.len]; exact hj)],rfl,a,c,x,rfl,q2t,hw,fun H' hs => ?_⟩
        have ok2 := ok'.fresh ha (excO a (C.cl c))
        have le2 := ok'.q3w ha (excO a (C.cl c))
        obtain ⟨ok3,le3⟩ := ok2.grow (H' := H') hs
        have le13 := le.trans (le2.trans le3)
        refine s { (w'.fresh a (excO a (C.cl c))) with H := H' } _ e ok3 le13 ?_
        exact ((((en.mono ok le13).unset j).set f (by rw [Tr])).unset j)
      . exact s.elim
    . exact s.elim
end
end Z
namespace Z
open PySem L2 PySem.Spec PyProof.Rows
structure FunD (K : PySem.W.Frag) (x qual : Str) (st : Stmt) (f : Addr) (fd : FuncData) (dt : Addr) (items : Array Value) : Prop where
  ex : ∃ (oc : Value) (od : Option Addr) (kV doc pm : Value) (an : Option Addr) (cdv ct : Value) (osl : Array (Option Value)),
    fd = PySem.W.fnOf x qual (q1t st) (q1r st) (q1e st) (.ref dt) kV doc pm an cdv ct /\ K.lookup f = some ⟨oc,od, .func fd,osl⟩ /\ PySem.W.codeIn K cdv qual = true
  kp : PySem.W.keepIn K (.ref f) = true
  df : ∃ (o : Obj) (n : Nat),K.lookup dt = some o /\ o.data = .seq items n
section
variable {P : Program} {w : World} {K : PySem.W.Frag} {mg : Str -> Option Value} {base : Heap} {x qual : Str} {st : Stmt} {f dt : Addr} {fd : FuncData} {items : Array Value} {N ps : List Str} {k : Nat} {sp : Sp}
theorem qhe {oc : Value} {od an : Option Addr} {osl sl : Array (Option Value)} {kV doc pm cdv ct dc : Value} {dd : Option Addr} {n : Nat} (l : K.lookup f = some ⟨oc,od, .func (PySem.W.fnOf x qual (q1t st) (q1r st) (q1e st) (.ref dt) kV doc pm an cdv ct),osl⟩)
    (c : PySem.W.codeIn K cdv qual = true) (k : PySem.W.keepIn K (.ref f) = true) (d : K.lookup dt = some ⟨dc,dd, .seq items n,sl⟩) : FunD K x qual st f (PySem.W.fnOf x qual (q1t st) (q1r st) (q1e st) (.ref dt) kV doc pm an cdv ct) dt items :=
  ⟨⟨oc,od,kV,doc,pm,an,cdv,ct,osl,rfl,l,c⟩,k,⟨_,n,d,rfl⟩⟩
theorem FunD.binds {ds : List Value} {n : Nat} (F : FunD K x qual st f fd dt items) (hn : ps.length = n + ds.length)
    (h : ∀ (kV doc pm : Value) (an : Option Addr) (cdv ct : Value) (us : List Value),us.length = n -> ∃ k,bindArgs (PySem.W.fnOf x qual (q1t st) (q1r st) (q1e st) (.ref dt) kV doc pm an cdv ct) ⟨us,[]⟩ = seqItems? (.ref dt) >>= k /\ k (some items) = pure (ps.zip (us ++ ds))) : Binds K fd ps ds := by
  obtain ⟨oc,od,kV,doc,pm,an,cdv,ct,osl,rfl,lk,hcd⟩ := F.ex
  obtain ⟨o,n,ho,hs⟩ := F.df
  intro s us KX hl
  obtain ⟨k,h1,h2⟩ := h kV doc pm an cdv ct us (by rw [List.length_append] at hl; omega)
  exact PySem.W.binds_K KX rfl ho hs h1 h2
theorem FunD.okR (F : FunD K x qual st f fd dt items) (S : q1u N ps (q1e st)) (len : ∀ vs H Q E,sp vs H Q E -> vs.length = ps.length)
    (hbody : ∀ (cdv : Value) (A : Around) (outer : List Env) (s : Shared) (H : Hp) (vs : List V) (Q : VK) (E : XK),Room k (A.deeper (envOfC qual (q1e st) s.heap.objs.size f cdv)) -> sp vs H Q E ->
      ∃ t,PSs (cxOf (CX1 P w) P w K mg base N qual (q1e st) f cdv A outer s H E) (q1r st) t /\ t { nx := fun _ H' => Q .non H',rt := Q } (start N vs) H) : FnOk P w K mg base (CX1 P w) (k + 1) f fd ps sp := by
  obtain ⟨oc,od,kV,doc,pm,an,cdv,ct,osl,rfl,lk,hcd⟩ := F.ex
  exact qd7 lk hcd S len fun A outer s H vs Q E hr hsp => hbody cdv A outer s H vs Q E hr hsp
theorem qgj (i : Int) (t : Tok) : Vals [V.int i] [Value.int i t] := .cons ⟨t,rfl⟩ .nil
end
section
variable {C : Ct} {E : XK}
@[simp] def q88 (c : Nat) (m : AF) (o : AE) (ma : AA) (ds : List Int) : AE := fun env h => (o env h).bind fun x h => match q5g h x with
  | some (d,_) => if d = c then (ma env h).bind fun xs h => m (x :: (xs ++ ds.map AV.int)) h else .no
  | none => .no
theorem qfp {c n : Nat} {m : AF} {ta : TE} {o : AE} {t : TA} {ma : AA} {mn : Str} (ds : List Int) (hm : ∀ i ∈ C.fl c,C.fn i ≠ mn) (ho : SE C E ta o) (ha : SA C E n t ma) : SE C E (qb3 (C.cl c) mn (spZ C (n + ds.length + 1) m) (ds.map V.int) E ta t) (q88 c m o ma ds) := by
  intro w env σ Q ok en s
  refine ho w env σ _ ok en (s.bind.mono fun x w1 ok1 le1 s1 v tv => ?_)
  split at s1
  . rename_i d fs e
    by_cases hd : d = c
    . rw [if_pos hd] at s1
      subst hd
      obtain ⟨k,a,dx,fvs,rfl,rfl,eh,ea,hH,hF,hf⟩ := q7l ok1 e tv
      refine ⟨a,dx,fvs,rfl,hH,hF.q9p hm hf,ha.run ok1 (en.mono ok le1) s1 fun xs w2 hl ok2 le2 s2 vs tvs => ?_⟩
      exact ⟨w2, .ref k :: (xs ++ ds.map AV.int),rfl,ok2, .cons (tv.mono ok1 le2) (tvs.app (q7q ds)),by rw [List.length_cons,List.length_append,List.length_map,hl],s2⟩
    . rw [if_neg hd] at s1; exact s1.elim
  . exact s1.elim
end
end Z
namespace Z
open PySem L2 PySem.Spec PyProof.Rows
section
variable {C : Ct} {E : XK} {ta tb tc : TE} {ma mb mc : AE}
@[simp] def q82 : AV -> AV -> AH -> Re AV
  | .tup xs, .tup ys,h => if xs.isEmpty = false /\ xs.length + ys.length <= sizeLine then .ok (.tup (xs ++ ys)) h else .no
  | _,_,_ => .no
theorem qhv : S2 C E (qdl C.K) q82 := by
  intro w x y u v Q ok tx ty s
  unfold q82 at s
  split at s
  . rename_i h xs ys
    rw [Tr] at tx ty
    obtain ⟨a,vs,rfl,r1,t1⟩ := tx
    obtain ⟨b,us,rfl,r2,t2⟩ := ty
    by_cases hh : xs.isEmpty = false /\ xs.length + ys.length <= sizeLine
    . rw [if_pos hh] at s
      refine ⟨a,b,vs,us,rfl,rfl,r1,r2,?_,by rw [<- t1.len, <- t2.len]; exact hh.2,fun hn => ?_,fun hn p hp => ?_⟩
      . intro z
        have := t1.len
        rw [z] at this
        cases xs with
        | nil => exact absurd hh.1 (by simp)
        | cons _ _ => simp at this
      . subst hn
        have : ys = [] := List.length_eq_zero_iff.mp (by rw [t2.len]; rfl)
        subst this
        rw [List.append_nil] at s
        exact s.here ok _ (by rw [Tr]; exact ⟨a,vs,rfl,r1,t1⟩)
      . exact s (w.fresh p _) rfl (ok.fresh hp _) (ok.q3w hp _) _ (ok.q97 hp (t1.app t2))
    . rw [if_neg hh] at s; exact s.elim
  . exact s.elim
@[simp] def fSlT : AV -> Option Int -> Option Int -> AH -> Re AV := fun x lo hi h => match tupOf x with
  | some xs => if HT.sIx xs.length 0 lo = 0 /\ HT.sIx xs.length xs.length hi = xs.length then .no else .ok (.tup (cutA xs lo hi)) h
  | none => .no
theorem s3_tup : S3 C E (rSlT C.K) fSlT := by
  intro w x u lo hi Q ok tx s
  unfold fSlT at s
  split at s
  . rename_i xs e
    cases x with
    | tup ys =>
      cases e
      rw [Tr] at tx
      obtain ⟨a,vs,rfl,r,t⟩ := tx
      by_cases hh : HT.sIx xs.length 0 lo = 0 /\ HT.sIx xs.length xs.length hi = xs.length
      . rw [if_pos hh] at s; exact s.elim
      . rw [if_neg hh] at s
        refine ⟨a,vs,rfl,r,by rw [<- t.len]; exact hh,fun p hp => s (w.fresh p _) rfl (ok.fresh hp _) (ok.q3w hp _) _ (ok.q97 hp (t.cut lo hi))⟩
    | _ => cases e
  . exact s.elim
end
end Z
namespace Z
open PySem L2
section
variable {C : Ct} {E : XK}
theorem Trs.one1 {w : Wd} {x : AV} {v : V} (t : Tr C w x v) : Trs C w [x] [v] := by
  rw [Trs]; exact ⟨v,[],rfl,t,by rw [Trs]⟩
theorem Trs.rev {w : Wd} : ∀ {xs : List AV} {vs : List V},Trs C w xs vs -> Trs C w xs.reverse vs.reverse
  | [],vs,h => by rw [Trs] at h; subst h; rw [List.reverse_nil,List.reverse_nil,Trs]
  | x :: xs,vs,h => by
    rw [Trs] at h
    obtain ⟨v,us,rfl,h1,h2⟩ := h
    rw [List.reverse_cons,List.reverse_cons]
    exact (Trs.rev h2).app (Trs.one1 h1)
@[simp] def aRev (a : AE) : AE := fun env h => (a env h).bind fun x h => match q4e h x with | some xs => .ok (.lst xs.reverse) h | none => .no
theorem se_rev {te : TE} {a : AE} (ha : SE C E te a) : SE C E (tRev C.K te) (aRev a) := fun w env σ Q ok en s =>
  ha w env σ _ ok en (s.bind.mono fun x w1 ok1 le1 s1 v tv => by
    split at s1
    . rename_i xs e
      obtain ⟨a,vs,rfl,r,t⟩ := q4k ok1 e tv
      exact ⟨a,vs,rfl,r,fun p hp => s1 (w1.frozen p _) rfl (ok1.frozen hp _) (ok1.q4n hp _) _ (ok1.q7y hp t.rev)⟩
    . exact s1.elim)
end
end Z
namespace PM
open PySem L2 Z
def flG : Nat -> List Nat
  | 0 => [0,1]
  | 1 => [0,1,2,3]
  | 2 => [0,1,4]
  | 3 => [0,1,5,6,7,8,9]
  | 4 => [0,1,5]
  | 5 => [0,1,10]
  | 6 => [0,1,11,12,10,13,14,15,16,17]
  | 7 => [0,1,17]
  | 8 => [18,19,20,21]
  | 9 => [5,6,22,7,23,9,24]
  | 10 => [25,26,27,5]
  | 11 => [28,29,30,31,32,33,34,35]
  | 12 => [1,36,37,38,39,40,41,42]
  | 13 => [43]
  | _ => []
def b_qb : AS :=
 (sSeq (q2z flG 0 (aVar 0) (aVar 1))
 (q2z flG 1 (aVar 0) (aVar 2)))
def m_qb : AF := fnZ 3 b_qb
def b_qy : AS :=
 (sSeq (q1s (aC m_qb (q19 (aVar 0) (q19 (aK (.str "batch")) (q19 (aVar 1) aNil)))))
 (q2z flG 10 (aVar 0) (aVar 2)))
def m_qy : AF := fnZ 3 b_qy
def b_qv : AS :=
 (sSeq (q2z flG 18 (aVar 0) (aK (.int 0)))
 (sSeq (q2z flG 19 (aVar 0) qe2)
 (sSeq (q2z flG 20 (aVar 0) (q9h aNil))
 (q2z flG 21 (aVar 0) (q9h aNil)))))
def m_qv : AF := fnZ 1 b_qv
def b_q02 : AS :=
 (sSeq (sAsg (qbo (aFld 19 (aVar 0)) (aVar 1)) (gN 2))
 (sSeq (sIf (aOr (aB (a1 fIsN (aVar 2))) (aB (a2 (fIn true) (aFld 0 (aVar 2)) (aTup (q19 (aK (.str "brine")) (q19 (aK (.str "cloth")) (q19 (aK (.str "shelf")) aNil)))))))
 (q4h 23 (mRep (aVar 1) mNil))
 q2i)
 (sSeq (sIf (aB (a2 fNe (aFld 0 (aVar 2)) (aK (.str "shelf"))))
 (q2z flG 5 (aVar 2) (aK (.bl false)))
 q2i)
 (q1s (aMtL q2y (aFld 21 (aVar 0)) (q19 (aTup (q19 (aFld 18 (aVar 0)) (q19 (aK (.str "boil")) (q19 (aVar 1) aNil)))) aNil))))))
def m_q02 : AF := fnZ 3 b_q02
def b_q06 : AS :=
 (sRet (aC fList (q19 (aFld 21 (aVar 0)) aNil)))
def m_q06 : AF := fnZ 1 b_q06
def b_q0s : AS :=
 (sRet (aC fAll (q19 (aLc 1 [1] (iStrA (aVar 0)) (gN 0) aYes (a2 fInS (aVar 0) (aVar 1))) aNil)))
def m_q0s : AF := fnZ 2 b_q0s
def b_q0u : AS :=
 (sRet (q6a (qc0 fLe fLe (aK (.int 1)) (aC fLen (q19 (aVar 0) aNil)) (aK (.int 12))) (aC m_q0s (q19 (aVar 0) (q19 (aK (.str "abcdefghijklmnopqrstuvwxyz0123456789")) aNil)))))
def m_q0u : AF := fnZ 1 b_q0u
def b_qa : AS :=
 (sSeq (sIf (aNot (aB (aC m_q0u (q19 (aVar 1) aNil))))
 (q4h 21 (mRep (aVar 1) mNil))
 q2i)
 (sIf (aB (a2 fDIn (aVar 1) (aFld 19 (aVar 0))))
 (q4h 22 (mStr (aVar 1) mNil))
 q2i))
def m_qa : AF := fnZ 2 b_qa
def b_qg : AS :=
 (qf3 (aFld 19 (aVar 0)) (aFld 1 (aVar 1)) (aVar 1))
def m_qg : AF := fnZ 2 b_qg
def b_qf : AS :=
 (sSeq (sAsg (qbo (aFld 19 (aVar 0)) (aVar 1)) (gN 3))
 (sSeq (sIf (aOr (aB (a1 fIsN (aVar 3))) (aB (a2 fNe (aFld 0 (aVar 3)) (aVar 2))))
 (q4h 23 (mStr (aVar 2) (mRep (aVar 1) mNil)))
 q2i)
 (sRet (aVar 3))))
def m_qf : AF := fnZ 4 b_qf
def b_q0k : AS :=
 (sIf (aB (a2 fGt (aVar 0) (aVar 1)))
 (q4h 28 (mInt (aVar 0) (mInt (aVar 1) mNil)))
 q2i)
def m_q0k : AF := fnZ 2 b_q0k
def b_q05 : AS :=
 (sIf (aNot (aB (qc0 fLe fLe (aVar 1) (aVar 0) (aVar 2))))
 (q4h 24 (mInt (aVar 1) (mInt (aVar 2) (mInt (aVar 0) mNil))))
 q2i)
def m_q05 : AF := fnZ 3 b_q05
def b_q0h : AS :=
 (q1s (aC m_q05 (q19 (aVar 0) (q19 (aK (.int 1)) (q19 (aK (.int 1000000)) aNil)))))
def m_q0h : AF := fnZ 1 b_q0h
def b_q0n : AS :=
 (sIf (aB (aFld 17 (aVar 0)))
 (q4h 25 (mStr (aFld 1 (aVar 0)) mNil))
 q2i)
def m_q0n : AF := fnZ 1 b_q0n
def b_q0p : AS :=
 (sRet (a2 (fIn false) (aFld 1 (aFld 4 (aVar 0))) (aSl fSlL (aFld 8 (aVar 1)) (q51 (aVar 2)) (q51 (a2 fAdd (aVar 2) (aK (.int 1)))))))
def m_q0p : AF := fnZ 3 b_q0p
def b_qj : AS :=
 (sSeq (q1s (q29 8 m_qa (aVar 0) (q19 (aVar 1) aNil)))
 (sSeq (sFor (iLst (aVar 2)) (gT 2 (q31 (gN 3) (q31 (gN 4) q62)))
 (q1s (q29 8 m_qf (aVar 0) (q19 (aVar 3) (q19 (aK (.str "farm")) aNil)))))
 (sSeq (sFor (iLst (aVar 2)) (gT 2 (q31 (gN 3) (q31 (gN 4) q62)))
 (q1s (aC m_q0h (q19 (aVar 4) aNil))))
 (sSeq (q1s (q29 8 m_qg (aVar 0) (q19 (q66 5 m_qy (q19 (aVar 1) (q19 (aC fSum (q19 (aLc 2 [] (iLst (aVar 2)) (gT 2 (q31 (gN 0) (q31 (gN 1) q62))) aYes (aVar 1)) aNil)) aNil))) aNil)))
 (q1s (aMtL q2y (aFld 21 (aVar 0)) (q19 (aTup (q19 (aFld 18 (aVar 0)) (q19 (aK (.str "batch")) (q19 (aVar 1) (q19 (aC q68 (q19 (aVar 2) aNil)) aNil))))) aNil)))))))
def m_qj : AF := fnZ 5 b_qj
def b_qr : AS :=
 (sSeq (q1s (aC m_qb (q19 (aVar 0) (q19 (aVar 1) (q19 (aVar 2) aNil)))))
 (q2z flG 5 (aVar 0) (aK (.bl false))))
def m_qr : AF := fnZ 3 b_qr
def b_qm : AS :=
 (sSeq (q1s (q29 8 m_qa (aVar 0) (q19 (aVar 1) aNil)))
 (q1s (q29 8 m_qg (aVar 0) (q19 (q66 4 m_qr (q19 (aK (.str "brine")) (q19 (aVar 1) aNil))) aNil))))
def m_qm : AF := fnZ 2 b_qm
def b_qo : AS :=
 (sSeq (q1s (q29 8 m_qa (aVar 0) (q19 (aVar 1) aNil)))
 (q1s (q29 8 m_qg (aVar 0) (q19 (q66 4 m_qr (q19 (aK (.str "cloth")) (q19 (aVar 1) aNil))) aNil))))
def m_qo : AF := fnZ 2 b_qo
def b_qt : AS :=
 (sSeq (q1s (q29 8 m_qa (aVar 0) (q19 (aVar 1) aNil)))
 (q1s (q29 8 m_qg (aVar 0) (q19 (q66 0 m_qb (q19 (aK (.str "farm")) (q19 (aVar 1) aNil))) aNil))))
def m_qt : AF := fnZ 2 b_qt
def b_q04 : AS :=
 (sSeq (q1s (aC m_qb (q19 (aVar 0) (q19 (aK (.str "room")) (q19 (aVar 1) aNil)))))
 (sSeq (q2z flG 2 (aVar 0) (aVar 2))
 (q2z flG 3 (aVar 0) (aVar 3))))
def m_q04 : AF := fnZ 4 b_q04
def b_qu : AS :=
 (sSeq (q1s (q29 8 m_qa (aVar 0) (q19 (aVar 1) aNil)))
 (sSeq (q1s (aC m_q05 (q19 (aVar 2) (q19 (aK (.int 0)) (q19 (aK (.int 100)) aNil)))))
 (sSeq (q1s (aC m_q05 (q19 (aVar 3) (q19 (aK (.int 0)) (q19 (aK (.int 40)) aNil)))))
 (q1s (q29 8 m_qg (aVar 0) (q19 (q66 1 m_q04 (q19 (aVar 1) (q19 (aVar 2) (q19 (aVar 3) aNil)))) aNil))))))
def m_qu : AF := fnZ 4 b_qu
def b_qz : AS :=
 (sSeq (q1s (aC m_qb (q19 (aVar 0) (q19 (aK (.str "shelf")) (q19 (aVar 1) aNil)))))
 (q2z flG 4 (aVar 0) (aVar 2)))
def m_qz : AF := fnZ 3 b_qz
def b_qp : AS :=
 (sSeq (q1s (q29 8 m_qa (aVar 0) (q19 (aVar 1) aNil)))
 (q1s (q29 8 m_qg (aVar 0) (q19 (q66 2 m_qz (q19 (aVar 1) (q19 (q29 8 m_qf (aVar 0) (q19 (aVar 2) (q19 (aK (.str "room")) aNil))) aNil))) aNil))))
def m_qp : AF := fnZ 3 b_qp
def b_q03 : AS :=
 (sSeq (q1s (aC m_qb (q19 (aVar 0) (q19 (aK (.str "sort")) (q19 (aVar 1) aNil)))))
 (sSeq (q2z flG 5 (aVar 0) (aVar 2))
 (sSeq (q2z flG 6 (aVar 0) (aVar 3))
 (sSeq (q2z flG 7 (aVar 0) (aVar 4))
 (sSeq (q2z flG 8 (aVar 0) (aLc 3 [] (iLst (aVar 5)) (gT 3 (q31 (gN 0) (q31 (gN 1) (q31 (gN 2) q62)))) aYes (aVar 0)))
 (q2z flG 9 (aVar 0) (aLc 3 [] (iLst (aVar 5)) (gT 3 (q31 (gN 0) (q31 (gN 1) (q31 (gN 2) q62)))) aYes (aTup (q19 (aVar 1) (q19 (aVar 2) aNil))))))))))
def m_q03 : AF := fnZ 6 b_q03
def b_q0q : AS :=
 (sSeq (q1s (aC m_q05 (q19 (aVar 1) (q19 (aK (.int 1)) (q19 (aK (.int 60)) aNil)))))
 (q1s (aC m_q05 (q19 (aVar 0) (q19 (aK (.int 1)) (q19 (aVar 1) aNil))))))
def m_q0q : AF := fnZ 2 b_q0q
def b_qk : AS :=
 (sSeq (q1s (q29 8 m_qa (aVar 0) (q19 (aVar 1) aNil)))
 (sSeq (sAsg (aLc 3 [0] (iLst (aVar 5)) (gT 3 (q31 (gN 0) (q31 (gN 1) (q31 (gN 2) q62)))) aYes (aFld 1 (q29 8 m_qf (aVar 3) (q19 (aVar 0) (q19 (aK (.str "room")) aNil))))) (gN 6))
 (sSeq (sFor (iLst (a2 fCat (aLst (q19 (aVar 3) (q19 (aVar 4) aNil))) (aLc 3 [] (iLst (aVar 5)) (gT 3 (q31 (gN 0) (q31 (gN 1) (q31 (gN 2) q62)))) aYes (aTup (q19 (aVar 1) (q19 (aVar 2) aNil)))))) (gN 7)
 (q1s (aC m_q0q (q19 (a2 fIx (aVar 7) (aK (.int 0))) (q19 (a2 fIx (aVar 7) (aK (.int 1))) aNil)))))
 (sSeq (sIf (aB (a2 fLt (a1 qa2 (aVar 6)) (aC fLen (q19 (aVar 6) aNil))))
 (q4h 26 mNil)
 q2i)
 (q1s (q29 8 m_qg (aVar 0) (q19 (q66 3 m_q03 (q19 (aVar 1) (q19 (aVar 2) (q19 (aVar 3) (q19 (aVar 4) (q19 (aVar 5) aNil)))))) aNil)))))))
def m_qk : AF := fnZ 8 b_qk
def b_q00 : AS :=
 (sSeq (q1s (aC m_qb (q19 (aVar 0) (q19 (aK (.str "wheel")) (q19 (aVar 1) aNil)))))
 (sSeq (q2z flG 11 (aVar 0) (aVar 2))
 (sSeq (q2z flG 12 (aVar 0) (aVar 3))
 (sSeq (q2z flG 10 (aVar 0) (aVar 4))
 (sSeq (q2z flG 13 (aVar 0) (aK (.int 0)))
 (sSeq (q2z flG 14 (aVar 0) (aVar 5))
 (sSeq (q2z flG 15 (aVar 0) (aVar 5))
 (sSeq (q2z flG 16 (aVar 0) (aVar 5))
 (q2z flG 17 (aVar 0) (aK (.bl false)))))))))))
def m_q00 : AF := fnZ 6 b_q00
def b_qq : AS :=
 (sSeq (q1s (q29 8 m_qa (aVar 0) (q19 (aVar 1) aNil)))
 (sSeq (sAsg (q29 8 m_qf (aVar 0) (q19 (aVar 2) (q19 (aK (.str "batch")) aNil))) (gN 6))
 (sSeq (sAsg (q29 8 m_qf (aVar 0) (q19 (aVar 3) (q19 (aK (.str "sort")) aNil))) (gN 7))
 (sSeq (sAsg (q29 8 m_qf (aVar 0) (q19 (aVar 4) (q19 (aK (.str "shelf")) aNil))) (gN 8))
 (sSeq (q1s (aC m_q0h (q19 (aVar 5) aNil)))
 (sSeq (sIf (aNot (aB (aC m_q0p (q19 (aVar 8) (q19 (aVar 7) (q19 (aK (.int 0)) aNil))))))
 (q4h 26 (mStr (aVar 3) (mStr (aVar 4) mNil)))
 q2i)
 (sSeq (q1s (aC m_q0k (q19 (aVar 5) (q19 (aFld 10 (aVar 6)) aNil))))
 (sSeq (q6h flG 10 fSub (aVar 6) (aVar 5))
 (sSeq (sAsg (q66 6 m_q00 (q19 (aVar 1) (q19 (aVar 7) (q19 (aVar 8) (q19 (aVar 5) (q19 (aFld 18 (aVar 0)) aNil)))))) (gN 9))
 (sSeq (q1s (q29 8 m_qg (aVar 0) (q19 (aVar 9) aNil)))
 (sSeq (q1s (aMtL q2y (aFld 20 (aVar 0)) (q19 (aVar 9) aNil)))
 (q1s (aMtL q2y (aFld 21 (aVar 0)) (q19 (aTup (q19 (aFld 18 (aVar 0)) (q19 (aK (.str "wheel")) (q19 (aVar 1) (q19 (aVar 2) (q19 (aVar 3) (q19 (aVar 4) (q19 (aVar 5) aNil)))))))) aNil))))))))))))))
def m_qq : AF := fnZ 10 b_qq
def b_q0m : AS :=
 (sSeq (sAsg (aFld 4 (aFld 12 (aVar 0))) (gN 1))
 (sRet (a2 fDiv (a2 fMul (a2 fMul (aFld 10 (aVar 0)) (a2 fSub (aK (.int 100)) (aFld 2 (aVar 1)))) (aFld 3 (aVar 1))) (aK (.int 100000)))))
def m_q0m : AF := fnZ 2 b_q0m
def b_qh : AS :=
 (sSeq (sAsg (q9h aNil) (gN 1))
 (sSeq (sFor (iLst (aFld 20 (aVar 0))) (gN 2)
 (sIf (aNot (aB (aFld 17 (aVar 2))))
 (sSeq (sAsg (aC m_q0m (q19 (aVar 2) aNil)) (gN 3))
 (sSeq (q6h flG 10 fSub (aVar 2) (aVar 3))
 (q1s (aMtL q2y (aVar 1) (q19 (aTup (q19 (aFld 1 (aVar 2)) (q19 (aFld 1 (aFld 4 (aFld 12 (aVar 2)))) (q19 (aFld 1 (aFld 12 (aVar 2))) (q19 (aVar 3) aNil))))) aNil)))))
 q2i))
 (sSeq (q1s (aMtL q2y (aFld 21 (aVar 0)) (q19 (aTup (q19 (aFld 18 (aVar 0)) (q19 (aK (.str "night")) (q19 (aC q68 (q19 (aVar 1) aNil)) aNil)))) aNil)))
 (q6h flG 18 fAdd (aVar 0) (aK (.int 1))))))
def m_qh : AF := fnZ 4 b_qh
def b_qi : AS :=
 (sSeq (q1s (aC m_q05 (q19 (aVar 1) (q19 (aK (.int 1)) (q19 (aK (.int 30)) aNil)))))
 (sFor (q3t (aVar 1)) (gN 2)
 (q1s (q29 8 m_qh (aVar 0) aNil))))
def m_qi : AF := fnZ 3 b_qi
def b_q01 : AS :=
 (sSeq (sAsg (q29 8 m_qf (aVar 0) (q19 (aVar 1) (q19 (aK (.str "wheel")) aNil))) (gN 4))
 (sSeq (sAsg (aLst (q19 (q29 8 m_qf (aVar 0) (q19 (aVar 2) (q19 (aK (.str "brine")) aNil))) (q19 (q29 8 m_qf (aVar 0) (q19 (aVar 3) (q19 (aK (.str "cloth")) aNil))) aNil))) (gN 5))
 (sSeq (q1s (aC m_q0n (q19 (aVar 4) aNil)))
 (sSeq (sIf (aAnd (aNot (aB (aFld 5 (aFld 11 (aVar 4))))) (aB (aC fAny (q19 (aLc 1 [] (iLst (aVar 5)) (gN 0) aYes (aFld 5 (aVar 0))) aNil))))
 (q4h 27 (mStr (aVar 2) (mStr (aVar 3) mNil)))
 q2i)
 (sSeq (sIf (aB (aFld 5 (aFld 11 (aVar 4))))
 (sFor (iLst (aVar 5)) (gN 6)
 (q2z flG 5 (aVar 6) (aK (.bl true))))
 q2i)
 (sSeq (q2z flG 15 (aVar 4) (aFld 18 (aVar 0)))
 (q1s (aMtL q2y (aFld 21 (aVar 0)) (q19 (aTup (q19 (aFld 18 (aVar 0)) (q19 (aK (.str "wash")) (q19 (aVar 1) (q19 (aVar 2) (q19 (aVar 3) aNil)))))) aNil)))))))))
def m_q01 : AF := fnZ 7 b_q01
def b_q0a (rec : AF) : AS :=
 (sSeq (sIf (aB (a1 (qdh [.list, .tuple]) (aVar 1)))
 (sSeq (sIf (aOr (aB (a2 fNe (a1 (fIsi .list) (aVar 0)) (a1 (fIsi .list) (aVar 1)))) (aB (a2 fNe (a1 (fIsi .tuple) (aVar 0)) (a1 (fIsi .tuple) (aVar 1)))))
 (sRet (aK (.bl false)))
 q2i)
 (sRet (q6a (a2 fEq (aC fLen (q19 (aVar 0) aNil)) (aC fLen (q19 (aVar 1) aNil))) (aC fAll (q19 (aLc 1 [0,1] (q3t (aC fLen (q19 (aVar 1) aNil))) (gN 0) aYes (aC rec (q19 (a2 fIx (aVar 1) (aVar 0)) (q19 (a2 fIx (aVar 2) (aVar 0)) aNil)))) aNil)))))
 q2i)
 (sSeq (sAsg (q6a (a2 fEq (a1 (fIsi .int) (aVar 0)) (a1 (fIsi .int) (aVar 1))) (a2 fEq (a1 (fIsi .bool) (aVar 0)) (a1 (fIsi .bool) (aVar 1)))) (gN 2))
 (sRet (q6a (aVar 2) (q6a (a2 fEq (a1 (fIsi .str) (aVar 0)) (a1 (fIsi .str) (aVar 1))) (a2 fEq (aVar 0) (aVar 1)))))))
def m_q0a : Nat -> AF
  | 0 => fun _ _ => .no
  | n + 1 => fnZ 3 (b_q0a (m_q0a n))
def b_q17 : AS :=
 (sRet (aTup (q19 (aFld 5 (aVar 0)) (q19 (aFld 6 (aVar 0)) (q19 (aFld 22 (aVar 0)) (q19 (aFld 7 (aVar 0)) (q19 (aFld 23 (aVar 0)) (q19 (aFld 9 (aVar 0)) (q19 (aFld 24 (aVar 0)) aNil)))))))))
def m_q17 : AF := fnZ 1 b_q17
end PM
namespace PM
open PySem L2 Z
theorem qet {n a b : Int} {h : AH} (h1 : a <= n) (h2 : n <= b) : m_q05 [.int n, .int a, .int b] h = .ok .non h := by
  simp [m_q05,b_q05,h1,h2]
@[simp] theorem qfy (h : AH) (x y : Cell) : (h ++ [x]).set h.length y = h ++ [y] := by
  rw [List.set_append_right _ _ (Nat.le_refl _),Nat.sub_self]; rfl
theorem q2j {h : AH} {i j : Nat} {c : Cell} (hn : i ≠ j) : (h.set i c)[j]? = h[j]? := List.getElem?_set_ne hn
theorem qbi {h : AH} {i : Nat} {c : Cell} (e : h[i]? = some c) : i < h.length := (List.getElem?_eq_some_iff.mp e).1
theorem q9o {h : AH} {i : Nat} {c d : Cell} (e : h[i]? = some d) : (h.set i c)[i]? = some c := List.getElem?_set_self (qbi e)
theorem q3z {h g : AH} {i : Nat} {c : Cell} (e : h[i]? = some c) : (h ++ g)[i]? = some c := by
  rw [List.getElem?_append_left (qbi e)]; exact e
theorem lc_fm {α : Type} {wt : Option Nat} {all : List AV} {g : AV -> AEnv -> AH -> Re AEnv} {tc : AT} {te : AE} {be : AEnv} {h : AH} {k f : α -> AV} {p : α -> Bool} (hw : okW h all wt = true) :
    ∀ (ys : List α) (acc : List AV),(∀ y ∈ ys, ∃ env,g (k y) be h = .ok env h /\ tc env h = .ok (p y) h /\ (p y = true -> te env h = .ok (f y) h)) -> lcL wt all g tc te be (ys.map k) acc h = .ok (acc ++ (ys.filter p).map f) h
  | [],acc,_ => by simp [lcL,hw]
  | y :: ys,acc,hs => by
    obtain ⟨env,e1,e2,e3⟩ := hs y (by simp)
    have ih := fun acc => lc_fm hw ys acc fun z hz => hs z (List.mem_cons_of_mem _ hz)
    cases hp : p y with
    | true => simp [lcL,hw,e1,e2,e3 hp,hp,ih]
    | false => simp [lcL,hw,e1,e2,hp,ih]
theorem qf9 {α : Type} {wt : Option Nat} {all : List AV} {g : AV -> AEnv -> AH -> Re AEnv} {te : AE} {be : AEnv} {h : AH} {k f : α -> AV} (hw : okW h all wt = true)
    (ys : List α) (acc : List AV) (hs : ∀ y ∈ ys, ∃ env,g (k y) be h = .ok env h /\ te env h = .ok (f y) h) : lcL wt all g aYes te be (ys.map k) acc h = .ok (acc ++ ys.map f) h := by
  have := lc_fm (tc := aYes) (te := te) (f := f) (p := fun _ => true) hw ys acc fun y hy => by
    obtain ⟨env,e1,e2⟩ := hs y hy
    exact ⟨env,e1,rfl,fun _ => e2⟩
  rw [List.filter_eq_self.mpr (by simp)] at this
  exact this
theorem qa3 {α : Type} (f : α -> Bool) : ∀ (xs : List α),q5l (xs.map fun x => AV.bl (f x)) = some (xs.map f)
  | [] => rfl
  | x :: xs => by simp [qa3 f xs]
theorem all_map {α : Type} (f : α -> Bool) (xs : List α) : (xs.map f).all id = xs.all f := by rw [List.all_map]; rfl
def q2u (t : Int) (d l e : Nat) : Cell := .ins 8 [(18, .int t),(19, .ref d),(20, .ref l),(21, .ref e)]
section
variable {h : AH} {a d l e t c : Nat} {day : Int} {ks : List Key} {xs : List AV} {nm kd : Str} {fs : List (Nat × AV)}
theorem q4a (h0 : h[a]? = some (q2u day d l e)) (h1 : h[d]? = some (.dk ks xs)) (h2 : dval ks xs (.inr nm) = some (.ref t)) (h3 : h[t]? = some (.ins c fs)) (h4 : fs.lookup 0 = some (.str kd)) :
    m_qf [.ref a, .str nm, .str kd] h = .ok (.ref t) h := by
  simp [m_qf,b_qf,h0,q2u,h1,h2,h3,h4,List.lookup]
end
section
variable {h : AH} {nm : Str}
@[simp] theorem qbe (h : AH) (x : Cell) : (h ++ [x])[h.length]? = some x := by simp
def q4u (nm : Str) (sort shelf : Nat) (grams : Int) (place : Int) (td wd rd : Int) (gone : Bool) : List (Nat × AV) :=
  [(0, .str "wheel"),(1, .str nm),(11, .ref sort),(12, .ref shelf),(10, .int grams),(13, .int place),(14, .int td),(15, .int wd),(16, .int rd),(17, .bl gone)]
end
end PM
namespace PM
open PySem L2 Z
theorem map_inj {f : Char -> Nat} (hf : ∀ x y,f x = f y -> x = y) : ∀ {a b : List Char},a.map f = b.map f -> a = b
  | [],[],_ => rfl
  | [],_ :: _,h => by simp at h
  | _ :: _,[],h => by simp at h
  | x :: a,y :: b,h => by
    simp only [List.map_cons,List.cons.injEq] at h
    rw [hf x y h.1,map_inj hf h.2]
@[simp] theorem qi8 (a b : String) : Str.ofString a = Str.ofString b ↔ a = b := by
  refine ⟨fun h => ?_,fun h => by rw [h]⟩
  rw [Str.ofString_eq_toList,Str.ofString_eq_toList] at h
  have h1 : a.toList.map Char.toNat = b.toList.map Char.toNat := by
    have := congrArg (fun s : Str => s.cps.toList) h
    simpa using this
  apply String.toList_inj.mp
  exact map_inj (fun x y e => Char.ext (UInt32.toNat_inj.mp e)) h1
theorem q9d {s t : AS} {env env' : AEnv} {h h' : AH} (e : s env h = .nx env' h') : sSeq s t env h = t env' h' := by simp [e]
theorem q70 {s t : AS} {env env' : AEnv} {h h' : AH} {x : AV} (e : s env h = .nx env' h') (r : ∃ h2,t env' h' = .rt x h2) : ∃ h2,sSeq s t env h = .rt x h2 := by rw [q9d e]; exact r
theorem qa4 {α : Type} {wt : Option Nat} {all : List AV} {g : AV -> AEnv -> AH -> Re AEnv} {body : AS} {k : α -> AV} {P : Nat -> AEnv -> AH -> Prop}
    (hw : ∀ i env h,P i env h -> okW h all wt = true) :
    ∀ (ys : List α) (i : Nat) (env : AEnv) (h : AH),P i env h ->
      (∀ (j : Nat) y,ys[j]? = some y -> ∀ env h,P (i + j) env h -> ∃ e1 h1 e2 h2,g (k y) env h = .ok e1 h1 /\ (body e1 h1 = .nx e2 h2 \/ body e1 h1 = .ct e2 h2) /\ P (i + j + 1) e2 h2) ->
      ∃ env' h',q3b wt all g body (ys.map k) env h = .nx env' h' /\ P (i + ys.length) env' h'
  | [],i,env,h,hp,hs => ⟨env,h,by simp [q3b,hw i env h hp],by simpa using hp⟩
  | y :: ys,i,env,h,hp,hs => by
    obtain ⟨e1,h1,e2,h2,q1,q2,q3⟩ := hs 0 y rfl env h hp
    obtain ⟨e3,h3,q4,q5⟩ := qa4 hw ys (i + 1) e2 h2 q3 fun j z hj env h hp => by
      have := hs (j + 1) z (by simpa using hj) env h (by rw [show i + (j + 1) = i + 1 + j by omega]; exact hp)
      rw [show i + (j + 1) + 1 = i + 1 + j + 1 by omega] at this
      exact this
    refine ⟨e3,h3,?_,by rw [List.length_cons,show i + (ys.length + 1) = i + 1 + ys.length by omega]; exact q5⟩
    rw [List.map_cons,q3b,if_pos (hw i env h hp),q1]
    rcases q2 with q2 | q2 <;> simp [q2,q4]
mutual
def okD : Nat -> AV -> Bool
  | _, .non => true | _, .bl _ => true | _, .int _ => true | _, .str _ => true
  | n, .tup xs => match n with | 0 => false | m + 1 => decide (xs.length <= 100000) && okDs m xs
  | n, .lst xs => match n with | 0 => false | m + 1 => decide (xs.length <= 100000) && okDs m xs
  | _,_ => false
def okDs : Nat -> List AV -> Bool
  | _,[] => true
  | n,x :: xs => okD n x && okDs n xs
end
theorem q7p {n : Nat} {x : AV} : ∀ {xs : List AV} {i : Nat},okDs n xs = true -> xs[i]? = some x -> okD n x = true
  | [],_,_,e => by simp at e
  | y :: ys,0,d,e => by
    simp only [okDs,Bool.and_eq_true] at d
    simp at e; exact e ▸ d.1
  | y :: ys,i + 1,d,e => by
    simp only [okDs,Bool.and_eq_true] at d
    exact q7p d.2 (by simpa using e)
theorem qch {n : Nat} : ∀ {xs : List AV},(∀ x ∈ xs,okD n x = true) -> okDs n xs = true
  | [],_ => by simp [okDs]
  | y :: ys,d => by simp [okDs,d y (by simp),qch fun x hx => d x (List.mem_cons_of_mem _ hx)]
def IsL (h : AH) (x : AV) (xs : List AV) : Prop := x = .lst xs \/ ∃ k,x = .ref k /\ h[k]? = some (.lst xs)
theorem qbs {h : AH} {n : Nat} {x y : AV} {xs : List AV} (hl : xs.length <= 100000) (hx : IsL h x xs) (hy : IsL h y xs) (hs : ∀ i (_ : i < xs.length),m_q0a n [xs[i],xs[i]] h = .ok (.bl true) h) : m_q0a (n + 1) [x,y] h = .ok (.bl true) h := by
  have hl2 : xs.length <= sizeLine := Nat.le_trans hl (by decide)
  have hb : rng1 (.int (xs.length : Int)) h = .ok (Z.intsFrom 0 xs.length,none) h := q8w (by omega)
  have ea : ∀ i (hi : i < xs.length),atI xs (i : Int) = some xs[i] := fun i hi => q57 (List.getElem?_eq_getElem hi)
  have hi : (Z.intsFrom 0 xs.length).length <= sizeLine := by rw [len_from]; exact hl2
  have key : lcL none (Z.intsFrom 0 xs.length) (gN 0) aYes (aC (m_q0a n) (q19 (a2 fIx (aVar 1) (aVar 0)) (q19 (a2 fIx (aVar 2) (aVar 0)) aNil))) [none,some x,some y] (Z.intsFrom 0 xs.length) [] h = .ok ([] ++ (List.range xs.length).map fun _ => AV.bl true) h := by
    refine qf9 (k := fun i : Nat => AV.int (0 + (i : Int))) q46 (List.range xs.length) [] fun i hi => ?_
    have hi := List.mem_range.mp hi
    refine ⟨_,rfl,?_⟩
    have := hs i hi
    rcases hx with rfl | ⟨k,rfl,ek⟩ <;> rcases hy with rfl | ⟨k',rfl,ek'⟩
    . simp [ea i hi,this]
    . simp [ea i hi,this,ek']
    . simp [ea i hi,this,ek]
    . simp [ea i hi,this,ek,ek']
  have kb : q5l ((List.range xs.length).map fun _ => AV.bl true) = some ((List.range xs.length).map fun _ => true) := qa3 (fun _ : Nat => true) _
  rcases hx with rfl | ⟨k,rfl,ek⟩ <;> rcases hy with rfl | ⟨k',rfl,ek'⟩
  . simp [m_q0a,b_q0a,bEnv,hl2,hb,hi,key,kb]
  . simp [m_q0a,b_q0a,bEnv,hl2,hb,hi,key,kb,ek']
  . simp [m_q0a,b_q0a,bEnv,hl2,hb,hi,key,kb,ek]
  . simp [m_q0a,b_q0a,bEnv,hl2,hb,hi,key,kb,ek,ek']
theorem qg2 {h : AH} {n : Nat} {xs : List AV} (hl : xs.length <= 100000) (hs : ∀ i (_ : i < xs.length),m_q0a n [xs[i],xs[i]] h = .ok (.bl true) h) : m_q0a (n + 1) [.tup xs, .tup xs] h = .ok (.bl true) h := by
  have hl2 : xs.length <= sizeLine := Nat.le_trans hl (by decide)
  have hb : rng1 (.int (xs.length : Int)) h = .ok (Z.intsFrom 0 xs.length,none) h := q8w (by omega)
  have ea : ∀ i (hi : i < xs.length),atI xs (i : Int) = some xs[i] := fun i hi => q57 (List.getElem?_eq_getElem hi)
  have hi : (Z.intsFrom 0 xs.length).length <= sizeLine := by rw [len_from]; exact hl2
  have key : lcL none (Z.intsFrom 0 xs.length) (gN 0) aYes (aC (m_q0a n) (q19 (a2 fIx (aVar 1) (aVar 0)) (q19 (a2 fIx (aVar 2) (aVar 0)) aNil))) [none,some (.tup xs),some (.tup xs)] (Z.intsFrom 0 xs.length) [] h = .ok ([] ++ (List.range xs.length).map fun _ => AV.bl true) h := by
    refine qf9 (k := fun i : Nat => AV.int (0 + (i : Int))) q46 (List.range xs.length) [] fun i hi => ?_
    have hi := List.mem_range.mp hi
    refine ⟨_,rfl,?_⟩
    have := hs i hi
    simp [ea i hi,this]
  have kb : q5l ((List.range xs.length).map fun _ => AV.bl true) = some ((List.range xs.length).map fun _ => true) := qa3 (fun _ : Nat => true) _
  simp [m_q0a,b_q0a,bEnv,hl2,hb,hi,key,kb]
theorem same_self (h : AH) : ∀ (n : Nat) (x : AV),okD n x = true -> m_q0a (n + 1) [x,x] h = .ok (.bl true) h
  | n, .non,_ => by simp [m_q0a,b_q0a]
  | n, .bl b,_ => by simp [m_q0a,b_q0a]
  | n, .int b,_ => by simp [m_q0a,b_q0a]
  | n, .str b,_ => by simp [m_q0a,b_q0a]
  | 0, .tup xs,d => by simp [okD] at d
  | 0, .lst xs,d => by simp [okD] at d
  | n + 1, .tup xs,d => by
    simp only [okD,Bool.and_eq_true,decide_eq_true_eq] at d
    exact qg2 d.1 fun i hi => same_self h n xs[i] (q7p d.2 (List.getElem?_eq_getElem hi))
  | n + 1, .lst xs,d => by
    simp only [okD,Bool.and_eq_true,decide_eq_true_eq] at d
    exact qbs d.1 (.inl rfl) (.inl rfl) fun i hi => same_self h n xs[i] (q7p d.2 (List.getElem?_eq_getElem hi))
  | n, .dk _ _,d => by simp [okD] at d
  | n, .ref _,d => by simp [okD] at d
  | n, .kst _,d => by simp [okD] at d
  | n, .xc _,d => by simp [okD] at d
theorem qgv {h : AH} {n : Nat} {x y : AV} {xs : List AV} (hl : xs.length <= 100000) (hx : IsL h x xs) (hy : IsL h y xs) (hd : okDs n xs = true) : m_q0a (n + 2) [x,y] h = .ok (.bl true) h :=
  qbs hl hx hy fun i hi => same_self h n xs[i] (q7p hd (List.getElem?_eq_getElem hi))
structure Cel (h : AH) (a d l e : Nat) (day : Int) (ks : List Key) (xs ws es : List AV) : Prop where
  qc : h[a]? = some (q2u day d l e)
  qd : h[d]? = some (.dk ks xs)
  ql : h[l]? = some (.lst ws)
  qe : h[e]? = some (.lst es)
  ne : l ≠ e
section
variable {h : AH} {a d l e : Nat} {day : Int} {ks : List Key} {xs ws es : List AV}
theorem q2v {h : AH} {i j : Nat} {x y : Cell} (hi : h[i]? = some x) (hj : h[j]? = some y) (hn : x ≠ y) : i ≠ j := fun e => hn (by subst e; rw [hi] at hj; exact Option.some.inj hj)
theorem Cel.app (q : Cel h a d l e day ks xs ws es) (g : AH) : Cel (h ++ g) a d l e day ks xs ws es := ⟨q3z q.qc,q3z q.qd,q3z q.ql,q3z q.qe,q.ne⟩
theorem Cel.put (q : Cel h a d l e day ks xs ws es) {k c : Nat} {fs : List (Nat × AV)} (hk : h[k]? = some (.ins c fs)) (hc : c ≠ 8) (y : Cell) : Cel (h.set k y) a d l e day ks xs ws es :=
  ⟨by rw [q2j (q2v hk q.qc (by simp [q2u,hc]))]; exact q.qc,by rw [q2j (q2v hk q.qd (by simp))]; exact q.qd,by rw [q2j (q2v hk q.ql (by simp))]; exact q.ql,by rw [q2j (q2v hk q.qe (by simp))]; exact q.qe,q.ne⟩
theorem Cel.put_e (q : Cel h a d l e day ks xs ws es) (es' : List AV) : Cel (h.set e (.lst es')) a d l e day ks xs ws es' :=
  ⟨by rw [q2j (q2v q.qe q.qc (by simp [q2u]))]; exact q.qc,by rw [q2j (q2v q.qe q.qd (by simp))]; exact q.qd,by rw [q2j (Ne.symm q.ne)]; exact q.ql,q9o q.qe,q.ne⟩
@[simp] theorem last_set' (h : AH) (i : Nat) (z x y : Cell) : (h.set i z ++ [x]).set h.length y = h.set i z ++ [y] := by
  have := qfy (h.set i z) x y
  rwa [List.length_set] at this
def q7i (nm : Str) (m : Bool) (tg wg : AV) (rs : List Str) (st : AV) : List (Nat × AV) := [(0, .str "sort"),(1, .str nm),(5, .bl m),(6,tg),(7,wg),(8, .lst (rs.map AV.str)),(9,st)]
def batchC (nm : Str) (left : Int) : Cell := .ins 5 [(0, .str "batch"),(1, .str nm),(10, .int left)]
def q4w (nm : Str) (r : Nat) : Cell := .ins 2 [(0, .str "shelf"),(1, .str nm),(4, .ref r)]
def q6o (nm : Str) (x y : Int) : Cell := .ins 1 [(0, .str "room"),(1, .str nm),(2, .int x),(3, .int y)]
end
end PM
namespace PM
open PySem L2 Z
section
variable {h : AH} {a d l e : Nat} {day : Int} {ks : List Key} {xs ws es : List AV}
variable {b s f r : Nat} {nm bn sn fnm rn : Str} {left g x y : Int} {m : Bool} {tg wg st : AV} {rs : List Str}
theorem qgx {h : AH} {x : AV} {xs : List AV} (hx : IsL h x xs) : q4e h x = some xs := by
  rcases hx with rfl | ⟨k,rfl,ek⟩
  . rfl
  . simp [ek]
def farmC (nm : Str) : Cell := .ins 0 [(0, .str "farm"),(1, .str nm)]
end
end PM
namespace PM
open PySem L2 Z
structure Wh where
  nm : Str
  sort : Nat
  shelf : Nat
  grams : Int
  place : Int
  td : Int
  wd : Int
  rd : Int
  gone : Bool
def Wh.cell (w : Wh) : Cell := .ins 6 (q4u w.nm w.sort w.shelf w.grams w.place w.td w.wd w.rd w.gone)
structure WR where
  k : Nat
  w : Wh
  fnm : Str
  r : Nat
  rn : Str
  dp : Int
  wm : Int
structure WR.ok (h : AH) (z : WR) : Prop where
  c : h[z.k]? = some z.w.cell
  f : h[z.w.shelf]? = some (q4w z.fnm z.r)
  r : h[z.r]? = some (q6o z.rn z.dp z.wm)
  d0 : 0 <= z.dp
  d1 : z.dp <= 100
  w0 : 0 <= z.wm
  w1 : z.wm <= 40
def WR.loss (z : WR) : Int := z.w.grams * (100 - z.dp) * z.wm / 100000
def WR.next (z : WR) : WR := { z with w := { z.w with grams := z.w.grams - z.loss } }
def WR.row (z : WR) : AV := .tup [.str z.w.nm, .str z.rn, .str z.fnm, .int z.loss]
def rowsOf (zs : List WR) : List AV := (zs.filter fun z => !z.w.gone).map WR.row
def q44 : List WR -> AH -> AH
  | [],h => h
  | z :: zs,h => q44 zs (if z.w.gone then h else h.set z.k z.next.w.cell)
theorem q9k : ∀ (zs : List WR) (h : AH),(q44 zs h).length = h.length
  | [],h => rfl
  | z :: zs,h => by
    unfold q44
    rw [q9k zs]
    split <;> simp
theorem WR.ok.put {h : AH} {z y : WR} (o : z.ok h) (oy : y.ok h) (hn : y.k ≠ z.k) (c : Cell) : z.ok (h.set y.k c) :=
  ⟨by rw [q2j hn]; exact o.c,by rw [q2j (q2v oy.c o.f (by simp [Wh.cell,q4w]))]; exact o.f,by rw [q2j (q2v oy.c o.r (by simp [Wh.cell,q6o]))]; exact o.r,o.d0,o.d1,o.w0,o.w1⟩
theorem WR.ok.app {h g : AH} {z : WR} (o : z.ok h) : z.ok (h ++ g) := ⟨q3z o.c,q3z o.f,q3z o.r,o.d0,o.d1,o.w0,o.w1⟩
theorem qhd {h : AH} {z : WR} (o : z.ok h) : m_q0m [.ref z.k] h = .ok (.int z.loss) h := by
  have e1 := o.c
  have e2 := o.f
  have e3 := o.r
  simp only [Wh.cell,q4u,q4w,q6o] at e1 e2 e3
  have b1 := o.d0
  have b2 := o.d1
  have b3 := o.w0
  have b4 := o.w1
  have m1 : -18446744073709551616 < 100 - z.dp := by omega
  have m2 : 100 - z.dp < 18446744073709551616 := by omega
  have m3 : -18446744073709551616 < z.wm := by omega
  have m4 : z.wm < 18446744073709551616 := by omega
  simp [m_q0m,b_q0m,e1,e2,e3,List.lookup,WR.loss,m1,m2,m3,m4]
abbrev qbc : AS := (sIf (aNot (aB (aFld 17 (aVar 2))))
 (sSeq (sAsg (aC m_q0m (q19 (aVar 2) aNil)) (gN 3))
 (sSeq (q6h flG 10 fSub (aVar 2) (aVar 3))
 (q1s (aMtL q2y (aVar 1) (q19 (aTup (q19 (aFld 1 (aVar 2)) (q19 (aFld 1 (aFld 4 (aFld 12 (aVar 2)))) (q19 (aFld 1 (aFld 12 (aVar 2))) (q19 (aVar 3) aNil))))) aNil)))))
 q2i)
theorem qda {h : AH} {z : WR} {a n : Nat} {rows : List AV} {x3 : Option AV} (o : z.ok h) (hn : h.length = n) (hr : rows.length < 100000) :
    ∃ x3',qbc [some (.ref a),some (.ref n),some (.ref z.k),x3] (h ++ [.lst rows]) = .nx [some (.ref a),some (.ref n),some (.ref z.k),x3'] ((if z.w.gone then h else h.set z.k z.next.w.cell) ++ [.lst (rows ++ rowsOf [z])]) := by
  subst hn
  have hk := qbi o.c
  have o1 : z.ok (h ++ [Cell.lst rows]) := o.app
  have e0 := qhd o1
  have e1 := o1.c
  have hrr : rows.length < sizeLine := Nat.lt_of_lt_of_le hr (by decide)
  by_cases hg : z.w.gone = true
  . simp only [Wh.cell,q4u] at e1
    exact ⟨x3,by simp [e1,hg,rowsOf,List.lookup]⟩
  . have hg : z.w.gone = false := by simpa using hg
    have s1 : ∀ c,(h ++ [Cell.lst rows]).set z.k c = h.set z.k c ++ [.lst rows] := fun c => List.set_append_left _ _ hk
    have g1 : ∀ c,(h.set z.k c ++ [Cell.lst rows])[z.k]? = some c := fun c => q3z (q9o o.c)
    have o2 : ∀ c,(h.set z.k c ++ [Cell.lst rows])[z.w.shelf]? = some (q4w z.fnm z.r) := fun c => q3z (by rw [q2j (q2v o.c o.f (by simp [Wh.cell,q4w]))]; exact o.f)
    have o3 : ∀ c,(h.set z.k c ++ [Cell.lst rows])[z.r]? = some (q6o z.rn z.dp z.wm) := fun c => q3z (by rw [q2j (q2v o.c o.r (by simp [Wh.cell,q6o]))]; exact o.r)
    have l1 : ∀ c,(h.set z.k c ++ [Cell.lst rows])[h.length]? = some (.lst rows) := fun c => by have := qbe (h.set z.k c) (.lst rows); rwa [List.length_set] at this
    simp only [Wh.cell,q4u,q4w,q6o] at e1 o2 o3
    exact ⟨some (.int z.loss),by simp [e1,hg,e0,List.lookup,flG,s1,g1,o2,o3,l1,hrr,rowsOf,WR.row,WR.next,Wh.cell,q4u]⟩
theorem qc6 (z : WR) (zs : List WR) : rowsOf (z :: zs) = rowsOf [z] ++ rowsOf zs := by
  unfold rowsOf
  rw [show z :: zs = [z] ++ zs from rfl,List.filter_append,List.map_append]
theorem qde (zs : List WR) : (rowsOf zs).length <= zs.length := by
  unfold rowsOf
  rw [List.length_map]
  exact List.length_filter_le _ _
theorem q92 {a l n : Nat} {all : List AV} : ∀ (zs : List WR) (h : AH) (rows : List AV) (x2 x3 : Option AV),h.length = n -> h[l]? = some (.lst all) -> (∀ z ∈ zs,z.ok h) -> (zs.map (·.k)).Nodup -> rows.length + zs.length < 100000 ->
    ∃ x2' x3',q3b (some l) all (gN 2) qbc (zs.map fun z => AV.ref z.k) [some (.ref a),some (.ref n),x2,x3] (h ++ [.lst rows]) = .nx [some (.ref a),some (.ref n),x2',x3'] (q44 zs h ++ [.lst (rows ++ rowsOf zs)])
  | [],h,rows,x2,x3,hn,hl,_,_,_ => ⟨x2,x3,by simp [q3b,qc2 (q3z hl),q44,rowsOf]⟩
  | z :: zs,h,rows,x2,x3,hn,hl,ho,hd,hr => by
    have oz := ho z (by simp)
    simp only [List.map_cons,List.nodup_cons,List.length_cons] at hd hr
    obtain ⟨x3',e1⟩ := qda (a := a) (x3 := x3) oz hn (rows := rows) (by omega)
    have hr1 := qde [z]
    obtain ⟨y2,y3,e2⟩ := q92 (a := a) (l := l) (n := n) (all := all) zs (if z.w.gone then h else h.set z.k z.next.w.cell) (rows ++ rowsOf [z]) (some (.ref z.k)) x3' (by split <;> simp [hn]) (by
      split
      . exact hl
      . rw [q2j (q2v oz.c hl (by simp [Wh.cell]))]; exact hl) (fun y hy => by
      have hne : z.k ≠ y.k := fun e => hd.1 (e ▸ List.mem_map_of_mem hy)
      split
      . exact ho y (List.mem_cons_of_mem _ hy)
      . exact (ho y (List.mem_cons_of_mem _ hy)).put oz hne _) hd.2 (by simp only [List.length_append,List.length_cons,List.length_nil] at hr1 ⊢; omega)
    refine ⟨y2,y3,?_⟩
    have hw : okW (h ++ [Cell.lst rows]) all (some l) = true := qc2 (q3z hl)
    rw [List.map_cons,q3b,if_pos hw]
    have eg : gN 2 (AV.ref z.k) [some (.ref a),some (.ref n),x2,x3] (h ++ [Cell.lst rows]) = .ok [some (.ref a),some (.ref n),some (.ref z.k),x3] (h ++ [.lst rows]) := rfl
    rw [eg]
    simp only [Re.to]
    rw [e1]
    simp only []
    rw [e2,qc6 z zs, <- List.append_assoc]
    rfl
theorem Cel.q44 {a d l e : Nat} {day : Int} {ks : List Key} {xs ws es : List AV} : ∀ {zs : List WR} {h : AH},Cel h a d l e day ks xs ws es -> (∀ z ∈ zs,z.ok h) -> (zs.map (·.k)).Nodup -> Cel (q44 zs h) a d l e day ks xs ws es
  | [],h,q,_,_ => q
  | z :: zs,h,q,ho,hd => by
    have oz := ho z (by simp)
    simp only [List.map_cons,List.nodup_cons] at hd
    unfold PM.q44
    refine Cel.q44 ?_ (fun y hy => ?_) hd.2
    . split
      . exact q
      . exact q.put oz.c (by decide) _
    . have hne : z.k ≠ y.k := fun e => hd.1 (e ▸ List.mem_map_of_mem hy)
      split
      . exact ho y (List.mem_cons_of_mem _ hy)
      . exact (ho y (List.mem_cons_of_mem _ hy)).put oz hne _
def q9l (zs : List WR) (a d l e : Nat) (day : Int) (es : List AV) (h : AH) : AH :=
  (((q44 zs h) ++ [Cell.lst (rowsOf zs)]).set e (.lst (es ++ [AV.tup [.int day, .str "night", .tup (rowsOf zs)]]))).set a (q2u (day + 1) d l e)
theorem qh8 {h : AH} {a d l e : Nat} {day : Int} {ks : List Key} {xs es : List AV} {zs : List WR} (q : Cel h a d l e day ks xs (zs.map fun z => AV.ref z.k) es) (ho : ∀ z ∈ zs,z.ok h) (hd : (zs.map (·.k)).Nodup) (hz : zs.length < 1000) (hes : es.length < 100000) :
    m_qh [.ref a] h = .ok .non (q9l zs a d l e day es h) := by
  obtain ⟨x2,x3,lp⟩ := q92 (a := a) (l := l) (n := h.length) (all := zs.map fun z => AV.ref z.k) zs h [] none none rfl q.ql ho hd (by simp; omega)
  rw [List.nil_append] at lp
  dsimp only [qbc,aFld] at lp
  have q0 := q.app [.lst []]
  have q1 := (q.q44 ho hd).app [.lst (rowsOf zs)]
  have q2 := q1.put_e (es ++ [AV.tup [.int day, .str "night", .tup (rowsOf zs)]])
  have hee : es.length < sizeLine := Nat.lt_of_lt_of_le hes (by decide)
  have e0 := q0.qc
  have e1 := q0.ql
  have f0 := q1.qc
  have f1 := q1.qe
  have f2 := q2.qc
  have l1 : (q44 zs h ++ [Cell.lst (rowsOf zs)])[h.length]? = some (.lst (rowsOf zs)) := by
    have := qbe (q44 zs h) (.lst (rowsOf zs)); rwa [q9k] at this
  simp only [q2u] at e0 f0 f2
  simp [m_qh,b_qh,e0,e1,lp,f0,f1,f2,l1,hee,List.lookup,flG,q9l,q2u]
theorem qe7 {h : AH} {a d l e : Nat} {day : Int} {ks : List Key} {xs es : List AV} {zs : List WR} (q : Cel h a d l e day ks xs (zs.map fun z => AV.ref z.k) es) (ho : ∀ z ∈ zs,z.ok h) (hd : (zs.map (·.k)).Nodup) (hz : zs.length < 1000) (hes : es.length < 100000) :
    m_qi [.ref a, .int 1] h = .ok .non (q9l zs a d l e day es h) := by
  have e1 := qh8 q ho hd hz hes
  have e0 := q.qc
  have e2 := qet (n := 1) (a := 1) (b := 30) (h := h) (by decide) (by decide)
  have e3 : rng1 (.int 1) h = .ok (Z.intsFrom 0 1,none) h := rfl
  simp only [q2u] at e0
  simp [m_qi,b_qi,e2,e3,q3b,q46,Z.intsFrom,e0,e1]
end PM
namespace PM
open PySem L2 Z
section
variable {h : AH} {a d l e : Nat} {day : Int} {ks : List Key} {xs ws es : List AV} {nm : Str} {m : Bool} {t1 t2 w1 w2 : Int} {p : AV} {ro : List (Str × Int × Int)}
theorem lsq_l (h : AH) (xs : List AV) : q4e h (.lst xs) = some xs := rfl
theorem seq_l (h : AH) (xs : List AV) : q61 h (.lst xs) = some xs := rfl
theorem watch_l (xs : List AV) : watch (.lst xs) = none := rfl
end
end PM
namespace PM
open PySem L2 Z
section
variable {h : AH} {a d l e : Nat} {day : Int} {ks : List Key} {xs ws es : List AV} {nm : Str}
theorem qa1 {w : Nat} {c : Nat} {fs : List (Nat × AV)} (hw : h[w]? = some (.ins c fs)) (hg : fs.lookup 17 = some (.bl false)) : m_q0n [.ref w] h = .ok .non h := by
  simp [m_q0n,b_q0n,hw,hg]
end
theorem from0 (n : Nat) : Z.intsFrom 0 n = (List.range n).map fun i : Nat => AV.int (i : Int) := by
  unfold Z.intsFrom
  simp
theorem qhp {n i : Nat} {a : AE} {body : AS} {P : Nat -> AEnv -> AH -> Prop} {env : AEnv} {h : AH} (hn : n <= 1000000) (ha : a env h = .ok (.int (n : Int)) h) (h0 : P 0 env h)
    (hs : ∀ j,j < n -> ∀ env h,P j env h -> ∃ e2 h2,body (env.set i (some (.int (j : Int)))) h = .nx e2 h2 /\ P (j + 1) e2 h2) :
    ∃ e2 h2,sFor (q3t a) (gN i) body env h = .nx e2 h2 /\ P n e2 h2 := by
  have hl := qa4 (wt := none) (all := Z.intsFrom 0 n) (g := gN i) (body := body) (k := fun i : Nat => AV.int (i : Int)) (P := P) (fun _ _ _ _ => q46) (List.range n) 0 env h h0 (fun j y hj env h hP => by
    obtain ⟨hj1,hj2⟩ := List.getElem?_eq_some_iff.mp hj
    simp at hj1 hj2
    subst hj2
    rw [Nat.zero_add] at hP
    obtain ⟨e2,h2,q1,q2⟩ := hs j hj1 env h hP
    exact ⟨_,_,e2,h2,rfl, .inl q1,by rw [Nat.zero_add]; exact q2⟩)
  obtain ⟨e2,h2,q1,q2⟩ := hl
  rw [List.length_range,Nat.zero_add] at q2
  refine ⟨e2,h2,?_,q2⟩
  unfold sFor q3t
  rw [ha]
  simp only [Re.q9x]
  rw [q8w hn]
  simp only [Re.to_ok]
  rw [from0] at q1 ⊢
  exact q1
mutual
theorem qbr : ∀ {n : Nat} {x : AV},okD n x = true -> okD (n + 1) x = true
  | _, .non,_ => rfl | _, .bl _,_ => rfl | _, .int _,_ => rfl | _, .str _,_ => rfl
  | 0, .tup xs,h => by simp [okD] at h
  | n + 1, .tup xs,h => by
    rw [okD] at h ⊢
    rw [Bool.and_eq_true] at h ⊢
    exact ⟨h.1,q85 h.2⟩
  | 0, .lst xs,h => by simp [okD] at h
  | n + 1, .lst xs,h => by
    rw [okD] at h ⊢
    rw [Bool.and_eq_true] at h ⊢
    exact ⟨h.1,q85 h.2⟩
  | _, .dk _ _,h => by simp [okD] at h
  | _, .ref _,h => by simp [okD] at h
  | _, .kst _,h => by simp [okD] at h
  | _, .xc _,h => by simp [okD] at h
theorem q85 : ∀ {n : Nat} {xs : List AV},okDs n xs = true -> okDs (n + 1) xs = true
  | _,[],_ => by simp [okDs]
  | n,x :: xs,h => by
    rw [okDs,Bool.and_eq_true] at h ⊢
    exact ⟨qbr h.1,q85 h.2⟩
end
theorem qi2 (a b : List AV) : cutA (a ++ b) (some (a.length : Int)) none = b := by
  have hz : ¬ (a.length : Int) < 0 := by omega
  simp [cutA,HT.sIx,hz]
end PM
namespace PM
open PySem L2 Z
def q2b (kd nm : Str) (m : Bool) : Cell := .ins 4 [(0, .str kd),(1, .str nm),(5, .bl m)]
section
variable {h : AH} {a d l e : Nat} {day : Int} {ks : List Key} {xs ws es : List AV} {nm bn cn : Str} {w b c : Nat} {z : Wh} {mb mc : Bool}
section
variable {sn : Str} {m : Bool} {tg wg st : AV} {rs : List Str}
theorem qh5 (q : Cel h a d l e day ks xs ws es) (kw : dval ks xs (.inr nm) = some (.ref w)) (hw : h[w]? = some z.cell) (kb : dval ks xs (.inr bn) = some (.ref b)) (hb : h[b]? = some (q2b "brine" bn mb)) (kc : dval ks xs (.inr cn) = some (.ref c)) (hc : h[c]? = some (q2b "cloth" cn mc)) (hz : z.gone = false)
    (hs : h[z.sort]? = some (.ins 3 (q7i sn false tg wg rs st))) (hm : (mb || mc) = true) (hbl : bn.length <= 1000) (hcl : cn.length <= 1000) :
    m_q01 [.ref a, .str nm, .str bn, .str cn] h = .ex 27 h := by
  have e0 := q.qc
  simp only [Wh.cell] at hw
  have e1 := q4a (kd := "wheel") q.qc q.qd kw hw rfl
  have e2 := q4a (kd := "brine") q.qc q.qd kb hb rfl
  have e3 := q4a (kd := "cloth") q.qc q.qd kc hc rfl
  have e4 := qa1 hw (by rw [hz]; rfl)
  have z2 : (2 : Nat) <= sizeLine := by decide
  simp only [q2u,q4u,q2b,q7i] at e0 hw hb hc hs
  have hm' : (mb = true \/ mc = true) := by simpa using hm
  simp [m_q01,b_q01,e0,e1,e2,e3,e4,hw,hb,hc,hs,List.lookup,lcL,q46,bEnv,z2,hm',hbl,hcl]
theorem qdc (q : Cel h a d l e day ks xs ws es) (kw : dval ks xs (.inr nm) = some (.ref w)) (hw : h[w]? = some z.cell) (kb : dval ks xs (.inr bn) = some (.ref b)) (hb : h[b]? = some (q2b "brine" bn false)) (kc : dval ks xs (.inr cn) = some (.ref c)) (hc : h[c]? = some (q2b "cloth" cn false)) (hz : z.gone = false)
    (hs : h[z.sort]? = some (.ins 3 (q7i sn false tg wg rs st))) (hes : es.length < 100000) :
    m_q01 [.ref a, .str nm, .str bn, .str cn] h = .ok .non ((h.set w ({ z with wd := day } : Wh).cell).set e (.lst (es ++ [.tup [.int day, .str "wash", .str nm, .str bn, .str cn]]))) := by
  have e0 := q.qc
  have q1 := fun c => q.put hw (by decide) c
  have f1 := fun c => (q1 c).qc
  have f2 := fun c => (q1 c).qe
  simp only [Wh.cell] at hw
  have e1 := q4a (kd := "wheel") q.qc q.qd kw hw rfl
  have e2 := q4a (kd := "brine") q.qc q.qd kb hb rfl
  have e3 := q4a (kd := "cloth") q.qc q.qd kc hc rfl
  have e4 := qa1 hw (by rw [hz]; rfl)
  have z2 : (2 : Nat) <= sizeLine := by decide
  have hee : es.length < sizeLine := Nat.lt_of_lt_of_le hes (by decide)
  simp only [q2u,q4u,q2b,q7i] at e0 hw hb hc hs f1
  simp [m_q01,b_q01,e0,e1,e2,e3,e4,hw,hb,hc,hs,List.lookup,lcL,q46,bEnv,z2,f1,f2,hee,flG,Wh.cell,q4u]
theorem qd4 (q : Cel h a d l e day ks xs ws es) (kw : dval ks xs (.inr nm) = some (.ref w)) (hw : h[w]? = some z.cell) (kb : dval ks xs (.inr bn) = some (.ref b)) (hb : h[b]? = some (q2b "brine" bn mb)) (kc : dval ks xs (.inr cn) = some (.ref c)) (hc : h[c]? = some (q2b "cloth" cn mc)) (hz : z.gone = false)
    (hs : h[z.sort]? = some (.ins 3 (q7i sn true tg wg rs st))) (hes : es.length < 100000) :
    m_q01 [.ref a, .str nm, .str bn, .str cn] h = .ok .non ((((h.set b (q2b "brine" bn true)).set c (q2b "cloth" cn true)).set w ({ z with wd := day } : Wh).cell).set e (.lst (es ++ [.tup [.int day, .str "wash", .str nm, .str bn, .str cn]]))) := by
  have e0 := q.qc
  have hbc : b ≠ c := q2v hb hc (by simp [q2b])
  have hbw : b ≠ w := q2v hb hw (by simp [q2b,Wh.cell])
  have hcw : c ≠ w := q2v hc hw (by simp [q2b,Wh.cell])
  have hbs : b ≠ z.sort := q2v hb hs (by simp [q2b])
  have hcs : c ≠ z.sort := q2v hc hs (by simp [q2b])
  have q1 := q.put hb (by decide) (q2b "brine" bn true)
  have hc1 : (h.set b (q2b "brine" bn true))[c]? = some (q2b "cloth" cn mc) := by rw [q2j hbc]; exact hc
  have q2 := q1.put hc1 (by decide) (q2b "cloth" cn true)
  have hw2 : ((h.set b (q2b "brine" bn true)).set c (q2b "cloth" cn true))[w]? = some z.cell := by rw [q2j hcw,q2j hbw]; exact hw
  have q3 := q2.put hw2 (by decide) ({ z with wd := day } : Wh).cell
  have f1 := q1.qc
  have f2 := q2.qc
  have f3 := q3.qc
  have f4 := q3.qe
  simp only [Wh.cell] at hw hw2
  have e1 := q4a (kd := "wheel") q.qc q.qd kw hw rfl
  have e2 := q4a (kd := "brine") q.qc q.qd kb hb rfl
  have e3 := q4a (kd := "cloth") q.qc q.qd kc hc rfl
  have e4 := qa1 hw (by rw [hz]; rfl)
  have z2 : (2 : Nat) <= sizeLine := by decide
  have hee : es.length < sizeLine := Nat.lt_of_lt_of_le hes (by decide)
  simp only [q2u,q4u,q2b,q7i,Wh.cell] at e0 hw hb hc hs f1 f2 f3 f4 hw2 hc1
  simp [m_q01,b_q01,e0,e1,e2,e3,e4,hw,hb,hs,List.lookup,q3b,q46,flG,hc1,f2,hw2,f3,f4,hee,Wh.cell,q4u,q2b]
end
theorem qe8 {kd : Str} {t : Nat} {mm : Bool} (hkd : kd = "brine" \/ kd = "cloth") (q : Cel h a d l e day ks xs ws es) (kt : dval ks xs (.inr nm) = some (.ref t)) (ht : h[t]? = some (q2b kd nm mm)) (hes : es.length < 100000) :
    m_q02 [.ref a, .str nm] h = .ok .non ((h.set t (q2b kd nm false)).set e (.lst (es ++ [.tup [.int day, .str "boil", .str nm]]))) := by
  have e0 := q.qc
  have e1 := q.qd
  have q1 := q.put ht (by decide) (q2b kd nm false)
  have f1 := q1.qc
  have f2 := q1.qe
  have hee : es.length < sizeLine := Nat.lt_of_lt_of_le hes (by decide)
  simp only [q2u,q2b] at e0 ht f1 f2
  rcases hkd with rfl | rfl
  . have hin : inA (.str (Str.ofString "brine")) [AV.str (Str.ofString "brine"),AV.str (Str.ofString "cloth"),AV.str (Str.ofString "shelf")] = true := by decide +kernel
    simp [m_q02,b_q02,e0,e1,kt,ht,f1,f2,List.lookup,flG,hee,q2b,hin]
  . have hin : inA (.str (Str.ofString "cloth")) [AV.str (Str.ofString "brine"),AV.str (Str.ofString "cloth"),AV.str (Str.ofString "shelf")] = true := by decide +kernel
    simp [m_q02,b_q02,e0,e1,kt,ht,f1,f2,List.lookup,flG,hee,q2b,hin]
theorem boil_s {t r : Nat} (q : Cel h a d l e day ks xs ws es) (kt : dval ks xs (.inr nm) = some (.ref t)) (ht : h[t]? = some (q4w nm r)) (hes : es.length < 100000) :
    m_q02 [.ref a, .str nm] h = .ok .non (h.set e (.lst (es ++ [.tup [.int day, .str "boil", .str nm]]))) := by
  have e0 := q.qc
  have e1 := q.qd
  have e2 := q.qe
  have hee : es.length < sizeLine := Nat.lt_of_lt_of_le hes (by decide)
  have hin : inA (.str (Str.ofString "shelf")) [AV.str (Str.ofString "brine"),AV.str (Str.ofString "cloth"),AV.str (Str.ofString "shelf")] = true := by decide +kernel
  simp only [q2u,q4w] at e0 ht
  simp [m_q02,b_q02,e0,e1,e2,kt,ht,List.lookup,hee,hin]
end
end PM
namespace K18
open PySem L2 Z PM
def flT : Nat -> List Nat
  | 0 => [0,1]
  | 1 => [0,1,2,3]
  | 2 => [0,1,4]
  | 3 => [0,1,5,6,7,8,9]
  | 4 => [0,1,5]
  | 5 => [0,1,10]
  | 6 => [0,1,11,12,10,13,14,15,16,17]
  | 8 => [18,19,20,21]
  | _ => []
def wdT : Nat -> Option Str
  | 21 => some "name"
  | 22 => some "taken"
  | 23 => some "unknown"
  | 24 => some "number"
  | 25 => some "gone"
  | 26 => some "room"
  | 27 => some "mouldy"
  | 28 => some "much"
  | _ => none
def sbT_q0o : Nat -> Option Bool
  | 21 => some false
  | 22 => some false
  | 23 => some false
  | 24 => some false
  | 25 => some false
  | 26 => some false
  | 27 => some false
  | 28 => some false
  | _ => none
def sbT_q08 : Nat -> Option Bool
  | 21 => some true
  | 22 => some false
  | 23 => some false
  | 24 => some false
  | 25 => some false
  | 26 => some false
  | 27 => some false
  | 28 => some false
  | _ => none
def sbT_q0e : Nat -> Option Bool
  | 21 => some false
  | 22 => some true
  | 23 => some false
  | 24 => some false
  | 25 => some false
  | 26 => some false
  | 27 => some false
  | 28 => some false
  | _ => none
def sbT_q07 : Nat -> Option Bool
  | 21 => some false
  | 22 => some false
  | 23 => some true
  | 24 => some false
  | 25 => some false
  | 26 => some false
  | 27 => some false
  | 28 => some false
  | _ => none
def sbT_qx : Nat -> Option Bool
  | 21 => some false
  | 22 => some false
  | 23 => some false
  | 24 => some true
  | 25 => some false
  | 26 => some false
  | 27 => some false
  | 28 => some false
  | _ => none
def sbT_q0j : Nat -> Option Bool
  | 21 => some false
  | 22 => some false
  | 23 => some false
  | 24 => some false
  | 25 => some true
  | 26 => some false
  | 27 => some false
  | 28 => some false
  | _ => none
def sbT_qw : Nat -> Option Bool
  | 21 => some false
  | 22 => some false
  | 23 => some false
  | 24 => some false
  | 25 => some false
  | 26 => some true
  | 27 => some false
  | 28 => some false
  | _ => none
def sbT_q0b : Nat -> Option Bool
  | 21 => some false
  | 22 => some false
  | 23 => some false
  | 24 => some false
  | 25 => some false
  | 26 => some false
  | 27 => some true
  | 28 => some false
  | _ => none
def sbT_q09 : Nat -> Option Bool
  | 21 => some false
  | 22 => some false
  | 23 => some false
  | 24 => some false
  | 25 => some false
  | 26 => some false
  | 27 => some false
  | 28 => some true
  | _ => none
def q4q : Nat -> Option Bool
  | 21 => some true
  | 22 => some true
  | 23 => some true
  | 24 => some true
  | 25 => some true
  | 26 => some true
  | 27 => some true
  | 28 => some true
  | _ => none
def b_q0l : AS :=
 (sSeq (sAsg (aLst (q19 (aTup (q19 (aK (.str "line")) (q19 (a1 (fIsX sbT_q0o) (aVar 0)) aNil))) (q19 (aTup (q19 (aK (.str "name")) (q19 (a1 (fIsX sbT_q08) (aVar 0)) aNil))) (q19 (aTup (q19 (aK (.str "taken")) (q19 (a1 (fIsX sbT_q0e) (aVar 0)) aNil))) aNil)))) (gN 1))
 (sSeq (sAsg (a2 fCat (aVar 1) (aLst (q19 (aTup (q19 (aK (.str "unknown")) (q19 (a1 (fIsX sbT_q07) (aVar 0)) aNil))) (q19 (aTup (q19 (aK (.str "number")) (q19 (a1 (fIsX sbT_qx) (aVar 0)) aNil))) aNil)))) (gN 1))
 (sSeq (sAsg (a2 fCat (aVar 1) (aLst (q19 (aTup (q19 (aK (.str "gone")) (q19 (a1 (fIsX sbT_q0j) (aVar 0)) aNil))) (q19 (aTup (q19 (aK (.str "room")) (q19 (a1 (fIsX sbT_qw) (aVar 0)) aNil))) aNil)))) (gN 1))
 (sSeq (sAsg (a2 fCat (aVar 1) (aLst (q19 (aTup (q19 (aK (.str "mouldy")) (q19 (a1 (fIsX sbT_q0b) (aVar 0)) aNil))) (q19 (aTup (q19 (aK (.str "much")) (q19 (a1 (fIsX sbT_q09) (aVar 0)) aNil))) aNil)))) (gN 1))
 (sSeq (sAsg (a2 fCat (aVar 1) (aLst (q19 (aTup (q19 (aK (.str "stray")) (q19 (aNotV (a1 (fIsX q4q) (aVar 0))) aNil))) aNil))) (gN 1))
 (sRet (aMtS fJoin (aK (.str "")) (q19 (aLc 2 [] (iLst (aVar 1)) (gT 2 (q31 (gN 0) (q31 (gN 1) q62))) (aB (aVar 1)) (aVar 0)) aNil))))))))
def m_q0l : AF := fnZ 2 b_q0l
def b_q0i : AS :=
 (sSeq (sAsg (aK (.str "")) (gN 4))
 (sSeq (sAsg (aK .non) (gN 5))
 (sSeq (qd3 5 6 4 wdT (qf4 8 m_q01 (aVar 0) (q19 (aVar 1) (q19 (aVar 2) (q19 (aVar 3) aNil)))))
 (sSeq (sIf (aB (a1 fNotN (aVar 5)))
 (sRet (aK (.str "answered")))
 q2i)
 (sRet (aVar 4))))))
def m_q0i : AF := fnZ 7 b_q0i
def b_q0f : AS :=
 (sSeq (sAsg (q66 8 m_qv aNil) (gN 0))
 (sSeq (q1s (q29 8 m_qu (aVar 0) (q19 (aK (.str "r")) (q19 (aK (.int 100)) (q19 (aK (.int 1)) aNil)))))
 (sSeq (q1s (q29 8 m_qp (aVar 0) (q19 (aK (.str "s")) (q19 (aK (.str "r")) aNil))))
 (sSeq (q1s (q29 8 m_qk (aVar 0) (q19 (aK (.str "fair")) (q19 (aK (.bl false)) (q19 (aTup (q19 (aK (.int 1)) (q19 (aK (.int 3)) aNil))) (q19 (aTup (q19 (aK (.int 2)) (q19 (aK (.int 4)) aNil))) (q19 (aLst (q19 (aTup (q19 (aK (.str "r")) (q19 (aK (.int 1)) (q19 (aK (.int 60)) aNil)))) aNil)) aNil)))))))
 (sSeq (q1s (q29 8 m_qk (aVar 0) (q19 (aK (.str "blue")) (q19 (aK (.bl true)) (q19 (aTup (q19 (aK (.int 1)) (q19 (aK (.int 3)) aNil))) (q19 (aTup (q19 (aK (.int 2)) (q19 (aK (.int 4)) aNil))) (q19 (aLst (q19 (aTup (q19 (aK (.str "r")) (q19 (aK (.int 1)) (q19 (aK (.int 60)) aNil)))) aNil)) aNil)))))))
 (sSeq (q1s (q29 8 m_qt (aVar 0) (q19 (aK (.str "f")) aNil)))
 (sSeq (q1s (q29 8 m_qj (aVar 0) (q19 (aK (.str "m")) (q19 (aLst (q19 (aTup (q19 (aK (.str "f")) (q19 (aK (.int 500)) aNil))) aNil)) aNil))))
 (sSeq (sFor (q3t (aK (.int 4))) (gN 1)
 (q1s (q29 8 m_qq (aVar 0) (q19 (a2 q3n (aK (.str "w")) (aC q3y (q19 (aVar 1) aNil))) (q19 (aK (.str "m")) (q19 (a2 fIx (aLst (q19 (aK (.str "fair")) (q19 (aK (.str "blue")) aNil))) (a2 fMod (aVar 1) (aK (.int 2)))) (q19 (aK (.str "s")) (q19 (aK (.int 50)) aNil))))))))
 (sSeq (sFor (q3t (aK (.int 3))) (gN 1)
 (sSeq (q1s (q29 8 m_qm (aVar 0) (q19 (a2 q3n (aK (.str "b")) (aC q3y (q19 (aVar 1) aNil))) aNil)))
 (q1s (q29 8 m_qo (aVar 0) (q19 (a2 q3n (aK (.str "c")) (aC q3y (q19 (aVar 1) aNil))) aNil)))))
 (sRet (aVar 0)))))))))))
def m_q0f : AF := fnZ 2 b_q0f
def b_q0d : AS :=
 (sSeq (sFor (iLst (aRev (aVar 0))) (gN 2)
 (sSeq (sIf (aAnd (aB (a2 fEq (a2 fIx (aVar 2) (aK (.int 1))) (aK (.str "boil")))) (aB (a2 fEq (a2 fIx (aVar 2) (aK (.int 2))) (aVar 1))))
 (sRet (aK (.bl false)))
 q2i)
 (sIf (aAnd (aB (a2 fEq (a2 fIx (aVar 2) (aK (.int 1))) (aK (.str "wash")))) (aAnd (aB (a2 (fIn false) (aVar 1) (aSl fSlT (aVar 2) (q51 (aK (.int 3))) q60))) (aB (a2 (fIn false) (a2 fIx (aVar 2) (aK (.int 2))) (aLst (q19 (aK (.str "w1")) (q19 (aK (.str "w3")) aNil)))))))
 (sRet (aK (.bl true)))
 q2i)))
 (sRet (aK (.bl false))))
def m_q0d : AF := fnZ 3 b_q0d
def q9i : AS :=
 (sSeq (sAsg (aC m_q0f aNil) (gN 1))
 (sSeq (sAsg (q9h aNil) (gN 2))
 (sSeq (sAsg (aK (.int 0)) (gN 3))
 (sSeq (sFor (iLst (aSl fSlL (aVar 0) q60 (q51 (aK (.int 150))))) (gN 4)
 (sIf (aB (a2 fEq (a2 fMod (aVar 4) (aK (.int 4))) (aK (.int 3))))
 (sSeq (sAsg (a2 fIx (aLst (q19 (aK (.str "b0")) (q19 (aK (.str "c0")) (q19 (aK (.str "b1")) (q19 (aK (.str "c1")) (q19 (aK (.str "b2")) (q19 (aK (.str "c2")) (q19 (aK (.str "s")) aNil)))))))) (a2 fMod (a2 fDiv (aVar 4) (aK (.int 4))) (aK (.int 7)))) (gN 5))
 (sSeq (q1s (q29 8 m_q02 (aVar 1) (q19 (aVar 5) aNil)))
 (sSeq (q1s (aMtL q2y (aVar 2) (q19 (aTup (q19 (aVar 3) (q19 (aK (.str "boil")) (q19 (aVar 5) aNil)))) aNil)))
 (sIf (aB (a2 fEq (a2 fMod (a2 fDiv (aVar 4) (aK (.int 28))) (aK (.int 3))) (aK (.int 2))))
 (sSeq (q1s (q88 8 m_qi (aVar 1) aNil [1]))
 (sSeq (q1s (aMtL q2y (aVar 2) (q19 (aTup (q19 (aVar 3) (q19 (aK (.str "night")) (q19 (aC q68 (q19 (aLc 1 [] (q3t (aK (.int 4))) (gN 0) aYes (aTup (q19 (a2 q3n (aK (.str "w")) (aC q3y (q19 (aVar 0) aNil))) (q19 (aK (.str "r")) (q19 (aK (.str "s")) (q19 (aK (.int 0)) aNil)))))) aNil)) aNil)))) aNil)))
 (sAsg (a2 fAdd (aVar 3) (aK (.int 1))) (gN 3))))
 q2i))))
 (sSeq (sAsg (aTup (q19 (a2 q3n (aK (.str "w")) (aC q3y (q19 (a2 fMod (a2 fDiv (aVar 4) (aK (.int 4))) (aK (.int 4))) aNil))) (q19 (a2 q3n (aK (.str "b")) (aC q3y (q19 (a2 fMod (a2 fDiv (aVar 4) (aK (.int 16))) (aK (.int 3))) aNil))) (q19 (a2 q3n (aK (.str "c")) (aC q3y (q19 (a2 fMod (aVar 4) (aK (.int 4))) aNil))) aNil)))) (gN 6))
 (sSeq (sAsg (q6a (a2 (fIn false) (a2 fIx (aVar 6) (aK (.int 0))) (aLst (q19 (aK (.str "w0")) (q19 (aK (.str "w2")) aNil)))) (aOrV (aC m_q0d (q19 (aVar 2) (q19 (a2 fIx (aVar 6) (aK (.int 1))) aNil))) (aC m_q0d (q19 (aVar 2) (q19 (a2 fIx (aVar 6) (aK (.int 2))) aNil))))) (gN 7))
 (sSeq (sIf (aB (a2 fNe (aC m_q0i (q19 (aVar 1) (q19 (a2 fIx (aVar 6) (aK (.int 0))) (q19 (a2 fIx (aVar 6) (aK (.int 1))) (q19 (a2 fIx (aVar 6) (aK (.int 2))) aNil))))) (a2 fIx (aLst (q19 (aK (.str "")) (q19 (aK (.str "mouldy")) aNil))) (aC qau (q19 (aVar 7) aNil)))))
 (sRet (aK (.bl false)))
 q2i)
 (sIf (aNot (aB (aVar 7)))
 (q1s (aMtL q2y (aVar 2) (q19 (a2 q82 (aTup (q19 (aVar 3) (q19 (aK (.str "wash")) aNil))) (aVar 6)) aNil)))
 q2i))))))
 (sSeq (sAsg (aSl fSlL (q29 8 m_q06 (aVar 1) aNil) (q51 (aK (.int 5))) q60) (gN 8))
 (sSeq (sFor (q3t (aC fLen (q19 (aVar 8) aNil))) (gN 9)
 (sIf (aAnd (aB (a2 fEq (a2 fIx (a2 fIx (aVar 8) (aVar 9)) (aK (.int 1))) (aK (.str "wash")))) (aB (a2 (fIn false) (a2 fIx (a2 fIx (aVar 8) (aVar 9)) (aK (.int 2))) (aLst (q19 (aK (.str "w0")) (q19 (aK (.str "w2")) aNil))))))
 (sIf (aOr (aB (aC m_q0d (q19 (aSl fSlL (aVar 8) q60 (q51 (aVar 9))) (q19 (a2 fIx (a2 fIx (aVar 8) (aVar 9)) (aK (.int 3))) aNil)))) (aB (aC m_q0d (q19 (aSl fSlL (aVar 8) q60 (q51 (aVar 9))) (q19 (a2 fIx (a2 fIx (aVar 8) (aVar 9)) (aK (.int 4))) aNil)))))
 (sRet (aK (.bl false)))
 q2i)
 q2i))
 (sRet (aC (m_q0a 6) (q19 (aVar 8) (q19 (aVar 2) aNil))))))))))
def m_law : AF := fnZ 10 q9i
end K18
namespace K18
open PySem L2 Z PM
theorem word_true : ∀ c x,wdT c = some x -> ∃ h,m_q0l [.xc c] [] = .ok (.str x) h := by
  intro c x h
  unfold wdT at h
  split at h <;> first | (cases h; exact ⟨[],rfl⟩) | cases h
def wN (k : Nat) : Str := ("w" : Str) ++ Str.ofString (Int.repr (k : Int))
def bN (k : Nat) : Str := ("b" : Str) ++ Str.ofString (Int.repr (k : Int))
def cN (k : Nat) : Str := ("c" : Str) ++ Str.ofString (Int.repr (k : Int))
def tN (k : Nat) : Str := (["b0", "c0", "b1", "c1", "b2", "c2", "s"] : List Str).getD k "s"
def row (k : Nat) : AV := .tup [.str (wN k), .str "r", .str "s", .int 0]
inductive Ev where
  | boil (d : Int) (k : Nat)
  | night (d : Int)
  | wash (d : Int) (w b c : Nat)
def Ev.av : Ev -> AV
  | .boil d k => .tup [.int d, .str "boil", .str (tN k)]
  | .night d => .tup [.int d, .str "night", .tup [row 0,row 1,row 2,row 3]]
  | .wash d w b c => .tup [.int d, .str "wash", .str (wN w), .str (bN b), .str (cN c)]
def VE : Ev -> Prop
  | .boil _ k => k < 7
  | .night _ => True
  | .wash _ w b c => w < 4 /\ b < 3 /\ c < 3
def odd (w : Nat) : Bool := decide (w % 2 = 1)
def q3k (t : Str) : List Ev -> Option Bool
  | [] => none
  | .boil _ k :: r => if tN k = t then some false else q3k t r
  | .wash _ w b c :: r => if (decide (bN b = t) || decide (cN c = t)) && odd w then some true else q3k t r
  | .night _ :: r => q3k t r
def seed (t : Str) (r : List Ev) : Bool := (q3k t r).getD false
theorem at0 (x : AV) (r : List AV) : atI (x :: r) 0 = some x := q57 (j := 0) rfl
theorem at1 (x y : AV) (r : List AV) : atI (x :: y :: r) 1 = some y := q57 (j := 1) rfl
theorem at2 (x y z : AV) (r : List AV) : atI (x :: y :: z :: r) 2 = some z := q57 (j := 2) rfl
theorem at3 (x y z u : AV) (r : List AV) : atI (x :: y :: z :: u :: r) 3 = some u := q57 (j := 3) rfl
theorem at4 (x y z u v : AV) (r : List AV) : atI (x :: y :: z :: u :: v :: r) 4 = some v := q57 (j := 4) rfl
theorem w_odd {w : Nat} (hw : w < 4) : inA (.str (wN w)) [AV.str (Str.ofString "w1"), .str (Str.ofString "w3")] = odd w := by
  have : ∀ w < 4,inA (.str (wN w)) [AV.str (Str.ofString "w1"), .str (Str.ofString "w3")] = odd w := by decide +kernel
  exact this w hw
theorem qfj {w : Nat} (hw : w < 4) : inA (.str (wN w)) [AV.str (Str.ofString "w0"), .str (Str.ofString "w2")] = !odd w := by
  have : ∀ w < 4,inA (.str (wN w)) [AV.str (Str.ofString "w0"), .str (Str.ofString "w2")] = !odd w := by decide +kernel
  exact this w hw
def q4f : AS := (sSeq (sIf (aAnd (aB (a2 fEq (a2 fIx (aVar 2) (aK (.int 1))) (aK (.str "boil")))) (aB (a2 fEq (a2 fIx (aVar 2) (aK (.int 2))) (aVar 1))))
 (sRet (aK (.bl false)))
 q2i)
 (sIf (aAnd (aB (a2 fEq (a2 fIx (aVar 2) (aK (.int 1))) (aK (.str "wash")))) (aAnd (aB (a2 (fIn false) (aVar 1) (aSl fSlT (aVar 2) (q51 (aK (.int 3))) q60))) (aB (a2 (fIn false) (a2 fIx (aVar 2) (aK (.int 2))) (aLst (q19 (aK (.str "w1")) (q19 (aK (.str "w3")) aNil)))))))
 (sRet (aK (.bl true)))
 q2i))
section
variable {h : AH} {x0 : AV} {t : Str}
theorem qei (e : Ev) (he : VE e) : q4f [some x0,some (.str t),some e.av] h = match (q3k t [e]) with | some b => .rt (.bl b) h | none => .nx [some x0,some (.str t),some e.av] h := by
  cases e with
  | boil d k =>
    by_cases q : tN k = t
    . simp [q4f,Ev.av,at1,at2,q3k,q]
    . simp [q4f,Ev.av,at1,at2,q3k,q]
  | night d => simp [q4f,Ev.av,at1,at2,q3k]
  | wash d w b c =>
    have hc : cutA [AV.int d, .str (Str.ofString "wash"), .str (wN w), .str (bN b), .str (cN c)] (some 3) none = [.str (bN b), .str (cN c)] := rfl
    have hi : inA (.str t) [AV.str (bN b), .str (cN c)] = (decide (bN b = t) || decide (cN c = t)) := by
      rw [Bool.eq_iff_iff]; simp [inA,eqF]
    have hs : HT.sIx 5 0 (some 3) = 3 := rfl
    have ho := w_odd he.1
    by_cases q1 : bN b = t \/ cN c = t
    . have q1' : (decide (bN b = t) || decide (cN c = t)) = true := by simpa using q1
      cases q2 : odd w
      . simp [q4f,Ev.av,at1,at2,q3k,hc,hs,hi,ho,q2,q43,q1]
      . simp [q4f,Ev.av,at1,at2,q3k,hc,hs,hi,ho,q2,q43,q1]
    . simp [q4f,Ev.av,at1,at2,q3k,hc,hs,hi,ho,q43,q1]
theorem qaf {all : List AV} : ∀ (r : List Ev) (y : Option AV),(∀ e ∈ r,VE e) -> (∃ b,q3k t r = some b /\ q3b none all (gN 2) q4f (r.map Ev.av) [some x0,some (.str t),y] h = .rt (.bl b) h) \/ (q3k t r = none /\ ∃ y',q3b none all (gN 2) q4f (r.map Ev.av) [some x0,some (.str t),y] h = .nx [some x0,some (.str t),y'] h)
  | [],y,_ => .inr ⟨rfl,y,by simp [q3b,q46]⟩
  | e :: r,y,hv => by
    have st := qei (h := h) (x0 := x0) (t := t) e (hv e (by simp))
    have ih := qaf (all := all) r (some e.av) fun z hz => hv z (List.mem_cons_of_mem _ hz)
    have hcons : q3k t (e :: r) = (q3k t [e]).or (q3k t r) := by
      cases e <;> simp only [q3k] <;> first | rfl | (split <;> rfl)
    have hl : q3b none all (gN 2) q4f ((e :: r).map Ev.av) [some x0,some (.str t),y] h = (match q4f [some x0,some (.str t),some e.av] h with
        | .nx env h => q3b none all (gN 2) q4f (r.map Ev.av) env h
        | .ct env h => q3b none all (gN 2) q4f (r.map Ev.av) env h
        | .bk env h => .nx env h
        | .rt x h => .rt x h
        | .ex c h => .ex c h
        | .no => .no) := by
      rw [List.map_cons,q3b,if_pos q46]; rfl
    rw [hl,st,hcons]
    cases q : q3k t [e] with
    | some b => exact .inl ⟨b,rfl,rfl⟩
    | none =>
      simp only [Option.none_or]
      exact ih
theorem qa5 {x : AV} {r : List Ev} (hx : IsL h x (r.reverse.map Ev.av)) (hv : ∀ e ∈ r,VE e) : m_q0d [x, .str t] h = .ok (.bl (seed t r)) h := by
  have e1 := qgx hx
  have e2 : (r.reverse.map Ev.av).reverse = r.map Ev.av := by rw [<- List.map_reverse,List.reverse_reverse]
  show SRe.out (b_q0d [some x,some (.str t),none] h) = _
  have hl := qaf (h := h) (x0 := x) (t := t) (all := r.map Ev.av) r none hv
  unfold q4f at hl
  unfold b_q0d seed
  rcases hl with ⟨b,h1,h2⟩ | ⟨h1,y,h2⟩
  . rw [h1]
    simp [-q4e, -List.map_reverse,e1,e2,lsq_l,h2]
  . rw [h1]
    simp [-q4e, -List.map_reverse,e1,e2,lsq_l,h2]
end
end K18
namespace K18
open PySem L2 Z PM
structure St where
  day : Int
  mb : Nat -> Bool
  mc : Nat -> Bool
  wd : Nat -> Int
  es : List AV
  du : List AV
def up {α : Type} (f : Nat -> α) (p : Nat) (v : α) : Nat -> α := fun q => if q = p then v else f q
def KS : List Key := [.inr "r", .inr "s", .inr "fair", .inr "blue", .inr "f", .inr "m", .inr "w0", .inr "w1", .inr "w2", .inr "w3", .inr "b0", .inr "c0", .inr "b1", .inr "c1", .inr "b2", .inr "c2"]
def XS : List AV := [.ref 4, .ref 5, .ref 6, .ref 7, .ref 8, .ref 9, .ref 10, .ref 11, .ref 12, .ref 13, .ref 14, .ref 15, .ref 16, .ref 17, .ref 18, .ref 19]
def E5 : List AV := [.tup [.int 0, .str "batch", .str "m", .tup [.tup [.str "f", .int 500]]], .tup [.int 0, .str "wheel", .str "w0", .str "m", .str "fair", .str "s", .int 50], .tup [.int 0, .str "wheel", .str "w1", .str "m", .str "blue", .str "s", .int 50], .tup [.int 0, .str "wheel", .str "w2", .str "m", .str "fair", .str "s", .int 50], .tup [.int 0, .str "wheel", .str "w3", .str "m", .str "blue", .str "s", .int 50]]
def stays : AV := .lst [.tup [.int 1, .int 60]]
def srtF (m : Bool) : List (Nat × AV) := q7i (if m then "blue" else "fair") m (.tup [.int 1, .int 3]) (.tup [.int 2, .int 4]) ["r"] stays
def srtOf (w : Nat) : Nat := 6 + w % 2
def whl (S : St) (w : Nat) : Wh := ⟨wN w,srtOf w,5,50,0,0,S.wd w,0,false⟩
def HH (S : St) (t : AH) : AH := q2u S.day 1 2 3 :: .dk KS XS :: .lst [.ref 10, .ref 11, .ref 12, .ref 13] :: .lst (E5 ++ S.es) :: q6o "r" 100 1 :: q4w "s" 4 :: .ins 3 (srtF false) :: .ins 3 (srtF true) :: farmC "f" :: batchC "m" 300 ::
  (whl S 0).cell :: (whl S 1).cell :: (whl S 2).cell :: (whl S 3).cell :: q2b "brine" (bN 0) (S.mb 0) :: q2b "cloth" (cN 0) (S.mc 0) :: q2b "brine" (bN 1) (S.mb 1) :: q2b "cloth" (cN 1) (S.mc 1) :: q2b "brine" (bN 2) (S.mb 2) :: q2b "cloth" (cN 2) (S.mc 2) :: .lst S.du :: t
def S0 : St := ⟨0,fun _ => false,fun _ => false,fun _ => 0,[],[]⟩
theorem qfh : ∃ h,m_q0f [] [] = .ok (.ref 0) h /\ h ++ [.lst []] = HH S0 [] := by
  refine ⟨(HH S0 []).take 20,?_,rfl⟩
  kernel_rfl
end K18
namespace K18
open PySem L2 Z PM
section
variable {S : St} {t : AH} {w b c : Nat}
theorem four {w : Nat} (h : w < 4) : w = 0 \/ w = 1 \/ w = 2 \/ w = 3 := by omega
theorem three {b : Nat} (h : b < 3) : b = 0 \/ b = 1 \/ b = 2 := by omega
theorem q50 : Cel (HH S t) 0 1 2 3 S.day KS XS [.ref 10, .ref 11, .ref 12, .ref 13] (E5 ++ S.es) := ⟨rfl,rfl,rfl,rfl,by decide⟩
theorem h_w (hw : w < 4) : (HH S t)[10 + w]? = some (whl S w).cell := by rcases four hw with rfl | rfl | rfl | rfl <;> rfl
theorem h_b (hb : b < 3) : (HH S t)[14 + 2 * b]? = some (q2b "brine" (bN b) (S.mb b)) := by rcases three hb with rfl | rfl | rfl <;> rfl
theorem h_c (hc : c < 3) : (HH S t)[15 + 2 * c]? = some (q2b "cloth" (cN c) (S.mc c)) := by rcases three hc with rfl | rfl | rfl <;> rfl
theorem h_s (hw : w < 4) : (HH S t)[srtOf w]? = some (.ins 3 (srtF (odd w))) := by rcases four hw with rfl | rfl | rfl | rfl <;> rfl
theorem h_sh : (HH S t)[5]? = some (q4w "s" 4) := rfl
theorem h_r : (HH S t)[4]? = some (q6o "r" 100 1) := rfl
theorem h_du : (HH S t)[20]? = some (.lst S.du) := rfl
theorem h_app {g : AH} : HH S t ++ g = HH S (t ++ g) := rfl
theorem s_w (hw : w < 4) {d : Int} : (HH S t).set (10 + w) (({ whl S w with wd := d } : Wh).cell) = HH { S with wd := up S.wd w d } t := by rcases four hw with rfl | rfl | rfl | rfl <;> rfl
theorem s_b (hb : b < 3) {m : Bool} : (HH S t).set (14 + 2 * b) (q2b "brine" (bN b) m) = HH { S with mb := up S.mb b m } t := by rcases three hb with rfl | rfl | rfl <;> rfl
theorem s_c (hc : c < 3) {m : Bool} : (HH S t).set (15 + 2 * c) (q2b "cloth" (cN c) m) = HH { S with mc := up S.mc c m } t := by rcases three hc with rfl | rfl | rfl <;> rfl
theorem s_es {e : AV} : (HH S t).set 3 (.lst (E5 ++ S.es ++ [e])) = HH { S with es := S.es ++ [e] } t := by
  rw [List.append_assoc]; rfl
theorem s_du {du : List AV} : (HH S t).set 20 (.lst du) = HH { S with du := du } t := rfl
theorem s_day {d : Int} : (HH S t).set 0 (q2u d 1 2 3) = HH { S with day := d } t := rfl
theorem dk_w (hw : w < 4) : dval KS XS (.inr (wN w)) = some (.ref (10 + w)) := by rcases four hw with rfl | rfl | rfl | rfl <;> kernel_rfl
theorem dk_b (hb : b < 3) : dval KS XS (.inr (bN b)) = some (.ref (14 + 2 * b)) := by rcases three hb with rfl | rfl | rfl <;> kernel_rfl
theorem dk_c (hc : c < 3) : dval KS XS (.inr (cN c)) = some (.ref (15 + 2 * c)) := by rcases three hc with rfl | rfl | rfl <;> kernel_rfl
theorem nl_b (hb : b < 3) : (bN b).length <= 1000 := by
  have : ∀ b < 3,(bN b).length <= 1000 := by decide +kernel
  exact this b hb
theorem nl_c (hc : c < 3) : (cN c).length <= 1000 := by
  have : ∀ b < 3,(cN b).length <= 1000 := by decide +kernel
  exact this c hc
theorem q73 (hes : S.es.length < 50000) : (E5 ++ S.es).length < 100000 := by
  rw [List.length_append]
  have : E5.length = 5 := rfl
  omega
theorem qdw (hw : w < 4) (hb : b < 3) (hc : c < 3) (he : odd w = false) (hm : (S.mb b || S.mc c) = true) : m_q01 [.ref 0, .str (wN w), .str (bN b), .str (cN c)] (HH S t) = .ex 27 (HH S t) := by
  have hs := h_s (S := S) (t := t) hw
  rw [he] at hs
  exact qh5 (z := whl S w) q50 (dk_w hw) (h_w hw) (dk_b hb) (h_b hb) (dk_c hc) (h_c hc) rfl hs hm (nl_b hb) (nl_c hc)
theorem qb7 (hw : w < 4) (hb : b < 3) (hc : c < 3) (he : odd w = false) (hm : (S.mb b || S.mc c) = false) (hes : S.es.length < 50000) :
    m_q01 [.ref 0, .str (wN w), .str (bN b), .str (cN c)] (HH S t) = .ok .non (HH { S with wd := up S.wd w S.day,es := S.es ++ [(Ev.wash S.day w b c).av] } t) := by
  have hs := h_s (S := S) (t := t) hw
  rw [he] at hs
  rw [Bool.or_eq_false_iff] at hm
  have e1 := h_b (S := S) (t := t) hb
  have e2 := h_c (S := S) (t := t) hc
  rw [hm.1] at e1
  rw [hm.2] at e2
  rw [qdc (z := whl S w) q50 (dk_w hw) (h_w hw) (dk_b hb) e1 (dk_c hc) e2 rfl hs (q73 hes),s_w hw]
  exact congrArg _ (s_es (S := { S with wd := up S.wd w S.day }))
theorem qd2 (hw : w < 4) (hb : b < 3) (hc : c < 3) (he : odd w = true) (hes : S.es.length < 50000) :
    m_q01 [.ref 0, .str (wN w), .str (bN b), .str (cN c)] (HH S t) = .ok .non (HH { S with mb := up S.mb b true,mc := up S.mc c true,wd := up S.wd w S.day,es := S.es ++ [(Ev.wash S.day w b c).av] } t) := by
  have hs := h_s (S := S) (t := t) hw
  rw [he] at hs
  rw [qd4 (z := whl S w) q50 (dk_w hw) (h_w hw) (dk_b hb) (h_b hb) (dk_c hc) (h_c hc) rfl hs (q73 hes),s_b hb,s_c hc]
  have e := s_w (S := { S with mb := up S.mb b true,mc := up S.mc c true }) (t := t) hw (d := S.day)
  change Re.ok AV.non (((HH { S with mb := up S.mb b true,mc := up S.mc c true } t).set (10 + w) (({ whl { S with mb := up S.mb b true,mc := up S.mc c true } w with wd := S.day } : Wh).cell)).set 3 _) = _
  rw [e]
  exact congrArg _ (s_es (S := { S with mb := up S.mb b true,mc := up S.mc c true,wd := up S.wd w S.day }))
theorem tN_b (hb : b < 3) : tN (2 * b) = bN b := by rcases three hb with rfl | rfl | rfl <;> decide +kernel
theorem tN_c (hb : c < 3) : tN (2 * c + 1) = cN c := by rcases three hb with rfl | rfl | rfl <;> decide +kernel
theorem qfm (hb : b < 3) (hes : S.es.length < 50000) : m_q02 [.ref 0, .str (tN (2 * b))] (HH S t) = .ok .non (HH { S with mb := up S.mb b false,es := S.es ++ [(Ev.boil S.day (2 * b)).av] } t) := by
  rw [tN_b hb,qe8 (.inl rfl) q50 (dk_b hb) (h_b hb) (q73 hes),s_b hb]
  have : (Ev.boil S.day (2 * b)).av = .tup [.int S.day, .str "boil", .str (bN b)] := by rw [Ev.av,tN_b hb]
  rw [this]
  exact congrArg _ (s_es (S := { S with mb := up S.mb b false }))
theorem qfl (hc : c < 3) (hes : S.es.length < 50000) : m_q02 [.ref 0, .str (tN (2 * c + 1))] (HH S t) = .ok .non (HH { S with mc := up S.mc c false,es := S.es ++ [(Ev.boil S.day (2 * c + 1)).av] } t) := by
  rw [tN_c hc,qe8 (.inr rfl) q50 (dk_c hc) (h_c hc) (q73 hes),s_c hc]
  have : (Ev.boil S.day (2 * c + 1)).av = .tup [.int S.day, .str "boil", .str (cN c)] := by rw [Ev.av,tN_c hc]
  rw [this]
  exact congrArg _ (s_es (S := { S with mc := up S.mc c false }))
theorem qgm (hes : S.es.length < 50000) : m_q02 [.ref 0, .str (tN 6)] (HH S t) = .ok .non (HH { S with es := S.es ++ [(Ev.boil S.day 6).av] } t) := by
  rw [show tN 6 = "s" from rfl,boil_s q50 (t := 5) (r := 4) (by kernel_rfl) h_sh (q73 hes)]
  exact congrArg _ (s_es (S := S))
theorem set_same {h : AH} {k : Nat} {x : Cell} (e : h[k]? = some x) : h.set k x = h := by
  obtain ⟨h1,h2⟩ := List.getElem?_eq_some_iff.mp e
  rw [<- h2,List.set_getElem_self]
def zr (S : St) (w : Nat) : WR := ⟨10 + w,whl S w, "s",4, "r",100,1⟩
theorem qay (hw : w < 4) : (zr S w).ok (HH S t) := ⟨h_w hw,h_sh,h_r,by show (0 : Int) <= 100; decide,by show (100 : Int) <= 100; decide,by show (0 : Int) <= 1; decide,by show (1 : Int) <= 40; decide⟩
theorem qgy (hes : S.es.length < 50000) : ∃ t',m_qi [.ref 0, .int 1] (HH S t) = .ok .non (HH { S with day := S.day + 1,es := S.es ++ [(Ev.night S.day).av] } t') := by
  have e := qe7 (zs := [zr S 0,zr S 1,zr S 2,zr S 3]) (q50 (S := S) (t := t)) (by
    intro y hy
    simp only [List.mem_cons,List.not_mem_nil,or_false] at hy
    rcases hy with rfl | rfl | rfl | rfl
    . exact qay (by decide)
    . exact qay (by decide)
    . exact qay (by decide)
    . exact qay (by decide)) (by simp [zr]) (by simp) (q73 hes)
  have hr : rowsOf [zr S 0,zr S 1,zr S 2,zr S 3] = [row 0,row 1,row 2,row 3] := rfl
  have hs : q44 [zr S 0,zr S 1,zr S 2,zr S 3] (HH S t) = HH S t := by
    show ((((HH S t).set (10 + 0) (whl S 0).cell).set (10 + 1) (whl S 1).cell).set (10 + 2) (whl S 2).cell).set (10 + 3) (whl S 3).cell = _
    rw [set_same (h_w (by decide)),set_same (h_w (by decide)),set_same (h_w (by decide)),set_same (h_w (by decide))]
  rw [e]
  unfold q9l
  rw [hs,hr,h_app]
  refine ⟨t ++ [.lst [row 0,row 1,row 2,row 3]],?_⟩
  have e2 := s_es (S := S) (t := t ++ [.lst [row 0,row 1,row 2,row 3]]) (e := (Ev.night S.day).av)
  change Re.ok AV.non (((HH S (t ++ [.lst [row 0,row 1,row 2,row 3]])).set 3 (.lst (E5 ++ S.es ++ [(Ev.night S.day).av]))).set 0 _) = _
  rw [e2]
  exact congrArg _ (s_day (S := { S with es := S.es ++ [(Ev.night S.day).av] }))
end
end K18
namespace K18
open PySem L2 Z PM
def okE : Ev -> List Ev -> Prop
  | .wash _ w b c,r => odd w = false -> seed (bN b) r = false /\ seed (cN c) r = false
  | _,_ => True
def okR : List Ev -> Prop
  | [] => True
  | e :: r => okE e r /\ okR r
structure Sync (S : St) (R : List Ev) : Prop where
  es : S.es = R.reverse.map Ev.av
  du : S.du = R.reverse.map Ev.av
  ve : ∀ e ∈ R,VE e
  ok : okR R
  mb : ∀ b < 3,S.mb b = seed (bN b) R
  mc : ∀ c < 3,S.mc c = seed (cN c) R
theorem q5b {t : Str} {d : Int} {k : Nat} {R : List Ev} : seed t (.boil d k :: R) = if tN k = t then false else seed t R := by
  unfold seed; simp only [q3k]; split <;> rfl
theorem q6m {t : Str} {d : Int} {w b c : Nat} {R : List Ev} : seed t (.wash d w b c :: R) = if ((decide (bN b = t) || decide (cN c = t)) && odd w) = true then true else seed t R := by
  unfold seed; simp only [q3k]; split <;> rfl
theorem bb {b b' : Nat} (hb : b < 3) (hb' : b' < 3) : bN b = bN b' ↔ b = b' := by
  have : ∀ b < 3, ∀ b' < 3,decide (bN b = bN b') = decide (b = b') := by decide +kernel
  exact decide_eq_decide.mp (this b hb b' hb')
theorem cc {b b' : Nat} (hb : b < 3) (hb' : b' < 3) : cN b = cN b' ↔ b = b' := by
  have : ∀ b < 3, ∀ b' < 3,decide (cN b = cN b') = decide (b = b') := by decide +kernel
  exact decide_eq_decide.mp (this b hb b' hb')
theorem bc {b c : Nat} (hb : b < 3) (hc : c < 3) : bN b ≠ cN c := by
  have : ∀ b < 3, ∀ c < 3,bN b ≠ cN c := by decide +kernel
  exact this b hb c hc
theorem sb {b : Nat} (hb : b < 3) : tN 6 ≠ bN b := by
  have : ∀ b < 3,tN 6 ≠ bN b := by decide +kernel
  exact this b hb
theorem sc {b : Nat} (hb : b < 3) : tN 6 ≠ cN b := by
  have : ∀ b < 3,tN 6 ≠ cN b := by decide +kernel
  exact this b hb
section
variable {S : St} {R : List Ev}
theorem Sync.push {S' : St} (Sy : Sync S R) (e : Ev) (he : VE e) (hok : okE e R) (h1 : S'.es = S.es ++ [e.av]) (h2 : S'.du = S.du ++ [e.av]) (h3 : ∀ b < 3,S'.mb b = seed (bN b) (e :: R)) (h4 : ∀ c < 3,S'.mc c = seed (cN c) (e :: R)) : Sync S' (e :: R) :=
  ⟨by rw [h1,Sy.es]; simp,by rw [h2,Sy.du]; simp,fun x hx => (List.mem_cons.mp hx).elim (fun z => z ▸ he) (Sy.ve x),⟨hok,Sy.ok⟩,h3,h4⟩
theorem Sync.boil (Sy : Sync S R) {k : Nat} (hk : k < 7) : ∃ mb mc,(∀ t,S.es.length < 50000 -> m_q02 [.ref 0, .str (tN k)] (HH S t) = .ok .non (HH { S with mb := mb,mc := mc,es := S.es ++ [(Ev.boil S.day k).av] } t)) /\ Sync { S with mb := mb,mc := mc,es := S.es ++ [(Ev.boil S.day k).av],du := S.du ++ [(Ev.boil S.day k).av] } (.boil S.day k :: R) := by
  have hk' : (∃ b,b < 3 /\ k = 2 * b) \/ (∃ c,c < 3 /\ k = 2 * c + 1) \/ k = 6 := by
    rcases (show k = 0 \/ k = 1 \/ k = 2 \/ k = 3 \/ k = 4 \/ k = 5 \/ k = 6 by omega) with rfl | rfl | rfl | rfl | rfl | rfl | rfl
    . exact .inl ⟨0,by omega,rfl⟩
    . exact .inr (.inl ⟨0,by omega,rfl⟩)
    . exact .inl ⟨1,by omega,rfl⟩
    . exact .inr (.inl ⟨1,by omega,rfl⟩)
    . exact .inl ⟨2,by omega,rfl⟩
    . exact .inr (.inl ⟨2,by omega,rfl⟩)
    . exact .inr (.inr rfl)
  rcases hk' with ⟨b,hb,rfl⟩ | ⟨c,hc,rfl⟩ | rfl
  . refine ⟨up S.mb b false,S.mc,fun t hes => qfm hb hes,Sy.push _ hk trivial rfl rfl (fun b' hb' => ?_) fun c' hc' => ?_⟩
    . rw [q5b,tN_b hb]
      show up S.mb b false b' = _
      unfold up
      by_cases h : b' = b
      . rw [if_pos h,if_pos ((bb hb hb').mpr h.symm)]
      . rw [if_neg h,if_neg fun z => h ((bb hb hb').mp z).symm]; exact Sy.mb b' hb'
    . rw [q5b,tN_b hb,if_neg (bc hb hc')]; exact Sy.mc c' hc'
  . refine ⟨S.mb,up S.mc c false,fun t hes => qfl hc hes,Sy.push _ hk trivial rfl rfl (fun b' hb' => ?_) fun c' hc' => ?_⟩
    . rw [q5b,tN_c hc,if_neg (bc hb' hc).symm]; exact Sy.mb b' hb'
    . rw [q5b,tN_c hc]
      show up S.mc c false c' = _
      unfold up
      by_cases h : c' = c
      . rw [if_pos h,if_pos ((cc hc hc').mpr h.symm)]
      . rw [if_neg h,if_neg fun z => h ((cc hc hc').mp z).symm]; exact Sy.mc c' hc'
  . refine ⟨S.mb,S.mc,fun t hes => qgm hes,Sy.push _ hk trivial rfl rfl (fun b' hb' => ?_) fun c' hc' => ?_⟩
    . rw [q5b,if_neg (sb hb')]; exact Sy.mb b' hb'
    . rw [q5b,if_neg (sc hc')]; exact Sy.mc c' hc'
def q7n (R : List Ev) (w b c : Nat) : Bool := !odd w && (seed (bN b) R || seed (cN c) R)
theorem qey {h h' : AH} {x y z : AV} {day : Int} (h0 : h[0]? = some (q2u day 1 2 3)) (e : m_q01 [.ref 0,x,y,z] h = .ok .non h') : m_q0i [.ref 0,x,y,z] h = .ok (.str "") h' := by
  simp only [q2u] at h0
  simp [m_q0i,b_q0i,h0,e]
theorem ans_ex {h : AH} {x y z : AV} {day : Int} (h0 : h[0]? = some (q2u day 1 2 3)) (e : m_q01 [.ref 0,x,y,z] h = .ex 27 h) : m_q0i [.ref 0,x,y,z] h = .ok (.str "mouldy") h := by
  simp only [q2u] at h0
  simp [m_q0i,b_q0i,h0,e,wdT]
theorem Sync.wash (Sy : Sync S R) {w b c : Nat} (hw : w < 4) (hb : b < 3) (hc : c < 3) (hes : S.es.length < 50000) :
    (q7n R w b c = true /\ ∀ t,m_q0i [.ref 0, .str (wN w), .str (bN b), .str (cN c)] (HH S t) = .ok (.str "mouldy") (HH S t)) \/
    (q7n R w b c = false /\ ∃ mb mc wd,(∀ t,m_q0i [.ref 0, .str (wN w), .str (bN b), .str (cN c)] (HH S t) = .ok (.str "") (HH { S with mb := mb,mc := mc,wd := wd,es := S.es ++ [(Ev.wash S.day w b c).av] } t)) /\
      Sync { S with mb := mb,mc := mc,wd := wd,es := S.es ++ [(Ev.wash S.day w b c).av],du := S.du ++ [(Ev.wash S.day w b c).av] } (.wash S.day w b c :: R)) := by
  have m1 := Sy.mb b hb
  have m2 := Sy.mc c hc
  cases ho : odd w with
  | true =>
    refine .inr ⟨by simp [q7n,ho],up S.mb b true,up S.mc c true,up S.wd w S.day,fun t => qey (q50 (S := S) (t := t)).qc (qd2 hw hb hc ho hes),Sy.push _ ⟨hw,hb,hc⟩ (fun z => by rw [ho] at z; cases z) rfl rfl (fun b' hb' => ?_) fun c' hc' => ?_⟩
    . rw [q6m,ho,decide_eq_false (bc hb' hc).symm,Bool.or_false,Bool.and_true]
      show up S.mb b true b' = _
      unfold up
      by_cases h : b' = b
      . rw [if_pos h,if_pos (decide_eq_true ((bb hb hb').mpr h.symm))]
      . rw [if_neg h,if_neg (by simpa using fun z => h ((bb hb hb').mp z).symm)]; exact Sy.mb b' hb'
    . rw [q6m,ho,decide_eq_false (bc hb hc'),Bool.false_or,Bool.and_true]
      show up S.mc c true c' = _
      unfold up
      by_cases h : c' = c
      . rw [if_pos h,if_pos (decide_eq_true ((cc hc hc').mpr h.symm))]
      . rw [if_neg h,if_neg (by simpa using fun z => h ((cc hc hc').mp z).symm)]; exact Sy.mc c' hc'
  | false =>
    cases hm : (S.mb b || S.mc c) with
    | true =>
      refine .inl ⟨by unfold q7n; rw [ho, <- m1, <- m2,hm]; rfl,fun t => ans_ex (q50 (S := S) (t := t)).qc (qdw hw hb hc ho hm)⟩
    | false =>
      have hm2 := Bool.or_eq_false_iff.mp hm
      refine .inr ⟨by unfold q7n; rw [ho, <- m1, <- m2,hm]; rfl,S.mb,S.mc,up S.wd w S.day,fun t => qey (q50 (S := S) (t := t)).qc (qb7 hw hb hc ho hm hes),Sy.push _ ⟨hw,hb,hc⟩ (fun _ => ⟨by rw [<- m1]; exact hm2.1,by rw [<- m2]; exact hm2.2⟩) rfl rfl (fun b' hb' => ?_) fun c' hc' => ?_⟩
      . rw [q6m,ho,Bool.and_false,if_neg Bool.false_ne_true]; exact Sy.mb b' hb'
      . rw [q6m,ho,Bool.and_false,if_neg Bool.false_ne_true]; exact Sy.mc c' hc'
theorem Sync.night (Sy : Sync S R) : Sync { S with day := S.day + 1,es := S.es ++ [(Ev.night S.day).av],du := S.du ++ [(Ev.night S.day).av] } (.night S.day :: R) :=
  Sy.push _ trivial trivial rfl rfl (fun b hb => Sy.mb b hb) fun c hc => Sy.mc c hc
end
end K18
namespace K18
open PySem L2 Z PM
def EnvL (ns : List Int) (day : Int) (y4 y5 y6 y7 : Option AV) : AEnv := [some (.kst (ns.map AV.int)),some (.ref 0),some (.ref 20),some (.int day),y4,y5,y6,y7,none,none]
def q64 : AS := (sIf (aB (a2 fEq (a2 fMod (aVar 4) (aK (.int 4))) (aK (.int 3))))
 (sSeq (sAsg (a2 fIx (aLst (q19 (aK (.str "b0")) (q19 (aK (.str "c0")) (q19 (aK (.str "b1")) (q19 (aK (.str "c1")) (q19 (aK (.str "b2")) (q19 (aK (.str "c2")) (q19 (aK (.str "s")) aNil)))))))) (a2 fMod (a2 fDiv (aVar 4) (aK (.int 4))) (aK (.int 7)))) (gN 5))
 (sSeq (q1s (q29 8 m_q02 (aVar 1) (q19 (aVar 5) aNil)))
 (sSeq (q1s (aMtL q2y (aVar 2) (q19 (aTup (q19 (aVar 3) (q19 (aK (.str "boil")) (q19 (aVar 5) aNil)))) aNil)))
 (sIf (aB (a2 fEq (a2 fMod (a2 fDiv (aVar 4) (aK (.int 28))) (aK (.int 3))) (aK (.int 2))))
 (sSeq (q1s (q88 8 m_qi (aVar 1) aNil [1]))
 (sSeq (q1s (aMtL q2y (aVar 2) (q19 (aTup (q19 (aVar 3) (q19 (aK (.str "night")) (q19 (aC q68 (q19 (aLc 1 [] (q3t (aK (.int 4))) (gN 0) aYes (aTup (q19 (a2 q3n (aK (.str "w")) (aC q3y (q19 (aVar 0) aNil))) (q19 (aK (.str "r")) (q19 (aK (.str "s")) (q19 (aK (.int 0)) aNil)))))) aNil)) aNil)))) aNil)))
 (sAsg (a2 fAdd (aVar 3) (aK (.int 1))) (gN 3))))
 q2i))))
 (sSeq (sAsg (aTup (q19 (a2 q3n (aK (.str "w")) (aC q3y (q19 (a2 fMod (a2 fDiv (aVar 4) (aK (.int 4))) (aK (.int 4))) aNil))) (q19 (a2 q3n (aK (.str "b")) (aC q3y (q19 (a2 fMod (a2 fDiv (aVar 4) (aK (.int 16))) (aK (.int 3))) aNil))) (q19 (a2 q3n (aK (.str "c")) (aC q3y (q19 (a2 fMod (aVar 4) (aK (.int 4))) aNil))) aNil)))) (gN 6))
 (sSeq (sAsg (q6a (a2 (fIn false) (a2 fIx (aVar 6) (aK (.int 0))) (aLst (q19 (aK (.str "w0")) (q19 (aK (.str "w2")) aNil)))) (aOrV (aC m_q0d (q19 (aVar 2) (q19 (a2 fIx (aVar 6) (aK (.int 1))) aNil))) (aC m_q0d (q19 (aVar 2) (q19 (a2 fIx (aVar 6) (aK (.int 2))) aNil))))) (gN 7))
 (sSeq (sIf (aB (a2 fNe (aC m_q0i (q19 (aVar 1) (q19 (a2 fIx (aVar 6) (aK (.int 0))) (q19 (a2 fIx (aVar 6) (aK (.int 1))) (q19 (a2 fIx (aVar 6) (aK (.int 2))) aNil))))) (a2 fIx (aLst (q19 (aK (.str "")) (q19 (aK (.str "mouldy")) aNil))) (aC qau (q19 (aVar 7) aNil)))))
 (sRet (aK (.bl false)))
 q2i)
 (sIf (aNot (aB (aVar 7)))
 (q1s (aMtL q2y (aVar 2) (q19 (a2 q82 (aTup (q19 (aVar 3) (q19 (aK (.str "wash")) aNil))) (aVar 6)) aNil)))
 q2i)))))
def Nx (ns : List Int) (n : Nat) (r : SRe) : Prop := ∃ S R t y4 y5 y6 y7,r = .nx (EnvL ns S.day y4 y5 y6 y7) (HH S t) /\ Sync S R /\ R.length <= n
theorem Nx.seq {ns : List Int} {n : Nat} {s t : AS} {env env' : AEnv} {h1 h2 : AH} (e : s env h1 = .nx env' h2) (r : Nx ns n (t env' h2)) : Nx ns n (sSeq s t env h1) := by rw [q9d e]; exact r
section
variable {S : St} {R : List Ev} {t : AH} {ns : List Int}
theorem es_R (Sy : Sync S R) (hl : R.length <= 200) : S.es.length < 50000 /\ S.du.length < sizeLine := by
  rw [Sy.es,Sy.du,List.length_map,List.length_reverse]
  exact ⟨by omega,Nat.lt_of_le_of_lt hl (by decide)⟩
theorem i_cel : q5g (HH S t) (.ref 0) = some (8,[(18, .int S.day),(19, .ref 1),(20, .ref 2),(21, .ref 3)]) := rfl
theorem tN_at (k : Nat) (hk : k < 7) : atI [AV.str (Str.ofString "b0"), .str (Str.ofString "c0"), .str (Str.ofString "b1"), .str (Str.ofString "c1"), .str (Str.ofString "b2"), .str (Str.ofString "c2"), .str (Str.ofString "s")] (k : Int) = some (.str (tN k)) := by
  rcases (show k = 0 \/ k = 1 \/ k = 2 \/ k = 3 \/ k = 4 \/ k = 5 \/ k = 6 by omega) with rfl | rfl | rfl | rfl | rfl | rfl | rfl <;> rfl
theorem qek {X : AE} {x : AV} {d : Int} {y4 y5 y6 y7 : Option AV} {H H3 : AH} {du : List AV} (hX : X (EnvL ns d y4 y5 y6 y7) H = .ok x H) (h20 : H[20]? = some (.lst du)) (hl : du.length < sizeLine) (hs : H.set 20 (.lst (du ++ [.tup [.int d, .str "night",x]])) = H3) :
    q1s (aMtL q2y (aVar 2) (q19 (aTup (q19 (aVar 3) (q19 (aK (.str "night")) (q19 X aNil)))) aNil)) (EnvL ns d y4 y5 y6 y7) H = .nx (EnvL ns d y4 y5 y6 y7) H3 := by
  simp only [EnvL] at hX ⊢
  simp [hX,h20,hl,hs]
theorem qdq (Sy : Sync S R) (hl : R.length <= 190) {c : Int} (hc : c % 4 = 3) (y5 y6 y7 : Option AV) : Nx ns (R.length + 2) (q64 (EnvL ns S.day (some (.int c)) y5 y6 y7) (HH S t)) := by
  have k0 := Int.emod_nonneg (c / 4) (show (7 : Int) ≠ 0 by decide)
  have k1 := Int.emod_lt_of_pos (c / 4) (show (0 : Int) < 7 by decide)
  obtain ⟨k,hk⟩ := Int.eq_ofNat_of_zero_le k0
  have hk7 : k < 7 := by omega
  obtain ⟨l1,l2⟩ := es_R Sy (by omega)
  obtain ⟨mb,mc,e1,Sy1⟩ := Sy.boil hk7
  have e1 := e1 t l1
  have ta := tN_at k hk7
  have hbr : q64 (EnvL ns S.day (some (.int c)) y5 y6 y7) (HH S t) = (sSeq (sAsg (a2 fIx (aLst (q19 (aK (.str "b0")) (q19 (aK (.str "c0")) (q19 (aK (.str "b1")) (q19 (aK (.str "c1")) (q19 (aK (.str "b2")) (q19 (aK (.str "c2")) (q19 (aK (.str "s")) aNil)))))))) (a2 fMod (a2 fDiv (aVar 4) (aK (.int 4))) (aK (.int 7)))) (gN 5))
     (sSeq (q1s (q29 8 m_q02 (aVar 1) (q19 (aVar 5) aNil)))
     (sSeq (q1s (aMtL q2y (aVar 2) (q19 (aTup (q19 (aVar 3) (q19 (aK (.str "boil")) (q19 (aVar 5) aNil)))) aNil)))
     (sIf (aB (a2 fEq (a2 fMod (a2 fDiv (aVar 4) (aK (.int 28))) (aK (.int 3))) (aK (.int 2))))
     (sSeq (q1s (q88 8 m_qi (aVar 1) aNil [1]))
     (sSeq (q1s (aMtL q2y (aVar 2) (q19 (aTup (q19 (aVar 3) (q19 (aK (.str "night")) (q19 (aC q68 (q19 (aLc 1 [] (q3t (aK (.int 4))) (gN 0) aYes (aTup (q19 (a2 q3n (aK (.str "w")) (aC q3y (q19 (aVar 0) aNil))) (q19 (aK (.str "r")) (q19 (aK (.str "s")) (q19 (aK (.int 0)) aNil)))))) aNil)) aNil)))) aNil)))
     (sAsg (a2 fAdd (aVar 3) (aK (.int 1))) (gN 3))))
     q2i)))) (EnvL ns S.day (some (.int c)) y5 y6 y7) (HH S t) := by
    generalize HH S t = H
    simp only [q64,sIf]
    simp [EnvL,hc]
  rw [hbr]
  have i0 := i_cel (S := S) (t := t)
  refine Nx.seq (env' := EnvL ns S.day (some (.int c)) (some (.str (tN k))) y6 y7) (h2 := HH S t) (by
    generalize HH S t = H
    simp [EnvL,hk,ta]) ?_
  refine Nx.seq (env' := EnvL ns S.day (some (.int c)) (some (.str (tN k))) y6 y7) (h2 := HH { S with mb := mb,mc := mc,es := S.es ++ [(Ev.boil S.day k).av] } t) (by
    generalize HH { S with mb := mb,mc := mc,es := S.es ++ [(Ev.boil S.day k).av] } t = H2 at *
    generalize HH S t = H at *
    simp [EnvL, -q5g,i0,e1]) ?_
  refine Nx.seq (env' := EnvL ns S.day (some (.int c)) (some (.str (tN k))) y6 y7) (h2 := HH { S with mb := mb,mc := mc,es := S.es ++ [(Ev.boil S.day k).av],du := S.du ++ [(Ev.boil S.day k).av] } t) (by
    have h20 := h_du (S := { S with mb := mb,mc := mc,es := S.es ++ [(Ev.boil S.day k).av] }) (t := t)
    have s20 := s_du (S := { S with mb := mb,mc := mc,es := S.es ++ [(Ev.boil S.day k).av] }) (t := t) (du := S.du ++ [(Ev.boil S.day k).av])
    generalize HH { S with mb := mb,mc := mc,es := S.es ++ [(Ev.boil S.day k).av],du := S.du ++ [(Ev.boil S.day k).av] } t = H3 at *
    generalize HH { S with mb := mb,mc := mc,es := S.es ++ [(Ev.boil S.day k).av] } t = H2 at *
    simp only [Ev.av] at s20
    simp [EnvL,h20,s20,l2]) ?_
  by_cases hn : c / 28 % 3 = 2
  . obtain ⟨l3,l4⟩ := es_R Sy1 (by rw [List.length_cons]; omega)
    have Sy2 := Sy1.night
    obtain ⟨t2,e2⟩ := qgy (t := t) l3
    have i1 := i_cel (S := { S with mb := mb,mc := mc,es := S.es ++ [(Ev.boil S.day k).av],du := S.du ++ [(Ev.boil S.day k).av] }) (t := t)
    have h20 := h_du (S := { S with mb := mb,mc := mc,day := S.day + 1,es := S.es ++ [(Ev.boil S.day k).av] ++ [(Ev.night S.day).av],du := S.du ++ [(Ev.boil S.day k).av] }) (t := t2)
    have s20 := s_du (S := { S with mb := mb,mc := mc,day := S.day + 1,es := S.es ++ [(Ev.boil S.day k).av] ++ [(Ev.night S.day).av],du := S.du ++ [(Ev.boil S.day k).av] }) (t := t2) (du := S.du ++ [(Ev.boil S.day k).av] ++ [(Ev.night S.day).av])
    refine ⟨{ S with mb := mb,mc := mc,day := S.day + 1,es := S.es ++ [(Ev.boil S.day k).av] ++ [(Ev.night S.day).av],du := S.du ++ [(Ev.boil S.day k).av] ++ [(Ev.night S.day).av] },_,t2,some (.int c),some (.str (tN k)),y6,y7,?_,Sy2,by simp only [List.length_cons]; omega⟩
    have lc : ∀ H : AH,(aC q68 (q19 (aLc 1 [] (q3t (aK (.int 4))) (gN 0) aYes (aTup (q19 (a2 q3n (aK (.str "w")) (aC q3y (q19 (aVar 0) aNil))) (q19 (aK (.str "r")) (q19 (aK (.str "s")) (q19 (aK (.int 0)) aNil)))))) aNil)) (EnvL ns S.day (some (.int c)) (some (.str (tN k))) y6 y7) H = .ok (.tup [row 0,row 1,row 2,row 3]) H := fun H => by kernel_rfl
    simp only at l4 e2 h20 s20 i1
    generalize HH { S with mb := mb,mc := mc,day := S.day + 1,es := S.es ++ [(Ev.boil S.day k).av] ++ [(Ev.night S.day).av],du := S.du ++ [(Ev.boil S.day k).av] ++ [(Ev.night S.day).av] } t2 = H3 at *
    generalize HH { S with mb := mb,mc := mc,day := S.day + 1,es := S.es ++ [(Ev.boil S.day k).av] ++ [(Ev.night S.day).av],du := S.du ++ [(Ev.boil S.day k).av] } t2 = H2 at *
    generalize HH { S with mb := mb,mc := mc,es := S.es ++ [(Ev.boil S.day k).av],du := S.du ++ [(Ev.boil S.day k).av] } t = H at *
    have q1 : q1s (q88 8 m_qi (aVar 1) aNil [1]) (EnvL ns S.day (some (.int c)) (some (.str (tN k))) y6 y7) H = .nx (EnvL ns S.day (some (.int c)) (some (.str (tN k))) y6 y7) H2 := by
      simp [EnvL, -q5g,i1,e2]
    have q2 : q1s (aMtL q2y (aVar 2) (q19 (aTup (q19 (aVar 3) (q19 (aK (.str "night")) (q19 (aC q68 (q19 (aLc 1 [] (q3t (aK (.int 4))) (gN 0) aYes (aTup (q19 (a2 q3n (aK (.str "w")) (aC q3y (q19 (aVar 0) aNil))) (q19 (aK (.str "r")) (q19 (aK (.str "s")) (q19 (aK (.int 0)) aNil)))))) aNil)) aNil)))) aNil)) (EnvL ns S.day (some (.int c)) (some (.str (tN k))) y6 y7) H2 = .nx (EnvL ns S.day (some (.int c)) (some (.str (tN k))) y6 y7) H3 := by
      exact qek (lc H2) h20 l4 s20
    have q3 : (sAsg (a2 fAdd (aVar 3) (aK (.int 1))) (gN 3)) (EnvL ns S.day (some (.int c)) (some (.str (tN k))) y6 y7) H3 = .nx (EnvL ns (S.day + 1) (some (.int c)) (some (.str (tN k))) y6 y7) H3 := by
      simp [EnvL]
    have q0 : (aB (a2 fEq (a2 fMod (a2 fDiv (aVar 4) (aK (.int 28))) (aK (.int 3))) (aK (.int 2)))) (EnvL ns S.day (some (.int c)) (some (.str (tN k))) y6 y7) H = .ok true H := by simp [EnvL,hn]
    unfold sIf
    rw [q0]
    simp only [Re.to_ok,if_true]
    rw [q9d q1,q9d q2,q3]
  . refine ⟨{ S with mb := mb,mc := mc,es := S.es ++ [(Ev.boil S.day k).av],du := S.du ++ [(Ev.boil S.day k).av] },_,t,some (.int c),some (.str (tN k)),y6,y7,?_,Sy1,by simp only [List.length_cons]; omega⟩
    generalize HH { S with mb := mb,mc := mc,es := S.es ++ [(Ev.boil S.day k).av],du := S.du ++ [(Ev.boil S.day k).av] } t = H at *
    have q0 : (aB (a2 fEq (a2 fMod (a2 fDiv (aVar 4) (aK (.int 28))) (aK (.int 3))) (aK (.int 2)))) (EnvL ns S.day (some (.int c)) (some (.str (tN k))) y6 y7) H = .ok false H := by simp [EnvL,hn]
    unfold sIf
    rw [q0]
    rfl
end
end K18
namespace K18
open PySem L2 Z PM
section
variable {S : St} {R : List Ev} {t : AH} {ns : List Int}
theorem lens (k : Nat) (hk : k < 4) : ("w" : Str).length + (Str.ofString (Int.repr (k : Int))).length <= sizeLine /\ ("b" : Str).length + (Str.ofString (Int.repr (k : Int))).length <= sizeLine /\ ("c" : Str).length + (Str.ofString (Int.repr (k : Int))).length <= sizeLine /\ k.log2 < 1920 := by
  have h : ∀ k < 4,("w" : Str).length + (Str.ofString (Int.repr ((k : Nat) : Int))).length <= 1000 /\ ("b" : Str).length + (Str.ofString (Int.repr ((k : Nat) : Int))).length <= 1000 /\ ("c" : Str).length + (Str.ofString (Int.repr ((k : Nat) : Int))).length <= 1000 /\ k.log2 < 1920 := by decide +kernel
  obtain ⟨a,b,c,d⟩ := h k hk
  have hz : (1000 : Nat) <= sizeLine := by decide
  exact ⟨by omega,by omega,by omega,d⟩
theorem qes (Sy : Sync S R) (tt : Str) : m_q0d [.ref 20, .str tt] (HH S t) = .ok (.bl (seed tt R)) (HH S t) :=
  qa5 (.inr ⟨20,rfl,by rw [h_du,Sy.du]⟩) Sy.ve
theorem qe6 (Sy : Sync S R) (hl : R.length <= 190) {c : Int} (hc : ¬ c % 4 = 3) (y5 y6 y7 : Option AV) : Nx ns (R.length + 2) (q64 (EnvL ns S.day (some (.int c)) y5 y6 y7) (HH S t)) := by
  have a0 := Int.emod_nonneg (c / 4) (show (4 : Int) ≠ 0 by decide)
  have a1 := Int.emod_lt_of_pos (c / 4) (show (0 : Int) < 4 by decide)
  have b0 := Int.emod_nonneg (c / 16) (show (3 : Int) ≠ 0 by decide)
  have b1 := Int.emod_lt_of_pos (c / 16) (show (0 : Int) < 3 by decide)
  have c0 := Int.emod_nonneg c (show (4 : Int) ≠ 0 by decide)
  have c1 := Int.emod_lt_of_pos c (show (0 : Int) < 4 by decide)
  obtain ⟨w,hw⟩ := Int.eq_ofNat_of_zero_le a0
  obtain ⟨b,hb⟩ := Int.eq_ofNat_of_zero_le b0
  obtain ⟨k,hk⟩ := Int.eq_ofNat_of_zero_le c0
  have hw4 : w < 4 := by omega
  have hb3 : b < 3 := by omega
  have hk3 : k < 3 := by omega
  obtain ⟨l1,l2⟩ := es_R Sy (by omega)
  obtain ⟨w1,_,_,w2⟩ := lens w hw4
  obtain ⟨_,n1,_,n2⟩ := lens b (by omega)
  obtain ⟨_,_,k1,k2⟩ := lens k (by omega)
  have ew : ("w" : Str) ++ Str.ofString (Int.repr (w : Int)) = wN w := rfl
  have eb : ("b" : Str) ++ Str.ofString (Int.repr (b : Int)) = bN b := rfl
  have ek : ("c" : Str) ++ Str.ofString (Int.repr (k : Int)) = cN k := rfl
  have hk' : ¬ ((k : Int) = 3) := by omega
  have hbr : q64 (EnvL ns S.day (some (.int c)) y5 y6 y7) (HH S t) = (sSeq (sAsg (aTup (q19 (a2 q3n (aK (.str "w")) (aC q3y (q19 (a2 fMod (a2 fDiv (aVar 4) (aK (.int 4))) (aK (.int 4))) aNil))) (q19 (a2 q3n (aK (.str "b")) (aC q3y (q19 (a2 fMod (a2 fDiv (aVar 4) (aK (.int 16))) (aK (.int 3))) aNil))) (q19 (a2 q3n (aK (.str "c")) (aC q3y (q19 (a2 fMod (aVar 4) (aK (.int 4))) aNil))) aNil)))) (gN 6))
     (sSeq (sAsg (q6a (a2 (fIn false) (a2 fIx (aVar 6) (aK (.int 0))) (aLst (q19 (aK (.str "w0")) (q19 (aK (.str "w2")) aNil)))) (aOrV (aC m_q0d (q19 (aVar 2) (q19 (a2 fIx (aVar 6) (aK (.int 1))) aNil))) (aC m_q0d (q19 (aVar 2) (q19 (a2 fIx (aVar 6) (aK (.int 2))) aNil))))) (gN 7))
     (sSeq (sIf (aB (a2 fNe (aC m_q0i (q19 (aVar 1) (q19 (a2 fIx (aVar 6) (aK (.int 0))) (q19 (a2 fIx (aVar 6) (aK (.int 1))) (q19 (a2 fIx (aVar 6) (aK (.int 2))) aNil))))) (a2 fIx (aLst (q19 (aK (.str "")) (q19 (aK (.str "mouldy")) aNil))) (aC qau (q19 (aVar 7) aNil)))))
     (sRet (aK (.bl false)))
     q2i)
     (sIf (aNot (aB (aVar 7)))
     (q1s (aMtL q2y (aVar 2) (q19 (a2 q82 (aTup (q19 (aVar 3) (q19 (aK (.str "wash")) aNil))) (aVar 6)) aNil)))
     q2i)))) (EnvL ns S.day (some (.int c)) y5 y6 y7) (HH S t) := by
    generalize HH S t = H
    simp only [q64,sIf]
    simp [EnvL,hc]
  rw [hbr]
  let rw0 : AV := .tup [.str (wN w), .str (bN b), .str (cN k)]
  refine Nx.seq (env' := EnvL ns S.day (some (.int c)) y5 (some rw0) y7) (h2 := HH S t) (by
    generalize HH S t = H
    simp [EnvL,hw,hb,hk,w1,w2,n1,n2,k1,k2,ew,eb,ek,rw0]) ?_
  have sv1 := qes (t := t) Sy (bN b)
  have sv2 := qes (t := t) Sy (cN k)
  have we := qfj hw4
  refine Nx.seq (env' := EnvL ns S.day (some (.int c)) y5 (some rw0) (some (.bl (q7n R w b k)))) (h2 := HH S t) (by
    generalize HH S t = H at *
    unfold q7n
    cases ho : odd w with
    | true =>
      rw [ho] at we
      simp [EnvL,rw0,at0,at1,at2,q43,we]
    | false =>
      rw [ho] at we
      cases q1 : seed (bN b) R with
      | true =>
        rw [q1] at sv1
        simp [EnvL,rw0,at0,at1,at2,q43,we,sv1]
      | false =>
        rw [q1] at sv1
        simp [EnvL,rw0,at0,at1,at2,q43,we,sv1,sv2]) ?_
  rcases Sy.wash hw4 hb3 hk3 l1 with ⟨hbad,e1⟩ | ⟨hbad,mb,mc,wd,e1,Sy1⟩
  . have e1 := e1 t
    rw [hbad]
    have ix : atI [AV.str (Str.ofString ""), .str (Str.ofString "mouldy")] 1 = some (.str (Str.ofString "mouldy")) := at1 _ _ _
    refine Nx.seq (env' := EnvL ns S.day (some (.int c)) y5 (some rw0) (some (.bl true))) (h2 := HH S t) (by
      generalize HH S t = H at *
      simp [EnvL,rw0,at0,at1,at2,e1,ix]) ?_
    refine ⟨S,R,t,some (.int c),y5,some rw0,some (.bl true),?_,Sy,by omega⟩
    generalize HH S t = H at *
    simp [EnvL]
  . have e1 := e1 t
    rw [hbad]
    have ix : atI [AV.str (Str.ofString ""), .str (Str.ofString "mouldy")] 0 = some (.str (Str.ofString "")) := at0 _ _
    refine Nx.seq (env' := EnvL ns S.day (some (.int c)) y5 (some rw0) (some (.bl false))) (h2 := HH { S with mb := mb,mc := mc,wd := wd,es := S.es ++ [(Ev.wash S.day w b k).av] } t) (by
      generalize HH { S with mb := mb,mc := mc,wd := wd,es := S.es ++ [(Ev.wash S.day w b k).av] } t = H2 at *
      generalize HH S t = H at *
      simp [EnvL,rw0,at0,at1,at2,e1,ix]) ?_
    refine ⟨{ S with mb := mb,mc := mc,wd := wd,es := S.es ++ [(Ev.wash S.day w b k).av],du := S.du ++ [(Ev.wash S.day w b k).av] },_,t,some (.int c),y5,some rw0,some (.bl false),?_,Sy1,by simp only [List.length_cons]; omega⟩
    have h20 := h_du (S := { S with mb := mb,mc := mc,wd := wd,es := S.es ++ [(Ev.wash S.day w b k).av] }) (t := t)
    have s20 := s_du (S := { S with mb := mb,mc := mc,wd := wd,es := S.es ++ [(Ev.wash S.day w b k).av] }) (t := t) (du := S.du ++ [(Ev.wash S.day w b k).av])
    have z5 : (5 : Nat) <= sizeLine := by decide
    generalize HH { S with mb := mb,mc := mc,wd := wd,es := S.es ++ [(Ev.wash S.day w b k).av],du := S.du ++ [(Ev.wash S.day w b k).av] } t = H3 at *
    generalize HH { S with mb := mb,mc := mc,wd := wd,es := S.es ++ [(Ev.wash S.day w b k).av] } t = H2 at *
    simp only [Ev.av] at s20
    simp [EnvL,rw0,h20,s20,l2,z5]
theorem qh2 (Sy : Sync S R) (hl : R.length <= 190) (c : Int) (y5 y6 y7 : Option AV) : Nx ns (R.length + 2) (q64 (EnvL ns S.day (some (.int c)) y5 y6 y7) (HH S t)) := by
  by_cases hc : c % 4 = 3
  . exact qdq Sy hl hc y5 y6 y7
  . exact qe6 Sy hl hc y5 y6 y7
theorem qe3 : ∀ {R : List Ev},okR R -> ∀ k,k < R.length -> ∃ e r,R.reverse[k]? = some e /\ (R.reverse.take k).reverse = r /\ okE e r /\ e ∈ R /\ ∀ x ∈ r,x ∈ R
  | [],_,k,hk => by simp at hk
  | e :: R,h,k,hk => by
    by_cases hk2 : k < R.length
    . obtain ⟨e',r,h1,h2,h3,h4,h5⟩ := qe3 h.2 k hk2
      refine ⟨e',r,?_,?_,h3,List.mem_cons_of_mem _ h4,fun x hx => List.mem_cons_of_mem _ (h5 x hx)⟩
      . rw [List.reverse_cons,List.getElem?_append_left (by rw [List.length_reverse]; exact hk2)]; exact h1
      . rw [List.reverse_cons,List.take_append_of_le_length (by rw [List.length_reverse]; omega)]; exact h2
    . have : k = R.length := by rw [List.length_cons] at hk; omega
      subst this
      refine ⟨e,R,?_,?_,h.1,List.mem_cons_self,fun x hx => List.mem_cons_of_mem _ hx⟩
      . rw [List.reverse_cons,List.getElem?_append_right (by rw [List.length_reverse]; omega),List.length_reverse,Nat.sub_self]; rfl
      . rw [List.reverse_cons,List.take_append_of_le_length (by rw [List.length_reverse]; omega),List.take_of_length_le (by rw [List.length_reverse]; omega),List.reverse_reverse]
def q8d : AS := (sIf (aAnd (aB (a2 fEq (a2 fIx (a2 fIx (aVar 8) (aVar 9)) (aK (.int 1))) (aK (.str "wash")))) (aB (a2 (fIn false) (a2 fIx (a2 fIx (aVar 8) (aVar 9)) (aK (.int 2))) (aLst (q19 (aK (.str "w0")) (q19 (aK (.str "w2")) aNil))))))
 (sIf (aOr (aB (aC m_q0d (q19 (aSl fSlL (aVar 8) q60 (q51 (aVar 9))) (q19 (a2 fIx (a2 fIx (aVar 8) (aVar 9)) (aK (.int 3))) aNil)))) (aB (aC m_q0d (q19 (aSl fSlL (aVar 8) q60 (q51 (aVar 9))) (q19 (a2 fIx (a2 fIx (aVar 8) (aVar 9)) (aK (.int 4))) aNil)))))
 (sRet (aK (.bl false)))
 q2i)
 q2i)
theorem qgl (xs : List AV) (k : Nat) (hk : k <= xs.length) : cutA xs none (some (k : Int)) = xs.take k := by
  unfold cutA
  rw [HT.qcp,Nat.min_eq_left hk]
  show (xs.drop 0).take (k - 0) = _
  rw [List.drop_zero,Nat.sub_zero]
theorem qhz {h : AH} (hok : okR R) (hv : ∀ e ∈ R,VE e) {x0 x1 x2 x3 x4 x5 x6 x7 : Option AV} (k : Nat) (hk : k < R.length) :
    q8d [x0,x1,x2,x3,x4,x5,x6,x7,some (.lst (R.reverse.map Ev.av)),some (.int (k : Int))] h = .nx [x0,x1,x2,x3,x4,x5,x6,x7,some (.lst (R.reverse.map Ev.av)),some (.int (k : Int))] h := by
  obtain ⟨e,r,h1,h2,h3,h4,h5⟩ := qe3 hok k hk
  have ea : atI (R.reverse.map Ev.av) (k : Int) = some e.av := q57 (by rw [List.getElem?_map,h1]; rfl)
  have ec : cutA (R.reverse.map Ev.av) none (some (k : Int)) = r.reverse.map Ev.av := by
    rw [qgl _ _ (by rw [List.length_map,List.length_reverse]; omega), <- List.map_take, <- h2,List.reverse_reverse]
  have hs : ∀ tt,m_q0d [.lst (r.reverse.map Ev.av), .str tt] h = .ok (.bl (seed tt r)) h := fun tt => qa5 (.inl rfl) fun x hx => hv x (h5 x hx)
  generalize R.reverse.map Ev.av = L at *
  generalize r.reverse.map Ev.av = L2 at *
  cases e with
  | boil d j => simp [q8d,ea,Ev.av,at1]
  | night d => simp [q8d,ea,Ev.av,at1]
  | wash d w b c =>
    have we := qfj (hv _ h4).1
    cases ho : odd w with
    | true =>
      rw [ho] at we
      simp [q8d,ea,Ev.av,at1,at2,q43,we]
    | false =>
      rw [ho] at we
      obtain ⟨s1,s2⟩ := h3 ho
      have q1 := hs (bN b)
      have q2 := hs (cN c)
      rw [s1] at q1
      rw [s2] at q2
      simp [q8d,ea,ec,Ev.av,at1,at2,at3,at4,q43,we,q1,q2]
theorem okD_ev (e : Ev) : okD 3 e.av = true := by cases e <;> simp [Ev.av,row,okD,okDs]
end
end K18
namespace K18
open PySem L2 Z PM
theorem qgf (ns : List Int) (hl : ns.length <= 63) : ∀ (cs : List Int),cs.length <= 63 -> ∃ S R t y4 y5 y6 y7,q3b none (cs.map AV.int) (gN 4) q64 (cs.map AV.int) (EnvL ns 0 none none none none) (HH S0 []) = .nx (EnvL ns S.day y4 y5 y6 y7) (HH S t) /\ Sync S R /\ R.length <= 126 := by
  intro cs hcs
  have sy0 : Sync S0 [] := ⟨rfl,rfl,fun e he => absurd he (by simp),trivial,fun _ _ => rfl,fun _ _ => rfl⟩
  obtain ⟨e2,h2,r1,S,R,t,y4,y5,y6,y7,r2,r3,r4,r5⟩ := qa4 (wt := none) (all := cs.map AV.int) (g := gN 4) (body := q64) (k := AV.int)
    (P := fun i env h => ∃ S R t y4 y5 y6 y7,env = EnvL ns S.day y4 y5 y6 y7 /\ h = HH S t /\ Sync S R /\ R.length <= 2 * i) (fun _ _ _ _ => q46) cs 0 (EnvL ns 0 none none none none) (HH S0 []) ⟨S0,[],[],none,none,none,none,rfl,rfl,sy0,Nat.le_refl _⟩ (by
      rintro j c hj env h ⟨S,R,t,y4,y5,y6,y7,rfl,rfl,Sy,hR⟩
      have hjl := (List.getElem?_eq_some_iff.mp hj).1
      obtain ⟨S',R',t',z4,z5,z6,z7,e1,Sy',hR'⟩ := qh2 (ns := ns) (t := t) Sy (by omega) c y5 y6 y7
      exact ⟨_,_,_,_,rfl, .inl e1,S',R',t',z4,z5,z6,z7,rfl,rfl,Sy',by omega⟩)
  subst r2 r3
  exact ⟨S,R,t,y4,y5,y6,y7,r1,r4,by omega⟩
theorem cut150 (ns : List Int) (hl : ns.length <= 63) : cutA (ns.map AV.int) none (some 150) = ns.map AV.int := by
  unfold cutA
  have : HT.sIx (ns.map AV.int).length (ns.map AV.int).length (some ((150 : Nat) : Int)) = min 150 (ns.map AV.int).length := HT.qcp _ _ _
  rw [show (some (150 : Int)) = some ((150 : Nat) : Int) from rfl,this]
  have hm : (ns.map AV.int).length <= 150 := by rw [List.length_map]; omega
  rw [Nat.min_eq_right hm]
  show ((ns.map AV.int).drop 0).take ((ns.map AV.int).length - 0) = _
  rw [List.drop_zero,Nat.sub_zero,List.take_length]
theorem law_true : ∀ ns : List Int,ns.length <= 63 -> ∃ h,m_law [.kst (ns.map AV.int)] [] = .ok (.bl true) h := by
  intro ns hl
  obtain ⟨h0,ef,eh⟩ := qfh
  suffices hh : ∃ h,q9i [some (.kst (ns.map AV.int)),none,none,none,none,none,none,none,none,none] [] = .rt (.bl true) h by
    obtain ⟨h,e⟩ := hh
    refine ⟨h,?_⟩
    show SRe.out (q9i [some (.kst (ns.map AV.int)),none,none,none,none,none,none,none,none,none] []) = _
    rw [e]; rfl
  have hlen : h0.length = 20 := by
    have : (h0 ++ [Cell.lst []]).length = 21 := by rw [eh]; rfl
    rw [List.length_append,List.length_singleton] at this
    omega
  unfold q9i
  refine q70 (env' := [some (.kst (ns.map AV.int)),some (.ref 0),none,none,none,none,none,none,none,none]) (h' := h0) (by simp [ef]) ?_
  refine q70 (env' := [some (.kst (ns.map AV.int)),some (.ref 0),some (.ref 20),none,none,none,none,none,none,none]) (h' := HH S0 []) (by
    rw [<- eh]
    simp [hlen]) ?_
  refine q70 (env' := EnvL ns 0 none none none none) (h' := HH S0 []) (by
    generalize HH S0 [] = H
    simp [EnvL]) ?_
  obtain ⟨S,R,t,y4,y5,y6,y7,e4,Sy,hR⟩ := qgf ns hl ns hl
  refine q70 (env' := EnvL ns S.day y4 y5 y6 y7) (h' := HH S t) (by
    have ec := cut150 ns hl
    unfold q64 at e4
    generalize HH S0 [] = H at *
    generalize HH S t = H2 at *
    unfold sFor
    simp only [iLst,aSl,fSlL,q60,q51,aVar,aK]
    simp [EnvL,ec] at e4 ⊢
    exact e4) ?_
  have hL : (E5 ++ S.es) = E5 ++ R.reverse.map Ev.av := by rw [Sy.es]
  have hc5 : cutA (E5 ++ S.es) (some 5) none = R.reverse.map Ev.av := by
    rw [hL]; exact qi2 E5 _
  have q0 := (q50 (S := S) (t := t)).qc
  have qe := (q50 (S := S) (t := t)).qe
  have h20 := h_du (S := S) (t := t)
  generalize HH S t = H at *
  refine q70 (env' := [some (.kst (ns.map AV.int)),some (.ref 0),some (.ref 20),some (.int S.day),y4,y5,y6,y7,some (.lst (R.reverse.map Ev.av)),none]) (h' := H) (by
    simp only [q2u] at q0
    simp [-List.map_reverse,EnvL,q0,qe,m_q06,b_q06,List.lookup,hc5]) ?_
  have hlR : (R.reverse.map Ev.av).length = R.length := by rw [List.length_map,List.length_reverse]
  obtain ⟨e2,h2,r1,r2,y9,r3⟩ := qhp (n := R.length) (i := 9) (a := aC fLen (q19 (aVar 8) aNil)) (body := q8d) (P := fun _ env h => h = H /\ ∃ y9,env = [some (.kst (ns.map AV.int)),some (.ref 0),some (.ref 20),some (.int S.day),y4,y5,y6,y7,some (.lst (R.reverse.map Ev.av)),y9])
    (env := [some (.kst (ns.map AV.int)),some (.ref 0),some (.ref 20),some (.int S.day),y4,y5,y6,y7,some (.lst (R.reverse.map Ev.av)),none]) (h := H) (by omega) (by
      show Re.ok (AV.int (((R.reverse.map Ev.av).length : Nat) : Int)) H = _
      rw [hlR]) ⟨rfl,_,rfl⟩ (by
      rintro j hj env h ⟨rfl,y9,rfl⟩
      exact ⟨_,_,qhz Sy.ok Sy.ve j hj,rfl,_,rfl⟩)
  subst r2 r3
  refine q70 r1 ?_
  have same := qgv (h := h2) (n := 4) (x := .lst (R.reverse.map Ev.av)) (y := .ref 20) (xs := R.reverse.map Ev.av) (by rw [hlR]; omega) (.inl rfl) (.inr ⟨20,rfl,by rw [h20,Sy.du]⟩) (qch fun x hx => by
    obtain ⟨e,_,rfl⟩ := List.mem_map.mp hx
    exact qbr (okD_ev e))
  exact ⟨h2,by simp [-List.map_reverse,same]⟩
end K18
namespace K18
open PySem L2 Z PM
def top (i : Nat) : Stmt := PySem.Challenge.pw_curdcellar_k18_whole_never_behind_mould.main.body.getD i (.Pass ⟨0,0,0,0⟩)
abbrev qi1 : Stmt := top 38
abbrev s_q06 : Stmt := inClass (top 38) 21
abbrev s_qh : Stmt := inClass (top 38) 17
abbrev s_qi : Stmt := inClass (top 38) 16
abbrev s_q02 : Stmt := inClass (top 38) 15
abbrev s_q01 : Stmt := inClass (top 38) 13
abbrev s_qq : Stmt := inClass (top 38) 11
abbrev s_qj : Stmt := inClass (top 38) 10
abbrev s_qo : Stmt := inClass (top 38) 9
abbrev s_qm : Stmt := inClass (top 38) 8
abbrev s_qt : Stmt := inClass (top 38) 7
abbrev s_qk : Stmt := inClass (top 38) 6
abbrev s_qp : Stmt := inClass (top 38) 5
abbrev s_qu : Stmt := inClass (top 38) 4
abbrev s_qg : Stmt := inClass (top 38) 3
abbrev s_qf : Stmt := inClass (top 38) 2
abbrev s_qa : Stmt := inClass (top 38) 1
abbrev s_qv : Stmt := inClass (top 38) 0
abbrev qi6 : Stmt := top 19
abbrev s_q00 : Stmt := inClass (top 19) 0
abbrev qi7 : Stmt := top 18
abbrev s_qy : Stmt := inClass (top 18) 0
abbrev qhu : Stmt := top 17
abbrev s_qr : Stmt := inClass (top 17) 0
abbrev qia : Stmt := top 16
abbrev s_q03 : Stmt := inClass (top 16) 0
abbrev qi5 : Stmt := top 15
abbrev s_qz : Stmt := inClass (top 15) 0
abbrev qi9 : Stmt := top 14
abbrev s_q04 : Stmt := inClass (top 14) 0
abbrev qi4 : Stmt := top 13
abbrev s_qb : Stmt := inClass (top 13) 0
abbrev s_q0p : Stmt := top 20
abbrev s_q0m : Stmt := top 21
abbrev s_q0s : Stmt := top 25
abbrev s_q0u : Stmt := top 26
abbrev s_q05 : Stmt := top 33
abbrev s_q0h : Stmt := top 34
abbrev s_q0q : Stmt := top 35
abbrev s_q0n : Stmt := top 36
abbrev s_q0k : Stmt := top 37
abbrev s_q0a : Stmt := top 40
abbrev s_q0l : Stmt := top 41
abbrev s_q0i : Stmt := top 42
abbrev s_q0f : Stmt := top 43
abbrev s_q0d : Stmt := top 44
abbrev q63 : Stmt := top 45
def c_q10 : Str := "abcdefghijklmnopqrstuvwxyz0123456789"
structure Adr where
  a_q0p : Addr
  fd_q0p : FuncData
  a_q0m : Addr
  fd_q0m : FuncData
  a_q0s : Addr
  fd_q0s : FuncData
  a_q0u : Addr
  fd_q0u : FuncData
  a_q05 : Addr
  fd_q05 : FuncData
  a_q0h : Addr
  fd_q0h : FuncData
  a_q0q : Addr
  fd_q0q : FuncData
  a_q0n : Addr
  fd_q0n : FuncData
  a_q0k : Addr
  fd_q0k : FuncData
  a_q0a : Addr
  fd_q0a : FuncData
  a_q0l : Addr
  fd_q0l : FuncData
  a_q0i : Addr
  fd_q0i : FuncData
  a_q0f : Addr
  fd_q0f : FuncData
  a_q0d : Addr
  fd_q0d : FuncData
  a_law : Addr
  fd_law : FuncData
  c_q0v : Addr
  a_qb : Addr
  fd_qb : FuncData
  c_q0z : Addr
  a_q04 : Addr
  fd_q04 : FuncData
  c_q0x : Addr
  a_qz : Addr
  fd_qz : FuncData
  c_q0w : Addr
  a_q03 : Addr
  fd_q03 : FuncData
  c_q0t : Addr
  a_qr : Addr
  fd_qr : FuncData
  c_q0y : Addr
  a_qy : Addr
  fd_qy : FuncData
  c_q0r : Addr
  a_q00 : Addr
  fd_q00 : FuncData
  c_q0c : Addr
  a_qv : Addr
  fd_qv : FuncData
  a_qa : Addr
  fd_qa : FuncData
  a_qf : Addr
  fd_qf : FuncData
  a_qg : Addr
  fd_qg : FuncData
  a_qu : Addr
  fd_qu : FuncData
  a_qp : Addr
  fd_qp : FuncData
  a_qk : Addr
  fd_qk : FuncData
  a_qt : Addr
  fd_qt : FuncData
  a_qm : Addr
  fd_qm : FuncData
  a_qo : Addr
  fd_qo : FuncData
  a_qj : Addr
  fd_qj : FuncData
  a_qq : Addr
  fd_qq : FuncData
  a_q01 : Addr
  fd_q01 : FuncData
  a_q02 : Addr
  fd_q02 : FuncData
  a_qi : Addr
  fd_qi : FuncData
  a_qh : Addr
  fd_qh : FuncData
  a_q06 : Addr
  fd_q06 : FuncData
  c_q0g : Addr
  c_q08 : Addr
  c_q0e : Addr
  c_q07 : Addr
  c_qx : Addr
  c_q0j : Addr
  c_qw : Addr
  c_q0b : Addr
  c_q09 : Addr
  c_q0o : Addr
structure Txt (K : W.Frag) (mg : Str -> Option Value) (A : Adr) : Prop where
  F_q0p : Fun K "stands_at" "stands_at" s_q0p A.a_q0p A.fd_q0p
  d_q0p : mg "stands_at" = some (.ref A.a_q0p)
  b_q0p : Binds K A.fd_q0p ["shelf", "recipe", "place"] []
  F_q0m : Fun K "night_loss" "night_loss" s_q0m A.a_q0m A.fd_q0m
  d_q0m : mg "night_loss" = some (.ref A.a_q0m)
  b_q0m : Binds K A.fd_q0m ["wheel"] []
  F_q0s : Fun K "has_only" "has_only" s_q0s A.a_q0s A.fd_q0s
  d_q0s : mg "has_only" = some (.ref A.a_q0s)
  b_q0s : Binds K A.fd_q0s ["text", "signs"] []
  F_q0u : Fun K "is_name" "is_name" s_q0u A.a_q0u A.fd_q0u
  d_q0u : mg "is_name" = some (.ref A.a_q0u)
  b_q0u : Binds K A.fd_q0u ["text"] []
  F_q05 : Fun K "check_bounds" "check_bounds" s_q05 A.a_q05 A.fd_q05
  d_q05 : mg "check_bounds" = some (.ref A.a_q05)
  b_q05 : Binds K A.fd_q05 ["number", "least", "most"] []
  F_q0h : Fun K "check_grams" "check_grams" s_q0h A.a_q0h A.fd_q0h
  d_q0h : mg "check_grams" = some (.ref A.a_q0h)
  b_q0h : Binds K A.fd_q0h ["grams"] []
  F_q0q : Fun K "check_gap" "check_gap" s_q0q A.a_q0q A.fd_q0q
  d_q0q : mg "check_gap" = some (.ref A.a_q0q)
  b_q0q : Binds K A.fd_q0q ["least", "most"] []
  F_q0n : Fun K "check_here" "check_here" s_q0n A.a_q0n A.fd_q0n
  d_q0n : mg "check_here" = some (.ref A.a_q0n)
  b_q0n : Binds K A.fd_q0n ["thing"] []
  F_q0k : Fun K "check_enough" "check_enough" s_q0k A.a_q0k A.fd_q0k
  d_q0k : mg "check_enough" = some (.ref A.a_q0k)
  b_q0k : Binds K A.fd_q0k ["grams", "there"] []
  F_q0a : Fun K "_law_same" "_law_same" s_q0a A.a_q0a A.fd_q0a
  d_q0a : mg "_law_same" = some (.ref A.a_q0a)
  b_q0a : Binds K A.fd_q0a ["_law_found", "_law_due"] []
  F_q0l : Fun K "_law_word_of" "_law_word_of" s_q0l A.a_q0l A.fd_q0l
  d_q0l : mg "_law_word_of" = some (.ref A.a_q0l)
  b_q0l : Binds K A.fd_q0l ["_law_e"] []
  F_q0i : Fun K "_law_washed" "_law_washed" s_q0i A.a_q0i A.fd_q0i
  d_q0i : mg "_law_washed" = some (.ref A.a_q0i)
  b_q0i : Binds K A.fd_q0i ["_law_cellar", "_law_wheel", "_law_brine", "_law_cloth"] []
  F_q0f : Fun K "_law_furnished" "_law_furnished" s_q0f A.a_q0f A.fd_q0f
  d_q0f : mg "_law_furnished" = some (.ref A.a_q0f)
  b_q0f : Binds K A.fd_q0f [] []
  F_q0d : Fun K "_law_seeded" "_law_seeded" s_q0d A.a_q0d A.fd_q0d
  d_q0d : mg "_law_seeded" = some (.ref A.a_q0d)
  b_q0d : Binds K A.fd_q0d ["_law_entries", "_law_tool"] []
  F_law : Fun K "law" "law" q63 A.a_law A.fd_law
  d_law : mg "law" = some (.ref A.a_law)
  q9i : Binds K A.fd_law ["_law_script"] []
  n_len : mg "len" = none
  n_all : mg "all" = none
  n_any : mg "any" = none
  n_range : mg "range" = none
  n_int : mg "int" = none
  n_bool : mg "bool" = none
  n_str : mg "str" = none
  n_list : mg "list" = none
  n_tuple : mg "tuple" = none
  n_isinstance : mg "isinstance" = none
  n_sum : mg "sum" = none
  n_ValueError : mg "ValueError" = none
  n_set : mg "set" = none
  c_q0v : mg "Thing" = some (.ref A.c_q0v)
  Cls_q0v : Cls K A.c_q0v
  F_qb : Fun K "__init__" "Thing.__init__" s_qb A.a_qb A.fd_qb
  b_qb : Binds K A.fd_qb ["self", "kind", "name"] []
  mk_q0v : Mk K A.c_q0v A.a_qb
  na_Thing_kind : q1x K A.c_q0v "kind"
  na_Thing_name : q1x K A.c_q0v "name"
  B_qb : Base K A.c_q0v "__init__" A.a_qb
  c_q0z : mg "Room" = some (.ref A.c_q0z)
  Cls_q0z : Cls K A.c_q0z
  F_q04 : Fun K "__init__" "Room.__init__" s_q04 A.a_q04 A.fd_q04
  b_q04 : Binds K A.fd_q04 ["self", "name", "damp", "warmth"] []
  mk_q0z : Mk K A.c_q0z A.a_q04
  na_Room_kind : q1x K A.c_q0z "kind"
  na_Room_name : q1x K A.c_q0z "name"
  na_Room_damp : q1x K A.c_q0z "damp"
  na_Room_warmth : q1x K A.c_q0z "warmth"
  c_q0x : mg "Shelf" = some (.ref A.c_q0x)
  Cls_q0x : Cls K A.c_q0x
  F_qz : Fun K "__init__" "Shelf.__init__" s_qz A.a_qz A.fd_qz
  b_qz : Binds K A.fd_qz ["self", "name", "room"] []
  mk_q0x : Mk K A.c_q0x A.a_qz
  na_Shelf_kind : q1x K A.c_q0x "kind"
  na_Shelf_name : q1x K A.c_q0x "name"
  na_Shelf_room : q1x K A.c_q0x "room"
  c_q0w : mg "Sort" = some (.ref A.c_q0w)
  Cls_q0w : Cls K A.c_q0w
  F_q03 : Fun K "__init__" "Sort.__init__" s_q03 A.a_q03 A.fd_q03
  b_q03 : Binds K A.fd_q03 ["self", "name", "mouldy", "turn_gap", "wash_gap", "route"] []
  mk_q0w : Mk K A.c_q0w A.a_q03
  na_Sort_kind : q1x K A.c_q0w "kind"
  na_Sort_name : q1x K A.c_q0w "name"
  na_Sort_mouldy : q1x K A.c_q0w "mouldy"
  na_Sort_turn_gap : q1x K A.c_q0w "turn_gap"
  na_Sort_wash_gap : q1x K A.c_q0w "wash_gap"
  na_Sort_rooms : q1x K A.c_q0w "rooms"
  na_Sort_stays : q1x K A.c_q0w "stays"
  c_q0t : mg "Washer" = some (.ref A.c_q0t)
  Cls_q0t : Cls K A.c_q0t
  F_qr : Fun K "__init__" "Washer.__init__" s_qr A.a_qr A.fd_qr
  b_qr : Binds K A.fd_qr ["self", "kind", "name"] []
  mk_q0t : Mk K A.c_q0t A.a_qr
  na_Washer_kind : q1x K A.c_q0t "kind"
  na_Washer_name : q1x K A.c_q0t "name"
  na_Washer_mouldy : q1x K A.c_q0t "mouldy"
  c_q0y : mg "Batch" = some (.ref A.c_q0y)
  Cls_q0y : Cls K A.c_q0y
  F_qy : Fun K "__init__" "Batch.__init__" s_qy A.a_qy A.fd_qy
  b_qy : Binds K A.fd_qy ["self", "name", "grams"] []
  mk_q0y : Mk K A.c_q0y A.a_qy
  na_Batch_kind : q1x K A.c_q0y "kind"
  na_Batch_name : q1x K A.c_q0y "name"
  na_Batch_grams : q1x K A.c_q0y "grams"
  c_q0r : mg "Wheel" = some (.ref A.c_q0r)
  Cls_q0r : Cls K A.c_q0r
  F_q00 : Fun K "__init__" "Wheel.__init__" s_q00 A.a_q00 A.fd_q00
  b_q00 : Binds K A.fd_q00 ["self", "name", "recipe", "shelf", "grams", "day"] []
  mk_q0r : Mk K A.c_q0r A.a_q00
  na_Wheel_kind : q1x K A.c_q0r "kind"
  na_Wheel_name : q1x K A.c_q0r "name"
  na_Wheel_recipe : q1x K A.c_q0r "recipe"
  na_Wheel_shelf : q1x K A.c_q0r "shelf"
  na_Wheel_grams : q1x K A.c_q0r "grams"
  na_Wheel_place : q1x K A.c_q0r "place"
  na_Wheel_turn_day : q1x K A.c_q0r "turn_day"
  na_Wheel_wash_day : q1x K A.c_q0r "wash_day"
  na_Wheel_room_day : q1x K A.c_q0r "room_day"
  na_Wheel_gone : q1x K A.c_q0r "gone"
  c_q0c : mg "Cellar" = some (.ref A.c_q0c)
  Cls_q0c : Cls K A.c_q0c
  F_qv : Fun K "__init__" "Cellar.__init__" s_qv A.a_qv A.fd_qv
  b_qv : Binds K A.fd_qv ["self"] []
  mk_q0c : Mk K A.c_q0c A.a_qv
  F_qa : Fun K "check_free" "Cellar.check_free" s_qa A.a_qa A.fd_qa
  b_qa : Binds K A.fd_qa ["self", "name"] []
  m_qa : Meth K A.c_q0c "check_free" A.a_qa
  F_qf : Fun K "known" "Cellar.known" s_qf A.a_qf A.fd_qf
  b_qf : Binds K A.fd_qf ["self", "name", "kind"] []
  m_qf : Meth K A.c_q0c "known" A.a_qf
  F_qg : Fun K "hold" "Cellar.hold" s_qg A.a_qg A.fd_qg
  b_qg : Binds K A.fd_qg ["self", "thing"] []
  m_qg : Meth K A.c_q0c "hold" A.a_qg
  F_qu : Fun K "new_room" "Cellar.new_room" s_qu A.a_qu A.fd_qu
  b_qu : Binds K A.fd_qu ["self", "name", "damp", "warmth"] []
  m_qu : Meth K A.c_q0c "new_room" A.a_qu
  F_qp : Fun K "new_shelf" "Cellar.new_shelf" s_qp A.a_qp A.fd_qp
  b_qp : Binds K A.fd_qp ["self", "name", "room"] []
  m_qp : Meth K A.c_q0c "new_shelf" A.a_qp
  F_qk : Fun K "new_sort" "Cellar.new_sort" s_qk A.a_qk A.fd_qk
  b_qk : Binds K A.fd_qk ["self", "name", "mouldy", "turn_gap", "wash_gap", "route"] []
  m_qk : Meth K A.c_q0c "new_sort" A.a_qk
  F_qt : Fun K "new_farm" "Cellar.new_farm" s_qt A.a_qt A.fd_qt
  b_qt : Binds K A.fd_qt ["self", "name"] []
  m_qt : Meth K A.c_q0c "new_farm" A.a_qt
  F_qm : Fun K "new_brine" "Cellar.new_brine" s_qm A.a_qm A.fd_qm
  b_qm : Binds K A.fd_qm ["self", "name"] []
  m_qm : Meth K A.c_q0c "new_brine" A.a_qm
  F_qo : Fun K "new_cloth" "Cellar.new_cloth" s_qo A.a_qo A.fd_qo
  b_qo : Binds K A.fd_qo ["self", "name"] []
  m_qo : Meth K A.c_q0c "new_cloth" A.a_qo
  F_qj : Fun K "new_batch" "Cellar.new_batch" s_qj A.a_qj A.fd_qj
  b_qj : Binds K A.fd_qj ["self", "name", "parts"] []
  m_qj : Meth K A.c_q0c "new_batch" A.a_qj
  F_qq : Fun K "new_wheel" "Cellar.new_wheel" s_qq A.a_qq A.fd_qq
  b_qq : Binds K A.fd_qq ["self", "name", "batch", "sort", "shelf", "grams"] []
  m_qq : Meth K A.c_q0c "new_wheel" A.a_qq
  F_q01 : Fun K "wash" "Cellar.wash" s_q01 A.a_q01 A.fd_q01
  b_q01 : Binds K A.fd_q01 ["self", "wheel", "brine", "cloth"] []
  m_q01 : Meth K A.c_q0c "wash" A.a_q01
  F_q02 : Fun K "boil" "Cellar.boil" s_q02 A.a_q02 A.fd_q02
  b_q02 : Binds K A.fd_q02 ["self", "thing"] []
  m_q02 : Meth K A.c_q0c "boil" A.a_q02
  F_qi : ∃ dt items,FunD K "night" "Cellar.night" s_qi A.a_qi A.fd_qi dt items
  bd_qi : ∃ ds,Vals [V.int 1] ds /\ Binds K A.fd_qi ["self", "times"] ds
  b_qi : Binds K A.fd_qi ["self", "times"] []
  m_qi : Meth K A.c_q0c "night" A.a_qi
  F_qh : Fun K "pass_night" "Cellar.pass_night" s_qh A.a_qh A.fd_qh
  b_qh : Binds K A.fd_qh ["self"] []
  m_qh : Meth K A.c_q0c "pass_night" A.a_qh
  F_q06 : Fun K "book" "Cellar.book" s_q06 A.a_q06 A.fd_q06
  b_q06 : Binds K A.fd_q06 ["self"] []
  m_q06 : Meth K A.c_q0c "book" A.a_q06
  na_Cellar_today : q1x K A.c_q0c "today"
  na_Cellar_things : q1x K A.c_q0c "things"
  na_Cellar_wheels : q1x K A.c_q0c "wheels"
  na_Cellar_entries : q1x K A.c_q0c "entries"
  c_q0g : mg "CellarError" = some (.ref A.c_q0g)
  C_q0g : ClsK K A.c_q0g
  c_q08 : mg "BadName" = some (.ref A.c_q08)
  C_q08 : ClsK K A.c_q08
  c_q0e : mg "Taken" = some (.ref A.c_q0e)
  C_q0e : ClsK K A.c_q0e
  c_q07 : mg "Unknown" = some (.ref A.c_q07)
  C_q07 : ClsK K A.c_q07
  c_qx : mg "BadNumber" = some (.ref A.c_qx)
  C_qx : ClsK K A.c_qx
  c_q0j : mg "Gone" = some (.ref A.c_q0j)
  C_q0j : ClsK K A.c_q0j
  c_qw : mg "WrongRoom" = some (.ref A.c_qw)
  C_qw : ClsK K A.c_qw
  c_q0b : mg "Mouldy" = some (.ref A.c_q0b)
  C_q0b : ClsK K A.c_q0b
  c_q09 : mg "TooMuch" = some (.ref A.c_q09)
  C_q09 : ClsK K A.c_q09
  c_q0o : mg "BadLine" = some (.ref A.c_q0o)
  C_q0o : ClsK K A.c_q0o
  x_q08 : W.excIn K A.c_q08 bmVE "ValueError.__new__" = true
  e_q08 : ExcK K A.c_q08
  v_q08 : W.subIn K (.ref A.c_q08) (.type "ValueError") = some true
  s_BadName_CellarError : W.subIn K (.ref A.c_q08) (.ref A.c_q0g) = some true
  s_BadName_BadName : W.subIn K (.ref A.c_q08) (.ref A.c_q08) = some true
  s_BadName_Taken : W.subIn K (.ref A.c_q08) (.ref A.c_q0e) = some false
  s_BadName_Unknown : W.subIn K (.ref A.c_q08) (.ref A.c_q07) = some false
  s_BadName_BadNumber : W.subIn K (.ref A.c_q08) (.ref A.c_qx) = some false
  s_BadName_Gone : W.subIn K (.ref A.c_q08) (.ref A.c_q0j) = some false
  s_BadName_WrongRoom : W.subIn K (.ref A.c_q08) (.ref A.c_qw) = some false
  s_BadName_Mouldy : W.subIn K (.ref A.c_q08) (.ref A.c_q0b) = some false
  s_BadName_TooMuch : W.subIn K (.ref A.c_q08) (.ref A.c_q09) = some false
  s_BadName_BadLine : W.subIn K (.ref A.c_q08) (.ref A.c_q0o) = some false
  x_q0e : W.excIn K A.c_q0e bmVE "ValueError.__new__" = true
  e_q0e : ExcK K A.c_q0e
  v_q0e : W.subIn K (.ref A.c_q0e) (.type "ValueError") = some true
  s_Taken_CellarError : W.subIn K (.ref A.c_q0e) (.ref A.c_q0g) = some true
  s_Taken_BadName : W.subIn K (.ref A.c_q0e) (.ref A.c_q08) = some false
  s_Taken_Taken : W.subIn K (.ref A.c_q0e) (.ref A.c_q0e) = some true
  s_Taken_Unknown : W.subIn K (.ref A.c_q0e) (.ref A.c_q07) = some false
  s_Taken_BadNumber : W.subIn K (.ref A.c_q0e) (.ref A.c_qx) = some false
  s_Taken_Gone : W.subIn K (.ref A.c_q0e) (.ref A.c_q0j) = some false
  s_Taken_WrongRoom : W.subIn K (.ref A.c_q0e) (.ref A.c_qw) = some false
  s_Taken_Mouldy : W.subIn K (.ref A.c_q0e) (.ref A.c_q0b) = some false
  s_Taken_TooMuch : W.subIn K (.ref A.c_q0e) (.ref A.c_q09) = some false
  s_Taken_BadLine : W.subIn K (.ref A.c_q0e) (.ref A.c_q0o) = some false
  x_q07 : W.excIn K A.c_q07 bmVE "ValueError.__new__" = true
  e_q07 : ExcK K A.c_q07
  v_q07 : W.subIn K (.ref A.c_q07) (.type "ValueError") = some true
  s_Unknown_CellarError : W.subIn K (.ref A.c_q07) (.ref A.c_q0g) = some true
  s_Unknown_BadName : W.subIn K (.ref A.c_q07) (.ref A.c_q08) = some false
  s_Unknown_Taken : W.subIn K (.ref A.c_q07) (.ref A.c_q0e) = some false
  s_Unknown_Unknown : W.subIn K (.ref A.c_q07) (.ref A.c_q07) = some true
  s_Unknown_BadNumber : W.subIn K (.ref A.c_q07) (.ref A.c_qx) = some false
  s_Unknown_Gone : W.subIn K (.ref A.c_q07) (.ref A.c_q0j) = some false
  s_Unknown_WrongRoom : W.subIn K (.ref A.c_q07) (.ref A.c_qw) = some false
  s_Unknown_Mouldy : W.subIn K (.ref A.c_q07) (.ref A.c_q0b) = some false
  s_Unknown_TooMuch : W.subIn K (.ref A.c_q07) (.ref A.c_q09) = some false
  s_Unknown_BadLine : W.subIn K (.ref A.c_q07) (.ref A.c_q0o) = some false
  x_qx : W.excIn K A.c_qx bmVE "ValueError.__new__" = true
  e_qx : ExcK K A.c_qx
  v_qx : W.subIn K (.ref A.c_qx) (.type "ValueError") = some true
  s_BadNumber_CellarError : W.subIn K (.ref A.c_qx) (.ref A.c_q0g) = some true
  s_BadNumber_BadName : W.subIn K (.ref A.c_qx) (.ref A.c_q08) = some false
  s_BadNumber_Taken : W.subIn K (.ref A.c_qx) (.ref A.c_q0e) = some false
  s_BadNumber_Unknown : W.subIn K (.ref A.c_qx) (.ref A.c_q07) = some false
  s_BadNumber_BadNumber : W.subIn K (.ref A.c_qx) (.ref A.c_qx) = some true
  s_BadNumber_Gone : W.subIn K (.ref A.c_qx) (.ref A.c_q0j) = some false
  s_BadNumber_WrongRoom : W.subIn K (.ref A.c_qx) (.ref A.c_qw) = some false
  s_BadNumber_Mouldy : W.subIn K (.ref A.c_qx) (.ref A.c_q0b) = some false
  s_BadNumber_TooMuch : W.subIn K (.ref A.c_qx) (.ref A.c_q09) = some false
  s_BadNumber_BadLine : W.subIn K (.ref A.c_qx) (.ref A.c_q0o) = some false
  x_q0j : W.excIn K A.c_q0j bmVE "ValueError.__new__" = true
  e_q0j : ExcK K A.c_q0j
  v_q0j : W.subIn K (.ref A.c_q0j) (.type "ValueError") = some true
  s_Gone_CellarError : W.subIn K (.ref A.c_q0j) (.ref A.c_q0g) = some true
  s_Gone_BadName : W.subIn K (.ref A.c_q0j) (.ref A.c_q08) = some false
  s_Gone_Taken : W.subIn K (.ref A.c_q0j) (.ref A.c_q0e) = some false
  s_Gone_Unknown : W.subIn K (.ref A.c_q0j) (.ref A.c_q07) = some false
  s_Gone_BadNumber : W.subIn K (.ref A.c_q0j) (.ref A.c_qx) = some false
  s_Gone_Gone : W.subIn K (.ref A.c_q0j) (.ref A.c_q0j) = some true
  s_Gone_WrongRoom : W.subIn K (.ref A.c_q0j) (.ref A.c_qw) = some false
  s_Gone_Mouldy : W.subIn K (.ref A.c_q0j) (.ref A.c_q0b) = some false
  s_Gone_TooMuch : W.subIn K (.ref A.c_q0j) (.ref A.c_q09) = some false
  s_Gone_BadLine : W.subIn K (.ref A.c_q0j) (.ref A.c_q0o) = some false
  x_qw : W.excIn K A.c_qw bmVE "ValueError.__new__" = true
  e_qw : ExcK K A.c_qw
  v_qw : W.subIn K (.ref A.c_qw) (.type "ValueError") = some true
  s_WrongRoom_CellarError : W.subIn K (.ref A.c_qw) (.ref A.c_q0g) = some true
  s_WrongRoom_BadName : W.subIn K (.ref A.c_qw) (.ref A.c_q08) = some false
  s_WrongRoom_Taken : W.subIn K (.ref A.c_qw) (.ref A.c_q0e) = some false
  s_WrongRoom_Unknown : W.subIn K (.ref A.c_qw) (.ref A.c_q07) = some false
  s_WrongRoom_BadNumber : W.subIn K (.ref A.c_qw) (.ref A.c_qx) = some false
  s_WrongRoom_Gone : W.subIn K (.ref A.c_qw) (.ref A.c_q0j) = some false
  s_WrongRoom_WrongRoom : W.subIn K (.ref A.c_qw) (.ref A.c_qw) = some true
  s_WrongRoom_Mouldy : W.subIn K (.ref A.c_qw) (.ref A.c_q0b) = some false
  s_WrongRoom_TooMuch : W.subIn K (.ref A.c_qw) (.ref A.c_q09) = some false
  s_WrongRoom_BadLine : W.subIn K (.ref A.c_qw) (.ref A.c_q0o) = some false
  x_q0b : W.excIn K A.c_q0b bmVE "ValueError.__new__" = true
  e_q0b : ExcK K A.c_q0b
  v_q0b : W.subIn K (.ref A.c_q0b) (.type "ValueError") = some true
  s_Mouldy_CellarError : W.subIn K (.ref A.c_q0b) (.ref A.c_q0g) = some true
  s_Mouldy_BadName : W.subIn K (.ref A.c_q0b) (.ref A.c_q08) = some false
  s_Mouldy_Taken : W.subIn K (.ref A.c_q0b) (.ref A.c_q0e) = some false
  s_Mouldy_Unknown : W.subIn K (.ref A.c_q0b) (.ref A.c_q07) = some false
  s_Mouldy_BadNumber : W.subIn K (.ref A.c_q0b) (.ref A.c_qx) = some false
  s_Mouldy_Gone : W.subIn K (.ref A.c_q0b) (.ref A.c_q0j) = some false
  s_Mouldy_WrongRoom : W.subIn K (.ref A.c_q0b) (.ref A.c_qw) = some false
  s_Mouldy_Mouldy : W.subIn K (.ref A.c_q0b) (.ref A.c_q0b) = some true
  s_Mouldy_TooMuch : W.subIn K (.ref A.c_q0b) (.ref A.c_q09) = some false
  s_Mouldy_BadLine : W.subIn K (.ref A.c_q0b) (.ref A.c_q0o) = some false
  x_q09 : W.excIn K A.c_q09 bmVE "ValueError.__new__" = true
  e_q09 : ExcK K A.c_q09
  v_q09 : W.subIn K (.ref A.c_q09) (.type "ValueError") = some true
  s_TooMuch_CellarError : W.subIn K (.ref A.c_q09) (.ref A.c_q0g) = some true
  s_TooMuch_BadName : W.subIn K (.ref A.c_q09) (.ref A.c_q08) = some false
  s_TooMuch_Taken : W.subIn K (.ref A.c_q09) (.ref A.c_q0e) = some false
  s_TooMuch_Unknown : W.subIn K (.ref A.c_q09) (.ref A.c_q07) = some false
  s_TooMuch_BadNumber : W.subIn K (.ref A.c_q09) (.ref A.c_qx) = some false
  s_TooMuch_Gone : W.subIn K (.ref A.c_q09) (.ref A.c_q0j) = some false
  s_TooMuch_WrongRoom : W.subIn K (.ref A.c_q09) (.ref A.c_qw) = some false
  s_TooMuch_Mouldy : W.subIn K (.ref A.c_q09) (.ref A.c_q0b) = some false
  s_TooMuch_TooMuch : W.subIn K (.ref A.c_q09) (.ref A.c_q09) = some true
  s_TooMuch_BadLine : W.subIn K (.ref A.c_q09) (.ref A.c_q0o) = some false
  t_q0g : W.instIn K (.ref A.c_q0g) (.type "tuple") = some false
  b_q0g : W.subIn K (.ref A.c_q0g) (.type "BaseException") = some true
  g_q10 : ∃ t,mg "NAME_SIGNS" = some (.str c_q10 t)
  g_q11 : ∃ t,mg "LONGEST_NAME" = some (.int 12 t)
  g_q16 : ∃ t,mg "MOST_DAMP" = some (.int 100 t)
  g_q12 : ∃ t,mg "MOST_WARMTH" = some (.int 40 t)
  g_q13 : ∃ t,mg "LONGEST_GAP" = some (.int 60 t)
  g_q15 : ∃ t,mg "MOST_GRAMS" = some (.int 1000000 t)
  g_q14 : ∃ t,mg "MOST_NIGHTS" = some (.int 30 t)
theorem sc_q0p : q1u ["shelf", "recipe", "place"] ["shelf", "recipe", "place"] (q1e s_q0p) := ⟨rfl,rfl,rfl,by decide +kernel,rfl,by decide +kernel,by decide +kernel⟩
theorem sc_q0m : q1u ["wheel", "room"] ["wheel"] (q1e s_q0m) := ⟨rfl,rfl,rfl,by decide +kernel,rfl,by decide +kernel,by decide +kernel⟩
theorem sc_q0s : q1u ["text", "signs"] ["text", "signs"] (q1e s_q0s) := ⟨rfl,rfl,rfl,by decide +kernel,rfl,by decide +kernel,by decide +kernel⟩
theorem sc_q0u : q1u ["text"] ["text"] (q1e s_q0u) := ⟨rfl,rfl,rfl,by decide +kernel,rfl,by decide +kernel,by decide +kernel⟩
theorem sc_q05 : q1u ["number", "least", "most"] ["number", "least", "most"] (q1e s_q05) := ⟨rfl,rfl,rfl,by decide +kernel,rfl,by decide +kernel,by decide +kernel⟩
theorem sc_q0h : q1u ["grams"] ["grams"] (q1e s_q0h) := ⟨rfl,rfl,rfl,by decide +kernel,rfl,by decide +kernel,by decide +kernel⟩
theorem sc_q0q : q1u ["least", "most"] ["least", "most"] (q1e s_q0q) := ⟨rfl,rfl,rfl,by decide +kernel,rfl,by decide +kernel,by decide +kernel⟩
theorem sc_q0n : q1u ["thing"] ["thing"] (q1e s_q0n) := ⟨rfl,rfl,rfl,by decide +kernel,rfl,by decide +kernel,by decide +kernel⟩
theorem sc_q0k : q1u ["grams", "there"] ["grams", "there"] (q1e s_q0k) := ⟨rfl,rfl,rfl,by decide +kernel,rfl,by decide +kernel,by decide +kernel⟩
theorem sc_q0a : q1u ["_law_found", "_law_due", "_law_alike"] ["_law_found", "_law_due"] (q1e s_q0a) := ⟨rfl,rfl,rfl,by decide +kernel,rfl,by decide +kernel,by decide +kernel⟩
theorem sc_q0l : q1u ["_law_e", "_law_told"] ["_law_e"] (q1e s_q0l) := ⟨rfl,rfl,rfl,by decide +kernel,rfl,by decide +kernel,by decide +kernel⟩
theorem sc_q0i : q1u ["_law_cellar", "_law_wheel", "_law_brine", "_law_cloth", "_law_found", "_law_answer", "_law_e"] ["_law_cellar", "_law_wheel", "_law_brine", "_law_cloth"] (q1e s_q0i) := ⟨rfl,rfl,rfl,by decide +kernel,rfl,by decide +kernel,by decide +kernel⟩
theorem sc_q0f : q1u ["_law_cellar", "_law_k"] [] (q1e s_q0f) := ⟨rfl,rfl,rfl,by decide +kernel,rfl,by decide +kernel,by decide +kernel⟩
theorem sc_q0d : q1u ["_law_entries", "_law_tool", "_law_entry"] ["_law_entries", "_law_tool"] (q1e s_q0d) := ⟨rfl,rfl,rfl,by decide +kernel,rfl,by decide +kernel,by decide +kernel⟩
theorem qdr : q1u ["_law_script", "_law_cellar", "_law_due", "_law_day", "_law_cell", "_law_tool", "_law_row", "_law_bad", "_law_told", "_law_k"] ["_law_script"] (q1e q63) := ⟨rfl,rfl,rfl,by decide +kernel,rfl,by decide +kernel,by decide +kernel⟩
theorem sc_qb : q1u ["self", "kind", "name"] ["self", "kind", "name"] (q1e s_qb) := ⟨rfl,rfl,rfl,by decide +kernel,rfl,by decide +kernel,by decide +kernel⟩
theorem sc_q04 : q1u ["self", "name", "damp", "warmth"] ["self", "name", "damp", "warmth"] (q1e s_q04) := ⟨rfl,rfl,rfl,by decide +kernel,rfl,by decide +kernel,by decide +kernel⟩
theorem sc_qz : q1u ["self", "name", "room"] ["self", "name", "room"] (q1e s_qz) := ⟨rfl,rfl,rfl,by decide +kernel,rfl,by decide +kernel,by decide +kernel⟩
theorem sc_q03 : q1u ["self", "name", "mouldy", "turn_gap", "wash_gap", "route"] ["self", "name", "mouldy", "turn_gap", "wash_gap", "route"] (q1e s_q03) := ⟨rfl,rfl,rfl,by decide +kernel,rfl,by decide +kernel,by decide +kernel⟩
theorem sc_qr : q1u ["self", "kind", "name"] ["self", "kind", "name"] (q1e s_qr) := ⟨rfl,rfl,rfl,by decide +kernel,rfl,by decide +kernel,by decide +kernel⟩
theorem sc_qy : q1u ["self", "name", "grams"] ["self", "name", "grams"] (q1e s_qy) := ⟨rfl,rfl,rfl,by decide +kernel,rfl,by decide +kernel,by decide +kernel⟩
theorem sc_q00 : q1u ["self", "name", "recipe", "shelf", "grams", "day"] ["self", "name", "recipe", "shelf", "grams", "day"] (q1e s_q00) := ⟨rfl,rfl,rfl,by decide +kernel,rfl,by decide +kernel,by decide +kernel⟩
theorem sc_qv : q1u ["self"] ["self"] (q1e s_qv) := ⟨rfl,rfl,rfl,by decide +kernel,rfl,by decide +kernel,by decide +kernel⟩
theorem sc_qa : q1u ["self", "name"] ["self", "name"] (q1e s_qa) := ⟨rfl,rfl,rfl,by decide +kernel,rfl,by decide +kernel,by decide +kernel⟩
theorem sc_qf : q1u ["self", "name", "kind", "thing"] ["self", "name", "kind"] (q1e s_qf) := ⟨rfl,rfl,rfl,by decide +kernel,rfl,by decide +kernel,by decide +kernel⟩
theorem sc_qg : q1u ["self", "thing"] ["self", "thing"] (q1e s_qg) := ⟨rfl,rfl,rfl,by decide +kernel,rfl,by decide +kernel,by decide +kernel⟩
theorem sc_qu : q1u ["self", "name", "damp", "warmth"] ["self", "name", "damp", "warmth"] (q1e s_qu) := ⟨rfl,rfl,rfl,by decide +kernel,rfl,by decide +kernel,by decide +kernel⟩
theorem sc_qp : q1u ["self", "name", "room"] ["self", "name", "room"] (q1e s_qp) := ⟨rfl,rfl,rfl,by decide +kernel,rfl,by decide +kernel,by decide +kernel⟩
theorem sc_qk : q1u ["self", "name", "mouldy", "turn_gap", "wash_gap", "route", "rooms", "gap"] ["self", "name", "mouldy", "turn_gap", "wash_gap", "route"] (q1e s_qk) := ⟨rfl,rfl,rfl,by decide +kernel,rfl,by decide +kernel,by decide +kernel⟩
theorem sc_qt : q1u ["self", "name"] ["self", "name"] (q1e s_qt) := ⟨rfl,rfl,rfl,by decide +kernel,rfl,by decide +kernel,by decide +kernel⟩
theorem sc_qm : q1u ["self", "name"] ["self", "name"] (q1e s_qm) := ⟨rfl,rfl,rfl,by decide +kernel,rfl,by decide +kernel,by decide +kernel⟩
theorem sc_qo : q1u ["self", "name"] ["self", "name"] (q1e s_qo) := ⟨rfl,rfl,rfl,by decide +kernel,rfl,by decide +kernel,by decide +kernel⟩
theorem sc_qj : q1u ["self", "name", "parts", "farm", "grams"] ["self", "name", "parts"] (q1e s_qj) := ⟨rfl,rfl,rfl,by decide +kernel,rfl,by decide +kernel,by decide +kernel⟩
theorem sc_qq : q1u ["self", "name", "batch", "sort", "shelf", "grams", "source", "recipe", "lies_on", "wheel"] ["self", "name", "batch", "sort", "shelf", "grams"] (q1e s_qq) := ⟨rfl,rfl,rfl,by decide +kernel,rfl,by decide +kernel,by decide +kernel⟩
theorem sc_q01 : q1u ["self", "wheel", "brine", "cloth", "washed", "washers", "washer"] ["self", "wheel", "brine", "cloth"] (q1e s_q01) := ⟨rfl,rfl,rfl,by decide +kernel,rfl,by decide +kernel,by decide +kernel⟩
theorem sc_q02 : q1u ["self", "thing", "boiled"] ["self", "thing"] (q1e s_q02) := ⟨rfl,rfl,rfl,by decide +kernel,rfl,by decide +kernel,by decide +kernel⟩
theorem sc_qi : q1u ["self", "times", "passed"] ["self", "times"] (q1e s_qi) := ⟨rfl,rfl,rfl,by decide +kernel,rfl,by decide +kernel,by decide +kernel⟩
theorem sc_qh : q1u ["self", "rows", "wheel", "loss"] ["self"] (q1e s_qh) := ⟨rfl,rfl,rfl,by decide +kernel,rfl,by decide +kernel,by decide +kernel⟩
theorem sc_q06 : q1u ["self"] ["self"] (q1e s_q06) := ⟨rfl,rfl,rfl,by decide +kernel,rfl,by decide +kernel,by decide +kernel⟩
def clT (A : Adr) : Nat -> Addr := fun n => match n with | 0 => A.c_q0v | 1 => A.c_q0z | 2 => A.c_q0x | 3 => A.c_q0w | 4 => A.c_q0t | 5 => A.c_q0y | 6 => A.c_q0r | 8 => A.c_q0c | 20 => A.c_q0g | 21 => A.c_q08 | 22 => A.c_q0e | 23 => A.c_q07 | 24 => A.c_qx | 25 => A.c_q0j | 26 => A.c_qw | 27 => A.c_q0b | 28 => A.c_q09 | 29 => A.c_q0o | _ => 0
def fnT : Nat -> Str := fun n => match n with | 0 => "kind" | 1 => "name" | 2 => "damp" | 3 => "warmth" | 4 => "room" | 5 => "mouldy" | 6 => "turn_gap" | 7 => "wash_gap" | 8 => "rooms" | 9 => "stays" | 10 => "grams" | 11 => "recipe" | 12 => "shelf" | 13 => "place" | 14 => "turn_day" | 15 => "wash_day" | 16 => "room_day" | 17 => "gone" | 18 => "today" | 19 => "things" | 20 => "wheels" | 21 => "entries" | _ => ""
theorem injT (c i j : Nat) (hi : i ∈ flT c) (hj : j ∈ flT c) (e : fnT i = fnT j) : i = j := by
  have all : ∀ i ∈ ([0,1,2,3,4,5,6,7,8,9,10,11,12,13,14,15,16,17,18,19,20,21] : List Nat), ∀ j ∈ ([0,1,2,3,4,5,6,7,8,9,10,11,12,13,14,15,16,17,18,19,20,21] : List Nat),fnT i = fnT j -> i = j := by decide +kernel
  have lt : ∀ c i,i ∈ flT c -> i ∈ ([0,1,2,3,4,5,6,7,8,9,10,11,12,13,14,15,16,17,18,19,20,21] : List Nat) := by
    intro c i h
    unfold flT at h
    split at h <;> simp at h ⊢ <;> omega
  exact all i (lt c i hi) j (lt c j hj) e
section
variable {P : Program} {w : World} {K : W.Frag} {mg : Str -> Option Value} {base : Heap} {A : Adr}
theorem fldT (T : Txt K mg A) (c i : Nat) (h : i ∈ flT c) : Cls K (clT A c) /\ q1x K (clT A c) (fnT i) := by
  unfold flT at h
  split at h
  . simp only [List.mem_cons,List.not_mem_nil,or_false] at h
    rcases h with rfl | rfl
    . exact ⟨T.Cls_q0v,T.na_Thing_kind⟩
    . exact ⟨T.Cls_q0v,T.na_Thing_name⟩
  . simp only [List.mem_cons,List.not_mem_nil,or_false] at h
    rcases h with rfl | rfl | rfl | rfl
    . exact ⟨T.Cls_q0z,T.na_Room_kind⟩
    . exact ⟨T.Cls_q0z,T.na_Room_name⟩
    . exact ⟨T.Cls_q0z,T.na_Room_damp⟩
    . exact ⟨T.Cls_q0z,T.na_Room_warmth⟩
  . simp only [List.mem_cons,List.not_mem_nil,or_false] at h
    rcases h with rfl | rfl | rfl
    . exact ⟨T.Cls_q0x,T.na_Shelf_kind⟩
    . exact ⟨T.Cls_q0x,T.na_Shelf_name⟩
    . exact ⟨T.Cls_q0x,T.na_Shelf_room⟩
  . simp only [List.mem_cons,List.not_mem_nil,or_false] at h
    rcases h with rfl | rfl | rfl | rfl | rfl | rfl | rfl
    . exact ⟨T.Cls_q0w,T.na_Sort_kind⟩
    . exact ⟨T.Cls_q0w,T.na_Sort_name⟩
    . exact ⟨T.Cls_q0w,T.na_Sort_mouldy⟩
    . exact ⟨T.Cls_q0w,T.na_Sort_turn_gap⟩
    . exact ⟨T.Cls_q0w,T.na_Sort_wash_gap⟩
    . exact ⟨T.Cls_q0w,T.na_Sort_rooms⟩
    . exact ⟨T.Cls_q0w,T.na_Sort_stays⟩
  . simp only [List.mem_cons,List.not_mem_nil,or_false] at h
    rcases h with rfl | rfl | rfl
    . exact ⟨T.Cls_q0t,T.na_Washer_kind⟩
    . exact ⟨T.Cls_q0t,T.na_Washer_name⟩
    . exact ⟨T.Cls_q0t,T.na_Washer_mouldy⟩
  . simp only [List.mem_cons,List.not_mem_nil,or_false] at h
    rcases h with rfl | rfl | rfl
    . exact ⟨T.Cls_q0y,T.na_Batch_kind⟩
    . exact ⟨T.Cls_q0y,T.na_Batch_name⟩
    . exact ⟨T.Cls_q0y,T.na_Batch_grams⟩
  . simp only [List.mem_cons,List.not_mem_nil,or_false] at h
    rcases h with rfl | rfl | rfl | rfl | rfl | rfl | rfl | rfl | rfl | rfl
    . exact ⟨T.Cls_q0r,T.na_Wheel_kind⟩
    . exact ⟨T.Cls_q0r,T.na_Wheel_name⟩
    . exact ⟨T.Cls_q0r,T.na_Wheel_recipe⟩
    . exact ⟨T.Cls_q0r,T.na_Wheel_shelf⟩
    . exact ⟨T.Cls_q0r,T.na_Wheel_grams⟩
    . exact ⟨T.Cls_q0r,T.na_Wheel_place⟩
    . exact ⟨T.Cls_q0r,T.na_Wheel_turn_day⟩
    . exact ⟨T.Cls_q0r,T.na_Wheel_wash_day⟩
    . exact ⟨T.Cls_q0r,T.na_Wheel_room_day⟩
    . exact ⟨T.Cls_q0r,T.na_Wheel_gone⟩
  . simp only [List.mem_cons,List.not_mem_nil,or_false] at h
    rcases h with rfl | rfl | rfl | rfl
    . exact ⟨T.Cls_q0c,T.na_Cellar_today⟩
    . exact ⟨T.Cls_q0c,T.na_Cellar_things⟩
    . exact ⟨T.Cls_q0c,T.na_Cellar_wheels⟩
    . exact ⟨T.Cls_q0c,T.na_Cellar_entries⟩
  . simp at h
def ctOf (T : Txt K mg A) : Ct := ⟨K,clT A,fnT,flT,injT,fldT T,flG,none⟩
theorem hsubT (T : Txt K mg A) (c : Nat) (x : Str) (h : wdT c = some x) : W.subIn K (.ref (clT A c)) (.ref A.c_q0g) = some true := by
  unfold wdT at h
  split at h
  . exact T.s_BadName_CellarError
  . exact T.s_Taken_CellarError
  . exact T.s_Unknown_CellarError
  . exact T.s_BadNumber_CellarError
  . exact T.s_Gone_CellarError
  . exact T.s_WrongRoom_CellarError
  . exact T.s_Mouldy_CellarError
  . exact T.s_TooMuch_CellarError
  . cases h
theorem isx_q0o (T : Txt K mg A) (c : Nat) (b : Bool) (h : sbT_q0o c = some b) : ExcK K (clT A c) /\ W.kitOne K (.ref (clT A c)) (clsU (.ref A.c_q0o)) = some b := by
  unfold sbT_q0o at h
  split at h
  . cases h; exact ⟨T.e_q08,q1j T.C_q0o T.s_BadName_BadName T.s_BadName_BadLine⟩
  . cases h; exact ⟨T.e_q0e,q1j T.C_q0o T.s_Taken_Taken T.s_Taken_BadLine⟩
  . cases h; exact ⟨T.e_q07,q1j T.C_q0o T.s_Unknown_Unknown T.s_Unknown_BadLine⟩
  . cases h; exact ⟨T.e_qx,q1j T.C_q0o T.s_BadNumber_BadNumber T.s_BadNumber_BadLine⟩
  . cases h; exact ⟨T.e_q0j,q1j T.C_q0o T.s_Gone_Gone T.s_Gone_BadLine⟩
  . cases h; exact ⟨T.e_qw,q1j T.C_q0o T.s_WrongRoom_WrongRoom T.s_WrongRoom_BadLine⟩
  . cases h; exact ⟨T.e_q0b,q1j T.C_q0o T.s_Mouldy_Mouldy T.s_Mouldy_BadLine⟩
  . cases h; exact ⟨T.e_q09,q1j T.C_q0o T.s_TooMuch_TooMuch T.s_TooMuch_BadLine⟩
  . cases h
theorem isx_q08 (T : Txt K mg A) (c : Nat) (b : Bool) (h : sbT_q08 c = some b) : ExcK K (clT A c) /\ W.kitOne K (.ref (clT A c)) (clsU (.ref A.c_q08)) = some b := by
  unfold sbT_q08 at h
  split at h
  . cases h; exact ⟨T.e_q08,q1j T.C_q08 T.s_BadName_BadName T.s_BadName_BadName⟩
  . cases h; exact ⟨T.e_q0e,q1j T.C_q08 T.s_Taken_Taken T.s_Taken_BadName⟩
  . cases h; exact ⟨T.e_q07,q1j T.C_q08 T.s_Unknown_Unknown T.s_Unknown_BadName⟩
  . cases h; exact ⟨T.e_qx,q1j T.C_q08 T.s_BadNumber_BadNumber T.s_BadNumber_BadName⟩
  . cases h; exact ⟨T.e_q0j,q1j T.C_q08 T.s_Gone_Gone T.s_Gone_BadName⟩
  . cases h; exact ⟨T.e_qw,q1j T.C_q08 T.s_WrongRoom_WrongRoom T.s_WrongRoom_BadName⟩
  . cases h; exact ⟨T.e_q0b,q1j T.C_q08 T.s_Mouldy_Mouldy T.s_Mouldy_BadName⟩
  . cases h; exact ⟨T.e_q09,q1j T.C_q08 T.s_TooMuch_TooMuch T.s_TooMuch_BadName⟩
  . cases h
theorem isx_q0e (T : Txt K mg A) (c : Nat) (b : Bool) (h : sbT_q0e c = some b) : ExcK K (clT A c) /\ W.kitOne K (.ref (clT A c)) (clsU (.ref A.c_q0e)) = some b := by
  unfold sbT_q0e at h
  split at h
  . cases h; exact ⟨T.e_q08,q1j T.C_q0e T.s_BadName_BadName T.s_BadName_Taken⟩
  . cases h; exact ⟨T.e_q0e,q1j T.C_q0e T.s_Taken_Taken T.s_Taken_Taken⟩
  . cases h; exact ⟨T.e_q07,q1j T.C_q0e T.s_Unknown_Unknown T.s_Unknown_Taken⟩
  . cases h; exact ⟨T.e_qx,q1j T.C_q0e T.s_BadNumber_BadNumber T.s_BadNumber_Taken⟩
  . cases h; exact ⟨T.e_q0j,q1j T.C_q0e T.s_Gone_Gone T.s_Gone_Taken⟩
  . cases h; exact ⟨T.e_qw,q1j T.C_q0e T.s_WrongRoom_WrongRoom T.s_WrongRoom_Taken⟩
  . cases h; exact ⟨T.e_q0b,q1j T.C_q0e T.s_Mouldy_Mouldy T.s_Mouldy_Taken⟩
  . cases h; exact ⟨T.e_q09,q1j T.C_q0e T.s_TooMuch_TooMuch T.s_TooMuch_Taken⟩
  . cases h
theorem isx_q07 (T : Txt K mg A) (c : Nat) (b : Bool) (h : sbT_q07 c = some b) : ExcK K (clT A c) /\ W.kitOne K (.ref (clT A c)) (clsU (.ref A.c_q07)) = some b := by
  unfold sbT_q07 at h
  split at h
  . cases h; exact ⟨T.e_q08,q1j T.C_q07 T.s_BadName_BadName T.s_BadName_Unknown⟩
  . cases h; exact ⟨T.e_q0e,q1j T.C_q07 T.s_Taken_Taken T.s_Taken_Unknown⟩
  . cases h; exact ⟨T.e_q07,q1j T.C_q07 T.s_Unknown_Unknown T.s_Unknown_Unknown⟩
  . cases h; exact ⟨T.e_qx,q1j T.C_q07 T.s_BadNumber_BadNumber T.s_BadNumber_Unknown⟩
  . cases h; exact ⟨T.e_q0j,q1j T.C_q07 T.s_Gone_Gone T.s_Gone_Unknown⟩
  . cases h; exact ⟨T.e_qw,q1j T.C_q07 T.s_WrongRoom_WrongRoom T.s_WrongRoom_Unknown⟩
  . cases h; exact ⟨T.e_q0b,q1j T.C_q07 T.s_Mouldy_Mouldy T.s_Mouldy_Unknown⟩
  . cases h; exact ⟨T.e_q09,q1j T.C_q07 T.s_TooMuch_TooMuch T.s_TooMuch_Unknown⟩
  . cases h
theorem isx_qx (T : Txt K mg A) (c : Nat) (b : Bool) (h : sbT_qx c = some b) : ExcK K (clT A c) /\ W.kitOne K (.ref (clT A c)) (clsU (.ref A.c_qx)) = some b := by
  unfold sbT_qx at h
  split at h
  . cases h; exact ⟨T.e_q08,q1j T.C_qx T.s_BadName_BadName T.s_BadName_BadNumber⟩
  . cases h; exact ⟨T.e_q0e,q1j T.C_qx T.s_Taken_Taken T.s_Taken_BadNumber⟩
  . cases h; exact ⟨T.e_q07,q1j T.C_qx T.s_Unknown_Unknown T.s_Unknown_BadNumber⟩
  . cases h; exact ⟨T.e_qx,q1j T.C_qx T.s_BadNumber_BadNumber T.s_BadNumber_BadNumber⟩
  . cases h; exact ⟨T.e_q0j,q1j T.C_qx T.s_Gone_Gone T.s_Gone_BadNumber⟩
  . cases h; exact ⟨T.e_qw,q1j T.C_qx T.s_WrongRoom_WrongRoom T.s_WrongRoom_BadNumber⟩
  . cases h; exact ⟨T.e_q0b,q1j T.C_qx T.s_Mouldy_Mouldy T.s_Mouldy_BadNumber⟩
  . cases h; exact ⟨T.e_q09,q1j T.C_qx T.s_TooMuch_TooMuch T.s_TooMuch_BadNumber⟩
  . cases h
theorem isx_q0j (T : Txt K mg A) (c : Nat) (b : Bool) (h : sbT_q0j c = some b) : ExcK K (clT A c) /\ W.kitOne K (.ref (clT A c)) (clsU (.ref A.c_q0j)) = some b := by
  unfold sbT_q0j at h
  split at h
  . cases h; exact ⟨T.e_q08,q1j T.C_q0j T.s_BadName_BadName T.s_BadName_Gone⟩
  . cases h; exact ⟨T.e_q0e,q1j T.C_q0j T.s_Taken_Taken T.s_Taken_Gone⟩
  . cases h; exact ⟨T.e_q07,q1j T.C_q0j T.s_Unknown_Unknown T.s_Unknown_Gone⟩
  . cases h; exact ⟨T.e_qx,q1j T.C_q0j T.s_BadNumber_BadNumber T.s_BadNumber_Gone⟩
  . cases h; exact ⟨T.e_q0j,q1j T.C_q0j T.s_Gone_Gone T.s_Gone_Gone⟩
  . cases h; exact ⟨T.e_qw,q1j T.C_q0j T.s_WrongRoom_WrongRoom T.s_WrongRoom_Gone⟩
  . cases h; exact ⟨T.e_q0b,q1j T.C_q0j T.s_Mouldy_Mouldy T.s_Mouldy_Gone⟩
  . cases h; exact ⟨T.e_q09,q1j T.C_q0j T.s_TooMuch_TooMuch T.s_TooMuch_Gone⟩
  . cases h
theorem isx_qw (T : Txt K mg A) (c : Nat) (b : Bool) (h : sbT_qw c = some b) : ExcK K (clT A c) /\ W.kitOne K (.ref (clT A c)) (clsU (.ref A.c_qw)) = some b := by
  unfold sbT_qw at h
  split at h
  . cases h; exact ⟨T.e_q08,q1j T.C_qw T.s_BadName_BadName T.s_BadName_WrongRoom⟩
  . cases h; exact ⟨T.e_q0e,q1j T.C_qw T.s_Taken_Taken T.s_Taken_WrongRoom⟩
  . cases h; exact ⟨T.e_q07,q1j T.C_qw T.s_Unknown_Unknown T.s_Unknown_WrongRoom⟩
  . cases h; exact ⟨T.e_qx,q1j T.C_qw T.s_BadNumber_BadNumber T.s_BadNumber_WrongRoom⟩
  . cases h; exact ⟨T.e_q0j,q1j T.C_qw T.s_Gone_Gone T.s_Gone_WrongRoom⟩
  . cases h; exact ⟨T.e_qw,q1j T.C_qw T.s_WrongRoom_WrongRoom T.s_WrongRoom_WrongRoom⟩
  . cases h; exact ⟨T.e_q0b,q1j T.C_qw T.s_Mouldy_Mouldy T.s_Mouldy_WrongRoom⟩
  . cases h; exact ⟨T.e_q09,q1j T.C_qw T.s_TooMuch_TooMuch T.s_TooMuch_WrongRoom⟩
  . cases h
theorem isx_q0b (T : Txt K mg A) (c : Nat) (b : Bool) (h : sbT_q0b c = some b) : ExcK K (clT A c) /\ W.kitOne K (.ref (clT A c)) (clsU (.ref A.c_q0b)) = some b := by
  unfold sbT_q0b at h
  split at h
  . cases h; exact ⟨T.e_q08,q1j T.C_q0b T.s_BadName_BadName T.s_BadName_Mouldy⟩
  . cases h; exact ⟨T.e_q0e,q1j T.C_q0b T.s_Taken_Taken T.s_Taken_Mouldy⟩
  . cases h; exact ⟨T.e_q07,q1j T.C_q0b T.s_Unknown_Unknown T.s_Unknown_Mouldy⟩
  . cases h; exact ⟨T.e_qx,q1j T.C_q0b T.s_BadNumber_BadNumber T.s_BadNumber_Mouldy⟩
  . cases h; exact ⟨T.e_q0j,q1j T.C_q0b T.s_Gone_Gone T.s_Gone_Mouldy⟩
  . cases h; exact ⟨T.e_qw,q1j T.C_q0b T.s_WrongRoom_WrongRoom T.s_WrongRoom_Mouldy⟩
  . cases h; exact ⟨T.e_q0b,q1j T.C_q0b T.s_Mouldy_Mouldy T.s_Mouldy_Mouldy⟩
  . cases h; exact ⟨T.e_q09,q1j T.C_q0b T.s_TooMuch_TooMuch T.s_TooMuch_Mouldy⟩
  . cases h
theorem isx_q09 (T : Txt K mg A) (c : Nat) (b : Bool) (h : sbT_q09 c = some b) : ExcK K (clT A c) /\ W.kitOne K (.ref (clT A c)) (clsU (.ref A.c_q09)) = some b := by
  unfold sbT_q09 at h
  split at h
  . cases h; exact ⟨T.e_q08,q1j T.C_q09 T.s_BadName_BadName T.s_BadName_TooMuch⟩
  . cases h; exact ⟨T.e_q0e,q1j T.C_q09 T.s_Taken_Taken T.s_Taken_TooMuch⟩
  . cases h; exact ⟨T.e_q07,q1j T.C_q09 T.s_Unknown_Unknown T.s_Unknown_TooMuch⟩
  . cases h; exact ⟨T.e_qx,q1j T.C_q09 T.s_BadNumber_BadNumber T.s_BadNumber_TooMuch⟩
  . cases h; exact ⟨T.e_q0j,q1j T.C_q09 T.s_Gone_Gone T.s_Gone_TooMuch⟩
  . cases h; exact ⟨T.e_qw,q1j T.C_q09 T.s_WrongRoom_WrongRoom T.s_WrongRoom_TooMuch⟩
  . cases h; exact ⟨T.e_q0b,q1j T.C_q09 T.s_Mouldy_Mouldy T.s_Mouldy_TooMuch⟩
  . cases h; exact ⟨T.e_q09,q1j T.C_q09 T.s_TooMuch_TooMuch T.s_TooMuch_TooMuch⟩
  . cases h
theorem q9y (T : Txt K mg A) (c : Nat) (b : Bool) (h : q4q c = some b) : ExcK K (clT A c) /\ W.kitOne K (.ref (clT A c)) (clsU (.ty "ValueError")) = some b := by
  unfold q4q at h
  split at h
  . cases h; exact ⟨T.e_q08,L2.q4j rfl T.v_q08⟩
  . cases h; exact ⟨T.e_q0e,L2.q4j rfl T.v_q0e⟩
  . cases h; exact ⟨T.e_q07,L2.q4j rfl T.v_q07⟩
  . cases h; exact ⟨T.e_qx,L2.q4j rfl T.v_qx⟩
  . cases h; exact ⟨T.e_q0j,L2.q4j rfl T.v_q0j⟩
  . cases h; exact ⟨T.e_qw,L2.q4j rfl T.v_qw⟩
  . cases h; exact ⟨T.e_q0b,L2.q4j rfl T.v_q0b⟩
  . cases h; exact ⟨T.e_q09,L2.q4j rfl T.v_q09⟩
  . cases h
theorem zq_q0l (T : Txt K mg A) : q8z P w K mg base CX0 1 A.a_q0l A.fd_q0l ["_law_e"] (q90 (ctOf T) wdT) := by
  refine T.F_q0l.okQ sc_q0l (fun vs H Q E h => ?_) (fun cdv A' outer s H vs Q E ah hr hA hv h => ?_)
  . obtain ⟨a,c,x,rfl,_⟩ := h
    rfl
  . have nd := sc_q0l.nd
    obtain ⟨c,h⟩ := qdb hv word_true h
    exact ⟨_,(q1f (q2g (i := 1) nd rfl (Or.inl rfl) (q35 (q18 (q2c (q18 q1h (q18 (q23 q3p rfl T.n_isinstance PyProof.Rows.boot_isinstance (q18 (pv 0) (q18 (q40 (v := .ref A.c_q0o) rfl T.c_q0o rfl) q1c))) q1c))) (q18 (q2c (q18 q1h (q18 (q23 q3p rfl T.n_isinstance PyProof.Rows.boot_isinstance (q18 (pv 0) (q18 (q40 (v := .ref A.c_q08) rfl T.c_q08 rfl) q1c))) q1c))) (q18 (q2c (q18 q1h (q18 (q23 q3p rfl T.n_isinstance PyProof.Rows.boot_isinstance (q18 (pv 0) (q18 (q40 (v := .ref A.c_q0e) rfl T.c_q0e rfl) q1c))) q1c))) q1c)))))
 (q1f (q2g (i := 1) nd rfl (Or.inl rfl) (q2s q6t (pv 1) (q35 (q18 (q2c (q18 q1h (q18 (q23 q3p rfl T.n_isinstance PyProof.Rows.boot_isinstance (q18 (pv 0) (q18 (q40 (v := .ref A.c_q07) rfl T.c_q07 rfl) q1c))) q1c))) (q18 (q2c (q18 q1h (q18 (q23 q3p rfl T.n_isinstance PyProof.Rows.boot_isinstance (q18 (pv 0) (q18 (q40 (v := .ref A.c_qx) rfl T.c_qx rfl) q1c))) q1c))) q1c)))))
 (q1f (q2g (i := 1) nd rfl (Or.inl rfl) (q2s q6t (pv 1) (q35 (q18 (q2c (q18 q1h (q18 (q23 q3p rfl T.n_isinstance PyProof.Rows.boot_isinstance (q18 (pv 0) (q18 (q40 (v := .ref A.c_q0j) rfl T.c_q0j rfl) q1c))) q1c))) (q18 (q2c (q18 q1h (q18 (q23 q3p rfl T.n_isinstance PyProof.Rows.boot_isinstance (q18 (pv 0) (q18 (q40 (v := .ref A.c_qw) rfl T.c_qw rfl) q1c))) q1c))) q1c)))))
 (q1f (q2g (i := 1) nd rfl (Or.inl rfl) (q2s q6t (pv 1) (q35 (q18 (q2c (q18 q1h (q18 (q23 q3p rfl T.n_isinstance PyProof.Rows.boot_isinstance (q18 (pv 0) (q18 (q40 (v := .ref A.c_q0b) rfl T.c_q0b rfl) q1c))) q1c))) (q18 (q2c (q18 q1h (q18 (q23 q3p rfl T.n_isinstance PyProof.Rows.boot_isinstance (q18 (pv 0) (q18 (q40 (v := .ref A.c_q09) rfl T.c_q09 rfl) q1c))) q1c))) q1c)))))
 (q1f (q2g (i := 1) nd rfl (Or.inl rfl) (q2s q6t (pv 1) (q35 (q18 (q2c (q18 q1h (q18 (pe_not (q23 q3p rfl T.n_isinstance PyProof.Rows.boot_isinstance (q18 (pv 0) (q18 (q3u (v := .ty "ValueError") rfl T.n_ValueError PyProof.Rows.Boot.«ValueError» rfl) q1c)))) q1c))) q1c))))
 (q1i (q3c (q5i PySem.F.plainAttrs_str PySem.F.slot_str_join PySem.F.type_str_join qhh q1h (q18 (pe_lcQ (ah := ah) (osc := q1e s_q0l) (N0 := ["_law_e", "_law_told"]) hA rfl rfl (own := ["_law_word", "_law_there"]) (fv := []) ⟨rfl,by decide +kernel,by decide +kernel,by decide +kernel,by decide +kernel,by decide +kernel⟩ (qg9 (ah := ah) (pv 1)) (fun _ _ _ => (qgt (K := K) (ah := ah) (n := 2) rfl hA (q2o (q25 (i := 0) (show (["_law_word", "_law_there"] : List Str).Nodup by decide +kernel) rfl (Or.inl rfl) (hf := Or.inr rfl)) (q2o (q25 (i := 1) (show (["_law_word", "_law_there"] : List Str).Nodup by decide +kernel) rfl (Or.inl rfl) (hf := Or.inr rfl)) q5a)))) (fun _ _ _ => (qh9 (q4d (pv 1)))) (fun _ _ _ => (pv 0))) q1c))))))))),q1z (C := (ctOf T).at ah (clT A c)) (E := E0) ((q1g (q2h (q3m (q1b (q2e (q1b q1k (q1b (q4s (cv := .ref A.c_q0o) (sub := sbT_q0o) rfl (isx_q0o T) q1a) q1d))) (q1b (q2e (q1b q1k (q1b (q4s (cv := .ref A.c_q08) (sub := sbT_q08) rfl (isx_q08 T) q1a) q1d))) (q1b (q2e (q1b q1k (q1b (q4s (cv := .ref A.c_q0e) (sub := sbT_q0e) rfl (isx_q0e T) q1a) q1d))) q1d)))) q1v)
 (q1g (q2h (q1o q7w q1a (q3m (q1b (q2e (q1b q1k (q1b (q4s (cv := .ref A.c_q07) (sub := sbT_q07) rfl (isx_q07 T) q1a) q1d))) (q1b (q2e (q1b q1k (q1b (q4s (cv := .ref A.c_qx) (sub := sbT_qx) rfl (isx_qx T) q1a) q1d))) q1d)))) q1v)
 (q1g (q2h (q1o q7w q1a (q3m (q1b (q2e (q1b q1k (q1b (q4s (cv := .ref A.c_q0j) (sub := sbT_q0j) rfl (isx_q0j T) q1a) q1d))) (q1b (q2e (q1b q1k (q1b (q4s (cv := .ref A.c_qw) (sub := sbT_qw) rfl (isx_qw T) q1a) q1d))) q1d)))) q1v)
 (q1g (q2h (q1o q7w q1a (q3m (q1b (q2e (q1b q1k (q1b (q4s (cv := .ref A.c_q0b) (sub := sbT_q0b) rfl (isx_q0b T) q1a) q1d))) (q1b (q2e (q1b q1k (q1b (q4s (cv := .ref A.c_q09) (sub := sbT_q09) rfl (isx_q09 T) q1a) q1d))) q1d)))) q1v)
 (q1g (q2h (q1o q7w q1a (q3m (q1b (q2e (q1b q1k (q1b (se_not (q4s (cv := .ty "ValueError") (sub := q4q) rfl (q9y T) q1a)) q1d))) q1d))) q1v)
 (q3a (se_bmS qhx q1k (q1b (q5z (own := ["_law_word", "_law_there"]) (fv := []) (qgr (C := (ctOf T).at ah _) rfl q1a) (qgi (C := (ctOf T).at ah _) rfl (q2w q2k (q2w q2k q5s))) (st_b q1a) q1a) q1d))))))))) rfl h⟩
theorem z_q0p (T : Txt K mg A) : FnOk P w K mg base (CX1 P w) 1 A.a_q0p A.fd_q0p ["shelf", "recipe", "place"] (spZ (ctOf T) 3 m_q0p) := by
  refine T.F_q0p.okR sc_q0p (fun vs H Q E h => q20 h) (fun cdv A' outer s H vs Q E hr h => ?_)
  have nd := sc_q0p.nd
  have hu := q2d hr
  exact ⟨_,(q1i (q3c (q58 q5j (q1y (q1y (pv 0) rfl) rfl) (q5u q6j (q1y (pv 1) rfl) (q5v (pv 2)) (q5v (q2s qe1 (pv 2) q1n))) rfl))),q1z (C := ctOf T) ((q3a (q1o q89 (q1w rfl (q1w rfl q1a)) (q8c q7c (q1w rfl q1a) (q5p q1a) (q5p (q1o qby q1a q1m)))))) rfl h⟩
theorem z_q0m (T : Txt K mg A) : FnOk P w K mg base (CX1 P w) 1 A.a_q0m A.fd_q0m ["wheel"] (spZ (ctOf T) 1 m_q0m) := by
  refine T.F_q0m.okR sc_q0m (fun vs H Q E h => q20 h) (fun cdv A' outer s H vs Q E hr h => ?_)
  have nd := sc_q0m.nd
  have hu := q2d hr
  exact ⟨_,(q1f (q2g (i := 1) nd rfl (Or.inl rfl) (q1y (q1y (pv 0) rfl) rfl))
 (q1i (q3c (q2s q79 (q2s qf2 (q2s qf2 (q1y (pv 0) rfl) (q2s op_sub q1n (q1y (pv 1) rfl))) (q1y (pv 1) rfl)) q1n)))),q1z (C := ctOf T) ((q1g (q2h (q1w rfl (q1w rfl q1a)) q1v)
 (q3a (q1o q7u (q1o qeu (q1o qeu (q1w rfl q1a) (q1o qfi q1m (q1w rfl q1a))) (q1w rfl q1a)) q1m)))) rfl h⟩
theorem z_q0s (T : Txt K mg A) : FnOk P w K mg base (CX1 P w) 1 A.a_q0s A.fd_q0s ["text", "signs"] (spZ (ctOf T) 2 m_q0s) := by
  refine T.F_q0s.okR sc_q0s (fun vs H Q E h => q20 h) (fun cdv A' outer s H vs Q E hr h => ?_)
  have nd := sc_q0s.nd
  have hu := q2d hr
  exact ⟨_,(q1i (q3c (q23 (qa6 rfl) rfl T.n_all PyProof.Rows.boot_all (q18 (q6n (osc := q1e s_q0s) (N0 := ["text", "signs"]) rfl rfl rfl (own := ["sign"]) (fv := [("signs",1)]) ⟨rfl,by decide +kernel,by decide +kernel,by decide +kernel,by decide +kernel,by decide +kernel⟩ (pi_str (pv 0)) (fun _ _ _ => (q25 (i := 0) (show (["sign", "signs"] : List Str).Nodup by decide +kernel) rfl (Or.inl rfl) (hf := Or.inr rfl))) (fun _ _ _ => q4r) (fun _ _ _ => (q58 qex (pv 0) (pv 1) rfl))) q1c)))),q1z (C := ctOf T) ((q3a (q3f qf7 (q1b (q5z (own := ["sign"]) (fv := [("signs",1)]) (si_str q1a) q2k q5m (q1o s2_inS q1a q1a)) q1d)))) rfl h⟩
theorem z_q0u (T : Txt K mg A) : FnOk P w K mg base (CX1 P w) 2 A.a_q0u A.fd_q0u ["text"] (spZ (ctOf T) 1 m_q0u) := by
  refine T.F_q0u.okR sc_q0u (fun vs H Q E h => q20 h) (fun cdv A' outer s H vs Q E hr h => ?_)
  have nd := sc_q0u.nd
  have hu := q2d hr
  exact ⟨_,(q1i (q3c (q7e (qfr qb1 qb1 q1n (q23 q5f rfl T.n_len PySem.boot_len (q18 (pv 0) q1c)) (q5w rfl T.g_q11)) (q6y (q2r (z_q0s T) hr.q9 rfl T.d_q0s T.F_q0s.kp T.b_q0s .nil q1l.passes (q18 (pv 0) (q18 (qfw rfl T.g_q10) q1c))))))),q1z (C := ctOf T) ((q3a (q75 (qc4 qas qas q1m (q3f q6r (q1b q1a q1d)) q1m) (q28 (q1b q1a (q1b q1k q1d)))))) rfl h⟩
theorem z_q05 (T : Txt K mg A) : FnOk P w K mg base (CX1 P w) 1 A.a_q05 A.fd_q05 ["number", "least", "most"] (spZ (ctOf T) 3 m_q05) := by
  refine T.F_q05.okR sc_q05 (fun vs H Q E h => q20 h) (fun cdv A' outer s H vs Q E hr h => ?_)
  have nd := sc_q05.nd
  have hu := q2d hr
  exact ⟨_,(q1i (q39 (q6v (qg0 qb1 qb1 (pv 1) (pv 0) (pv 2)))
 (q1i (q45 q1l hr.hd rfl T.c_qx T.x_qx PySem.F.excBase_ValueError rfl PySem.F.excBase_ValueError (q18 (q54 (q2a q1h (q2a (q6z (pv 1)) (q2a q1h (q2a (q6z (pv 2)) (q2a q1h (q2a (q6z (pv 0)) q67))))))) q1c)))
 q2n)),q1z (C := ctOf T) ((q38 (q6u (q32 (qc4 qas qas q1a q1a q1a)))
 (q47 (c := 24) (q53 (q3l (q6w q1a (q3l (q6w q1a (q3l (q6w q1a q5d)))))) (by decide +kernel)))
 q2m)) rfl h⟩
theorem z_q0h (T : Txt K mg A) : FnOk P w K mg base (CX1 P w) 2 A.a_q0h A.fd_q0h ["grams"] (spZ (ctOf T) 1 m_q0h) := by
  refine T.F_q0h.okR sc_q0h (fun vs H Q E h => q20 h) (fun cdv A' outer s H vs Q E hr h => ?_)
  have nd := sc_q0h.nd
  have hu := q2d hr
  exact ⟨_,(q1i (q1q (q2r (z_q05 T) hr.q9 rfl T.d_q05 T.F_q05.kp T.b_q05 .nil q1l.passes (q18 (pv 0) (q18 q1n (q18 (q5w rfl T.g_q15) q1c)))))),q1z (C := ctOf T) ((q1p (q28 (q1b q1a (q1b q1m (q1b q1m q1d)))))) rfl h⟩
theorem z_q0q (T : Txt K mg A) : FnOk P w K mg base (CX1 P w) 2 A.a_q0q A.fd_q0q ["least", "most"] (spZ (ctOf T) 2 m_q0q) := by
  refine T.F_q0q.okR sc_q0q (fun vs H Q E h => q20 h) (fun cdv A' outer s H vs Q E hr h => ?_)
  have nd := sc_q0q.nd
  have hu := q2d hr
  exact ⟨_,(q1f (q1q (q2r (z_q05 T) hr.q9 rfl T.d_q05 T.F_q05.kp T.b_q05 .nil q1l.passes (q18 (pv 1) (q18 q1n (q18 (q5w rfl T.g_q13) q1c)))))
 (q1i (q1q (q2r (z_q05 T) hr.q9 rfl T.d_q05 T.F_q05.kp T.b_q05 .nil q1l.passes (q18 (pv 0) (q18 q1n (q18 (pv 1) q1c))))))),q1z (C := ctOf T) ((q1g (q1p (q28 (q1b q1a (q1b q1m (q1b q1m q1d)))))
 (q1p (q28 (q1b q1a (q1b q1m (q1b q1a q1d))))))) rfl h⟩
theorem z_q0n (T : Txt K mg A) : FnOk P w K mg base (CX1 P w) 1 A.a_q0n A.fd_q0n ["thing"] (spZ (ctOf T) 1 m_q0n) := by
  refine T.F_q0n.okR sc_q0n (fun vs H Q E h => q20 h) (fun cdv A' outer s H vs Q E hr h => ?_)
  have nd := sc_q0n.nd
  have hu := q2d hr
  exact ⟨_,(q1i (q39 (q4d (q1y (pv 0) rfl))
 (q1i (q45 q1l hr.hd rfl T.c_q0j T.x_q0j PySem.F.excBase_ValueError rfl PySem.F.excBase_ValueError (q18 (q2s q41 q1h (q1y (pv 0) rfl)) q1c)))
 q2n)),q1z (C := ctOf T) ((q38 (st_b (q1w rfl q1a))
 (q47 (c := 25) (ms_add (by decide +kernel) (q1w rfl q1a)))
 q2m)) rfl h⟩
theorem z_q0k (T : Txt K mg A) : FnOk P w K mg base (CX1 P w) 1 A.a_q0k A.fd_q0k ["grams", "there"] (spZ (ctOf T) 2 m_q0k) := by
  refine T.F_q0k.okR sc_q0k (fun vs H Q E h => q20 h) (fun cdv A' outer s H vs Q E hr h => ?_)
  have nd := sc_q0k.nd
  have hu := q2d hr
  exact ⟨_,(q1i (q39 (q37 op_gt (pv 0) (pv 1) (q3g _))
 (q1i (q45 q1l hr.hd rfl T.c_q09 T.x_q09 PySem.F.excBase_ValueError rfl PySem.F.excBase_ValueError (q18 (q54 (q2a (q6z (pv 0)) (q2a q1h (q2a (q6z (pv 1)) (q2a q1h q67))))) q1c)))
 q2n)),q1z (C := ctOf T) ((q38 (q32 (q1o s2_gt q1a q1a))
 (q47 (c := 28) (q53 (q6w q1a (q3l (q6w q1a (q3l q5d)))) (by decide +kernel)))
 q2m)) rfl h⟩
theorem zr_q0a (T : Txt K mg A) : ∀ n,FnOk P w K mg base (CX1 P w) (n + 0) A.a_q0a A.fd_q0a ["_law_found", "_law_due"] (spZ (ctOf T) 2 (m_q0a n))
  | 0 => fn_no rfl
  | n + 1 => by
    have G_q0a : FnOk P w K mg base (CX1 P w) (n + 0) A.a_q0a A.fd_q0a ["_law_found", "_law_due"] (spZ (ctOf T) 2 (m_q0a n)) := zr_q0a T n
    refine T.F_q0a.okR sc_q0a (fun vs H Q E h => q20 h) (fun cdv A' outer s H vs Q E hr h => ?_)
    have nd := sc_q0a.nd
    have hu := q2d hr
    exact ⟨_,(q1f (q39 (q4d (q23 qcz rfl T.n_isinstance PyProof.Rows.boot_isinstance (q18 (pv 1) (q18 (q2c (q18 (q3u (v := .ty "list") rfl T.n_list PyProof.Rows.boot_list rfl) (q18 (q3u (v := .ty "tuple") rfl T.n_tuple PyProof.Rows.boot_tuple rfl) q1c))) q1c))))
 (q1f (q39 (PW.pt (qat (q37 q9g (q23 q3o rfl T.n_isinstance PyProof.Rows.boot_isinstance (q18 (pv 0) (q18 (q3u (v := .ty "list") rfl T.n_list PyProof.Rows.boot_list rfl) q1c))) (q23 q3o rfl T.n_isinstance PyProof.Rows.boot_isinstance (q18 (pv 1) (q18 (q3u (v := .ty "list") rfl T.n_list PyProof.Rows.boot_list rfl) q1c))) (q3g _)) (q9n (q37 q9g (q23 q3o rfl T.n_isinstance PyProof.Rows.boot_isinstance (q18 (pv 0) (q18 (q3u (v := .ty "tuple") rfl T.n_tuple PyProof.Rows.boot_tuple rfl) q1c))) (q23 q3o rfl T.n_isinstance PyProof.Rows.boot_isinstance (q18 (pv 1) (q18 (q3u (v := .ty "tuple") rfl T.n_tuple PyProof.Rows.boot_tuple rfl) q1c))) (q3g _)))))
 (q1i (q3c q52))
 q2n)
 (q1i (q3c (q7e (q58 q5k (q23 q5f rfl T.n_len PySem.boot_len (q18 (pv 0) q1c)) (q23 q5f rfl T.n_len PySem.boot_len (q18 (pv 1) q1c)) (q3g _)) (q6y (q23 (qa6 rfl) rfl T.n_all PyProof.Rows.boot_all (q18 (q6n (osc := q1e s_q0a) (N0 := ["_law_found", "_law_due", "_law_alike"]) rfl rfl rfl (own := ["_law_k"]) (fv := [("_law_found",0),("_law_due",1)]) ⟨rfl,by decide +kernel,by decide +kernel,by decide +kernel,by decide +kernel,by decide +kernel⟩ (q59 rfl T.n_range (q18 (q23 q5f rfl T.n_len PySem.boot_len (q18 (pv 1) q1c)) q1c)) (fun _ _ _ => (q25 (i := 0) (show (["_law_k", "_law_found", "_law_due"] : List Str).Nodup by decide +kernel) rfl (Or.inl rfl) (hf := Or.inr rfl))) (fun _ _ _ => q4r) (fun _ _ _ => (q2r G_q0a hr rfl T.d_q0a T.F_q0a.kp T.b_q0a .nil q3d (q18 (q33 (qcg (K := K) rfl) (pv 1) (pv 0) (fun _ _ => rfl)) (q18 (q33 (qcg (K := K) rfl) (pv 2) (pv 0) (fun _ _ => rfl)) q1c))))) q1c)))))))
 q2n)
 (q1f (q2g (i := 2) nd rfl (Or.inl rfl) (q7e (q58 q5k (q23 q3o rfl T.n_isinstance PyProof.Rows.boot_isinstance (q18 (pv 0) (q18 (q3u (v := .ty "int") rfl T.n_int PyProof.Rows.boot_int rfl) q1c))) (q23 q3o rfl T.n_isinstance PyProof.Rows.boot_isinstance (q18 (pv 1) (q18 (q3u (v := .ty "int") rfl T.n_int PyProof.Rows.boot_int rfl) q1c))) (q3g _)) (q6y (q58 q5k (q23 q3o rfl T.n_isinstance PyProof.Rows.boot_isinstance (q18 (pv 0) (q18 (q3u (v := .ty "bool") rfl T.n_bool PyProof.Rows.boot_bool rfl) q1c))) (q23 q3o rfl T.n_isinstance PyProof.Rows.boot_isinstance (q18 (pv 1) (q18 (q3u (v := .ty "bool") rfl T.n_bool PyProof.Rows.boot_bool rfl) q1c))) (q3g _)))))
 (q1i (q3c (q7e (pv 2) (q7e (q58 q5k (q23 q3o rfl T.n_isinstance PyProof.Rows.boot_isinstance (q18 (pv 0) (q18 (q3u (v := .ty "str") rfl T.n_str PyProof.Rows.boot_str rfl) q1c))) (q23 q3o rfl T.n_isinstance PyProof.Rows.boot_isinstance (q18 (pv 1) (q18 (q3u (v := .ty "str") rfl T.n_str PyProof.Rows.boot_str rfl) q1c))) (q3g _)) (q6y (q58 q5k (pv 0) (pv 1) (q3g _))))))))),q1z (C := ctOf T) ((q1g (q38 (st_b (qg6 q1a))
 (q1g (q38 (qar (q32 (q1o q91 (q4y .list rfl (by intro z; cases z) q1a) (q4y .list rfl (by intro z; cases z) q1a))) (q32 (q1o q91 (q4y .tuple rfl (by intro z; cases z) q1a) (q4y .tuple rfl (by intro z; cases z) q1a))))
 (q3a q4z)
 q2m)
 (q3a (q75 (q1o q5h (q3f q6r (q1b q1a q1d)) (q3f q6r (q1b q1a q1d))) (q3f qf7 (q1b (q5z (own := ["_law_k"]) (fv := [("_law_found",0),("_law_due",1)]) (q5e (q3f q6r (q1b q1a q1d))) q2k q5m (q28 (q1b (q1o q34 q1a q1a) (q1b (q1o q34 q1a q1a) q1d)))) q1d)))))
 q2m)
 (q1g (q2h (q75 (q1o q5h (q4y .int rfl (by intro z; cases z) q1a) (q4y .int rfl (by intro z; cases z) q1a)) (q1o q5h (q4y .bool rfl (by intro z; cases z) q1a) (q4y .bool rfl (by intro z; cases z) q1a))) q1v)
 (q3a (q75 q1a (q75 (q1o q5h (q4y .str rfl (by intro z; cases z) q1a) (q4y .str rfl (by intro z; cases z) q1a)) (q1o q5h q1a q1a))))))) rfl h⟩
theorem z_q0a (T : Txt K mg A) (k : Nat) : FnOk P w K mg base (CX1 P w) (k + 0) A.a_q0a A.fd_q0a ["_law_found", "_law_due"] (spZ (ctOf T) 2 (m_q0a k)) := zr_q0a T k
theorem z_qf (T : Txt K mg A) : FnOk P w K mg base (CX1 P w) 1 A.a_qf A.fd_qf ["self", "name", "kind"] (spZ (ctOf T) 3 m_qf) := by
  refine T.F_qf.okR sc_qf (fun vs H Q E h => q20 h) (fun cdv A' outer s H vs Q E hr h => ?_)
  have nd := sc_qf.nd
  have hu := q2d hr
  exact ⟨_,(q1f (q2g (i := 3) nd rfl (Or.inl rfl) (qb4 hu (q1y (pv 0) rfl) (pv 1) ⟨rfl,rfl,rfl,rfl⟩))
 (q1f (q39 (PW.pt (qat (q9a (qe9 (pv 3))) (q9n (q37 q9g (q1y (pv 3) rfl) (pv 2) (q3g _)))))
 (q1i (q45 q1l hr.hd rfl T.c_q07 T.x_q07 PySem.F.excBase_ValueError rfl PySem.F.excBase_ValueError (q18 (q54 (q2a q1h (q2a (q6c (pv 2)) (q2a q1h (q2a (q9z (pv 1)) q67))))) q1c)))
 q2n)
 (q1i (q3c (pv 3))))),q1z (C := ctOf T) ((q1g (q2h (qbu (q1w rfl q1a) q1a) q1v)
 (q1g (q38 (qar (st_b (qez q1a)) (q32 (q1o q91 (q1w rfl q1a) q1a)))
 (q47 (c := 23) (q53 (q3l (q6b q1a (q3l (q9r q1a q5d)))) (by decide +kernel)))
 q2m)
 (q3a q1a)))) rfl h⟩
theorem z_q01 (T : Txt K mg A) : FnOk P w K mg base (CX1 P w) 2 A.a_q01 A.fd_q01 ["self", "wheel", "brine", "cloth"] (spZ (ctOf T) 4 m_q01) := by
  refine T.F_q01.okR sc_q01 (fun vs H Q E h => q20 h) (fun cdv A' outer s H vs Q E hr h => ?_)
  have nd := sc_q01.nd
  have hu := q2d hr
  exact ⟨_,(q1f (q2g (i := 4) nd rfl (Or.inl rfl) (q24 (pv 0) T.Cls_q0c T.m_qf (z_qf T) hr.q9 T.b_qf .nil q1l.passes (q18 (pv 1) (q18 q1h q1c))))
 (q1f (q2g (i := 5) nd rfl (Or.inl rfl) (q35 (q18 (q24 (pv 0) T.Cls_q0c T.m_qf (z_qf T) hr.q9 T.b_qf .nil q1l.passes (q18 (pv 2) (q18 q1h q1c))) (q18 (q24 (pv 0) T.Cls_q0c T.m_qf (z_qf T) hr.q9 T.b_qf .nil q1l.passes (q18 (pv 3) (q18 q1h q1c))) q1c))))
 (q1f (q1q (q2r (z_q0n T) hr.q9 rfl T.d_q0n T.F_q0n.kp T.b_q0n .nil q1l.passes (q18 (pv 4) q1c)))
 (q1f (q39 (PW.pt (q84 (q6v (q4d (q1y (q1y (pv 4) rfl) rfl))) (q8a (q4d (q23 (qdx rfl) rfl T.n_any PyProof.Rows.boot_any (q18 (q6n (osc := q1e s_q01) (N0 := ["self", "wheel", "brine", "cloth", "washed", "washers", "washer"]) rfl rfl rfl (own := ["washer"]) (fv := []) ⟨rfl,by decide +kernel,by decide +kernel,by decide +kernel,by decide +kernel,by decide +kernel⟩ (q3s (pv 5)) (fun _ _ _ => (q25 (i := 0) (show (["washer"] : List Str).Nodup by decide +kernel) rfl (Or.inl rfl) (hf := Or.inr rfl))) (fun _ _ _ => q4r) (fun _ _ _ => (qci (K := K) rfl (pv 0) rfl))) q1c))))))
 (q1i (q45 q1l hr.hd rfl T.c_q0b T.x_q0b PySem.F.excBase_ValueError rfl PySem.F.excBase_ValueError (q18 (q54 (q2a q1h (q2a (q6c (pv 2)) (q2a q1h (q2a (q6c (pv 3)) q67))))) q1c)))
 q2n)
 (q1f (q39 (q4d (q1y (q1y (pv 4) rfl) rfl))
 (q1i (q4m PassesOwn.leaving rfl (q3s (pv 5)) (q25 (i := 6) nd rfl (Or.inl rfl))
 (q1i (q2p (pv 6) q52 rfl))))
 q2n)
 (q1f (q2p (pv 4) (q1y (pv 0) rfl) rfl)
 (q1i (q1q (q5i PySem.F.plainAttrs_list PySem.F.slot_list_append PySem.F.type_list_append q3e (q1y (pv 0) rfl) (q18 (q2c (q18 (q1y (pv 0) rfl) (q18 q1h (q18 (pv 1) (q18 (pv 2) (q18 (pv 3) q1c)))))) q1c)))))))))),q1z (C := ctOf T) ((q1g (q2h (q22 (c := 8) (show ∀ i ∈ flT 8,fnT i ≠ "known" by decide +kernel) q1a (q1b q1a (q1b q1k q1d))) q1v)
 (q1g (q2h (q3m (q1b (q22 (c := 8) (show ∀ i ∈ flT 8,fnT i ≠ "known" by decide +kernel) q1a (q1b q1a (q1b q1k q1d))) (q1b (q22 (c := 8) (show ∀ i ∈ flT 8,fnT i ≠ "known" by decide +kernel) q1a (q1b q1a (q1b q1k q1d))) q1d))) q1v)
 (q1g (q1p (q28 (q1b q1a q1d)))
 (q1g (q38 (q83 (q6u (st_b (q1w rfl (q1w rfl q1a)))) (st_b (q3f sc_any (q1b (q5z (own := ["washer"]) (fv := []) (q3v q1a) q2k q5m (q1w rfl q1a)) q1d))))
 (q47 (c := 27) (q53 (q3l (q6b q1a (q3l (q6b q1a q5d)))) (by decide +kernel)))
 q2m)
 (q1g (q38 (st_b (q1w rfl (q1w rfl q1a)))
 (q4l (q3v q1a) q1v
 (q2l (i := 5) rfl q1a q4z))
 q2m)
 (q1g (q2l (i := 15) rfl q1a (q1w rfl q1a))
 (q1p (q4t q3q (q1w rfl q1a) (q1b (q2e (q1b (q1w rfl q1a) (q1b q1k (q1b q1a (q1b q1a (q1b q1a q1d)))))) q1d)))))))))) rfl h⟩
theorem z_q0i (T : Txt K mg A) : FnOk P w K mg base (CX1 P w) 3 A.a_q0i A.fd_q0i ["_law_cellar", "_law_wheel", "_law_brine", "_law_cloth"] (spZ (ctOf T) 4 m_q0i) := by
  have GQ_q0l : q8z P w K mg base CX0 1 A.a_q0l A.fd_q0l ["_law_e"] (q90 (ctOf T) wdT) := zq_q0l T
  refine T.F_q0i.okR sc_q0i (fun vs H Q E h => q20 h) (fun cdv A' outer s H vs Q E hr h => ?_)
  have nd := sc_q0i.nd
  have hu := q2d hr
  exact ⟨_,(q1f (q2g (i := 4) nd rfl (Or.inl rfl) q1h)
 (q1f (q2g (i := 5) nd rfl (Or.inl rfl) pe_non)
 (q1f (ps_try (i := 5) (j := 6) rfl rfl rfl nd rfl (Or.inl rfl) rfl rfl rfl T.c_q0g T.t_q0g T.C_q0g.is T.b_q0g (qha (pv 0) T.Cls_q0c T.m_q01 (z_q01 T) hr.q9 T.b_q01 .nil (q18 (pv 1) (q18 (pv 2) (q18 (pv 3) q1c)))) (fun _ => (q1i (q2g (i := 4) nd rfl (Or.inl rfl) (qfn GQ_q0l (hr.x.mono (by decide)).mark rfl rfl T.d_q0l T.F_q0l.kp T.b_q0l .nil pass0 (q18 (pv 6) q1c))))))
 (q1f (q39 (q9a (qh7 (pv 5)))
 (q1i (q3c q1h))
 q2n)
 (q1i (q3c (pv 4))))))),q1z (C := ctOf T) ((q1g (q2h q1k q1v)
 (q1g (q2h se_non q1v)
 (q1g (qhi (qhk (c := 8) (show ∀ i ∈ flT 8,fnT i ≠ "wash" by decide +kernel) q1a (q1b q1a (q1b q1a (q1b q1a q1d)))) (hsubT T))
 (q1g (q38 (st_b (qh4 q1a))
 (q3a q1k)
 q2m)
 (q3a q1a)))))) rfl h⟩
theorem z_qv (T : Txt K mg A) : FnOk P w K mg base (CX1 P w) 1 A.a_qv A.fd_qv ["self"] (spZ (ctOf T) 1 m_qv) := by
  refine T.F_qv.okR sc_qv (fun vs H Q E h => q20 h) (fun cdv A' outer s H vs Q E hr h => ?_)
  have nd := sc_qv.nd
  have hu := q2d hr
  exact ⟨_,(q1f (q2p (pv 0) q1n rfl)
 (q1f (q2p (pv 0) qfv rfl)
 (q1f (q2p (pv 0) (q35 q1c) rfl)
 (q1i (q2p (pv 0) (q35 q1c) rfl))))),q1z (C := ctOf T) ((q1g (q2l (i := 18) rfl q1a q1m)
 (q1g (q2l (i := 19) rfl q1a qge)
 (q1g (q2l (i := 20) rfl q1a (q8b q1d))
 (q2l (i := 21) rfl q1a (q8b q1d)))))) rfl h⟩
theorem z_qb (T : Txt K mg A) : FnOk P w K mg base (CX1 P w) 1 A.a_qb A.fd_qb ["self", "kind", "name"] (spZ (ctOf T) 3 m_qb) := by
  refine T.F_qb.okR sc_qb (fun vs H Q E h => q20 h) (fun cdv A' outer s H vs Q E hr h => ?_)
  have nd := sc_qb.nd
  have hu := q2d hr
  exact ⟨_,(q1f (q2p (pv 0) (pv 1) rfl)
 (q1i (q2p (pv 0) (pv 2) rfl))),q1z (C := ctOf T) ((q1g (q2l (i := 0) rfl q1a q1a)
 (q2l (i := 1) rfl q1a q1a))) rfl h⟩
theorem z_qy (T : Txt K mg A) : FnOk P w K mg base (CX1 P w) 3 A.a_qy A.fd_qy ["self", "name", "grams"] (spZ (ctOf T) 3 m_qy) := by
  refine T.F_qy.okR sc_qy (fun vs H Q E h => q20 h) (fun cdv A' outer s H vs Q E hr h => ?_)
  have nd := sc_qy.nd
  have hu := q2d hr
  exact ⟨_,(q1f (q1q (q6d rfl T.c_q0v T.B_qb (z_qb T) hr.q9 T.b_qb .nil q1l.passes (q18 (pv 0) (q18 q1h (q18 (pv 1) q1c)))))
 (q1i (q2p (pv 0) (pv 2) rfl))),q1z (C := ctOf T) ((q1g (q1p (q28 (q1b q1a (q1b q1k (q1b q1a q1d)))))
 (q2l (i := 10) rfl q1a q1a))) rfl h⟩
theorem z_qa (T : Txt K mg A) : FnOk P w K mg base (CX1 P w) 3 A.a_qa A.fd_qa ["self", "name"] (spZ (ctOf T) 2 m_qa) := by
  refine T.F_qa.okR sc_qa (fun vs H Q E h => q20 h) (fun cdv A' outer s H vs Q E hr h => ?_)
  have nd := sc_qa.nd
  have hu := q2d hr
  exact ⟨_,(q1f (q39 (q6v (q4d (q2r (z_q0u T) hr.q9 rfl T.d_q0u T.F_q0u.kp T.b_q0u .nil q1l.passes (q18 (pv 1) q1c))))
 (q1i (q45 q1l hr.hd rfl T.c_q08 T.x_q08 PySem.F.excBase_ValueError rfl PySem.F.excBase_ValueError (q18 (q54 (q2a q1h (q2a (q9z (pv 1)) q67))) q1c)))
 q2n)
 (q1i (q39 (q9a (pc_din hu (pv 1) (q1y (pv 0) rfl)))
 (q1i (q45 q1l hr.hd rfl T.c_q0e T.x_q0e PySem.F.excBase_ValueError rfl PySem.F.excBase_ValueError (q18 (q54 (q2a q1h (q2a (q6c (pv 1)) q67))) q1c)))
 q2n))),q1z (C := ctOf T) ((q1g (q38 (q6u (st_b (q28 (q1b q1a q1d))))
 (q47 (c := 21) (q53 (q3l (q9r q1a q5d)) (by decide +kernel)))
 q2m)
 (q38 (st_b (se_din q1a (q1w rfl q1a)))
 (q47 (c := 22) (q53 (q3l (q6b q1a q5d)) (by decide +kernel)))
 q2m))) rfl h⟩
theorem z_qg (T : Txt K mg A) : FnOk P w K mg base (CX1 P w) 1 A.a_qg A.fd_qg ["self", "thing"] (spZ (ctOf T) 2 m_qg) := by
  refine T.F_qg.okR sc_qg (fun vs H Q E h => q20 h) (fun cdv A' outer s H vs Q E hr h => ?_)
  have nd := sc_qg.nd
  have hu := q2d hr
  exact ⟨_,(q1i (qgz hu (q1y (pv 0) rfl) (q1y (pv 1) rfl) (pv 1) rfl)),q1z (C := ctOf T) ((qho (q1w rfl q1a) (q1w rfl q1a) q1a)) rfl h⟩
theorem z_qj (T : Txt K mg A) : FnOk P w K mg base (CX1 P w) 5 A.a_qj A.fd_qj ["self", "name", "parts"] (spZ (ctOf T) 3 m_qj) := by
  refine T.F_qj.okR sc_qj (fun vs H Q E h => q20 h) (fun cdv A' outer s H vs Q E hr h => ?_)
  have nd := sc_qj.nd
  have hu := q2d hr
  exact ⟨_,(q1f (q1q (q24 (pv 0) T.Cls_q0c T.m_qa (z_qa T) hr.q9 T.b_qa .nil q1l.passes (q18 (pv 1) q1c)))
 (q1f (q4m PassesOwn.leaving rfl (q3s (pv 2)) (qc3 rfl (q2o (q25 (i := 3) nd rfl (Or.inl rfl)) (q2o (q25 (i := 4) nd rfl (Or.inl rfl)) q5a)))
 (q1i (q1q (q24 (pv 0) T.Cls_q0c T.m_qf (z_qf T) hr.q9 T.b_qf .nil q1l.passes (q18 (pv 3) (q18 q1h q1c))))))
 (q1f (q4m PassesOwn.leaving rfl (q3s (pv 2)) (qc3 rfl (q2o (q25 (i := 3) nd rfl (Or.inl rfl)) (q2o (q25 (i := 4) nd rfl (Or.inl rfl)) q5a)))
 (q1i (q1q (q2r (z_q0h T) hr.q9 rfl T.d_q0h T.F_q0h.kp T.b_q0h .nil q1l.passes (q18 (pv 4) q1c)))))
 (q1f (q1q (q24 (pv 0) T.Cls_q0c T.m_qg (z_qg T) hr.q9 T.b_qg .nil q1l.passes (q18 (q55 T.mk_q0y (z_qy T) hr.q9 rfl T.c_q0y T.b_qy .nil q1l.passes (q18 (pv 1) (q18 (q23 (qfg rfl) rfl T.n_sum PyProof.Rows.boot_sum (q18 (q6n (osc := q1e s_qj) (N0 := ["self", "name", "parts", "farm", "grams"]) rfl rfl rfl (own := ["farm", "grams"]) (fv := []) ⟨rfl,by decide +kernel,by decide +kernel,by decide +kernel,by decide +kernel,by decide +kernel⟩ (q3s (pv 2)) (fun _ _ _ => (q72 (K := K) (n := 2) rfl rfl rfl (q2o (q25 (i := 0) (show (["farm", "grams"] : List Str).Nodup by decide +kernel) rfl (Or.inl rfl) (hf := Or.inr rfl)) (q2o (q25 (i := 1) (show (["farm", "grams"] : List Str).Nodup by decide +kernel) rfl (Or.inl rfl) (hf := Or.inr rfl)) q5a)))) (fun _ _ _ => q4r) (fun _ _ _ => (pv 1))) q1c)) q1c))) q1c)))
 (q1i (q1q (q5i PySem.F.plainAttrs_list PySem.F.slot_list_append PySem.F.type_list_append q3e (q1y (pv 0) rfl) (q18 (q2c (q18 (q1y (pv 0) rfl) (q18 q1h (q18 (pv 1) (q18 (q36 q6q rfl T.n_tuple PyProof.Rows.boot_tuple (q18 (pv 2) q1c)) q1c))))) q1c)))))))),q1z (C := ctOf T) ((q1g (q1p (q22 (c := 8) (show ∀ i ∈ flT 8,fnT i ≠ "check_free" by decide +kernel) q1a (q1b q1a q1d)))
 (q1g (q4l (q3v q1a) (qdz (q7o q1v (q7o q1v qcj)))
 (q1p (q22 (c := 8) (show ∀ i ∈ flT 8,fnT i ≠ "known" by decide +kernel) q1a (q1b q1a (q1b q1k q1d)))))
 (q1g (q4l (q3v q1a) (qdz (q7o q1v (q7o q1v qcj)))
 (q1p (q28 (q1b q1a q1d))))
 (q1g (q1p (q22 (c := 8) (show ∀ i ∈ flT 8,fnT i ≠ "hold" by decide +kernel) q1a (q1b (q4o (c := 5) rfl (q1b q1a (q1b (q3f sc_sum (q1b (q5z (own := ["farm", "grams"]) (fv := []) (q3v q1a) (q7a (q2w q2k (q2w q2k q5s))) q5m q1a) q1d)) q1d))) q1d)))
 (q1p (q4t q3q (q1w rfl q1a) (q1b (q2e (q1b (q1w rfl q1a) (q1b q1k (q1b q1a (q1b (q3f q8s (q1b q1a q1d)) q1d))))) q1d)))))))) rfl h⟩
theorem z_qr (T : Txt K mg A) : FnOk P w K mg base (CX1 P w) 3 A.a_qr A.fd_qr ["self", "kind", "name"] (spZ (ctOf T) 3 m_qr) := by
  refine T.F_qr.okR sc_qr (fun vs H Q E h => q20 h) (fun cdv A' outer s H vs Q E hr h => ?_)
  have nd := sc_qr.nd
  have hu := q2d hr
  exact ⟨_,(q1f (q1q (q6d rfl T.c_q0v T.B_qb (z_qb T) hr.q9 T.b_qb .nil q1l.passes (q18 (pv 0) (q18 (pv 1) (q18 (pv 2) q1c)))))
 (q1i (q2p (pv 0) q52 rfl))),q1z (C := ctOf T) ((q1g (q1p (q28 (q1b q1a (q1b q1a (q1b q1a q1d)))))
 (q2l (i := 5) rfl q1a q4z))) rfl h⟩
theorem z_qm (T : Txt K mg A) : FnOk P w K mg base (CX1 P w) 5 A.a_qm A.fd_qm ["self", "name"] (spZ (ctOf T) 2 m_qm) := by
  refine T.F_qm.okR sc_qm (fun vs H Q E h => q20 h) (fun cdv A' outer s H vs Q E hr h => ?_)
  have nd := sc_qm.nd
  have hu := q2d hr
  exact ⟨_,(q1f (q1q (q24 (pv 0) T.Cls_q0c T.m_qa (z_qa T) hr.q9 T.b_qa .nil q1l.passes (q18 (pv 1) q1c)))
 (q1i (q1q (q24 (pv 0) T.Cls_q0c T.m_qg (z_qg T) hr.q9 T.b_qg .nil q1l.passes (q18 (q55 T.mk_q0t (z_qr T) hr.q9 rfl T.c_q0t T.b_qr .nil q1l.passes (q18 q1h (q18 (pv 1) q1c))) q1c))))),q1z (C := ctOf T) ((q1g (q1p (q22 (c := 8) (show ∀ i ∈ flT 8,fnT i ≠ "check_free" by decide +kernel) q1a (q1b q1a q1d)))
 (q1p (q22 (c := 8) (show ∀ i ∈ flT 8,fnT i ≠ "hold" by decide +kernel) q1a (q1b (q4o (c := 4) rfl (q1b q1k (q1b q1a q1d))) q1d))))) rfl h⟩
theorem z_qo (T : Txt K mg A) : FnOk P w K mg base (CX1 P w) 5 A.a_qo A.fd_qo ["self", "name"] (spZ (ctOf T) 2 m_qo) := by
  refine T.F_qo.okR sc_qo (fun vs H Q E h => q20 h) (fun cdv A' outer s H vs Q E hr h => ?_)
  have nd := sc_qo.nd
  have hu := q2d hr
  exact ⟨_,(q1f (q1q (q24 (pv 0) T.Cls_q0c T.m_qa (z_qa T) hr.q9 T.b_qa .nil q1l.passes (q18 (pv 1) q1c)))
 (q1i (q1q (q24 (pv 0) T.Cls_q0c T.m_qg (z_qg T) hr.q9 T.b_qg .nil q1l.passes (q18 (q55 T.mk_q0t (z_qr T) hr.q9 rfl T.c_q0t T.b_qr .nil q1l.passes (q18 q1h (q18 (pv 1) q1c))) q1c))))),q1z (C := ctOf T) ((q1g (q1p (q22 (c := 8) (show ∀ i ∈ flT 8,fnT i ≠ "check_free" by decide +kernel) q1a (q1b q1a q1d)))
 (q1p (q22 (c := 8) (show ∀ i ∈ flT 8,fnT i ≠ "hold" by decide +kernel) q1a (q1b (q4o (c := 4) rfl (q1b q1k (q1b q1a q1d))) q1d))))) rfl h⟩
theorem z_qt (T : Txt K mg A) : FnOk P w K mg base (CX1 P w) 4 A.a_qt A.fd_qt ["self", "name"] (spZ (ctOf T) 2 m_qt) := by
  refine T.F_qt.okR sc_qt (fun vs H Q E h => q20 h) (fun cdv A' outer s H vs Q E hr h => ?_)
  have nd := sc_qt.nd
  have hu := q2d hr
  exact ⟨_,(q1f (q1q (q24 (pv 0) T.Cls_q0c T.m_qa (z_qa T) hr.q9 T.b_qa .nil q1l.passes (q18 (pv 1) q1c)))
 (q1i (q1q (q24 (pv 0) T.Cls_q0c T.m_qg (z_qg T) hr.q9 T.b_qg .nil q1l.passes (q18 (q55 T.mk_q0v (z_qb T) hr.q9 rfl T.c_q0v T.b_qb .nil q1l.passes (q18 q1h (q18 (pv 1) q1c))) q1c))))),q1z (C := ctOf T) ((q1g (q1p (q22 (c := 8) (show ∀ i ∈ flT 8,fnT i ≠ "check_free" by decide +kernel) q1a (q1b q1a q1d)))
 (q1p (q22 (c := 8) (show ∀ i ∈ flT 8,fnT i ≠ "hold" by decide +kernel) q1a (q1b (q4o (c := 0) rfl (q1b q1k (q1b q1a q1d))) q1d))))) rfl h⟩
theorem z_q04 (T : Txt K mg A) : FnOk P w K mg base (CX1 P w) 3 A.a_q04 A.fd_q04 ["self", "name", "damp", "warmth"] (spZ (ctOf T) 4 m_q04) := by
  refine T.F_q04.okR sc_q04 (fun vs H Q E h => q20 h) (fun cdv A' outer s H vs Q E hr h => ?_)
  have nd := sc_q04.nd
  have hu := q2d hr
  exact ⟨_,(q1f (q1q (q6d rfl T.c_q0v T.B_qb (z_qb T) hr.q9 T.b_qb .nil q1l.passes (q18 (pv 0) (q18 q1h (q18 (pv 1) q1c)))))
 (q1f (q2p (pv 0) (pv 2) rfl)
 (q1i (q2p (pv 0) (pv 3) rfl)))),q1z (C := ctOf T) ((q1g (q1p (q28 (q1b q1a (q1b q1k (q1b q1a q1d)))))
 (q1g (q2l (i := 2) rfl q1a q1a)
 (q2l (i := 3) rfl q1a q1a)))) rfl h⟩
theorem z_qu (T : Txt K mg A) : FnOk P w K mg base (CX1 P w) 5 A.a_qu A.fd_qu ["self", "name", "damp", "warmth"] (spZ (ctOf T) 4 m_qu) := by
  refine T.F_qu.okR sc_qu (fun vs H Q E h => q20 h) (fun cdv A' outer s H vs Q E hr h => ?_)
  have nd := sc_qu.nd
  have hu := q2d hr
  exact ⟨_,(q1f (q1q (q24 (pv 0) T.Cls_q0c T.m_qa (z_qa T) hr.q9 T.b_qa .nil q1l.passes (q18 (pv 1) q1c)))
 (q1f (q1q (q2r (z_q05 T) hr.q9 rfl T.d_q05 T.F_q05.kp T.b_q05 .nil q1l.passes (q18 (pv 2) (q18 q1n (q18 (q5w rfl T.g_q16) q1c)))))
 (q1f (q1q (q2r (z_q05 T) hr.q9 rfl T.d_q05 T.F_q05.kp T.b_q05 .nil q1l.passes (q18 (pv 3) (q18 q1n (q18 (q5w rfl T.g_q12) q1c)))))
 (q1i (q1q (q24 (pv 0) T.Cls_q0c T.m_qg (z_qg T) hr.q9 T.b_qg .nil q1l.passes (q18 (q55 T.mk_q0z (z_q04 T) hr.q9 rfl T.c_q0z T.b_q04 .nil q1l.passes (q18 (pv 1) (q18 (pv 2) (q18 (pv 3) q1c)))) q1c))))))),q1z (C := ctOf T) ((q1g (q1p (q22 (c := 8) (show ∀ i ∈ flT 8,fnT i ≠ "check_free" by decide +kernel) q1a (q1b q1a q1d)))
 (q1g (q1p (q28 (q1b q1a (q1b q1m (q1b q1m q1d)))))
 (q1g (q1p (q28 (q1b q1a (q1b q1m (q1b q1m q1d)))))
 (q1p (q22 (c := 8) (show ∀ i ∈ flT 8,fnT i ≠ "hold" by decide +kernel) q1a (q1b (q4o (c := 1) rfl (q1b q1a (q1b q1a (q1b q1a q1d)))) q1d))))))) rfl h⟩
theorem z_qz (T : Txt K mg A) : FnOk P w K mg base (CX1 P w) 3 A.a_qz A.fd_qz ["self", "name", "room"] (spZ (ctOf T) 3 m_qz) := by
  refine T.F_qz.okR sc_qz (fun vs H Q E h => q20 h) (fun cdv A' outer s H vs Q E hr h => ?_)
  have nd := sc_qz.nd
  have hu := q2d hr
  exact ⟨_,(q1f (q1q (q6d rfl T.c_q0v T.B_qb (z_qb T) hr.q9 T.b_qb .nil q1l.passes (q18 (pv 0) (q18 q1h (q18 (pv 1) q1c)))))
 (q1i (q2p (pv 0) (pv 2) rfl))),q1z (C := ctOf T) ((q1g (q1p (q28 (q1b q1a (q1b q1k (q1b q1a q1d)))))
 (q2l (i := 4) rfl q1a q1a))) rfl h⟩
theorem z_qp (T : Txt K mg A) : FnOk P w K mg base (CX1 P w) 5 A.a_qp A.fd_qp ["self", "name", "room"] (spZ (ctOf T) 3 m_qp) := by
  refine T.F_qp.okR sc_qp (fun vs H Q E h => q20 h) (fun cdv A' outer s H vs Q E hr h => ?_)
  have nd := sc_qp.nd
  have hu := q2d hr
  exact ⟨_,(q1f (q1q (q24 (pv 0) T.Cls_q0c T.m_qa (z_qa T) hr.q9 T.b_qa .nil q1l.passes (q18 (pv 1) q1c)))
 (q1i (q1q (q24 (pv 0) T.Cls_q0c T.m_qg (z_qg T) hr.q9 T.b_qg .nil q1l.passes (q18 (q55 T.mk_q0x (z_qz T) hr.q9 rfl T.c_q0x T.b_qz .nil q1l.passes (q18 (pv 1) (q18 (q24 (pv 0) T.Cls_q0c T.m_qf (z_qf T) hr.q9 T.b_qf .nil q1l.passes (q18 (pv 2) (q18 q1h q1c))) q1c))) q1c))))),q1z (C := ctOf T) ((q1g (q1p (q22 (c := 8) (show ∀ i ∈ flT 8,fnT i ≠ "check_free" by decide +kernel) q1a (q1b q1a q1d)))
 (q1p (q22 (c := 8) (show ∀ i ∈ flT 8,fnT i ≠ "hold" by decide +kernel) q1a (q1b (q4o (c := 2) rfl (q1b q1a (q1b (q22 (c := 8) (show ∀ i ∈ flT 8,fnT i ≠ "known" by decide +kernel) q1a (q1b q1a (q1b q1k q1d))) q1d))) q1d))))) rfl h⟩
theorem z_q03 (T : Txt K mg A) : FnOk P w K mg base (CX1 P w) 3 A.a_q03 A.fd_q03 ["self", "name", "mouldy", "turn_gap", "wash_gap", "route"] (spZ (ctOf T) 6 m_q03) := by
  refine T.F_q03.okR sc_q03 (fun vs H Q E h => q20 h) (fun cdv A' outer s H vs Q E hr h => ?_)
  have nd := sc_q03.nd
  have hu := q2d hr
  exact ⟨_,(q1f (q1q (q6d rfl T.c_q0v T.B_qb (z_qb T) hr.q9 T.b_qb .nil q1l.passes (q18 (pv 0) (q18 q1h (q18 (pv 1) q1c)))))
 (q1f (q2p (pv 0) (pv 2) rfl)
 (q1f (q2p (pv 0) (pv 3) rfl)
 (q1f (q2p (pv 0) (pv 4) rfl)
 (q1f (q2p (pv 0) (q6n (osc := q1e s_q03) (N0 := ["self", "name", "mouldy", "turn_gap", "wash_gap", "route"]) rfl rfl rfl (own := ["room", "least", "most"]) (fv := []) ⟨rfl,by decide +kernel,by decide +kernel,by decide +kernel,by decide +kernel,by decide +kernel⟩ (q3s (pv 5)) (fun _ _ _ => (q72 (K := K) (n := 3) rfl rfl rfl (q2o (q25 (i := 0) (show (["room", "least", "most"] : List Str).Nodup by decide +kernel) rfl (Or.inl rfl) (hf := Or.inr rfl)) (q2o (q25 (i := 1) (show (["room", "least", "most"] : List Str).Nodup by decide +kernel) rfl (Or.inl rfl) (hf := Or.inr rfl)) (q2o (q25 (i := 2) (show (["room", "least", "most"] : List Str).Nodup by decide +kernel) rfl (Or.inl rfl) (hf := Or.inr rfl)) q5a))))) (fun _ _ _ => q4r) (fun _ _ _ => (pv 0))) rfl)
 (q1i (q2p (pv 0) (q6n (osc := q1e s_q03) (N0 := ["self", "name", "mouldy", "turn_gap", "wash_gap", "route"]) rfl rfl rfl (own := ["room", "least", "most"]) (fv := []) ⟨rfl,by decide +kernel,by decide +kernel,by decide +kernel,by decide +kernel,by decide +kernel⟩ (q3s (pv 5)) (fun _ _ _ => (q72 (K := K) (n := 3) rfl rfl rfl (q2o (q25 (i := 0) (show (["room", "least", "most"] : List Str).Nodup by decide +kernel) rfl (Or.inl rfl) (hf := Or.inr rfl)) (q2o (q25 (i := 1) (show (["room", "least", "most"] : List Str).Nodup by decide +kernel) rfl (Or.inl rfl) (hf := Or.inr rfl)) (q2o (q25 (i := 2) (show (["room", "least", "most"] : List Str).Nodup by decide +kernel) rfl (Or.inl rfl) (hf := Or.inr rfl)) q5a))))) (fun _ _ _ => q4r) (fun _ _ _ => (q2c (q18 (pv 1) (q18 (pv 2) q1c))))) rfl))))))),q1z (C := ctOf T) ((q1g (q1p (q28 (q1b q1a (q1b q1k (q1b q1a q1d)))))
 (q1g (q2l (i := 5) rfl q1a q1a)
 (q1g (q2l (i := 6) rfl q1a q1a)
 (q1g (q2l (i := 7) rfl q1a q1a)
 (q1g (q2l (i := 8) rfl q1a (q5z (own := ["room", "least", "most"]) (fv := []) (q3v q1a) (q7a (q2w q2k (q2w q2k (q2w q2k q5s)))) q5m q1a))
 (q2l (i := 9) rfl q1a (q5z (own := ["room", "least", "most"]) (fv := []) (q3v q1a) (q7a (q2w q2k (q2w q2k (q2w q2k q5s)))) q5m (q2e (q1b q1a (q1b q1a q1d))))))))))) rfl h⟩
theorem z_qk (T : Txt K mg A) : FnOk P w K mg base (CX1 P w) 5 A.a_qk A.fd_qk ["self", "name", "mouldy", "turn_gap", "wash_gap", "route"] (spZ (ctOf T) 6 m_qk) := by
  refine T.F_qk.okR sc_qk (fun vs H Q E h => q20 h) (fun cdv A' outer s H vs Q E hr h => ?_)
  have nd := sc_qk.nd
  have hu := q2d hr
  exact ⟨_,(q1f (q1q (q24 (pv 0) T.Cls_q0c T.m_qa (z_qa T) hr.q9 T.b_qa .nil q1l.passes (q18 (pv 1) q1c)))
 (q1f (qg7 (osc := q1e s_qk) (N0 := ["self", "name", "mouldy", "turn_gap", "wash_gap", "route", "rooms", "gap"]) (i := 6) rfl rfl rfl nd rfl (Or.inl rfl) (own := ["room", "least", "most"]) (fv := [("self",0)]) ⟨rfl,by decide +kernel,by decide +kernel,by decide +kernel,by decide +kernel,by decide +kernel⟩ (q3s (pv 5)) (fun _ _ _ => (q72 (K := K) (n := 3) rfl rfl rfl (q2o (q25 (i := 0) (show (["room", "least", "most", "self"] : List Str).Nodup by decide +kernel) rfl (Or.inl rfl) (hf := Or.inr rfl)) (q2o (q25 (i := 1) (show (["room", "least", "most", "self"] : List Str).Nodup by decide +kernel) rfl (Or.inl rfl) (hf := Or.inr rfl)) (q2o (q25 (i := 2) (show (["room", "least", "most", "self"] : List Str).Nodup by decide +kernel) rfl (Or.inl rfl) (hf := Or.inr rfl)) q5a))))) (fun _ _ _ => q4r) (fun _ _ _ => (qci (K := K) rfl (q24 (pv 3) T.Cls_q0c T.m_qf (z_qf T) hr.q9 T.b_qf .nil q3d (q18 (pv 0) (q18 q1h q1c))) rfl)))
 (q1f (q4m PassesOwn.leaving rfl (q3s (q2s q6t (q35 (q18 (pv 3) (q18 (pv 4) q1c))) (q6n (osc := q1e s_qk) (N0 := ["self", "name", "mouldy", "turn_gap", "wash_gap", "route", "rooms", "gap"]) rfl rfl rfl (own := ["room", "least", "most"]) (fv := []) ⟨rfl,by decide +kernel,by decide +kernel,by decide +kernel,by decide +kernel,by decide +kernel⟩ (q3s (pv 5)) (fun _ _ _ => (q72 (K := K) (n := 3) rfl rfl rfl (q2o (q25 (i := 0) (show (["room", "least", "most"] : List Str).Nodup by decide +kernel) rfl (Or.inl rfl) (hf := Or.inr rfl)) (q2o (q25 (i := 1) (show (["room", "least", "most"] : List Str).Nodup by decide +kernel) rfl (Or.inl rfl) (hf := Or.inr rfl)) (q2o (q25 (i := 2) (show (["room", "least", "most"] : List Str).Nodup by decide +kernel) rfl (Or.inl rfl) (hf := Or.inr rfl)) q5a))))) (fun _ _ _ => q4r) (fun _ _ _ => (q2c (q18 (pv 1) (q18 (pv 2) q1c))))))) (q25 (i := 7) nd rfl (Or.inl rfl))
 (q1i (q1q (q2r (z_q0q T) hr.q9 rfl T.d_q0q T.F_q0q.kp T.b_q0q .nil q1l.passes (q18 (q33 q2x (pv 7) q1n (fun _ _ => rfl)) (q18 (q33 q2x (pv 7) q1n (fun _ _ => rfl)) q1c))))))
 (q1f (q39 (q37 op_lt (q23 qer rfl T.n_len PySem.boot_len (q18 (q36 (qeb rfl) rfl T.n_set PyProof.Rows.boot_set (q18 (pv 6) q1c)) q1c)) (q23 q5f rfl T.n_len PySem.boot_len (q18 (pv 6) q1c)) (q3g _))
 (q1i (q45 q1l hr.hd rfl T.c_qw T.x_qw PySem.F.excBase_ValueError rfl PySem.F.excBase_ValueError (q18 q1h q1c)))
 q2n)
 (q1i (q1q (q24 (pv 0) T.Cls_q0c T.m_qg (z_qg T) hr.q9 T.b_qg .nil q1l.passes (q18 (q55 T.mk_q0w (z_q03 T) hr.q9 rfl T.c_q0w T.b_q03 .nil q1l.passes (q18 (pv 1) (q18 (pv 2) (q18 (pv 3) (q18 (pv 4) (q18 (pv 5) q1c)))))) q1c)))))))),q1z (C := ctOf T) ((q1g (q1p (q22 (c := 8) (show ∀ i ∈ flT 8,fnT i ≠ "check_free" by decide +kernel) q1a (q1b q1a q1d)))
 (q1g (q2h (q5z (own := ["room", "least", "most"]) (fv := [("self",0)]) (q3v q1a) (q7a (q2w q2k (q2w q2k (q2w q2k q5s)))) q5m (q1w rfl (q22 (c := 8) (show ∀ i ∈ flT 8,fnT i ≠ "known" by decide +kernel) q1a (q1b q1a (q1b q1k q1d))))) q1v)
 (q1g (q4l (q3v (q1o q7w (q3m (q1b q1a (q1b q1a q1d))) (q5z (own := ["room", "least", "most"]) (fv := []) (q3v q1a) (q7a (q2w q2k (q2w q2k (q2w q2k q5s)))) q5m (q2e (q1b q1a (q1b q1a q1d)))))) q1v
 (q1p (q28 (q1b (q1o q34 q1a q1m) (q1b (q1o q34 q1a q1m) q1d)))))
 (q1g (q38 (q32 (q1o s2_lt (qe5 q1a) (q3f q6r (q1b q1a q1d))))
 (q47 (c := 26) ms_lit)
 q2m)
 (q1p (q22 (c := 8) (show ∀ i ∈ flT 8,fnT i ≠ "hold" by decide +kernel) q1a (q1b (q4o (c := 3) rfl (q1b q1a (q1b q1a (q1b q1a (q1b q1a (q1b q1a q1d)))))) q1d)))))))) rfl h⟩
theorem z_q00 (T : Txt K mg A) : FnOk P w K mg base (CX1 P w) 3 A.a_q00 A.fd_q00 ["self", "name", "recipe", "shelf", "grams", "day"] (spZ (ctOf T) 6 m_q00) := by
  refine T.F_q00.okR sc_q00 (fun vs H Q E h => q20 h) (fun cdv A' outer s H vs Q E hr h => ?_)
  have nd := sc_q00.nd
  have hu := q2d hr
  exact ⟨_,(q1f (q1q (q6d rfl T.c_q0v T.B_qb (z_qb T) hr.q9 T.b_qb .nil q1l.passes (q18 (pv 0) (q18 q1h (q18 (pv 1) q1c)))))
 (q1f (q2p (pv 0) (pv 2) rfl)
 (q1f (q2p (pv 0) (pv 3) rfl)
 (q1f (q2p (pv 0) (pv 4) rfl)
 (q1f (q2p (pv 0) q1n rfl)
 (q1f (q2p (pv 0) (pv 5) rfl)
 (q1f (q2p (pv 0) (pv 5) rfl)
 (q1f (q2p (pv 0) (pv 5) rfl)
 (q1i (q2p (pv 0) q52 rfl)))))))))),q1z (C := ctOf T) ((q1g (q1p (q28 (q1b q1a (q1b q1k (q1b q1a q1d)))))
 (q1g (q2l (i := 11) rfl q1a q1a)
 (q1g (q2l (i := 12) rfl q1a q1a)
 (q1g (q2l (i := 10) rfl q1a q1a)
 (q1g (q2l (i := 13) rfl q1a q1m)
 (q1g (q2l (i := 14) rfl q1a q1a)
 (q1g (q2l (i := 15) rfl q1a q1a)
 (q1g (q2l (i := 16) rfl q1a q1a)
 (q2l (i := 17) rfl q1a q4z)))))))))) rfl h⟩
theorem z_qq (T : Txt K mg A) : FnOk P w K mg base (CX1 P w) 5 A.a_qq A.fd_qq ["self", "name", "batch", "sort", "shelf", "grams"] (spZ (ctOf T) 6 m_qq) := by
  refine T.F_qq.okR sc_qq (fun vs H Q E h => q20 h) (fun cdv A' outer s H vs Q E hr h => ?_)
  have nd := sc_qq.nd
  have hu := q2d hr
  exact ⟨_,(q1f (q1q (q24 (pv 0) T.Cls_q0c T.m_qa (z_qa T) hr.q9 T.b_qa .nil q1l.passes (q18 (pv 1) q1c)))
 (q1f (q2g (i := 6) nd rfl (Or.inl rfl) (q24 (pv 0) T.Cls_q0c T.m_qf (z_qf T) hr.q9 T.b_qf .nil q1l.passes (q18 (pv 2) (q18 q1h q1c))))
 (q1f (q2g (i := 7) nd rfl (Or.inl rfl) (q24 (pv 0) T.Cls_q0c T.m_qf (z_qf T) hr.q9 T.b_qf .nil q1l.passes (q18 (pv 3) (q18 q1h q1c))))
 (q1f (q2g (i := 8) nd rfl (Or.inl rfl) (q24 (pv 0) T.Cls_q0c T.m_qf (z_qf T) hr.q9 T.b_qf .nil q1l.passes (q18 (pv 4) (q18 q1h q1c))))
 (q1f (q1q (q2r (z_q0h T) hr.q9 rfl T.d_q0h T.F_q0h.kp T.b_q0h .nil q1l.passes (q18 (pv 5) q1c)))
 (q1f (q39 (q6v (q4d (q2r (z_q0p T) hr.q9 rfl T.d_q0p T.F_q0p.kp T.b_q0p .nil q1l.passes (q18 (pv 8) (q18 (pv 7) (q18 q1n q1c))))))
 (q1i (q45 q1l hr.hd rfl T.c_qw T.x_qw PySem.F.excBase_ValueError rfl PySem.F.excBase_ValueError (q18 (q54 (q2a q1h (q2a (q6c (pv 3)) (q2a q1h (q2a (q6c (pv 4)) q67))))) q1c)))
 q2n)
 (q1f (q1q (q2r (z_q0k T) hr.q9 rfl T.d_q0k T.F_q0k.kp T.b_q0k .nil q1l.passes (q18 (pv 5) (q18 (q1y (pv 6) rfl) q1c))))
 (q1f (q87 (pv 6) (pv 5) qem)
 (q1f (q2g (i := 9) nd rfl (Or.inl rfl) (q55 T.mk_q0r (z_q00 T) hr.q9 rfl T.c_q0r T.b_q00 .nil q1l.passes (q18 (pv 1) (q18 (pv 7) (q18 (pv 8) (q18 (pv 5) (q18 (q1y (pv 0) rfl) q1c)))))))
 (q1f (q1q (q24 (pv 0) T.Cls_q0c T.m_qg (z_qg T) hr.q9 T.b_qg .nil q1l.passes (q18 (pv 9) q1c)))
 (q1f (q1q (q5i PySem.F.plainAttrs_list PySem.F.slot_list_append PySem.F.type_list_append q3e (q1y (pv 0) rfl) (q18 (pv 9) q1c)))
 (q1i (q1q (q5i PySem.F.plainAttrs_list PySem.F.slot_list_append PySem.F.type_list_append q3e (q1y (pv 0) rfl) (q18 (q2c (q18 (q1y (pv 0) rfl) (q18 q1h (q18 (pv 1) (q18 (pv 2) (q18 (pv 3) (q18 (pv 4) (q18 (pv 5) q1c)))))))) q1c))))))))))))))),q1z (C := ctOf T) ((q1g (q1p (q22 (c := 8) (show ∀ i ∈ flT 8,fnT i ≠ "check_free" by decide +kernel) q1a (q1b q1a q1d)))
 (q1g (q2h (q22 (c := 8) (show ∀ i ∈ flT 8,fnT i ≠ "known" by decide +kernel) q1a (q1b q1a (q1b q1k q1d))) q1v)
 (q1g (q2h (q22 (c := 8) (show ∀ i ∈ flT 8,fnT i ≠ "known" by decide +kernel) q1a (q1b q1a (q1b q1k q1d))) q1v)
 (q1g (q2h (q22 (c := 8) (show ∀ i ∈ flT 8,fnT i ≠ "known" by decide +kernel) q1a (q1b q1a (q1b q1k q1d))) q1v)
 (q1g (q1p (q28 (q1b q1a q1d)))
 (q1g (q38 (q6u (st_b (q28 (q1b q1a (q1b q1a (q1b q1m q1d))))))
 (q47 (c := 26) (q53 (q3l (q6b q1a (q3l (q6b q1a q5d)))) (by decide +kernel)))
 q2m)
 (q1g (q1p (q28 (q1b q1a (q1b (q1w rfl q1a) q1d))))
 (q1g (q7x (i := 10) rfl qcc q1a q1a)
 (q1g (q2h (q4o (c := 6) rfl (q1b q1a (q1b q1a (q1b q1a (q1b q1a (q1b (q1w rfl q1a) q1d)))))) q1v)
 (q1g (q1p (q22 (c := 8) (show ∀ i ∈ flT 8,fnT i ≠ "hold" by decide +kernel) q1a (q1b q1a q1d)))
 (q1g (q1p (q4t q3q (q1w rfl q1a) (q1b q1a q1d)))
 (q1p (q4t q3q (q1w rfl q1a) (q1b (q2e (q1b (q1w rfl q1a) (q1b q1k (q1b q1a (q1b q1a (q1b q1a (q1b q1a (q1b q1a q1d)))))))) q1d))))))))))))))) rfl h⟩
theorem z_q0f (T : Txt K mg A) : FnOk P w K mg base (CX1 P w) 6 A.a_q0f A.fd_q0f [] (spZ (ctOf T) 0 m_q0f) := by
  refine T.F_q0f.okR sc_q0f (fun vs H Q E h => q20 h) (fun cdv A' outer s H vs Q E hr h => ?_)
  have nd := sc_q0f.nd
  have hu := q2d hr
  exact ⟨_,(q1f (q2g (i := 0) nd rfl (Or.inl rfl) (qfq T.mk_q0c (z_qv T) hr.q9 rfl T.c_q0c T.b_qv .nil q1l.passes))
 (q1f (q1q (q24 (pv 0) T.Cls_q0c T.m_qu (z_qu T) hr.q9 T.b_qu .nil q1l.passes (q18 q1h (q18 q1n (q18 q1n q1c)))))
 (q1f (q1q (q24 (pv 0) T.Cls_q0c T.m_qp (z_qp T) hr.q9 T.b_qp .nil q1l.passes (q18 q1h (q18 q1h q1c))))
 (q1f (q1q (q24 (pv 0) T.Cls_q0c T.m_qk (z_qk T) hr.q9 T.b_qk .nil q1l.passes (q18 q1h (q18 q52 (q18 (q2c (q18 q1n (q18 q1n q1c))) (q18 (q2c (q18 q1n (q18 q1n q1c))) (q18 (q35 (q18 (q2c (q18 q1h (q18 q1n (q18 q1n q1c)))) q1c)) q1c)))))))
 (q1f (q1q (q24 (pv 0) T.Cls_q0c T.m_qk (z_qk T) hr.q9 T.b_qk .nil q1l.passes (q18 q1h (q18 q52 (q18 (q2c (q18 q1n (q18 q1n q1c))) (q18 (q2c (q18 q1n (q18 q1n q1c))) (q18 (q35 (q18 (q2c (q18 q1h (q18 q1n (q18 q1n q1c)))) q1c)) q1c)))))))
 (q1f (q1q (q24 (pv 0) T.Cls_q0c T.m_qt (z_qt T) hr.q9 T.b_qt .nil q1l.passes (q18 q1h q1c)))
 (q1f (q1q (q24 (pv 0) T.Cls_q0c T.m_qj (z_qj T) hr.q9 T.b_qj .nil q1l.passes (q18 q1h (q18 (q35 (q18 (q2c (q18 q1h (q18 q1n q1c))) q1c)) q1c))))
 (q1f (q4m PassesOwn.leaving rfl (q59 rfl T.n_range (q18 q1n q1c)) (q25 (i := 1) nd rfl (Or.inl rfl))
 (q1i (q1q (q24 (pv 0) T.Cls_q0c T.m_qq (z_qq T) hr.q9 T.b_qq .nil q1l.passes (q18 (q2s q41 q1h (q36 q4g rfl T.n_str PyProof.Rows.boot_str (q18 (pv 1) q1c))) (q18 q1h (q18 (q33 q2x (q35 (q18 q1h (q18 q1h q1c))) (q2s q6f (pv 1) q1n) (fun _ _ => rfl)) (q18 q1h (q18 q1n q1c)))))))))
 (q1f (q4m PassesOwn.leaving rfl (q59 rfl T.n_range (q18 q1n q1c)) (q25 (i := 1) nd rfl (Or.inl rfl))
 (q1f (q1q (q24 (pv 0) T.Cls_q0c T.m_qm (z_qm T) hr.q9 T.b_qm .nil q1l.passes (q18 (q2s q41 q1h (q36 q4g rfl T.n_str PyProof.Rows.boot_str (q18 (pv 1) q1c))) q1c)))
 (q1i (q1q (q24 (pv 0) T.Cls_q0c T.m_qo (z_qo T) hr.q9 T.b_qo .nil q1l.passes (q18 (q2s q41 q1h (q36 q4g rfl T.n_str PyProof.Rows.boot_str (q18 (pv 1) q1c))) q1c))))))
 (q1i (q3c (pv 0)))))))))))),q1z (C := ctOf T) ((q1g (q2h (q4o (c := 8) rfl q1d) q1v)
 (q1g (q1p (q22 (c := 8) (show ∀ i ∈ flT 8,fnT i ≠ "new_room" by decide +kernel) q1a (q1b q1k (q1b q1m (q1b q1m q1d)))))
 (q1g (q1p (q22 (c := 8) (show ∀ i ∈ flT 8,fnT i ≠ "new_shelf" by decide +kernel) q1a (q1b q1k (q1b q1k q1d))))
 (q1g (q1p (q22 (c := 8) (show ∀ i ∈ flT 8,fnT i ≠ "new_sort" by decide +kernel) q1a (q1b q1k (q1b q4z (q1b (q2e (q1b q1m (q1b q1m q1d))) (q1b (q2e (q1b q1m (q1b q1m q1d))) (q1b (q3m (q1b (q2e (q1b q1k (q1b q1m (q1b q1m q1d)))) q1d)) q1d)))))))
 (q1g (q1p (q22 (c := 8) (show ∀ i ∈ flT 8,fnT i ≠ "new_sort" by decide +kernel) q1a (q1b q1k (q1b q4z (q1b (q2e (q1b q1m (q1b q1m q1d))) (q1b (q2e (q1b q1m (q1b q1m q1d))) (q1b (q3m (q1b (q2e (q1b q1k (q1b q1m (q1b q1m q1d)))) q1d)) q1d)))))))
 (q1g (q1p (q22 (c := 8) (show ∀ i ∈ flT 8,fnT i ≠ "new_farm" by decide +kernel) q1a (q1b q1k q1d)))
 (q1g (q1p (q22 (c := 8) (show ∀ i ∈ flT 8,fnT i ≠ "new_batch" by decide +kernel) q1a (q1b q1k (q1b (q3m (q1b (q2e (q1b q1k (q1b q1m q1d))) q1d)) q1d))))
 (q1g (q4l (q5e q1m) q1v
 (q1p (q22 (c := 8) (show ∀ i ∈ flT 8,fnT i ≠ "new_wheel" by decide +kernel) q1a (q1b (q1o q5o q1k (q3f q5q (q1b q1a q1d))) (q1b q1k (q1b (q1o q34 (q3m (q1b q1k (q1b q1k q1d))) (q1o q6g q1a q1m)) (q1b q1k (q1b q1m q1d))))))))
 (q1g (q4l (q5e q1m) q1v
 (q1g (q1p (q22 (c := 8) (show ∀ i ∈ flT 8,fnT i ≠ "new_brine" by decide +kernel) q1a (q1b (q1o q5o q1k (q3f q5q (q1b q1a q1d))) q1d)))
 (q1p (q22 (c := 8) (show ∀ i ∈ flT 8,fnT i ≠ "new_cloth" by decide +kernel) q1a (q1b (q1o q5o q1k (q3f q5q (q1b q1a q1d))) q1d)))))
 (q3a q1a))))))))))) rfl h⟩
theorem z_q0d (T : Txt K mg A) : FnOk P w K mg base (CX1 P w) 1 A.a_q0d A.fd_q0d ["_law_entries", "_law_tool"] (spZ (ctOf T) 2 m_q0d) := by
  refine T.F_q0d.okR sc_q0d (fun vs H Q E h => q20 h) (fun cdv A' outer s H vs Q E hr h => ?_)
  have nd := sc_q0d.nd
  have hu := q2d hr
  exact ⟨_,(q1f (q4m PassesOwn.leaving rfl (q3s (pe_rev (pv 0) (pe_un un_neg q1n) (fun _ _ _ q => ⟨_,rfl,q⟩))) (q25 (i := 2) nd rfl (Or.inl rfl))
 (q1f (q39 (PW.pt (q84 (q37 q5k (q33 q2x (pv 2) q1n (fun _ _ => rfl)) q1h (q3g _)) (q8a (q37 q5k (q33 q2x (pv 2) q1n (fun _ _ => rfl)) (pv 1) (q3g _)))))
 (q1i (q3c q52))
 q2n)
 (q1i (q39 (PW.pt (q84 (q37 q5k (q33 q2x (pv 2) q1n (fun _ _ => rfl)) q1h (q3g _)) (q84 (q37 q5j (pv 1) (q5u qgw (pv 2) (q5v q1n) q6x) rfl) (q8a (q37 q5j (q33 q2x (pv 2) q1n (fun _ _ => rfl)) (q35 (q18 q1h (q18 q1h q1c))) rfl)))))
 (q1i (q3c q52))
 q2n))))
 (q1i (q3c q52))),q1z (C := ctOf T) ((q1g (q4l (q3v (se_rev q1a)) q1v
 (q1g (q38 (q83 (q32 (q1o q5h (q1o q34 q1a q1m) q1k)) (q32 (q1o q5h (q1o q34 q1a q1m) q1a)))
 (q3a q4z)
 q2m)
 (q38 (q83 (q32 (q1o q5h (q1o q34 q1a q1m) q1k)) (q83 (q32 (q1o q89 q1a (q8c s3_tup q1a (q5p q1m) q76))) (q32 (q1o q89 (q1o q34 q1a q1m) (q3m (q1b q1k (q1b q1k q1d)))))))
 (q3a q4z)
 q2m)))
 (q3a q4z))) rfl h⟩
theorem z_q02 (T : Txt K mg A) : FnOk P w K mg base (CX1 P w) 1 A.a_q02 A.fd_q02 ["self", "thing"] (spZ (ctOf T) 2 m_q02) := by
  refine T.F_q02.okR sc_q02 (fun vs H Q E h => q20 h) (fun cdv A' outer s H vs Q E hr h => ?_)
  have nd := sc_q02.nd
  have hu := q2d hr
  exact ⟨_,(q1f (q2g (i := 2) nd rfl (Or.inl rfl) (qb4 hu (q1y (pv 0) rfl) (pv 1) ⟨rfl,rfl,rfl,rfl⟩))
 (q1f (q39 (PW.pt (qat (q9a (qe9 (pv 2))) (q9n (q37 qan (q1y (pv 2) rfl) (q2c (q18 q1h (q18 q1h (q18 q1h q1c)))) rfl))))
 (q1i (q45 q1l hr.hd rfl T.c_q07 T.x_q07 PySem.F.excBase_ValueError rfl PySem.F.excBase_ValueError (q18 (q54 (q2a q1h (q2a (q9z (pv 1)) q67))) q1c)))
 q2n)
 (q1f (q39 (q37 q9g (q1y (pv 2) rfl) q1h (q3g _))
 (q1i (q2p (pv 2) q52 rfl))
 q2n)
 (q1i (q1q (q5i PySem.F.plainAttrs_list PySem.F.slot_list_append PySem.F.type_list_append q3e (q1y (pv 0) rfl) (q18 (q2c (q18 (q1y (pv 0) rfl) (q18 q1h (q18 (pv 1) q1c)))) q1c))))))),q1z (C := ctOf T) ((q1g (q2h (qbu (q1w rfl q1a) q1a) q1v)
 (q1g (q38 (qar (st_b (qez q1a)) (q32 (q1o q89 (q1w rfl q1a) (q2e (q1b q1k (q1b q1k (q1b q1k q1d)))))))
 (q47 (c := 23) (q53 (q3l (q9r q1a q5d)) (by decide +kernel)))
 q2m)
 (q1g (q38 (q32 (q1o q91 (q1w rfl q1a) q1k))
 (q2l (i := 5) rfl q1a q4z)
 q2m)
 (q1p (q4t q3q (q1w rfl q1a) (q1b (q2e (q1b (q1w rfl q1a) (q1b q1k (q1b q1a q1d)))) q1d))))))) rfl h⟩
theorem z_qh (T : Txt K mg A) : FnOk P w K mg base (CX1 P w) 2 A.a_qh A.fd_qh ["self"] (spZ (ctOf T) 1 m_qh) := by
  refine T.F_qh.okR sc_qh (fun vs H Q E h => q20 h) (fun cdv A' outer s H vs Q E hr h => ?_)
  have nd := sc_qh.nd
  have hu := q2d hr
  exact ⟨_,(q1f (q2g (i := 1) nd rfl (Or.inl rfl) (q35 q1c))
 (q1f (q4m PassesOwn.leaving rfl (q3s (q1y (pv 0) rfl)) (q25 (i := 2) nd rfl (Or.inl rfl))
 (q1i (q39 (q6v (q4d (q1y (pv 2) rfl)))
 (q1f (q2g (i := 3) nd rfl (Or.inl rfl) (q2r (z_q0m T) hr.q9 rfl T.d_q0m T.F_q0m.kp T.b_q0m .nil q1l.passes (q18 (pv 2) q1c)))
 (q1f (q87 (pv 2) (pv 3) qem)
 (q1i (q1q (q5i PySem.F.plainAttrs_list PySem.F.slot_list_append PySem.F.type_list_append q3e (pv 1) (q18 (q2c (q18 (q1y (pv 2) rfl) (q18 (q1y (q1y (q1y (pv 2) rfl) rfl) rfl) (q18 (q1y (q1y (pv 2) rfl) rfl) (q18 (pv 3) q1c))))) q1c))))))
 q2n)))
 (q1f (q1q (q5i PySem.F.plainAttrs_list PySem.F.slot_list_append PySem.F.type_list_append q3e (q1y (pv 0) rfl) (q18 (q2c (q18 (q1y (pv 0) rfl) (q18 q1h (q18 (q36 q6q rfl T.n_tuple PyProof.Rows.boot_tuple (q18 (pv 1) q1c)) q1c)))) q1c)))
 (q1i (q87 (pv 0) q1n in_add))))),q1z (C := ctOf T) ((q1g (q2h (q8b q1d) q1v)
 (q1g (q4l (q3v (q1w rfl q1a)) q1v
 (q38 (q6u (st_b (q1w rfl q1a)))
 (q1g (q2h (q28 (q1b q1a q1d)) q1v)
 (q1g (q7x (i := 10) rfl qcc q1a q1a)
 (q1p (q4t q3q q1a (q1b (q2e (q1b (q1w rfl q1a) (q1b (q1w rfl (q1w rfl (q1w rfl q1a))) (q1b (q1w rfl (q1w rfl q1a)) (q1b q1a q1d))))) q1d)))))
 q2m))
 (q1g (q1p (q4t q3q (q1w rfl q1a) (q1b (q2e (q1b (q1w rfl q1a) (q1b q1k (q1b (q3f q8s (q1b q1a q1d)) q1d)))) q1d)))
 (q7x (i := 18) rfl qhn q1a q1m))))) rfl h⟩
theorem z_qi (T : Txt K mg A) : FnOk P w K mg base (CX1 P w) 3 A.a_qi A.fd_qi ["self", "times"] (spZ (ctOf T) 2 m_qi) := by
  refine T.F_qi.choose_spec.choose_spec.okR sc_qi (fun vs H Q E h => q20 h) (fun cdv A' outer s H vs Q E hr h => ?_)
  have nd := sc_qi.nd
  have hu := q2d hr
  exact ⟨_,(q1f (q1q (q2r (z_q05 T) hr.q9 rfl T.d_q05 T.F_q05.kp T.b_q05 .nil q1l.passes (q18 (pv 1) (q18 q1n (q18 (q5w rfl T.g_q14) q1c)))))
 (q1i (q4m PassesOwn.leaving rfl (q59 rfl T.n_range (q18 (pv 1) q1c)) (q25 (i := 2) nd rfl (Or.inl rfl))
 (q1i (q1q (q8r (pv 0) T.Cls_q0c T.m_qh (z_qh T) hr.q9 T.b_qh .nil q1l.passes)))))),q1z (C := ctOf T) ((q1g (q1p (q28 (q1b q1a (q1b q1m (q1b q1m q1d)))))
 (q4l (q5e q1a) q1v
 (q1p (q22 (c := 8) (show ∀ i ∈ flT 8,fnT i ≠ "pass_night" by decide +kernel) q1a q1d))))) rfl h⟩
theorem z_q06 (T : Txt K mg A) : FnOk P w K mg base (CX1 P w) 1 A.a_q06 A.fd_q06 ["self"] (spZ (ctOf T) 1 m_q06) := by
  refine T.F_q06.okR sc_q06 (fun vs H Q E h => q20 h) (fun cdv A' outer s H vs Q E hr h => ?_)
  have nd := sc_q06.nd
  have hu := q2d hr
  exact ⟨_,(q1i (q3c (q36 qd5 rfl T.n_list PyProof.Rows.boot_list (q18 (q1y (pv 0) rfl) q1c)))),q1z (C := ctOf T) ((q3a (q3f qh1 (q1b (q1w rfl q1a) q1d)))) rfl h⟩
end
end K18
namespace K18
open PySem L2 Z PM
section
variable {P : Program} {w : World} {K : W.Frag} {mg : Str -> Option Value} {base : Heap} {A : Adr}
theorem ok_law (T : Txt K mg A) : FnOk P w K mg base CX0 7 A.a_law A.fd_law ["_law_script"] (q8x K) := by
  refine T.F_law.ok qdr (fun vs H Q E h => ?_) (fun cdv A' outer s H vs Q E hr h => ?_)
  . obtain ⟨a,ns,rfl,_⟩ := h
    rfl
  . have nd := qdr.nd
    have hu := q2d hr
    exact ⟨_,(q1f (q2g (i := 1) nd rfl (Or.inl rfl) (qgc (z_q0f T) hr.q9 rfl T.d_q0f T.F_q0f.kp T.b_q0f .nil q3d))
 (q1f (q2g (i := 2) nd rfl (Or.inl rfl) (q35 q1c))
 (q1f (q2g (i := 3) nd rfl (Or.inl rfl) q1n)
 (q1f (q4m PassesOwn.never rfl (q3s (q5u q6j (pv 0) q6x (q5v q1n))) (q25 (i := 4) nd rfl (Or.inl rfl))
 (q1i (q39 (q37 q5k (q2s q6f (pv 4) q1n) q1n (q3g _))
 (q1f (q2g (i := 5) nd rfl (Or.inl rfl) (q33 q2x (q35 (q18 q1h (q18 q1h (q18 q1h (q18 q1h (q18 q1h (q18 q1h (q18 q1h q1c)))))))) (q2s q6f (q2s q79 (pv 4) q1n) q1n) (fun _ _ => rfl)))
 (q1f (q1q (q24 (pv 1) T.Cls_q0c T.m_q02 (z_q02 T) hr.q9 T.b_q02 .nil q3d (q18 (pv 5) q1c)))
 (q1f (q1q (q5i PySem.F.plainAttrs_list PySem.F.slot_list_append PySem.F.type_list_append q3e (pv 2) (q18 (q2c (q18 (pv 3) (q18 q1h (q18 (pv 5) q1c)))) q1c)))
 (q1i (q39 (q37 q5k (q2s q6f (q2s q79 (pv 4) q1n) q1n) q1n (q3g _))
 (q1f (q1q (q8r (pv 1) T.Cls_q0c T.m_qi (z_qi T) hr.q9 T.bd_qi.choose_spec.2 T.bd_qi.choose_spec.1 q3d))
 (q1f (q1q (q5i PySem.F.plainAttrs_list PySem.F.slot_list_append PySem.F.type_list_append q3e (pv 2) (q18 (q2c (q18 (pv 3) (q18 q1h (q18 (q36 q6q rfl T.n_tuple PyProof.Rows.boot_tuple (q18 (q6n (osc := q1e q63) (N0 := ["_law_script", "_law_cellar", "_law_due", "_law_day", "_law_cell", "_law_tool", "_law_row", "_law_bad", "_law_told", "_law_k"]) rfl rfl rfl (own := ["_law_k"]) (fv := []) ⟨rfl,by decide +kernel,by decide +kernel,by decide +kernel,by decide +kernel,by decide +kernel⟩ (q59 rfl T.n_range (q18 q1n q1c)) (fun _ _ _ => (q25 (i := 0) (show (["_law_k"] : List Str).Nodup by decide +kernel) rfl (Or.inl rfl) (hf := Or.inr rfl))) (fun _ _ _ => q4r) (fun _ _ _ => (q2c (q18 (q2s q41 q1h (q36 q4g rfl T.n_str PyProof.Rows.boot_str (q18 (pv 0) q1c))) (q18 q1h (q18 q1h (q18 q1n q1c))))))) q1c)) q1c)))) q1c)))
 (q1i (q2g (i := 3) nd rfl (Or.inl rfl) (q2s qe1 (pv 3) q1n)))))
 q2n)))))
 (q1f (q2g (i := 6) nd rfl (Or.inl rfl) (q2c (q18 (q2s q41 q1h (q36 q4g rfl T.n_str PyProof.Rows.boot_str (q18 (q2s q6f (q2s q79 (pv 4) q1n) q1n) q1c))) (q18 (q2s q41 q1h (q36 q4g rfl T.n_str PyProof.Rows.boot_str (q18 (q2s q6f (q2s q79 (pv 4) q1n) q1n) q1c))) (q18 (q2s q41 q1h (q36 q4g rfl T.n_str PyProof.Rows.boot_str (q18 (q2s q6f (pv 4) q1n) q1c))) q1c)))))
 (q1f (q2g (i := 7) nd rfl (Or.inl rfl) (q7e (q58 q5j (q33 q2x (pv 6) q1n (fun _ _ => rfl)) (q35 (q18 q1h (q18 q1h q1c))) rfl) (q6y (pe_or (q2r (z_q0d T) hr.q9 rfl T.d_q0d T.F_q0d.kp T.b_q0d .nil q3d (q18 (pv 2) (q18 (q33 q2x (pv 6) q1n (fun _ _ => rfl)) q1c))) (q6y (q2r (z_q0d T) hr.q9 rfl T.d_q0d T.F_q0d.kp T.b_q0d .nil q3d (q18 (pv 2) (q18 (q33 q2x (pv 6) q1n (fun _ _ => rfl)) q1c))))))))
 (q1f (q39 (q37 q9g (q2r (z_q0i T) hr.q9 rfl T.d_q0i T.F_q0i.kp T.b_q0i .nil q3d (q18 (pv 1) (q18 (q33 q2x (pv 6) q1n (fun _ _ => rfl)) (q18 (q33 q2x (pv 6) q1n (fun _ _ => rfl)) (q18 (q33 q2x (pv 6) q1n (fun _ _ => rfl)) q1c))))) (q33 q2x (q35 (q18 q1h (q18 q1h q1c))) (q36 qdd rfl T.n_int PyProof.Rows.boot_int (q18 (pv 7) q1c)) (fun _ _ => rfl)) (q3g _))
 (q1i (q3c q52))
 q2n)
 (q1i (q39 (q6v (q4d (pv 7)))
 (q1i (q1q (q5i PySem.F.plainAttrs_list PySem.F.slot_list_append PySem.F.type_list_append q3e (pv 2) (q18 (q2s qg4 (q2c (q18 (pv 3) (q18 q1h q1c))) (pv 6)) q1c))))
 q2n))))))))
 (q1f (q2g (i := 8) nd rfl (Or.inl rfl) (q5u q6j (q8r (pv 1) T.Cls_q0c T.m_q06 (z_q06 T) hr.q9 T.b_q06 .nil q3d) (q5v q1n) q6x))
 (q1f (q4m PassesOwn.never rfl (q59 rfl T.n_range (q18 (q23 q5f rfl T.n_len PySem.boot_len (q18 (pv 8) q1c)) q1c)) (q25 (i := 9) nd rfl (Or.inl rfl))
 (q1i (q39 (PW.pt (q84 (q37 q5k (q33 q2x (q33 q2x (pv 8) (pv 9) (fun _ _ => rfl)) q1n (fun _ _ => rfl)) q1h (q3g _)) (q8a (q37 q5j (q33 q2x (q33 q2x (pv 8) (pv 9) (fun _ _ => rfl)) q1n (fun _ _ => rfl)) (q35 (q18 q1h (q18 q1h q1c))) rfl))))
 (q1i (q39 (PW.pt (qat (q4d (q2r (z_q0d T) hr.q9 rfl T.d_q0d T.F_q0d.kp T.b_q0d .nil q3d (q18 (q5u q6j (pv 8) q6x (q5v (pv 9))) (q18 (q33 q2x (q33 q2x (pv 8) (pv 9) (fun _ _ => rfl)) q1n (fun _ _ => rfl)) q1c)))) (q9n (q4d (q2r (z_q0d T) hr.q9 rfl T.d_q0d T.F_q0d.kp T.b_q0d .nil q3d (q18 (q5u q6j (pv 8) q6x (q5v (pv 9))) (q18 (q33 q2x (q33 q2x (pv 8) (pv 9) (fun _ _ => rfl)) q1n (fun _ _ => rfl)) q1c)))))))
 (q1i (q3c q52))
 q2n))
 q2n)))
 (q1i (q3c (q2r (z_q0a T 6) hr.q9 rfl T.d_q0a T.F_q0a.kp T.b_q0a .nil q3d (q18 (pv 8) (q18 (pv 2) q1c))))))))))),q1z (C := ctOf T) (E := E0) ((q1g (q2h (q28 q1d) q1v)
 (q1g (q2h (q8b q1d) q1v)
 (q1g (q2h q1m q1v)
 (q1g (q4l (q3v (q8c q7c q1a q76 (q5p q1m))) q1v
 (q38 (q32 (q1o q5h (q1o q6g q1a q1m) q1m))
 (q1g (q2h (q1o q34 (q3m (q1b q1k (q1b q1k (q1b q1k (q1b q1k (q1b q1k (q1b q1k (q1b q1k q1d)))))))) (q1o q6g (q1o q7u q1a q1m) q1m)) q1v)
 (q1g (q1p (q22 (c := 8) (show ∀ i ∈ flT 8,fnT i ≠ "boil" by decide +kernel) q1a (q1b q1a q1d)))
 (q1g (q1p (q4t q3q q1a (q1b (q2e (q1b q1a (q1b q1k (q1b q1a q1d)))) q1d)))
 (q38 (q32 (q1o q5h (q1o q6g (q1o q7u q1a q1m) q1m) q1m))
 (q1g (q1p (qfp (c := 8) [1] (show ∀ i ∈ flT 8,fnT i ≠ "night" by decide +kernel) q1a q1d))
 (q1g (q1p (q4t q3q q1a (q1b (q2e (q1b q1a (q1b q1k (q1b (q3f q8s (q1b (q5z (own := ["_law_k"]) (fv := []) (q5e q1m) q2k q5m (q2e (q1b (q1o q5o q1k (q3f q5q (q1b q1a q1d))) (q1b q1k (q1b q1k (q1b q1m q1d)))))) q1d)) q1d)))) q1d)))
 (q2h (q1o qby q1a q1m) q1v)))
 q2m))))
 (q1g (q2h (q2e (q1b (q1o q5o q1k (q3f q5q (q1b (q1o q6g (q1o q7u q1a q1m) q1m) q1d))) (q1b (q1o q5o q1k (q3f q5q (q1b (q1o q6g (q1o q7u q1a q1m) q1m) q1d))) (q1b (q1o q5o q1k (q3f q5q (q1b (q1o q6g q1a q1m) q1d))) q1d)))) q1v)
 (q1g (q2h (q75 (q1o q89 (q1o q34 q1a q1m) (q3m (q1b q1k (q1b q1k q1d)))) (se_or (q28 (q1b q1a (q1b (q1o q34 q1a q1m) q1d))) (q28 (q1b q1a (q1b (q1o q34 q1a q1m) q1d))))) q1v)
 (q1g (q38 (q32 (q1o q91 (q28 (q1b q1a (q1b (q1o q34 q1a q1m) (q1b (q1o q34 q1a q1m) (q1b (q1o q34 q1a q1m) q1d))))) (q1o q34 (q3m (q1b q1k (q1b q1k q1d))) (q3f qh3 (q1b q1a q1d)))))
 (q3a q4z)
 q2m)
 (q38 (q6u (st_b q1a))
 (q1p (q4t q3q q1a (q1b (q1o qhv (q2e (q1b q1a (q1b q1k q1d))) q1a) q1d)))
 q2m))))))
 (q1g (q2h (q8c q7c (q22 (c := 8) (show ∀ i ∈ flT 8,fnT i ≠ "book" by decide +kernel) q1a q1d) (q5p q1m) q76) q1v)
 (q1g (q4l (q5e (q3f q6r (q1b q1a q1d))) q1v
 (q38 (q83 (q32 (q1o q5h (q1o q34 (q1o q34 q1a q1a) q1m) q1k)) (q32 (q1o q89 (q1o q34 (q1o q34 q1a q1a) q1m) (q3m (q1b q1k (q1b q1k q1d))))))
 (q38 (qar (st_b (q28 (q1b (q8c q7c q1a q76 (q5p q1a)) (q1b (q1o q34 (q1o q34 q1a q1a) q1m) q1d)))) (st_b (q28 (q1b (q8c q7c q1a q76 (q5p q1a)) (q1b (q1o q34 (q1o q34 q1a q1a) q1m) q1d)))))
 (q3a q4z)
 q2m)
 q2m))
 (q3a (q28 (q1b q1a (q1b q1a q1d))))))))))) rfl (qfd (C := ctOf T) rfl law_true h)⟩
end
theorem all_mk {l : W.OpenLaw} {w : World} {K : W.Frag} {h : Heap} {mg : Str -> Option Value} {fa : Addr} (X : K.In h) (G : h.Ns mainGlobals mg) (hfa : mg "law" = some (.ref fa))
    {f1 : Addr} {od1 an1 : Option Addr} {sl1 : Array (Option Value)} {oc1 kV1 dc1 pm1 cd1 ct1 : Value}
    {f2 : Addr} {od2 an2 : Option Addr} {sl2 : Array (Option Value)} {oc2 kV2 dc2 pm2 cd2 ct2 : Value}
    {f3 : Addr} {od3 an3 : Option Addr} {sl3 : Array (Option Value)} {oc3 kV3 dc3 pm3 cd3 ct3 : Value}
    {f4 : Addr} {od4 an4 : Option Addr} {sl4 : Array (Option Value)} {oc4 kV4 dc4 pm4 cd4 ct4 : Value}
    {f5 : Addr} {od5 an5 : Option Addr} {sl5 : Array (Option Value)} {oc5 kV5 dc5 pm5 cd5 ct5 : Value}
    {f6 : Addr} {od6 an6 : Option Addr} {sl6 : Array (Option Value)} {oc6 kV6 dc6 pm6 cd6 ct6 : Value}
    {f7 : Addr} {od7 an7 : Option Addr} {sl7 : Array (Option Value)} {oc7 kV7 dc7 pm7 cd7 ct7 : Value}
    {f8 : Addr} {od8 an8 : Option Addr} {sl8 : Array (Option Value)} {oc8 kV8 dc8 pm8 cd8 ct8 : Value}
    {f9 : Addr} {od9 an9 : Option Addr} {sl9 : Array (Option Value)} {oc9 kV9 dc9 pm9 cd9 ct9 : Value}
    {f10 : Addr} {od10 an10 : Option Addr} {sl10 : Array (Option Value)} {oc10 kV10 dc10 pm10 cd10 ct10 : Value}
    {f11 : Addr} {od11 an11 : Option Addr} {sl11 : Array (Option Value)} {oc11 kV11 dc11 pm11 cd11 ct11 : Value}
    {f12 : Addr} {od12 an12 : Option Addr} {sl12 : Array (Option Value)} {oc12 kV12 dc12 pm12 cd12 ct12 : Value}
    {f13 : Addr} {od13 an13 : Option Addr} {sl13 : Array (Option Value)} {oc13 kV13 dc13 pm13 cd13 ct13 : Value}
    {f14 : Addr} {od14 an14 : Option Addr} {sl14 : Array (Option Value)} {oc14 kV14 dc14 pm14 cd14 ct14 : Value}
    {f15 : Addr} {od15 an15 : Option Addr} {sl15 : Array (Option Value)} {oc15 kV15 dc15 pm15 cd15 ct15 : Value}
    {t_q10 : Tok}
    {t_q11 : Tok}
    {t_q16 : Tok}
    {t_q12 : Tok}
    {t_q13 : Tok}
    {t_q15 : Tok}
    {t_q14 : Tok}
    {c_q0v : Addr}
    {f_qb : Addr} {od_qb an_qb : Option Addr} {sl_qb : Array (Option Value)} {oc_qb kV_qb dc_qb pm_qb cd_qb ct_qb : Value}
    {c_q0z : Addr}
    {f_q04 : Addr} {od_q04 an_q04 : Option Addr} {sl_q04 : Array (Option Value)} {oc_q04 kV_q04 dc_q04 pm_q04 cd_q04 ct_q04 : Value}
    {c_q0x : Addr}
    {f_qz : Addr} {od_qz an_qz : Option Addr} {sl_qz : Array (Option Value)} {oc_qz kV_qz dc_qz pm_qz cd_qz ct_qz : Value}
    {c_q0w : Addr}
    {f_q03 : Addr} {od_q03 an_q03 : Option Addr} {sl_q03 : Array (Option Value)} {oc_q03 kV_q03 dc_q03 pm_q03 cd_q03 ct_q03 : Value}
    {c_q0t : Addr}
    {f_qr : Addr} {od_qr an_qr : Option Addr} {sl_qr : Array (Option Value)} {oc_qr kV_qr dc_qr pm_qr cd_qr ct_qr : Value}
    {c_q0y : Addr}
    {f_qy : Addr} {od_qy an_qy : Option Addr} {sl_qy : Array (Option Value)} {oc_qy kV_qy dc_qy pm_qy cd_qy ct_qy : Value}
    {c_q0r : Addr}
    {f_q00 : Addr} {od_q00 an_q00 : Option Addr} {sl_q00 : Array (Option Value)} {oc_q00 kV_q00 dc_q00 pm_q00 cd_q00 ct_q00 : Value}
    {c_q0c : Addr}
    {f_qv : Addr} {od_qv an_qv : Option Addr} {sl_qv : Array (Option Value)} {oc_qv kV_qv dc_qv pm_qv cd_qv ct_qv : Value}
    {f_qa : Addr} {od_qa an_qa : Option Addr} {sl_qa : Array (Option Value)} {oc_qa kV_qa dc_qa pm_qa cd_qa ct_qa : Value}
    {f_qf : Addr} {od_qf an_qf : Option Addr} {sl_qf : Array (Option Value)} {oc_qf kV_qf dc_qf pm_qf cd_qf ct_qf : Value}
    {f_qg : Addr} {od_qg an_qg : Option Addr} {sl_qg : Array (Option Value)} {oc_qg kV_qg dc_qg pm_qg cd_qg ct_qg : Value}
    {f_qu : Addr} {od_qu an_qu : Option Addr} {sl_qu : Array (Option Value)} {oc_qu kV_qu dc_qu pm_qu cd_qu ct_qu : Value}
    {f_qp : Addr} {od_qp an_qp : Option Addr} {sl_qp : Array (Option Value)} {oc_qp kV_qp dc_qp pm_qp cd_qp ct_qp : Value}
    {f_qk : Addr} {od_qk an_qk : Option Addr} {sl_qk : Array (Option Value)} {oc_qk kV_qk dc_qk pm_qk cd_qk ct_qk : Value}
    {f_qt : Addr} {od_qt an_qt : Option Addr} {sl_qt : Array (Option Value)} {oc_qt kV_qt dc_qt pm_qt cd_qt ct_qt : Value}
    {f_qm : Addr} {od_qm an_qm : Option Addr} {sl_qm : Array (Option Value)} {oc_qm kV_qm dc_qm pm_qm cd_qm ct_qm : Value}
    {f_qo : Addr} {od_qo an_qo : Option Addr} {sl_qo : Array (Option Value)} {oc_qo kV_qo dc_qo pm_qo cd_qo ct_qo : Value}
    {f_qj : Addr} {od_qj an_qj : Option Addr} {sl_qj : Array (Option Value)} {oc_qj kV_qj dc_qj pm_qj cd_qj ct_qj : Value}
    {f_qq : Addr} {od_qq an_qq : Option Addr} {sl_qq : Array (Option Value)} {oc_qq kV_qq dc_qq pm_qq cd_qq ct_qq : Value}
    {f_q01 : Addr} {od_q01 an_q01 : Option Addr} {sl_q01 : Array (Option Value)} {oc_q01 kV_q01 dc_q01 pm_q01 cd_q01 ct_q01 : Value}
    {f_q02 : Addr} {od_q02 an_q02 : Option Addr} {sl_q02 : Array (Option Value)} {oc_q02 kV_q02 dc_q02 pm_q02 cd_q02 ct_q02 : Value}
    {f_qi : Addr} {od_qi an_qi : Option Addr} {sl_qi : Array (Option Value)} {oc_qi kV_qi dc_qi pm_qi cd_qi ct_qi : Value}
    {dt_qi : Addr} {dx_qi : Value} {dy_qi : Option Addr} {dn_qi : Nat} {ds_qi : Array (Option Value)} {tk_qi : Tok}
    {f_qh : Addr} {od_qh an_qh : Option Addr} {sl_qh : Array (Option Value)} {oc_qh kV_qh dc_qh pm_qh cd_qh ct_qh : Value}
    {f_q06 : Addr} {od_q06 an_q06 : Option Addr} {sl_q06 : Array (Option Value)} {oc_q06 kV_q06 dc_q06 pm_q06 cd_q06 ct_q06 : Value}
    {c_q0g : Addr}
    {c_q08 : Addr}
    {c_q0e : Addr}
    {c_q07 : Addr}
    {c_qx : Addr}
    {c_q0j : Addr}
    {c_qw : Addr}
    {c_q0b : Addr}
    {c_q09 : Addr}
    {c_q0o : Addr}
    (a1 : W.nsIn K mainGlobals "stands_at" = some (some (.ref f1))) (l1 : K.lookup f1 = some ⟨oc1,od1, .func (W.fnOf "stands_at" "stands_at" (q1t s_q0p) (q1r s_q0p) (q1e s_q0p) .none kV1 dc1 pm1 an1 cd1 ct1),sl1⟩) (c1 : W.codeIn K cd1 "stands_at" = true) (k1 : W.keepIn K (.ref f1) = true)
    (a2 : W.nsIn K mainGlobals "night_loss" = some (some (.ref f2))) (l2 : K.lookup f2 = some ⟨oc2,od2, .func (W.fnOf "night_loss" "night_loss" (q1t s_q0m) (q1r s_q0m) (q1e s_q0m) .none kV2 dc2 pm2 an2 cd2 ct2),sl2⟩) (c2 : W.codeIn K cd2 "night_loss" = true) (k2 : W.keepIn K (.ref f2) = true)
    (a3 : W.nsIn K mainGlobals "has_only" = some (some (.ref f3))) (l3 : K.lookup f3 = some ⟨oc3,od3, .func (W.fnOf "has_only" "has_only" (q1t s_q0s) (q1r s_q0s) (q1e s_q0s) .none kV3 dc3 pm3 an3 cd3 ct3),sl3⟩) (c3 : W.codeIn K cd3 "has_only" = true) (k3 : W.keepIn K (.ref f3) = true)
    (a4 : W.nsIn K mainGlobals "is_name" = some (some (.ref f4))) (l4 : K.lookup f4 = some ⟨oc4,od4, .func (W.fnOf "is_name" "is_name" (q1t s_q0u) (q1r s_q0u) (q1e s_q0u) .none kV4 dc4 pm4 an4 cd4 ct4),sl4⟩) (c4 : W.codeIn K cd4 "is_name" = true) (k4 : W.keepIn K (.ref f4) = true)
    (a5 : W.nsIn K mainGlobals "check_bounds" = some (some (.ref f5))) (l5 : K.lookup f5 = some ⟨oc5,od5, .func (W.fnOf "check_bounds" "check_bounds" (q1t s_q05) (q1r s_q05) (q1e s_q05) .none kV5 dc5 pm5 an5 cd5 ct5),sl5⟩) (c5 : W.codeIn K cd5 "check_bounds" = true) (k5 : W.keepIn K (.ref f5) = true)
    (a6 : W.nsIn K mainGlobals "check_grams" = some (some (.ref f6))) (l6 : K.lookup f6 = some ⟨oc6,od6, .func (W.fnOf "check_grams" "check_grams" (q1t s_q0h) (q1r s_q0h) (q1e s_q0h) .none kV6 dc6 pm6 an6 cd6 ct6),sl6⟩) (c6 : W.codeIn K cd6 "check_grams" = true) (k6 : W.keepIn K (.ref f6) = true)
    (a7 : W.nsIn K mainGlobals "check_gap" = some (some (.ref f7))) (l7 : K.lookup f7 = some ⟨oc7,od7, .func (W.fnOf "check_gap" "check_gap" (q1t s_q0q) (q1r s_q0q) (q1e s_q0q) .none kV7 dc7 pm7 an7 cd7 ct7),sl7⟩) (c7 : W.codeIn K cd7 "check_gap" = true) (k7 : W.keepIn K (.ref f7) = true)
    (a8 : W.nsIn K mainGlobals "check_here" = some (some (.ref f8))) (l8 : K.lookup f8 = some ⟨oc8,od8, .func (W.fnOf "check_here" "check_here" (q1t s_q0n) (q1r s_q0n) (q1e s_q0n) .none kV8 dc8 pm8 an8 cd8 ct8),sl8⟩) (c8 : W.codeIn K cd8 "check_here" = true) (k8 : W.keepIn K (.ref f8) = true)
    (a9 : W.nsIn K mainGlobals "check_enough" = some (some (.ref f9))) (l9 : K.lookup f9 = some ⟨oc9,od9, .func (W.fnOf "check_enough" "check_enough" (q1t s_q0k) (q1r s_q0k) (q1e s_q0k) .none kV9 dc9 pm9 an9 cd9 ct9),sl9⟩) (c9 : W.codeIn K cd9 "check_enough" = true) (k9 : W.keepIn K (.ref f9) = true)
    (a10 : W.nsIn K mainGlobals "_law_same" = some (some (.ref f10))) (l10 : K.lookup f10 = some ⟨oc10,od10, .func (W.fnOf "_law_same" "_law_same" (q1t s_q0a) (q1r s_q0a) (q1e s_q0a) .none kV10 dc10 pm10 an10 cd10 ct10),sl10⟩) (c10 : W.codeIn K cd10 "_law_same" = true) (k10 : W.keepIn K (.ref f10) = true)
    (a11 : W.nsIn K mainGlobals "_law_word_of" = some (some (.ref f11))) (l11 : K.lookup f11 = some ⟨oc11,od11, .func (W.fnOf "_law_word_of" "_law_word_of" (q1t s_q0l) (q1r s_q0l) (q1e s_q0l) .none kV11 dc11 pm11 an11 cd11 ct11),sl11⟩) (c11 : W.codeIn K cd11 "_law_word_of" = true) (k11 : W.keepIn K (.ref f11) = true)
    (a12 : W.nsIn K mainGlobals "_law_washed" = some (some (.ref f12))) (l12 : K.lookup f12 = some ⟨oc12,od12, .func (W.fnOf "_law_washed" "_law_washed" (q1t s_q0i) (q1r s_q0i) (q1e s_q0i) .none kV12 dc12 pm12 an12 cd12 ct12),sl12⟩) (c12 : W.codeIn K cd12 "_law_washed" = true) (k12 : W.keepIn K (.ref f12) = true)
    (a13 : W.nsIn K mainGlobals "_law_furnished" = some (some (.ref f13))) (l13 : K.lookup f13 = some ⟨oc13,od13, .func (W.fnOf "_law_furnished" "_law_furnished" (q1t s_q0f) (q1r s_q0f) (q1e s_q0f) .none kV13 dc13 pm13 an13 cd13 ct13),sl13⟩) (c13 : W.codeIn K cd13 "_law_furnished" = true) (k13 : W.keepIn K (.ref f13) = true)
    (a14 : W.nsIn K mainGlobals "_law_seeded" = some (some (.ref f14))) (l14 : K.lookup f14 = some ⟨oc14,od14, .func (W.fnOf "_law_seeded" "_law_seeded" (q1t s_q0d) (q1r s_q0d) (q1e s_q0d) .none kV14 dc14 pm14 an14 cd14 ct14),sl14⟩) (c14 : W.codeIn K cd14 "_law_seeded" = true) (k14 : W.keepIn K (.ref f14) = true)
    (a15 : W.nsIn K mainGlobals "law" = some (some (.ref f15))) (l15 : K.lookup f15 = some ⟨oc15,od15, .func (W.fnOf "law" "law" (q1t q63) (q1r q63) (q1e q63) .none kV15 dc15 pm15 an15 cd15 ct15),sl15⟩) (c15 : W.codeIn K cd15 "law" = true) (k15 : W.keepIn K (.ref f15) = true)
    (z_len : W.nsIn K mainGlobals "len" = some none)
    (z_all : W.nsIn K mainGlobals "all" = some none)
    (z_any : W.nsIn K mainGlobals "any" = some none)
    (z_range : W.nsIn K mainGlobals "range" = some none)
    (z_int : W.nsIn K mainGlobals "int" = some none)
    (z_bool : W.nsIn K mainGlobals "bool" = some none)
    (z_str : W.nsIn K mainGlobals "str" = some none)
    (z_list : W.nsIn K mainGlobals "list" = some none)
    (z_tuple : W.nsIn K mainGlobals "tuple" = some none)
    (z_isinstance : W.nsIn K mainGlobals "isinstance" = some none)
    (z_sum : W.nsIn K mainGlobals "sum" = some none)
    (z_ValueError : W.nsIn K mainGlobals "ValueError" = some none)
    (z_set : W.nsIn K mainGlobals "set" = some none)
    (g_q10 : W.nsIn K mainGlobals "NAME_SIGNS" = some (some (.str c_q10 t_q10)))
    (g_q11 : W.nsIn K mainGlobals "LONGEST_NAME" = some (some (.int 12 t_q11)))
    (g_q16 : W.nsIn K mainGlobals "MOST_DAMP" = some (some (.int 100 t_q16)))
    (g_q12 : W.nsIn K mainGlobals "MOST_WARMTH" = some (some (.int 40 t_q12)))
    (g_q13 : W.nsIn K mainGlobals "LONGEST_GAP" = some (some (.int 60 t_q13)))
    (g_q15 : W.nsIn K mainGlobals "MOST_GRAMS" = some (some (.int 1000000 t_q15)))
    (g_q14 : W.nsIn K mainGlobals "MOST_NIGHTS" = some (some (.int 30 t_q14)))
    (cn_q0v : W.nsIn K mainGlobals "Thing" = some (some (.ref c_q0v))) (pg_q0v : W.plainGet K c_q0v Str.empty = true) (hd_q0v : W.hasDictIn K c_q0v = true) (po_q0v : W.plainOver K c_q0v = true) (sa_q0v : W.findIn K (.ref c_q0v) "__setattr__" = some (some (.builtin "object.__setattr__"))) (ma_q0v : W.makesIn K c_q0v = true) (kp_q0v : W.keepIn K (.ref c_q0v) = true)
    (a_qb : W.findIn K (.ref c_q0v) "__init__" = some (some (.ref f_qb))) (l_qb : K.lookup f_qb = some ⟨oc_qb,od_qb, .func (W.fnOf "__init__" "Thing.__init__" (q1t s_qb) (q1r s_qb) (q1e s_qb) .none kV_qb dc_qb pm_qb an_qb cd_qb ct_qb),sl_qb⟩) (c_qb : W.codeIn K cd_qb "Thing.__init__" = true) (k_qb : W.keepIn K (.ref f_qb) = true) (i_qb : W.isFn K (.ref f_qb) = true)
    (na_Thing_kind : W.findIn K (.ref c_q0v) "kind" = some none)
    (na_Thing_name : W.findIn K (.ref c_q0v) "name" = some none)
    (bs_qb : W.specialIn K (.ref c_q0v) "__getattribute__" = some (some (.builtin "type.__getattribute__"))) (br_qb : W.readsIn K c_q0v (.type "type") = true) (bf_qb : W.findCls K (.ref c_q0v) (.type "type") "__init__" = some (.val (.ref f_qb)))
    (cn_q0z : W.nsIn K mainGlobals "Room" = some (some (.ref c_q0z))) (pg_q0z : W.plainGet K c_q0z Str.empty = true) (hd_q0z : W.hasDictIn K c_q0z = true) (po_q0z : W.plainOver K c_q0z = true) (sa_q0z : W.findIn K (.ref c_q0z) "__setattr__" = some (some (.builtin "object.__setattr__"))) (ma_q0z : W.makesIn K c_q0z = true) (kp_q0z : W.keepIn K (.ref c_q0z) = true)
    (a_q04 : W.findIn K (.ref c_q0z) "__init__" = some (some (.ref f_q04))) (l_q04 : K.lookup f_q04 = some ⟨oc_q04,od_q04, .func (W.fnOf "__init__" "Room.__init__" (q1t s_q04) (q1r s_q04) (q1e s_q04) .none kV_q04 dc_q04 pm_q04 an_q04 cd_q04 ct_q04),sl_q04⟩) (c_q04 : W.codeIn K cd_q04 "Room.__init__" = true) (k_q04 : W.keepIn K (.ref f_q04) = true) (i_q04 : W.isFn K (.ref f_q04) = true)
    (na_Room_kind : W.findIn K (.ref c_q0z) "kind" = some none)
    (na_Room_name : W.findIn K (.ref c_q0z) "name" = some none)
    (na_Room_damp : W.findIn K (.ref c_q0z) "damp" = some none)
    (na_Room_warmth : W.findIn K (.ref c_q0z) "warmth" = some none)
    (cn_q0x : W.nsIn K mainGlobals "Shelf" = some (some (.ref c_q0x))) (pg_q0x : W.plainGet K c_q0x Str.empty = true) (hd_q0x : W.hasDictIn K c_q0x = true) (po_q0x : W.plainOver K c_q0x = true) (sa_q0x : W.findIn K (.ref c_q0x) "__setattr__" = some (some (.builtin "object.__setattr__"))) (ma_q0x : W.makesIn K c_q0x = true) (kp_q0x : W.keepIn K (.ref c_q0x) = true)
    (a_qz : W.findIn K (.ref c_q0x) "__init__" = some (some (.ref f_qz))) (l_qz : K.lookup f_qz = some ⟨oc_qz,od_qz, .func (W.fnOf "__init__" "Shelf.__init__" (q1t s_qz) (q1r s_qz) (q1e s_qz) .none kV_qz dc_qz pm_qz an_qz cd_qz ct_qz),sl_qz⟩) (c_qz : W.codeIn K cd_qz "Shelf.__init__" = true) (k_qz : W.keepIn K (.ref f_qz) = true) (i_qz : W.isFn K (.ref f_qz) = true)
    (na_Shelf_kind : W.findIn K (.ref c_q0x) "kind" = some none)
    (na_Shelf_name : W.findIn K (.ref c_q0x) "name" = some none)
    (na_Shelf_room : W.findIn K (.ref c_q0x) "room" = some none)
    (cn_q0w : W.nsIn K mainGlobals "Sort" = some (some (.ref c_q0w))) (pg_q0w : W.plainGet K c_q0w Str.empty = true) (hd_q0w : W.hasDictIn K c_q0w = true) (po_q0w : W.plainOver K c_q0w = true) (sa_q0w : W.findIn K (.ref c_q0w) "__setattr__" = some (some (.builtin "object.__setattr__"))) (ma_q0w : W.makesIn K c_q0w = true) (kp_q0w : W.keepIn K (.ref c_q0w) = true)
    (a_q03 : W.findIn K (.ref c_q0w) "__init__" = some (some (.ref f_q03))) (l_q03 : K.lookup f_q03 = some ⟨oc_q03,od_q03, .func (W.fnOf "__init__" "Sort.__init__" (q1t s_q03) (q1r s_q03) (q1e s_q03) .none kV_q03 dc_q03 pm_q03 an_q03 cd_q03 ct_q03),sl_q03⟩) (c_q03 : W.codeIn K cd_q03 "Sort.__init__" = true) (k_q03 : W.keepIn K (.ref f_q03) = true) (i_q03 : W.isFn K (.ref f_q03) = true)
    (na_Sort_kind : W.findIn K (.ref c_q0w) "kind" = some none)
    (na_Sort_name : W.findIn K (.ref c_q0w) "name" = some none)
    (na_Sort_mouldy : W.findIn K (.ref c_q0w) "mouldy" = some none)
    (na_Sort_turn_gap : W.findIn K (.ref c_q0w) "turn_gap" = some none)
    (na_Sort_wash_gap : W.findIn K (.ref c_q0w) "wash_gap" = some none)
    (na_Sort_rooms : W.findIn K (.ref c_q0w) "rooms" = some none)
    (na_Sort_stays : W.findIn K (.ref c_q0w) "stays" = some none)
    (cn_q0t : W.nsIn K mainGlobals "Washer" = some (some (.ref c_q0t))) (pg_q0t : W.plainGet K c_q0t Str.empty = true) (hd_q0t : W.hasDictIn K c_q0t = true) (po_q0t : W.plainOver K c_q0t = true) (sa_q0t : W.findIn K (.ref c_q0t) "__setattr__" = some (some (.builtin "object.__setattr__"))) (ma_q0t : W.makesIn K c_q0t = true) (kp_q0t : W.keepIn K (.ref c_q0t) = true)
    (a_qr : W.findIn K (.ref c_q0t) "__init__" = some (some (.ref f_qr))) (l_qr : K.lookup f_qr = some ⟨oc_qr,od_qr, .func (W.fnOf "__init__" "Washer.__init__" (q1t s_qr) (q1r s_qr) (q1e s_qr) .none kV_qr dc_qr pm_qr an_qr cd_qr ct_qr),sl_qr⟩) (c_qr : W.codeIn K cd_qr "Washer.__init__" = true) (k_qr : W.keepIn K (.ref f_qr) = true) (i_qr : W.isFn K (.ref f_qr) = true)
    (na_Washer_kind : W.findIn K (.ref c_q0t) "kind" = some none)
    (na_Washer_name : W.findIn K (.ref c_q0t) "name" = some none)
    (na_Washer_mouldy : W.findIn K (.ref c_q0t) "mouldy" = some none)
    (cn_q0y : W.nsIn K mainGlobals "Batch" = some (some (.ref c_q0y))) (pg_q0y : W.plainGet K c_q0y Str.empty = true) (hd_q0y : W.hasDictIn K c_q0y = true) (po_q0y : W.plainOver K c_q0y = true) (sa_q0y : W.findIn K (.ref c_q0y) "__setattr__" = some (some (.builtin "object.__setattr__"))) (ma_q0y : W.makesIn K c_q0y = true) (kp_q0y : W.keepIn K (.ref c_q0y) = true)
    (a_qy : W.findIn K (.ref c_q0y) "__init__" = some (some (.ref f_qy))) (l_qy : K.lookup f_qy = some ⟨oc_qy,od_qy, .func (W.fnOf "__init__" "Batch.__init__" (q1t s_qy) (q1r s_qy) (q1e s_qy) .none kV_qy dc_qy pm_qy an_qy cd_qy ct_qy),sl_qy⟩) (c_qy : W.codeIn K cd_qy "Batch.__init__" = true) (k_qy : W.keepIn K (.ref f_qy) = true) (i_qy : W.isFn K (.ref f_qy) = true)
    (na_Batch_kind : W.findIn K (.ref c_q0y) "kind" = some none)
    (na_Batch_name : W.findIn K (.ref c_q0y) "name" = some none)
    (na_Batch_grams : W.findIn K (.ref c_q0y) "grams" = some none)
    (cn_q0r : W.nsIn K mainGlobals "Wheel" = some (some (.ref c_q0r))) (pg_q0r : W.plainGet K c_q0r Str.empty = true) (hd_q0r : W.hasDictIn K c_q0r = true) (po_q0r : W.plainOver K c_q0r = true) (sa_q0r : W.findIn K (.ref c_q0r) "__setattr__" = some (some (.builtin "object.__setattr__"))) (ma_q0r : W.makesIn K c_q0r = true) (kp_q0r : W.keepIn K (.ref c_q0r) = true)
    (a_q00 : W.findIn K (.ref c_q0r) "__init__" = some (some (.ref f_q00))) (l_q00 : K.lookup f_q00 = some ⟨oc_q00,od_q00, .func (W.fnOf "__init__" "Wheel.__init__" (q1t s_q00) (q1r s_q00) (q1e s_q00) .none kV_q00 dc_q00 pm_q00 an_q00 cd_q00 ct_q00),sl_q00⟩) (c_q00 : W.codeIn K cd_q00 "Wheel.__init__" = true) (k_q00 : W.keepIn K (.ref f_q00) = true) (i_q00 : W.isFn K (.ref f_q00) = true)
    (na_Wheel_kind : W.findIn K (.ref c_q0r) "kind" = some none)
    (na_Wheel_name : W.findIn K (.ref c_q0r) "name" = some none)
    (na_Wheel_recipe : W.findIn K (.ref c_q0r) "recipe" = some none)
    (na_Wheel_shelf : W.findIn K (.ref c_q0r) "shelf" = some none)
    (na_Wheel_grams : W.findIn K (.ref c_q0r) "grams" = some none)
    (na_Wheel_place : W.findIn K (.ref c_q0r) "place" = some none)
    (na_Wheel_turn_day : W.findIn K (.ref c_q0r) "turn_day" = some none)
    (na_Wheel_wash_day : W.findIn K (.ref c_q0r) "wash_day" = some none)
    (na_Wheel_room_day : W.findIn K (.ref c_q0r) "room_day" = some none)
    (na_Wheel_gone : W.findIn K (.ref c_q0r) "gone" = some none)
    (cn_q0c : W.nsIn K mainGlobals "Cellar" = some (some (.ref c_q0c))) (pg_q0c : W.plainGet K c_q0c Str.empty = true) (hd_q0c : W.hasDictIn K c_q0c = true) (po_q0c : W.plainOver K c_q0c = true) (sa_q0c : W.findIn K (.ref c_q0c) "__setattr__" = some (some (.builtin "object.__setattr__"))) (ma_q0c : W.makesIn K c_q0c = true) (kp_q0c : W.keepIn K (.ref c_q0c) = true)
    (a_qv : W.findIn K (.ref c_q0c) "__init__" = some (some (.ref f_qv))) (l_qv : K.lookup f_qv = some ⟨oc_qv,od_qv, .func (W.fnOf "__init__" "Cellar.__init__" (q1t s_qv) (q1r s_qv) (q1e s_qv) .none kV_qv dc_qv pm_qv an_qv cd_qv ct_qv),sl_qv⟩) (c_qv : W.codeIn K cd_qv "Cellar.__init__" = true) (k_qv : W.keepIn K (.ref f_qv) = true) (i_qv : W.isFn K (.ref f_qv) = true)
    (a_qa : W.findIn K (.ref c_q0c) "check_free" = some (some (.ref f_qa))) (l_qa : K.lookup f_qa = some ⟨oc_qa,od_qa, .func (W.fnOf "check_free" "Cellar.check_free" (q1t s_qa) (q1r s_qa) (q1e s_qa) .none kV_qa dc_qa pm_qa an_qa cd_qa ct_qa),sl_qa⟩) (c_qa : W.codeIn K cd_qa "Cellar.check_free" = true) (k_qa : W.keepIn K (.ref f_qa) = true) (i_qa : W.isFn K (.ref f_qa) = true)
    (a_qf : W.findIn K (.ref c_q0c) "known" = some (some (.ref f_qf))) (l_qf : K.lookup f_qf = some ⟨oc_qf,od_qf, .func (W.fnOf "known" "Cellar.known" (q1t s_qf) (q1r s_qf) (q1e s_qf) .none kV_qf dc_qf pm_qf an_qf cd_qf ct_qf),sl_qf⟩) (c_qf : W.codeIn K cd_qf "Cellar.known" = true) (k_qf : W.keepIn K (.ref f_qf) = true) (i_qf : W.isFn K (.ref f_qf) = true)
    (a_qg : W.findIn K (.ref c_q0c) "hold" = some (some (.ref f_qg))) (l_qg : K.lookup f_qg = some ⟨oc_qg,od_qg, .func (W.fnOf "hold" "Cellar.hold" (q1t s_qg) (q1r s_qg) (q1e s_qg) .none kV_qg dc_qg pm_qg an_qg cd_qg ct_qg),sl_qg⟩) (c_qg : W.codeIn K cd_qg "Cellar.hold" = true) (k_qg : W.keepIn K (.ref f_qg) = true) (i_qg : W.isFn K (.ref f_qg) = true)
    (a_qu : W.findIn K (.ref c_q0c) "new_room" = some (some (.ref f_qu))) (l_qu : K.lookup f_qu = some ⟨oc_qu,od_qu, .func (W.fnOf "new_room" "Cellar.new_room" (q1t s_qu) (q1r s_qu) (q1e s_qu) .none kV_qu dc_qu pm_qu an_qu cd_qu ct_qu),sl_qu⟩) (c_qu : W.codeIn K cd_qu "Cellar.new_room" = true) (k_qu : W.keepIn K (.ref f_qu) = true) (i_qu : W.isFn K (.ref f_qu) = true)
    (a_qp : W.findIn K (.ref c_q0c) "new_shelf" = some (some (.ref f_qp))) (l_qp : K.lookup f_qp = some ⟨oc_qp,od_qp, .func (W.fnOf "new_shelf" "Cellar.new_shelf" (q1t s_qp) (q1r s_qp) (q1e s_qp) .none kV_qp dc_qp pm_qp an_qp cd_qp ct_qp),sl_qp⟩) (c_qp : W.codeIn K cd_qp "Cellar.new_shelf" = true) (k_qp : W.keepIn K (.ref f_qp) = true) (i_qp : W.isFn K (.ref f_qp) = true)
    (a_qk : W.findIn K (.ref c_q0c) "new_sort" = some (some (.ref f_qk))) (l_qk : K.lookup f_qk = some ⟨oc_qk,od_qk, .func (W.fnOf "new_sort" "Cellar.new_sort" (q1t s_qk) (q1r s_qk) (q1e s_qk) .none kV_qk dc_qk pm_qk an_qk cd_qk ct_qk),sl_qk⟩) (c_qk : W.codeIn K cd_qk "Cellar.new_sort" = true) (k_qk : W.keepIn K (.ref f_qk) = true) (i_qk : W.isFn K (.ref f_qk) = true)
    (a_qt : W.findIn K (.ref c_q0c) "new_farm" = some (some (.ref f_qt))) (l_qt : K.lookup f_qt = some ⟨oc_qt,od_qt, .func (W.fnOf "new_farm" "Cellar.new_farm" (q1t s_qt) (q1r s_qt) (q1e s_qt) .none kV_qt dc_qt pm_qt an_qt cd_qt ct_qt),sl_qt⟩) (c_qt : W.codeIn K cd_qt "Cellar.new_farm" = true) (k_qt : W.keepIn K (.ref f_qt) = true) (i_qt : W.isFn K (.ref f_qt) = true)
    (a_qm : W.findIn K (.ref c_q0c) "new_brine" = some (some (.ref f_qm))) (l_qm : K.lookup f_qm = some ⟨oc_qm,od_qm, .func (W.fnOf "new_brine" "Cellar.new_brine" (q1t s_qm) (q1r s_qm) (q1e s_qm) .none kV_qm dc_qm pm_qm an_qm cd_qm ct_qm),sl_qm⟩) (c_qm : W.codeIn K cd_qm "Cellar.new_brine" = true) (k_qm : W.keepIn K (.ref f_qm) = true) (i_qm : W.isFn K (.ref f_qm) = true)
    (a_qo : W.findIn K (.ref c_q0c) "new_cloth" = some (some (.ref f_qo))) (l_qo : K.lookup f_qo = some ⟨oc_qo,od_qo, .func (W.fnOf "new_cloth" "Cellar.new_cloth" (q1t s_qo) (q1r s_qo) (q1e s_qo) .none kV_qo dc_qo pm_qo an_qo cd_qo ct_qo),sl_qo⟩) (c_qo : W.codeIn K cd_qo "Cellar.new_cloth" = true) (k_qo : W.keepIn K (.ref f_qo) = true) (i_qo : W.isFn K (.ref f_qo) = true)
    (a_qj : W.findIn K (.ref c_q0c) "new_batch" = some (some (.ref f_qj))) (l_qj : K.lookup f_qj = some ⟨oc_qj,od_qj, .func (W.fnOf "new_batch" "Cellar.new_batch" (q1t s_qj) (q1r s_qj) (q1e s_qj) .none kV_qj dc_qj pm_qj an_qj cd_qj ct_qj),sl_qj⟩) (c_qj : W.codeIn K cd_qj "Cellar.new_batch" = true) (k_qj : W.keepIn K (.ref f_qj) = true) (i_qj : W.isFn K (.ref f_qj) = true)
    (a_qq : W.findIn K (.ref c_q0c) "new_wheel" = some (some (.ref f_qq))) (l_qq : K.lookup f_qq = some ⟨oc_qq,od_qq, .func (W.fnOf "new_wheel" "Cellar.new_wheel" (q1t s_qq) (q1r s_qq) (q1e s_qq) .none kV_qq dc_qq pm_qq an_qq cd_qq ct_qq),sl_qq⟩) (c_qq : W.codeIn K cd_qq "Cellar.new_wheel" = true) (k_qq : W.keepIn K (.ref f_qq) = true) (i_qq : W.isFn K (.ref f_qq) = true)
    (a_q01 : W.findIn K (.ref c_q0c) "wash" = some (some (.ref f_q01))) (l_q01 : K.lookup f_q01 = some ⟨oc_q01,od_q01, .func (W.fnOf "wash" "Cellar.wash" (q1t s_q01) (q1r s_q01) (q1e s_q01) .none kV_q01 dc_q01 pm_q01 an_q01 cd_q01 ct_q01),sl_q01⟩) (c_q01 : W.codeIn K cd_q01 "Cellar.wash" = true) (k_q01 : W.keepIn K (.ref f_q01) = true) (i_q01 : W.isFn K (.ref f_q01) = true)
    (a_q02 : W.findIn K (.ref c_q0c) "boil" = some (some (.ref f_q02))) (l_q02 : K.lookup f_q02 = some ⟨oc_q02,od_q02, .func (W.fnOf "boil" "Cellar.boil" (q1t s_q02) (q1r s_q02) (q1e s_q02) .none kV_q02 dc_q02 pm_q02 an_q02 cd_q02 ct_q02),sl_q02⟩) (c_q02 : W.codeIn K cd_q02 "Cellar.boil" = true) (k_q02 : W.keepIn K (.ref f_q02) = true) (i_q02 : W.isFn K (.ref f_q02) = true)
    (a_qi : W.findIn K (.ref c_q0c) "night" = some (some (.ref f_qi))) (l_qi : K.lookup f_qi = some ⟨oc_qi,od_qi, .func (W.fnOf "night" "Cellar.night" (q1t s_qi) (q1r s_qi) (q1e s_qi) (.ref dt_qi) kV_qi dc_qi pm_qi an_qi cd_qi ct_qi),sl_qi⟩) (c_qi : W.codeIn K cd_qi "Cellar.night" = true) (k_qi : W.keepIn K (.ref f_qi) = true) (i_qi : W.isFn K (.ref f_qi) = true)
    (dl_qi : K.lookup dt_qi = some ⟨dx_qi,dy_qi, .seq #[.int 1 tk_qi] dn_qi,ds_qi⟩)
    (a_qh : W.findIn K (.ref c_q0c) "pass_night" = some (some (.ref f_qh))) (l_qh : K.lookup f_qh = some ⟨oc_qh,od_qh, .func (W.fnOf "pass_night" "Cellar.pass_night" (q1t s_qh) (q1r s_qh) (q1e s_qh) .none kV_qh dc_qh pm_qh an_qh cd_qh ct_qh),sl_qh⟩) (c_qh : W.codeIn K cd_qh "Cellar.pass_night" = true) (k_qh : W.keepIn K (.ref f_qh) = true) (i_qh : W.isFn K (.ref f_qh) = true)
    (a_q06 : W.findIn K (.ref c_q0c) "book" = some (some (.ref f_q06))) (l_q06 : K.lookup f_q06 = some ⟨oc_q06,od_q06, .func (W.fnOf "book" "Cellar.book" (q1t s_q06) (q1r s_q06) (q1e s_q06) .none kV_q06 dc_q06 pm_q06 an_q06 cd_q06 ct_q06),sl_q06⟩) (c_q06 : W.codeIn K cd_q06 "Cellar.book" = true) (k_q06 : W.keepIn K (.ref f_q06) = true) (i_q06 : W.isFn K (.ref f_q06) = true)
    (na_Cellar_today : W.findIn K (.ref c_q0c) "today" = some none)
    (na_Cellar_things : W.findIn K (.ref c_q0c) "things" = some none)
    (na_Cellar_wheels : W.findIn K (.ref c_q0c) "wheels" = some none)
    (na_Cellar_entries : W.findIn K (.ref c_q0c) "entries" = some none)
    (cn_q0g : W.nsIn K mainGlobals "CellarError" = some (some (.ref c_q0g))) (ci_q0g : W.isClsIn K c_q0g = true) (ct_q0g : W.typeIn K (.ref c_q0g) = some (.type "type"))
    (cn_q08 : W.nsIn K mainGlobals "BadName" = some (some (.ref c_q08))) (ci_q08 : W.isClsIn K c_q08 = true) (ct_q08 : W.typeIn K (.ref c_q08) = some (.type "type"))
    (cn_q0e : W.nsIn K mainGlobals "Taken" = some (some (.ref c_q0e))) (ci_q0e : W.isClsIn K c_q0e = true) (ct_q0e : W.typeIn K (.ref c_q0e) = some (.type "type"))
    (cn_q07 : W.nsIn K mainGlobals "Unknown" = some (some (.ref c_q07))) (ci_q07 : W.isClsIn K c_q07 = true) (ct_q07 : W.typeIn K (.ref c_q07) = some (.type "type"))
    (cn_qx : W.nsIn K mainGlobals "BadNumber" = some (some (.ref c_qx))) (ci_qx : W.isClsIn K c_qx = true) (ct_qx : W.typeIn K (.ref c_qx) = some (.type "type"))
    (cn_q0j : W.nsIn K mainGlobals "Gone" = some (some (.ref c_q0j))) (ci_q0j : W.isClsIn K c_q0j = true) (ct_q0j : W.typeIn K (.ref c_q0j) = some (.type "type"))
    (cn_qw : W.nsIn K mainGlobals "WrongRoom" = some (some (.ref c_qw))) (ci_qw : W.isClsIn K c_qw = true) (ct_qw : W.typeIn K (.ref c_qw) = some (.type "type"))
    (cn_q0b : W.nsIn K mainGlobals "Mouldy" = some (some (.ref c_q0b))) (ci_q0b : W.isClsIn K c_q0b = true) (ct_q0b : W.typeIn K (.ref c_q0b) = some (.type "type"))
    (cn_q09 : W.nsIn K mainGlobals "TooMuch" = some (some (.ref c_q09))) (ci_q09 : W.isClsIn K c_q09 = true) (ct_q09 : W.typeIn K (.ref c_q09) = some (.type "type"))
    (cn_q0o : W.nsIn K mainGlobals "BadLine" = some (some (.ref c_q0o))) (ci_q0o : W.isClsIn K c_q0o = true) (ct_q0o : W.typeIn K (.ref c_q0o) = some (.type "type"))
    (x_q08 : W.excIn K c_q08 bmVE "ValueError.__new__" = true)
    (ega_q08 : W.findIn K (.ref c_q08) "__getattribute__" = some (some (.builtin "BaseException.__getattribute__")))
    (egt_q08 : W.findIn K (.ref c_q08) "__getattr__" = some none)
    (ecl_q08 : W.findIn K (.ref c_q08) "__class__" = some (some (.builtin "object.__class__")))
    (egg_q08 : W.specialIn K (.builtin "object.__class__") "__get__" = some (some (.builtin "getset_descriptor.__get__")))
    (etk_q08 : W.takesIn K (.builtin "object.__class__") = some true)
    (emo_q08 : W.mroIn K c_q08 (.type "object") = some true)
    (emb_q08 : W.mroIn K c_q08 (.type "BaseException") = some true)
    (ev_q08 : W.subIn K (.ref c_q08) (.type "ValueError") = some true)
    (s_BadName_CellarError : W.subIn K (.ref c_q08) (.ref c_q0g) = some true)
    (s_BadName_BadName : W.subIn K (.ref c_q08) (.ref c_q08) = some true)
    (s_BadName_Taken : W.subIn K (.ref c_q08) (.ref c_q0e) = some false)
    (s_BadName_Unknown : W.subIn K (.ref c_q08) (.ref c_q07) = some false)
    (s_BadName_BadNumber : W.subIn K (.ref c_q08) (.ref c_qx) = some false)
    (s_BadName_Gone : W.subIn K (.ref c_q08) (.ref c_q0j) = some false)
    (s_BadName_WrongRoom : W.subIn K (.ref c_q08) (.ref c_qw) = some false)
    (s_BadName_Mouldy : W.subIn K (.ref c_q08) (.ref c_q0b) = some false)
    (s_BadName_TooMuch : W.subIn K (.ref c_q08) (.ref c_q09) = some false)
    (s_BadName_BadLine : W.subIn K (.ref c_q08) (.ref c_q0o) = some false)
    (x_q0e : W.excIn K c_q0e bmVE "ValueError.__new__" = true)
    (ega_q0e : W.findIn K (.ref c_q0e) "__getattribute__" = some (some (.builtin "BaseException.__getattribute__")))
    (egt_q0e : W.findIn K (.ref c_q0e) "__getattr__" = some none)
    (ecl_q0e : W.findIn K (.ref c_q0e) "__class__" = some (some (.builtin "object.__class__")))
    (egg_q0e : W.specialIn K (.builtin "object.__class__") "__get__" = some (some (.builtin "getset_descriptor.__get__")))
    (etk_q0e : W.takesIn K (.builtin "object.__class__") = some true)
    (emo_q0e : W.mroIn K c_q0e (.type "object") = some true)
    (emb_q0e : W.mroIn K c_q0e (.type "BaseException") = some true)
    (ev_q0e : W.subIn K (.ref c_q0e) (.type "ValueError") = some true)
    (s_Taken_CellarError : W.subIn K (.ref c_q0e) (.ref c_q0g) = some true)
    (s_Taken_BadName : W.subIn K (.ref c_q0e) (.ref c_q08) = some false)
    (s_Taken_Taken : W.subIn K (.ref c_q0e) (.ref c_q0e) = some true)
    (s_Taken_Unknown : W.subIn K (.ref c_q0e) (.ref c_q07) = some false)
    (s_Taken_BadNumber : W.subIn K (.ref c_q0e) (.ref c_qx) = some false)
    (s_Taken_Gone : W.subIn K (.ref c_q0e) (.ref c_q0j) = some false)
    (s_Taken_WrongRoom : W.subIn K (.ref c_q0e) (.ref c_qw) = some false)
    (s_Taken_Mouldy : W.subIn K (.ref c_q0e) (.ref c_q0b) = some false)
    (s_Taken_TooMuch : W.subIn K (.ref c_q0e) (.ref c_q09) = some false)
    (s_Taken_BadLine : W.subIn K (.ref c_q0e) (.ref c_q0o) = some false)
    (x_q07 : W.excIn K c_q07 bmVE "ValueError.__new__" = true)
    (ega_q07 : W.findIn K (.ref c_q07) "__getattribute__" = some (some (.builtin "BaseException.__getattribute__")))
    (egt_q07 : W.findIn K (.ref c_q07) "__getattr__" = some none)
    (ecl_q07 : W.findIn K (.ref c_q07) "__class__" = some (some (.builtin "object.__class__")))
    (egg_q07 : W.specialIn K (.builtin "object.__class__") "__get__" = some (some (.builtin "getset_descriptor.__get__")))
    (etk_q07 : W.takesIn K (.builtin "object.__class__") = some true)
    (emo_q07 : W.mroIn K c_q07 (.type "object") = some true)
    (emb_q07 : W.mroIn K c_q07 (.type "BaseException") = some true)
    (ev_q07 : W.subIn K (.ref c_q07) (.type "ValueError") = some true)
    (s_Unknown_CellarError : W.subIn K (.ref c_q07) (.ref c_q0g) = some true)
    (s_Unknown_BadName : W.subIn K (.ref c_q07) (.ref c_q08) = some false)
    (s_Unknown_Taken : W.subIn K (.ref c_q07) (.ref c_q0e) = some false)
    (s_Unknown_Unknown : W.subIn K (.ref c_q07) (.ref c_q07) = some true)
    (s_Unknown_BadNumber : W.subIn K (.ref c_q07) (.ref c_qx) = some false)
    (s_Unknown_Gone : W.subIn K (.ref c_q07) (.ref c_q0j) = some false)
    (s_Unknown_WrongRoom : W.subIn K (.ref c_q07) (.ref c_qw) = some false)
    (s_Unknown_Mouldy : W.subIn K (.ref c_q07) (.ref c_q0b) = some false)
    (s_Unknown_TooMuch : W.subIn K (.ref c_q07) (.ref c_q09) = some false)
    (s_Unknown_BadLine : W.subIn K (.ref c_q07) (.ref c_q0o) = some false)
    (x_qx : W.excIn K c_qx bmVE "ValueError.__new__" = true)
    (ega_qx : W.findIn K (.ref c_qx) "__getattribute__" = some (some (.builtin "BaseException.__getattribute__")))
    (egt_qx : W.findIn K (.ref c_qx) "__getattr__" = some none)
    (ecl_qx : W.findIn K (.ref c_qx) "__class__" = some (some (.builtin "object.__class__")))
    (egg_qx : W.specialIn K (.builtin "object.__class__") "__get__" = some (some (.builtin "getset_descriptor.__get__")))
    (etk_qx : W.takesIn K (.builtin "object.__class__") = some true)
    (emo_qx : W.mroIn K c_qx (.type "object") = some true)
    (emb_qx : W.mroIn K c_qx (.type "BaseException") = some true)
    (ev_qx : W.subIn K (.ref c_qx) (.type "ValueError") = some true)
    (s_BadNumber_CellarError : W.subIn K (.ref c_qx) (.ref c_q0g) = some true)
    (s_BadNumber_BadName : W.subIn K (.ref c_qx) (.ref c_q08) = some false)
    (s_BadNumber_Taken : W.subIn K (.ref c_qx) (.ref c_q0e) = some false)
    (s_BadNumber_Unknown : W.subIn K (.ref c_qx) (.ref c_q07) = some false)
    (s_BadNumber_BadNumber : W.subIn K (.ref c_qx) (.ref c_qx) = some true)
    (s_BadNumber_Gone : W.subIn K (.ref c_qx) (.ref c_q0j) = some false)
    (s_BadNumber_WrongRoom : W.subIn K (.ref c_qx) (.ref c_qw) = some false)
    (s_BadNumber_Mouldy : W.subIn K (.ref c_qx) (.ref c_q0b) = some false)
    (s_BadNumber_TooMuch : W.subIn K (.ref c_qx) (.ref c_q09) = some false)
    (s_BadNumber_BadLine : W.subIn K (.ref c_qx) (.ref c_q0o) = some false)
    (x_q0j : W.excIn K c_q0j bmVE "ValueError.__new__" = true)
    (ega_q0j : W.findIn K (.ref c_q0j) "__getattribute__" = some (some (.builtin "BaseException.__getattribute__")))
    (egt_q0j : W.findIn K (.ref c_q0j) "__getattr__" = some none)
    (ecl_q0j : W.findIn K (.ref c_q0j) "__class__" = some (some (.builtin "object.__class__")))
    (egg_q0j : W.specialIn K (.builtin "object.__class__") "__get__" = some (some (.builtin "getset_descriptor.__get__")))
    (etk_q0j : W.takesIn K (.builtin "object.__class__") = some true)
    (emo_q0j : W.mroIn K c_q0j (.type "object") = some true)
    (emb_q0j : W.mroIn K c_q0j (.type "BaseException") = some true)
    (ev_q0j : W.subIn K (.ref c_q0j) (.type "ValueError") = some true)
    (s_Gone_CellarError : W.subIn K (.ref c_q0j) (.ref c_q0g) = some true)
    (s_Gone_BadName : W.subIn K (.ref c_q0j) (.ref c_q08) = some false)
    (s_Gone_Taken : W.subIn K (.ref c_q0j) (.ref c_q0e) = some false)
    (s_Gone_Unknown : W.subIn K (.ref c_q0j) (.ref c_q07) = some false)
    (s_Gone_BadNumber : W.subIn K (.ref c_q0j) (.ref c_qx) = some false)
    (s_Gone_Gone : W.subIn K (.ref c_q0j) (.ref c_q0j) = some true)
    (s_Gone_WrongRoom : W.subIn K (.ref c_q0j) (.ref c_qw) = some false)
    (s_Gone_Mouldy : W.subIn K (.ref c_q0j) (.ref c_q0b) = some false)
    (s_Gone_TooMuch : W.subIn K (.ref c_q0j) (.ref c_q09) = some false)
    (s_Gone_BadLine : W.subIn K (.ref c_q0j) (.ref c_q0o) = some false)
    (x_qw : W.excIn K c_qw bmVE "ValueError.__new__" = true)
    (ega_qw : W.findIn K (.ref c_qw) "__getattribute__" = some (some (.builtin "BaseException.__getattribute__")))
    (egt_qw : W.findIn K (.ref c_qw) "__getattr__" = some none)
    (ecl_qw : W.findIn K (.ref c_qw) "__class__" = some (some (.builtin "object.__class__")))
    (egg_qw : W.specialIn K (.builtin "object.__class__") "__get__" = some (some (.builtin "getset_descriptor.__get__")))
    (etk_qw : W.takesIn K (.builtin "object.__class__") = some true)
    (emo_qw : W.mroIn K c_qw (.type "object") = some true)
    (emb_qw : W.mroIn K c_qw (.type "BaseException") = some true)
    (ev_qw : W.subIn K (.ref c_qw) (.type "ValueError") = some true)
    (s_WrongRoom_CellarError : W.subIn K (.ref c_qw) (.ref c_q0g) = some true)
    (s_WrongRoom_BadName : W.subIn K (.ref c_qw) (.ref c_q08) = some false)
    (s_WrongRoom_Taken : W.subIn K (.ref c_qw) (.ref c_q0e) = some false)
    (s_WrongRoom_Unknown : W.subIn K (.ref c_qw) (.ref c_q07) = some false)
    (s_WrongRoom_BadNumber : W.subIn K (.ref c_qw) (.ref c_qx) = some false)
    (s_WrongRoom_Gone : W.subIn K (.ref c_qw) (.ref c_q0j) = some false)
    (s_WrongRoom_WrongRoom : W.subIn K (.ref c_qw) (.ref c_qw) = some true)
    (s_WrongRoom_Mouldy : W.subIn K (.ref c_qw) (.ref c_q0b) = some false)
    (s_WrongRoom_TooMuch : W.subIn K (.ref c_qw) (.ref c_q09) = some false)
    (s_WrongRoom_BadLine : W.subIn K (.ref c_qw) (.ref c_q0o) = some false)
    (x_q0b : W.excIn K c_q0b bmVE "ValueError.__new__" = true)
    (ega_q0b : W.findIn K (.ref c_q0b) "__getattribute__" = some (some (.builtin "BaseException.__getattribute__")))
    (egt_q0b : W.findIn K (.ref c_q0b) "__getattr__" = some none)
    (ecl_q0b : W.findIn K (.ref c_q0b) "__class__" = some (some (.builtin "object.__class__")))
    (egg_q0b : W.specialIn K (.builtin "object.__class__") "__get__" = some (some (.builtin "getset_descriptor.__get__")))
    (etk_q0b : W.takesIn K (.builtin "object.__class__") = some true)
    (emo_q0b : W.mroIn K c_q0b (.type "object") = some true)
    (emb_q0b : W.mroIn K c_q0b (.type "BaseException") = some true)
    (ev_q0b : W.subIn K (.ref c_q0b) (.type "ValueError") = some true)
    (s_Mouldy_CellarError : W.subIn K (.ref c_q0b) (.ref c_q0g) = some true)
    (s_Mouldy_BadName : W.subIn K (.ref c_q0b) (.ref c_q08) = some false)
    (s_Mouldy_Taken : W.subIn K (.ref c_q0b) (.ref c_q0e) = some false)
    (s_Mouldy_Unknown : W.subIn K (.ref c_q0b) (.ref c_q07) = some false)
    (s_Mouldy_BadNumber : W.subIn K (.ref c_q0b) (.ref c_qx) = some false)
    (s_Mouldy_Gone : W.subIn K (.ref c_q0b) (.ref c_q0j) = some false)
    (s_Mouldy_WrongRoom : W.subIn K (.ref c_q0b) (.ref c_qw) = some false)
    (s_Mouldy_Mouldy : W.subIn K (.ref c_q0b) (.ref c_q0b) = some true)
    (s_Mouldy_TooMuch : W.subIn K (.ref c_q0b) (.ref c_q09) = some false)
    (s_Mouldy_BadLine : W.subIn K (.ref c_q0b) (.ref c_q0o) = some false)
    (x_q09 : W.excIn K c_q09 bmVE "ValueError.__new__" = true)
    (ega_q09 : W.findIn K (.ref c_q09) "__getattribute__" = some (some (.builtin "BaseException.__getattribute__")))
    (egt_q09 : W.findIn K (.ref c_q09) "__getattr__" = some none)
    (ecl_q09 : W.findIn K (.ref c_q09) "__class__" = some (some (.builtin "object.__class__")))
    (egg_q09 : W.specialIn K (.builtin "object.__class__") "__get__" = some (some (.builtin "getset_descriptor.__get__")))
    (etk_q09 : W.takesIn K (.builtin "object.__class__") = some true)
    (emo_q09 : W.mroIn K c_q09 (.type "object") = some true)
    (emb_q09 : W.mroIn K c_q09 (.type "BaseException") = some true)
    (ev_q09 : W.subIn K (.ref c_q09) (.type "ValueError") = some true)
    (s_TooMuch_CellarError : W.subIn K (.ref c_q09) (.ref c_q0g) = some true)
    (s_TooMuch_BadName : W.subIn K (.ref c_q09) (.ref c_q08) = some false)
    (s_TooMuch_Taken : W.subIn K (.ref c_q09) (.ref c_q0e) = some false)
    (s_TooMuch_Unknown : W.subIn K (.ref c_q09) (.ref c_q07) = some false)
    (s_TooMuch_BadNumber : W.subIn K (.ref c_q09) (.ref c_qx) = some false)
    (s_TooMuch_Gone : W.subIn K (.ref c_q09) (.ref c_q0j) = some false)
    (s_TooMuch_WrongRoom : W.subIn K (.ref c_q09) (.ref c_qw) = some false)
    (s_TooMuch_Mouldy : W.subIn K (.ref c_q09) (.ref c_q0b) = some false)
    (s_TooMuch_TooMuch : W.subIn K (.ref c_q09) (.ref c_q09) = some true)
    (s_TooMuch_BadLine : W.subIn K (.ref c_q09) (.ref c_q0o) = some false)
    (t_q0g : W.instIn K (.ref c_q0g) (.type "tuple") = some false) (b_q0g : W.subIn K (.ref c_q0g) (.type "BaseException") = some true)
    : ∃ fd : FuncData,(∀ (s : Shared) (v : Value),BindsTo s fd ⟨[v],[]⟩ [("_law_script",v)]) /\ ∀ base : Heap,K.In base -> base.Ns mainGlobals mg -> FnOk l.prog w K mg base CX0 7 fa fd ["_law_script"] (q8x K) := by
  have e := hfa.symm.trans (W.mg_of X G a15)
  cases e
  have F1 := q26 (st := s_q0p) l1 c1 k1
  have b1 := F1.binds (ps := ["shelf", "recipe", "place"]) fun _ _ _ _ _ _ us hl => match us,hl with | [_,_,_],_ => rfl
  have F2 := q26 (st := s_q0m) l2 c2 k2
  have b2 := F2.binds (ps := ["wheel"]) fun _ _ _ _ _ _ us hl => match us,hl with | [_],_ => rfl
  have F3 := q26 (st := s_q0s) l3 c3 k3
  have b3 := F3.binds (ps := ["text", "signs"]) fun _ _ _ _ _ _ us hl => match us,hl with | [_,_],_ => rfl
  have F4 := q26 (st := s_q0u) l4 c4 k4
  have b4 := F4.binds (ps := ["text"]) fun _ _ _ _ _ _ us hl => match us,hl with | [_],_ => rfl
  have F5 := q26 (st := s_q05) l5 c5 k5
  have b5 := F5.binds (ps := ["number", "least", "most"]) fun _ _ _ _ _ _ us hl => match us,hl with | [_,_,_],_ => rfl
  have F6 := q26 (st := s_q0h) l6 c6 k6
  have b6 := F6.binds (ps := ["grams"]) fun _ _ _ _ _ _ us hl => match us,hl with | [_],_ => rfl
  have F7 := q26 (st := s_q0q) l7 c7 k7
  have b7 := F7.binds (ps := ["least", "most"]) fun _ _ _ _ _ _ us hl => match us,hl with | [_,_],_ => rfl
  have F8 := q26 (st := s_q0n) l8 c8 k8
  have b8 := F8.binds (ps := ["thing"]) fun _ _ _ _ _ _ us hl => match us,hl with | [_],_ => rfl
  have F9 := q26 (st := s_q0k) l9 c9 k9
  have b9 := F9.binds (ps := ["grams", "there"]) fun _ _ _ _ _ _ us hl => match us,hl with | [_,_],_ => rfl
  have F10 := q26 (st := s_q0a) l10 c10 k10
  have b10 := F10.binds (ps := ["_law_found", "_law_due"]) fun _ _ _ _ _ _ us hl => match us,hl with | [_,_],_ => rfl
  have F11 := q26 (st := s_q0l) l11 c11 k11
  have b11 := F11.binds (ps := ["_law_e"]) fun _ _ _ _ _ _ us hl => match us,hl with | [_],_ => rfl
  have F12 := q26 (st := s_q0i) l12 c12 k12
  have b12 := F12.binds (ps := ["_law_cellar", "_law_wheel", "_law_brine", "_law_cloth"]) fun _ _ _ _ _ _ us hl => match us,hl with | [_,_,_,_],_ => rfl
  have F13 := q26 (st := s_q0f) l13 c13 k13
  have b13 := F13.binds (ps := []) fun _ _ _ _ _ _ us hl => match us,hl with | [],_ => rfl
  have F14 := q26 (st := s_q0d) l14 c14 k14
  have b14 := F14.binds (ps := ["_law_entries", "_law_tool"]) fun _ _ _ _ _ _ us hl => match us,hl with | [_,_],_ => rfl
  have F15 := q26 (st := q63) l15 c15 k15
  have b15 := F15.binds (ps := ["_law_script"]) fun _ _ _ _ _ _ us hl => match us,hl with | [_],_ => rfl
  have F_qb := q26 (st := s_qb) l_qb c_qb k_qb
  have b_qb := F_qb.binds (ps := ["self", "kind", "name"]) fun _ _ _ _ _ _ us hl => match us,hl with | [_,_,_],_ => rfl
  have F_q04 := q26 (st := s_q04) l_q04 c_q04 k_q04
  have b_q04 := F_q04.binds (ps := ["self", "name", "damp", "warmth"]) fun _ _ _ _ _ _ us hl => match us,hl with | [_,_,_,_],_ => rfl
  have F_qz := q26 (st := s_qz) l_qz c_qz k_qz
  have b_qz := F_qz.binds (ps := ["self", "name", "room"]) fun _ _ _ _ _ _ us hl => match us,hl with | [_,_,_],_ => rfl
  have F_q03 := q26 (st := s_q03) l_q03 c_q03 k_q03
  have b_q03 := F_q03.binds (ps := ["self", "name", "mouldy", "turn_gap", "wash_gap", "route"]) fun _ _ _ _ _ _ us hl => match us,hl with | [_,_,_,_,_,_],_ => rfl
  have F_qr := q26 (st := s_qr) l_qr c_qr k_qr
  have b_qr := F_qr.binds (ps := ["self", "kind", "name"]) fun _ _ _ _ _ _ us hl => match us,hl with | [_,_,_],_ => rfl
  have F_qy := q26 (st := s_qy) l_qy c_qy k_qy
  have b_qy := F_qy.binds (ps := ["self", "name", "grams"]) fun _ _ _ _ _ _ us hl => match us,hl with | [_,_,_],_ => rfl
  have F_q00 := q26 (st := s_q00) l_q00 c_q00 k_q00
  have b_q00 := F_q00.binds (ps := ["self", "name", "recipe", "shelf", "grams", "day"]) fun _ _ _ _ _ _ us hl => match us,hl with | [_,_,_,_,_,_],_ => rfl
  have F_qv := q26 (st := s_qv) l_qv c_qv k_qv
  have b_qv := F_qv.binds (ps := ["self"]) fun _ _ _ _ _ _ us hl => match us,hl with | [_],_ => rfl
  have F_qa := q26 (st := s_qa) l_qa c_qa k_qa
  have b_qa := F_qa.binds (ps := ["self", "name"]) fun _ _ _ _ _ _ us hl => match us,hl with | [_,_],_ => rfl
  have F_qf := q26 (st := s_qf) l_qf c_qf k_qf
  have b_qf := F_qf.binds (ps := ["self", "name", "kind"]) fun _ _ _ _ _ _ us hl => match us,hl with | [_,_,_],_ => rfl
  have F_qg := q26 (st := s_qg) l_qg c_qg k_qg
  have b_qg := F_qg.binds (ps := ["self", "thing"]) fun _ _ _ _ _ _ us hl => match us,hl with | [_,_],_ => rfl
  have F_qu := q26 (st := s_qu) l_qu c_qu k_qu
  have b_qu := F_qu.binds (ps := ["self", "name", "damp", "warmth"]) fun _ _ _ _ _ _ us hl => match us,hl with | [_,_,_,_],_ => rfl
  have F_qp := q26 (st := s_qp) l_qp c_qp k_qp
  have b_qp := F_qp.binds (ps := ["self", "name", "room"]) fun _ _ _ _ _ _ us hl => match us,hl with | [_,_,_],_ => rfl
  have F_qk := q26 (st := s_qk) l_qk c_qk k_qk
  have b_qk := F_qk.binds (ps := ["self", "name", "mouldy", "turn_gap", "wash_gap", "route"]) fun _ _ _ _ _ _ us hl => match us,hl with | [_,_,_,_,_,_],_ => rfl
  have F_qt := q26 (st := s_qt) l_qt c_qt k_qt
  have b_qt := F_qt.binds (ps := ["self", "name"]) fun _ _ _ _ _ _ us hl => match us,hl with | [_,_],_ => rfl
  have F_qm := q26 (st := s_qm) l_qm c_qm k_qm
  have b_qm := F_qm.binds (ps := ["self", "name"]) fun _ _ _ _ _ _ us hl => match us,hl with | [_,_],_ => rfl
  have F_qo := q26 (st := s_qo) l_qo c_qo k_qo
  have b_qo := F_qo.binds (ps := ["self", "name"]) fun _ _ _ _ _ _ us hl => match us,hl with | [_,_],_ => rfl
  have F_qj := q26 (st := s_qj) l_qj c_qj k_qj
  have b_qj := F_qj.binds (ps := ["self", "name", "parts"]) fun _ _ _ _ _ _ us hl => match us,hl with | [_,_,_],_ => rfl
  have F_qq := q26 (st := s_qq) l_qq c_qq k_qq
  have b_qq := F_qq.binds (ps := ["self", "name", "batch", "sort", "shelf", "grams"]) fun _ _ _ _ _ _ us hl => match us,hl with | [_,_,_,_,_,_],_ => rfl
  have F_q01 := q26 (st := s_q01) l_q01 c_q01 k_q01
  have b_q01 := F_q01.binds (ps := ["self", "wheel", "brine", "cloth"]) fun _ _ _ _ _ _ us hl => match us,hl with | [_,_,_,_],_ => rfl
  have F_q02 := q26 (st := s_q02) l_q02 c_q02 k_q02
  have b_q02 := F_q02.binds (ps := ["self", "thing"]) fun _ _ _ _ _ _ us hl => match us,hl with | [_,_],_ => rfl
  have F_qi := qhe (st := s_qi) l_qi c_qi k_qi dl_qi
  have b_qi := F_qi.binds (ps := ["self", "times"]) (ds := []) (n := 2) rfl fun _ _ _ _ _ _ us hl => match us,hl with | [_,_],_ => ⟨_,rfl,rfl⟩
  have bd_qi := F_qi.binds (ps := ["self", "times"]) (ds := [.int 1 tk_qi]) (n := 1) rfl fun _ _ _ _ _ _ us hl => match us,hl with | [_],_ => ⟨_,rfl,rfl⟩
  have F_qh := q26 (st := s_qh) l_qh c_qh k_qh
  have b_qh := F_qh.binds (ps := ["self"]) fun _ _ _ _ _ _ us hl => match us,hl with | [_],_ => rfl
  have F_q06 := q26 (st := s_q06) l_q06 c_q06 k_q06
  have b_q06 := F_q06.binds (ps := ["self"]) fun _ _ _ _ _ _ us hl => match us,hl with | [_],_ => rfl
  have T : Txt K mg ⟨f1,_,f2,_,f3,_,f4,_,f5,_,f6,_,f7,_,f8,_,f9,_,f10,_,f11,_,f12,_,f13,_,f14,_,fa,_,c_q0v,f_qb,_,c_q0z,f_q04,_,c_q0x,f_qz,_,c_q0w,f_q03,_,c_q0t,f_qr,_,c_q0y,f_qy,_,c_q0r,f_q00,_,c_q0c,f_qv,_,f_qa,_,f_qf,_,f_qg,_,f_qu,_,f_qp,_,f_qk,_,f_qt,_,f_qm,_,f_qo,_,f_qj,_,f_qq,_,f_q01,_,f_q02,_,f_qi,_,f_qh,_,f_q06,_,c_q0g,c_q08,c_q0e,c_q07,c_qx,c_q0j,c_qw,c_q0b,c_q09,c_q0o⟩ := ⟨F1,W.mg_of X G a1,b1,F2,W.mg_of X G a2,b2,F3,W.mg_of X G a3,b3,F4,W.mg_of X G a4,b4,F5,W.mg_of X G a5,b5,F6,W.mg_of X G a6,b6,F7,W.mg_of X G a7,b7,F8,W.mg_of X G a8,b8,F9,W.mg_of X G a9,b9,F10,W.mg_of X G a10,b10,F11,W.mg_of X G a11,b11,F12,W.mg_of X G a12,b12,F13,W.mg_of X G a13,b13,F14,W.mg_of X G a14,b14,F15,W.mg_of X G a15,b15,W.mg_none_of X G z_len,W.mg_none_of X G z_all,W.mg_none_of X G z_any,W.mg_none_of X G z_range,W.mg_none_of X G z_int,W.mg_none_of X G z_bool,W.mg_none_of X G z_str,W.mg_none_of X G z_list,W.mg_none_of X G z_tuple,W.mg_none_of X G z_isinstance,W.mg_none_of X G z_sum,W.mg_none_of X G z_ValueError,W.mg_none_of X G z_set,W.mg_of X G cn_q0v,⟨pg_q0v,hd_q0v,po_q0v,sa_q0v⟩,F_qb,b_qb,⟨ma_q0v,a_qb,i_qb,kp_q0v⟩,na_Thing_kind,na_Thing_name,⟨bs_qb,br_qb,bf_qb,k_qb⟩,W.mg_of X G cn_q0z,⟨pg_q0z,hd_q0z,po_q0z,sa_q0z⟩,F_q04,b_q04,⟨ma_q0z,a_q04,i_q04,kp_q0z⟩,na_Room_kind,na_Room_name,na_Room_damp,na_Room_warmth,W.mg_of X G cn_q0x,⟨pg_q0x,hd_q0x,po_q0x,sa_q0x⟩,F_qz,b_qz,⟨ma_q0x,a_qz,i_qz,kp_q0x⟩,na_Shelf_kind,na_Shelf_name,na_Shelf_room,W.mg_of X G cn_q0w,⟨pg_q0w,hd_q0w,po_q0w,sa_q0w⟩,F_q03,b_q03,⟨ma_q0w,a_q03,i_q03,kp_q0w⟩,na_Sort_kind,na_Sort_name,na_Sort_mouldy,na_Sort_turn_gap,na_Sort_wash_gap,na_Sort_rooms,na_Sort_stays,W.mg_of X G cn_q0t,⟨pg_q0t,hd_q0t,po_q0t,sa_q0t⟩,F_qr,b_qr,⟨ma_q0t,a_qr,i_qr,kp_q0t⟩,na_Washer_kind,na_Washer_name,na_Washer_mouldy,W.mg_of X G cn_q0y,⟨pg_q0y,hd_q0y,po_q0y,sa_q0y⟩,F_qy,b_qy,⟨ma_q0y,a_qy,i_qy,kp_q0y⟩,na_Batch_kind,na_Batch_name,na_Batch_grams,W.mg_of X G cn_q0r,⟨pg_q0r,hd_q0r,po_q0r,sa_q0r⟩,F_q00,b_q00,⟨ma_q0r,a_q00,i_q00,kp_q0r⟩,na_Wheel_kind,na_Wheel_name,na_Wheel_recipe,na_Wheel_shelf,na_Wheel_grams,na_Wheel_place,na_Wheel_turn_day,na_Wheel_wash_day,na_Wheel_room_day,na_Wheel_gone,W.mg_of X G cn_q0c,⟨pg_q0c,hd_q0c,po_q0c,sa_q0c⟩,F_qv,b_qv,⟨ma_q0c,a_qv,i_qv,kp_q0c⟩,F_qa,b_qa,⟨a_qa,i_qa,k_qa⟩,F_qf,b_qf,⟨a_qf,i_qf,k_qf⟩,F_qg,b_qg,⟨a_qg,i_qg,k_qg⟩,F_qu,b_qu,⟨a_qu,i_qu,k_qu⟩,F_qp,b_qp,⟨a_qp,i_qp,k_qp⟩,F_qk,b_qk,⟨a_qk,i_qk,k_qk⟩,F_qt,b_qt,⟨a_qt,i_qt,k_qt⟩,F_qm,b_qm,⟨a_qm,i_qm,k_qm⟩,F_qo,b_qo,⟨a_qo,i_qo,k_qo⟩,F_qj,b_qj,⟨a_qj,i_qj,k_qj⟩,F_qq,b_qq,⟨a_qq,i_qq,k_qq⟩,F_q01,b_q01,⟨a_q01,i_q01,k_q01⟩,F_q02,b_q02,⟨a_q02,i_q02,k_q02⟩,⟨_,_,F_qi⟩,⟨_,qgj 1 _,bd_qi⟩,b_qi,⟨a_qi,i_qi,k_qi⟩,F_qh,b_qh,⟨a_qh,i_qh,k_qh⟩,F_q06,b_q06,⟨a_q06,i_q06,k_q06⟩,na_Cellar_today,na_Cellar_things,na_Cellar_wheels,na_Cellar_entries,W.mg_of X G cn_q0g,⟨ci_q0g,ct_q0g⟩,W.mg_of X G cn_q08,⟨ci_q08,ct_q08⟩,W.mg_of X G cn_q0e,⟨ci_q0e,ct_q0e⟩,W.mg_of X G cn_q07,⟨ci_q07,ct_q07⟩,W.mg_of X G cn_qx,⟨ci_qx,ct_qx⟩,W.mg_of X G cn_q0j,⟨ci_q0j,ct_q0j⟩,W.mg_of X G cn_qw,⟨ci_qw,ct_qw⟩,W.mg_of X G cn_q0b,⟨ci_q0b,ct_q0b⟩,W.mg_of X G cn_q09,⟨ci_q09,ct_q09⟩,W.mg_of X G cn_q0o,⟨ci_q0o,ct_q0o⟩,x_q08,⟨ci_q08,ega_q08,egt_q08,ecl_q08,egg_q08,etk_q08,emo_q08,emb_q08⟩,ev_q08,s_BadName_CellarError,s_BadName_BadName,s_BadName_Taken,s_BadName_Unknown,s_BadName_BadNumber,s_BadName_Gone,s_BadName_WrongRoom,s_BadName_Mouldy,s_BadName_TooMuch,s_BadName_BadLine,x_q0e,⟨ci_q0e,ega_q0e,egt_q0e,ecl_q0e,egg_q0e,etk_q0e,emo_q0e,emb_q0e⟩,ev_q0e,s_Taken_CellarError,s_Taken_BadName,s_Taken_Taken,s_Taken_Unknown,s_Taken_BadNumber,s_Taken_Gone,s_Taken_WrongRoom,s_Taken_Mouldy,s_Taken_TooMuch,s_Taken_BadLine,x_q07,⟨ci_q07,ega_q07,egt_q07,ecl_q07,egg_q07,etk_q07,emo_q07,emb_q07⟩,ev_q07,s_Unknown_CellarError,s_Unknown_BadName,s_Unknown_Taken,s_Unknown_Unknown,s_Unknown_BadNumber,s_Unknown_Gone,s_Unknown_WrongRoom,s_Unknown_Mouldy,s_Unknown_TooMuch,s_Unknown_BadLine,x_qx,⟨ci_qx,ega_qx,egt_qx,ecl_qx,egg_qx,etk_qx,emo_qx,emb_qx⟩,ev_qx,s_BadNumber_CellarError,s_BadNumber_BadName,s_BadNumber_Taken,s_BadNumber_Unknown,s_BadNumber_BadNumber,s_BadNumber_Gone,s_BadNumber_WrongRoom,s_BadNumber_Mouldy,s_BadNumber_TooMuch,s_BadNumber_BadLine,x_q0j,⟨ci_q0j,ega_q0j,egt_q0j,ecl_q0j,egg_q0j,etk_q0j,emo_q0j,emb_q0j⟩,ev_q0j,s_Gone_CellarError,s_Gone_BadName,s_Gone_Taken,s_Gone_Unknown,s_Gone_BadNumber,s_Gone_Gone,s_Gone_WrongRoom,s_Gone_Mouldy,s_Gone_TooMuch,s_Gone_BadLine,x_qw,⟨ci_qw,ega_qw,egt_qw,ecl_qw,egg_qw,etk_qw,emo_qw,emb_qw⟩,ev_qw,s_WrongRoom_CellarError,s_WrongRoom_BadName,s_WrongRoom_Taken,s_WrongRoom_Unknown,s_WrongRoom_BadNumber,s_WrongRoom_Gone,s_WrongRoom_WrongRoom,s_WrongRoom_Mouldy,s_WrongRoom_TooMuch,s_WrongRoom_BadLine,x_q0b,⟨ci_q0b,ega_q0b,egt_q0b,ecl_q0b,egg_q0b,etk_q0b,emo_q0b,emb_q0b⟩,ev_q0b,s_Mouldy_CellarError,s_Mouldy_BadName,s_Mouldy_Taken,s_Mouldy_Unknown,s_Mouldy_BadNumber,s_Mouldy_Gone,s_Mouldy_WrongRoom,s_Mouldy_Mouldy,s_Mouldy_TooMuch,s_Mouldy_BadLine,x_q09,⟨ci_q09,ega_q09,egt_q09,ecl_q09,egg_q09,etk_q09,emo_q09,emb_q09⟩,ev_q09,s_TooMuch_CellarError,s_TooMuch_BadName,s_TooMuch_Taken,s_TooMuch_Unknown,s_TooMuch_BadNumber,s_TooMuch_Gone,s_TooMuch_WrongRoom,s_TooMuch_Mouldy,s_TooMuch_TooMuch,s_TooMuch_BadLine,t_q0g,b_q0g,⟨_,W.mg_of X G g_q10⟩,⟨_,W.mg_of X G g_q11⟩,⟨_,W.mg_of X G g_q16⟩,⟨_,W.mg_of X G g_q12⟩,⟨_,W.mg_of X G g_q13⟩,⟨_,W.mg_of X G g_q15⟩,⟨_,W.mg_of X G g_q14⟩⟩
  exact ⟨W.fnOf "law" "law" (q1t q63) (q1r q63) (q1e q63) .none kV15 dc15 pm15 an15 cd15 ct15,fun s v => .of_eq rfl,fun base _ _ => ok_law T⟩
theorem walk {l : W.OpenLaw} {q : Program} {loose : List Str} {XP : (Str -> Option Value) -> Heap -> Prop} {YP : World -> Heap -> Prop} {d : DefRec} {K : Params -> W.Frag} (hn : l.most = some 63) (hdf : d.params.defaults = [])
    (hY : ∀ (w : World) (h : Heap),YP w h -> (K w.params).In h)
    (F : ∀ (w : World) (mg : Str -> Option Value) (fa : Addr) (h : Heap),(K w.params).In h -> h.Ns mainGlobals mg -> mg d.name = some (.ref fa) ->
      ∃ fd : FuncData,(∀ (s : Shared) (u : Value),BindsTo s fd ⟨[u],[]⟩ [("_law_script",u)]) /\ ∀ base : Heap,(K w.params).In base -> base.Ns mainGlobals mg -> FnOk l.prog w (K w.params) mg base CX0 7 fa fd ["_law_script"] (q8x (K w.params))) :
    W.WalkO q loose XP YP l.row.toRowW d [] (fun f vs => PySem.call f vs) :=
  L2.qh6 (n := 63) (k := 7) (x := "_law_script") (CX := fun _ => CX0) (sp := fun w => q8x (K w.params)) hn (by decide) hdf ⟨rfl,by decide,by decide⟩ hY F (fun _ _ a ns hl _ hS => ⟨a,ns,rfl,hS,hl,fun _ => rfl⟩) fun _ _ _ _ _ z => z
end K18
open PySem PySem.W PyProof.Rows
set_option maxRecDepth 100000 in
set_option maxHeartbeats 0 in
def PySem.W.Fast.tw14968554216999088777 : Unit := ()
def PySem.W.Fast.tw3129471784726938145 : Unit := ()
def PySem.W.Fast.tw9686514576114416129 : Unit := ()
def PySem.W.Fast.tw83144762771074286 : Unit := ()
def PySem.W.Fast.tw9049603261580435252 : Unit := ()
def PySem.W.Fast.tw11956135805515274800 : Unit := ()
def PySem.W.Fast.tw2645455126000445148 : Unit := ()
def PySem.W.Fast.tw10284467737133579756 : Unit := ()
def PySem.W.Fast.tw2675393664694493644 : Unit := ()
def PySem.W.Fast.tw15031161188564416613 : Unit := ()
def PySem.W.Fast.tw2931316850534392114 : Unit := ()
def PySem.W.Fast.tw9081169304906992411 : Unit := ()
def PySem.W.Fast.tw13460208682471172677 : Unit := ()
def PySem.W.Fast.tw597159191265921573 : Unit := ()
def PySem.W.Fast.tw1156579317953364746 : Unit := ()
def PySem.W.Fast.tw11468544652127352035 : Unit := ()
def PySem.W.Fast.tw8493864521977998638 : Unit := ()
def PySem.W.Fast.tw16889477640586826557 : Unit := ()
def PySem.W.Fast.tw16352465232735791829 : Unit := ()
def PySem.W.Fast.tw16882504696729582639 : Unit := ()
def PySem.W.Fast.tw2556292771058553064 : Unit := ()
def PySem.W.Fast.tw10124603648260974901 : Unit := ()
def PySem.W.Fast.tw9574866138377572684 : Unit := ()
def PySem.W.Fast.tw10059926668599084101 : Unit := ()
def PySem.W.Fast.tw1637000554757153357 : Unit := ()
def PySem.W.Fast.tw378715868224054577 : Unit := ()
def PySem.W.Fast.tw3123403690891945105 : Unit := ()
def PySem.W.Fast.tw7909998407114122204 : Unit := ()
def PySem.W.Fast.tw18385333692655763604 : Unit := ()
def PySem.W.Fast.tw15957726517923251109 : Unit := ()
def PySem.W.Fast.tw5357293825461491584 : Unit := ()
def PySem.W.Fast.tw8912594874379489728 : Unit := ()
def PySem.W.Fast.tw15548416070990754231 : Unit := ()
def PySem.W.Fast.tw16278691009065024191 : Unit := ()
def PySem.W.Fast.tw3956664482185123805 : Unit := ()
def PySem.W.Fast.tw4336606463024216544 : Unit := ()
def PySem.W.Fast.tw12032892373518375948 : Unit := ()
def PySem.W.Fast.tw16586793049422571627 : Unit := ()
def PySem.W.Fast.tw9385888464586750579 : Unit := ()
def PySem.W.Fast.tw6123761561125724347 : Unit := ()
def PySem.W.Fast.tw3650906841045137444 : Unit := ()
def PySem.W.Fast.tw18130408052554976499 : Unit := ()
def PySem.W.Fast.tw5479494618769277227 : Unit := ()
def PySem.W.Fast.tw12343679312616850006 : Unit := ()
def PySem.W.Fast.tw5890297538556913164 : Unit := ()
def PySem.W.Fast.tw3134810017937547690 : Unit := ()
def PySem.W.Fast.tw11059591398307768598 : Unit := ()
def PySem.W.Fast.tw15292541327544094431 : Unit := ()
def PySem.W.Fast.tw10769264827778140545 : Unit := ()
def PySem.W.Fast.tw16210508128813799488 : Unit := ()
def PySem.W.Fast.tw11100101836817068325 : Unit := ()
def PySem.W.Fast.tw3986335868319663341 : Unit := ()
def PySem.W.Fast.tw5950776450589402582 : Unit := ()
def PySem.W.Fast.tw3110638244850553144 : Unit := ()
def PySem.W.Fast.tw6095941332117524484 : Unit := ()
def PySem.W.Fast.tw4178561329338074885 : Unit := ()
def PySem.W.Fast.tw9077776416481009522 : Unit := ()
def PySem.W.Fast.tw8061742518772674293 : Unit := ()
def PySem.W.Fast.tw11669946833650731512 : Unit := ()
def PySem.W.Fast.tw3216896122269645172 : Unit := ()
def PySem.W.Fast.tw13788863147566933393 : Unit := ()
def PySem.W.Fast.tw8288832117403145673 : Unit := ()
def PySem.W.Fast.tw967526506159160463 : Unit := ()
def PySem.W.Fast.tw2526051134972479366 : Unit := ()
def PySem.W.Fast.tw18009350371106043289 : Unit := ()
def PySem.W.Fast.tw4183519860440387767 : Unit := ()
def PySem.W.Fast.tw15436485447980374866 : Unit := ()
def PySem.W.Fast.tw10381632700797758632 : Unit := ()
def PySem.W.Fast.tw16477756133503729821 : Unit := ()
def PySem.W.Fast.tw6898706365103057765 : Unit := ()
def PySem.W.Fast.tw2528406771085698501 : Unit := ()
def PySem.W.Fast.tw5466093873997280281 : Unit := ()
def PySem.W.Fast.tw2288851770701447762 : Unit := ()
def PySem.W.Fast.tw1706445845388637550 : Unit := ()
def PySem.W.Fast.tw1798371845916955139 : Unit := ()
def PySem.W.Fast.tw14393258464033270430 : Unit := ()
def PySem.W.Fast.tw9567997967261119853 : Unit := ()
def PySem.W.Fast.tw11099239127165802305 : Unit := ()
def PySem.W.Fast.tw2311160469300650767 : Unit := ()
def PySem.W.Fast.tw5548281108536325407 : Unit := ()
def PySem.W.Fast.tw7493264524836148385 : Unit := ()
def PySem.W.Fast.tw12413629544800305933 : Unit := ()
def PySem.W.Fast.tw10805237267620349572 : Unit := ()
def PySem.W.Fast.tw12266688451964730331 : Unit := ()
def PySem.W.Fast.tw2852912314095106157 : Unit := ()
def PySem.W.Fast.tw10702383317752879290 : Unit := ()
def PySem.W.Fast.tw13055736655366175817 : Unit := ()
def PySem.W.Fast.tw10022080914474719116 : Unit := ()
def PySem.W.Fast.tw14587100408445291217 : Unit := ()
def PySem.W.Fast.tw17432602412996707007 : Unit := ()
def PySem.W.Fast.tw7586050475731015955 : Unit := ()
def PySem.W.Fast.tw14519997018504165781 : Unit := ()
def PySem.W.Fast.tw8639253640323277883 : Unit := ()
def PySem.W.Fast.tw554125686025427965 : Unit := ()
theorem PySem.Challenge.cw_curdcellar_k18_whole_never_behind_mould_holds : PySem.Challenge.rw_curdcellar_k18_whole_never_behind_mould.Holds := by
  w_on; o_law; k_head; (case hw => w_witness2)
  k_fill
  refine K18.walk (l := PySem.Challenge.rw_curdcellar_k18_whole_never_behind_mould) rfl rfl (fun w h Y => W.kIn_of Y) ?F
  case F =>
    intro w mg fa h KX G hmg
    refine' K18.all_mk KX G hmg ..
    all_goals try first | k_exc | k_is
