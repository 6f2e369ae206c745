import PyProof.Rows.All
import Wide.All
import OpenK.AllK
import Wide.FinOn
import HandS.ForMost
import HandS.ForExc
import HandS.Wide
import HandS.IsInst
import HandS.ExcIs
import HandS.More
import HandS.DictComp
import HandS.SortInts
import HandS.Style
import HandS.Defaults
import HandS.Deep
import HandS.TryOnly
import KE.DataMinMax
import KE.SortData
import HandS.Iter
import KE.KExcSuper
import KE.OsGo
import HandS.ForSpec
import HandS.HeadWalk
import HandS.SlotsOwn
import KE.KCallOwn
import HandS.OwnEq
import HandS.FStr
import HandS.Text
import KE.KxIndex
import HandS.ExcOwn
import KE.KEqDict
import HandS.WordsDict
import HandS.DictEq
import HandS.Finally
import PyProof.MinMaxWalk
import HandS.Set
import HandS.SetFor
import HandS.Strs
import KE.KDictList
import HandS.DictSubView
import HandS.Sort
import PyProof.AutoSeq1
import HandS.TupAny
import HandS.ExcField
import PySem.Challenge.RW_gromatic_k14_held_marks
import HandS.HeadEnd
set_option Elab.async false
set_option linter.all false
set_option maxRecDepth 100000
set_option maxHeartbeats 8000000
namespace M
open PySem L2

/-! ### heaps: what is owned may change -/
abbrev AS := List Addr
def Fr (T : AS) (H H' : Hp) : Prop := ∀ a o, H a = some o → a ∉ T → H' a = some o
theorem Fr.refl {T : AS} (H : Hp) : Fr T H H := fun _ _ e _ => e
theorem Fr.trans {T : AS} {H H1 H2 : Hp} (a : Fr T H H1) (b : Fr T H1 H2) : Fr T H H2 := fun p o e n => b p o (a p o e n) n
theorem Fr.same {T : AS} {H H' : Hp} (s : Same H H') : Fr T H H' := fun p o e _ => s p o e
theorem Fr.sub {T T' : AS} {H H' : Hp} (h : ∀ a ∈ T, a ∈ T') (f : Fr T H H') : Fr T' H H' := fun p o e n => f p o e fun m => n (h p m)
theorem Fr.toSame {H H' : Hp} (f : Fr [] H H') : Same H H' := fun p o e => f p o e (by simp)
def Dom (S : AS) (H : Hp) : Prop := ∀ a ∈ S, H a ≠ none
theorem Dom.same {S : AS} {H H' : Hp} (d : Dom S H) (s : Same H H') : Dom S H' := fun a m e => by
  cases q : H a with
  | none => exact d a m q
  | some o => rw [s a o q] at e; cases e
theorem Dom.nil {H : Hp} : Dom [] H := fun a m => by simp at m
theorem Dom.not_mem {S : AS} {H : Hp} {p : Addr} (d : Dom S H) (h : H p = none) : p ∉ S := fun m => d p m h
theorem Dom.cons {S : AS} {H : Hp} {p : Addr} {o : HO} (d : Dom S H) (h : H p = some o) : Dom (p :: S) H := fun a m => by
  rcases List.mem_cons.mp m with rfl | m
  · rw [h]; intro z; cases z
  · exact d a m
theorem same_new {H : Hp} {p : Addr} {o : HO} (h : H p = none) : Same H (upd H p o) := fun b x e => by
  rw [upd_ne (ne_of_none e h)]
  exact e
theorem fr_upd {T : AS} {H : Hp} {p : Addr} {o : HO} (h : p ∈ T) : Fr T H (upd H p o) := fun b x e n => by
  rw [upd_ne (fun z => n (by rw [z]; exact h))]
  exact e
theorem Dom.upd {S : AS} {H : Hp} {p : Addr} {o : HO} (d : Dom S H) : Dom S (upd H p o) := fun a m => by
  by_cases e : a = p
  · subst e; rw [upd_same]; intro z; cases z
  · rw [upd_ne e]; exact d a m

/-! ### pairs of lists -/
abbrev All2 {α β : Type} := @Paired α β
theorem All2.imp {α β : Type} {F G : α → β → Prop} (h : ∀ a b, F a b → G a b) : ∀ {xs : List α} {ys : List β}, All2 F xs ys → All2 G xs ys
  | _, _, .nil => .nil
  | _, _, .cons a r => .cons (h _ _ a) (All2.imp h r)
theorem All2.len {α β : Type} {F : α → β → Prop} : ∀ {xs : List α} {ys : List β}, All2 F xs ys → xs.length = ys.length
  | _, _, .nil => rfl
  | _, _, .cons _ r => by simp [All2.len r]
theorem All2.get {α β : Type} {F : α → β → Prop} : ∀ {xs : List α} {ys : List β} (i : Nat) {y : β}, All2 F xs ys → ys[i]? = some y → ∃ x, xs[i]? = some x ∧ F x y
  | _, _, i, y, .nil, e => by simp at e
  | _, _, 0, y, .cons a _, e => by simp at e; subst e; exact ⟨_, rfl, a⟩
  | _, _, i + 1, y, .cons _ r, e => by
    obtain ⟨x, h1, h2⟩ := All2.get i (y := y) r (by simpa using e)
    exact ⟨x, by simpa using h1, h2⟩
theorem All2.getL {α β : Type} {F : α → β → Prop} : ∀ {xs : List α} {ys : List β} (i : Nat) {x : α}, All2 F xs ys → xs[i]? = some x → ∃ y, ys[i]? = some y ∧ F x y
  | _, _, i, y, .nil, e => by simp at e
  | _, _, 0, y, .cons a _, e => by simp at e; subst e; exact ⟨_, rfl, a⟩
  | _, _, i + 1, y, .cons _ r, e => by
    obtain ⟨x, h1, h2⟩ := All2.getL i (x := y) r (by simpa using e)
    exact ⟨x, by simpa using h1, h2⟩
theorem All2.snoc {α β : Type} {F : α → β → Prop} {x : α} {y : β} : ∀ {xs : List α} {ys : List β}, All2 F xs ys → F x y → All2 F (xs ++ [x]) (ys ++ [y])
  | _, _, .nil, h => .cons h .nil
  | _, _, .cons a r, h => .cons a (All2.snoc r h)
theorem All2.app {α β : Type} {F : α → β → Prop} : ∀ {xs xs' : List α} {ys ys' : List β}, All2 F xs ys → All2 F xs' ys' → All2 F (xs ++ xs') (ys ++ ys')
  | _, _, _, _, .nil, h => h
  | _, _, _, _, .cons a r, h => .cons a (All2.app r h)
theorem All2.drop {α β : Type} {F : α → β → Prop} : ∀ (n : Nat) {xs : List α} {ys : List β}, All2 F xs ys → All2 F (xs.drop n) (ys.drop n)
  | 0, _, _, h => h
  | _ + 1, _, _, .nil => .nil
  | n + 1, _, _, .cons _ r => All2.drop n r
theorem All2.take {α β : Type} {F : α → β → Prop} : ∀ (n : Nat) {xs : List α} {ys : List β}, All2 F xs ys → All2 F (xs.take n) (ys.take n)
  | 0, _, _, _ => .nil
  | _ + 1, _, _, .nil => .nil
  | n + 1, _, _, .cons a r => .cons a (All2.take n r)
theorem All2.set {α β : Type} {F : α → β → Prop} {x : α} {y : β} (h : F x y) : ∀ (n : Nat) {xs : List α} {ys : List β}, All2 F xs ys → All2 F (xs.set n x) (ys.set n y)
  | _, _, _, .nil => .nil
  | 0, _, _, .cons _ r => .cons h r
  | n + 1, _, _, .cons a r => .cons a (All2.set h n r)
theorem All2.at {α β : Type} {F : α → β → Prop} {xs : List α} {ys : List β} {i : Int} {y : β} (h : All2 F xs ys) (e : atI ys i = some y) : ∃ x, atI xs i = some x ∧ F x y := by
  unfold atI at e ⊢
  rw [h.len]
  cases q : ixN ys.length i with
  | none => rw [q] at e; cases e
  | some j =>
    rw [q] at e
    exact h.get j e

/-! ### codes: what a value stands for -/
def nT (K : PySem.W.Frag) (S : AS) (H : Hp) (a : Addr) (xs : List V) : Prop := (Rd H a (.tup xs) ∧ a ∉ S) ∨ SqT K (fun _ => none) a xs
def nL (K : PySem.W.Frag) (S : AS) (H : Hp) (a : Addr) (xs : List V) : Prop := H a = some (.lst xs) ∧ a ∉ S
theorem not_rd {a : Addr} {u : HO} (h : Rd (fun _ => none) a u) : False := by
  rcases h with h | ⟨_, h⟩ <;> cases h
theorem Rd.some {H : Hp} {a : Addr} {u : HO} (h : Rd H a u) : H a ≠ none := by
  rcases h with h | ⟨_, h⟩ <;> rw [h] <;> intro z <;> cases z
theorem Rd.fr {T : AS} {H H' : Hp} {a : Addr} {u : HO} (h : Rd H a u) (f : Fr T H H') (n : a ∉ T) : Rd H' a u := by
  rcases h with h | ⟨o, h⟩
  · exact .inl (f _ _ h n)
  · exact .inr ⟨o, f _ _ h n⟩
theorem nT.sq {K : PySem.W.Frag} {S : AS} {H : Hp} {a : Addr} {xs : List V} (h : nT K S H a xs) : SqT K H a xs := by
  rcases h with h | h | h
  · exact .inl h.1
  · exact (not_rd h).elim
  · exact .inr h
theorem nL.sq {K : PySem.W.Frag} {S : AS} {H : Hp} {a : Addr} {xs : List V} (h : nL K S H a xs) : SqL K H a xs := .inl (.inl h.1)
theorem nT.mono {K : PySem.W.Frag} {S : AS} {H H' : Hp} {a : Addr} {xs : List V} (f : Fr S H H') (h : nT K S H a xs) : nT K S H' a xs := by
  rcases h with h | h
  · exact .inl ⟨Rd.fr h.1 f h.2, h.2⟩
  · exact .inr h
theorem nL.mono {K : PySem.W.Frag} {S : AS} {H H' : Hp} {a : Addr} {xs : List V} (f : Fr S H H') (h : nL K S H a xs) : nL K S H' a xs := ⟨f _ _ h.1 h.2, h.2⟩
theorem not_cons {S : AS} {H : Hp} {p a : Addr} (hp : H p = none) (ha : H a ≠ none) (n : a ∉ S) : a ∉ p :: S := fun m => by
  rcases List.mem_cons.mp m with rfl | m
  · exact ha hp
  · exact n m
theorem nT.ext {K : PySem.W.Frag} {S : AS} {H : Hp} {a p : Addr} {xs : List V} (hp : H p = none) (h : nT K S H a xs) : nT K (p :: S) H a xs := by
  rcases h with h | h
  · exact .inl ⟨h.1, not_cons hp (Rd.some h.1) h.2⟩
  · exact .inr h
theorem nL.ext {K : PySem.W.Frag} {S : AS} {H : Hp} {a p : Addr} {xs : List V} (hp : H p = none) (h : nL K S H a xs) : nL K (p :: S) H a xs := ⟨h.1, not_cons hp (by rw [h.1]; intro z; cases z) h.2⟩
theorem nT.sub {K : PySem.W.Frag} {S S' : AS} {H : Hp} {a : Addr} {xs : List V} (hs : ∀ a ∈ S', a ∈ S) (h : nT K S H a xs) : nT K S' H a xs := by
  rcases h with h | h
  · exact .inl ⟨h.1, fun m => h.2 (hs _ m)⟩
  · exact .inr h
theorem nL.sub {K : PySem.W.Frag} {S S' : AS} {H : Hp} {a : Addr} {xs : List V} (hs : ∀ a ∈ S', a ∈ S) (h : nL K S H a xs) : nL K S' H a xs := ⟨h.1, fun m => h.2 (hs _ m)⟩

structure Ty (K : PySem.W.Frag) (α : Type) where
  rp : AS → Hp → V → α → Prop
  mono : ∀ {S H H' v x}, Fr S H H' → rp S H v x → rp S H' v x
  ext : ∀ {S H p v x}, H p = none → rp S H v x → rp (p :: S) H v x
  sub : ∀ {S S' H v x}, (∀ a ∈ S', a ∈ S) → rp S H v x → rp S' H v x

section
variable {K : PySem.W.Frag} {α β γ δ ε : Type}
def tInt : Ty K Int := ⟨fun _ _ v i => v = .int i, fun _ h => h, fun _ h => h, fun _ h => h⟩
def tBool : Ty K Bool := ⟨fun _ _ v i => v = .bl i, fun _ h => h, fun _ h => h, fun _ h => h⟩
def tStr : Ty K Str := ⟨fun _ _ v i => v = .str i ∧ PyData.strOk i = true, fun _ h => h, fun _ h => h, fun _ h => h⟩
def tNone : Ty K Unit := ⟨fun _ _ v _ => v = .non, fun _ h => h, fun _ h => h, fun _ h => h⟩
def tOpt (c : Ty K α) : Ty K (Option α) where
  rp S H v
    | none => v = .non
    | some x => v ≠ .non ∧ c.rp S H v x
  mono {S H H' v x} f h := by cases x with | none => exact h | some x => exact ⟨h.1, c.mono f h.2⟩
  ext {S H p v x} f h := by cases x with | none => exact h | some x => exact ⟨h.1, c.ext f h.2⟩
  sub {S S' H v x} f h := by cases x with | none => exact h | some x => exact ⟨h.1, c.sub f h.2⟩
def tT2 (c : Ty K α) (d : Ty K β) : Ty K (α × β) where
  rp S H v x := ∃ a u w, v = .ref a ∧ nT K S H a [u, w] ∧ c.rp S H u x.1 ∧ d.rp S H w x.2
  mono f := fun ⟨a, u, w, e, h, h1, h2⟩ => ⟨a, u, w, e, h.mono f, c.mono f h1, d.mono f h2⟩
  ext f := fun ⟨a, u, w, e, h, h1, h2⟩ => ⟨a, u, w, e, h.ext f, c.ext f h1, d.ext f h2⟩
  sub f := fun ⟨a, u, w, e, h, h1, h2⟩ => ⟨a, u, w, e, h.sub f, c.sub f h1, d.sub f h2⟩
def tT3 (c : Ty K α) (d : Ty K β) (g : Ty K γ) : Ty K (α × β × γ) where
  rp S H v x := ∃ a u w z, v = .ref a ∧ nT K S H a [u, w, z] ∧ c.rp S H u x.1 ∧ d.rp S H w x.2.1 ∧ g.rp S H z x.2.2
  mono f := fun ⟨a, u, w, z, e, h, h1, h2, h3⟩ => ⟨a, u, w, z, e, h.mono f, c.mono f h1, d.mono f h2, g.mono f h3⟩
  ext f := fun ⟨a, u, w, z, e, h, h1, h2, h3⟩ => ⟨a, u, w, z, e, h.ext f, c.ext f h1, d.ext f h2, g.ext f h3⟩
  sub f := fun ⟨a, u, w, z, e, h, h1, h2, h3⟩ => ⟨a, u, w, z, e, h.sub f, c.sub f h1, d.sub f h2, g.sub f h3⟩
/-- a tuple of any length; a list -/
def tTs (c : Ty K α) : Ty K (List α) where
  rp S H v xs := ∃ a vs, v = .ref a ∧ nT K S H a vs ∧ All2 (c.rp S H) vs xs
  mono f := fun ⟨a, vs, e, h, h1⟩ => ⟨a, vs, e, h.mono f, h1.imp fun _ _ => c.mono f⟩
  ext f := fun ⟨a, vs, e, h, h1⟩ => ⟨a, vs, e, h.ext f, h1.imp fun _ _ => c.ext f⟩
  sub f := fun ⟨a, vs, e, h, h1⟩ => ⟨a, vs, e, h.sub f, h1.imp fun _ _ => c.sub f⟩
def tL (c : Ty K α) : Ty K (List α) where
  rp S H v xs := ∃ a vs, v = .ref a ∧ nL K S H a vs ∧ All2 (c.rp S H) vs xs
  mono f := fun ⟨a, vs, e, h, h1⟩ => ⟨a, vs, e, h.mono f, h1.imp fun _ _ => c.mono f⟩
  ext f := fun ⟨a, vs, e, h, h1⟩ => ⟨a, vs, e, h.ext f, h1.imp fun _ _ => c.ext f⟩
  sub f := fun ⟨a, vs, e, h, h1⟩ => ⟨a, vs, e, h.sub f, h1.imp fun _ _ => c.sub f⟩
/-- a ratio: a tuple of two numbers in lowest terms -/
def tRat : Ty K Rat where
  rp S H v q := ∃ a, v = .ref a ∧ nT K S H a [.int q.num, .int (q.den : Int)]
  mono f := fun ⟨a, e, h⟩ => ⟨a, e, h.mono f⟩
  ext f := fun ⟨a, e, h⟩ => ⟨a, e, h.ext f⟩
  sub f := fun ⟨a, e, h⟩ => ⟨a, e, h.sub f⟩
abbrev tSpot : Ty K (Rat × Rat) := tT2 tRat tRat
/-- a list that is owned: at p, and p is of S -/
def Own (c : Ty K α) (S : AS) (H : Hp) (p : Addr) (xs : List α) : Prop := ∃ vs, H p = some (.lst vs) ∧ All2 (c.rp S H) vs xs
/-- a new list -/
def nwL (c : Ty K α) (S : AS) (H0 H : Hp) (v : V) (xs : List α) : Prop := ∃ p, v = .ref p ∧ H0 p = none ∧ Own c (p :: S) H p xs
theorem nwL.rp {c : Ty K α} {S : AS} {H0 H : Hp} {v : V} {xs : List α} (h : nwL c S H0 H v xs) (d : Dom S H0) : (tL c).rp S H v xs := by
  obtain ⟨p, e, hp, vs, hv, ha⟩ := h
  exact ⟨p, vs, e, ⟨hv, d.not_mem hp⟩, ha.imp fun _ _ => c.sub fun _ m => List.mem_cons_of_mem _ m⟩

/-! ### what an expression tells -/
structure Rl (α : Type) where
  r : Hp → Hp → V → α → Prop
  back : ∀ {T H0 H1 H2 v x}, Fr T H0 H1 → Dom T H1 → r H1 H2 v x → r H0 H2 v x
def of (c : Ty K α) (S : AS) : Rl α := ⟨fun _ H v x => c.rp S H v x, fun _ _ h => h⟩
theorem fr_back {T : AS} {H0 H1 : Hp} {p : Addr} (f : Fr T H0 H1) (d : Dom T H1) (n : H1 p = none) : H0 p = none := by
  cases q : H0 p with
  | none => rfl
  | some o =>
    rw [f p o q (d.not_mem n)] at n
    cases n
def nw (c : Ty K α) (S : AS) : Rl (List α) := ⟨nwL c S, fun f d ⟨p, e, n, h⟩ => ⟨p, e, fr_back f d n, h⟩⟩
theorem Rl.same (R : Rl α) {H0 H1 H2 : Hp} {v : V} {x : α} (s : Same H0 H1) (h : R.r H1 H2 v x) : R.r H0 H2 v x := R.back (T := []) (Fr.same s) Dom.nil h
/-- S: what is owned; T: what of it may change while the expression is read (the bag) -/
def Ev (S T : AS) (te : TE) (σ : St) (H : Hp) (R : Rl α) (r : Option α) : Prop :=
  ∀ x, r = some x → ∀ H1, Fr T H H1 → Dom S H1 → ∀ Q : VK, (∀ v H2, Same H1 H2 → R.r H1 H2 v x → Q v H2) → te σ H1 Q
def EvB (S T : AS) (tt : TT) (σ : St) (H : Hp) (r : Option Bool) : Prop :=
  ∀ b, r = some b → ∀ H1, Fr T H H1 → Dom S H1 → ∀ Q : Bool → Hp → Prop, (∀ H2, Same H1 H2 → Q b H2) → tt σ H1 Q
abbrev bd (r : Option α) (k : α → Option β) : Option β := Option.bind r k
theorem bd_some {r : Option α} {k : α → Option β} {y : β} (h : bd r k = some y) : ∃ x, r = some x ∧ k x = some y := by
  cases r with
  | none => cases h
  | some x => exact ⟨x, rfl, h⟩
abbrev Sub (T S : AS) : Prop := ∀ a ∈ T, a ∈ S
variable {S T : AS} {σ : St} {H : Hp} {ta tb te : TE} {tt tu : TT} {a : Ty K α} {b : Ty K β} {c : Ty K γ}
theorem ev_var (ts : Sub T S) {i : Nat} {v : V} {x : α} (h : a.rp S H v x) (e : σ[i]? = some (some v)) : Ev S T (tVar i) σ H (of a S) (some x) := by
  intro y ey H1 f d Q q
  cases ey
  exact ⟨v, e, q v H1 (Same.refl _) (a.mono (f.sub ts) h)⟩
theorem ev_c {v : V} {x : α} (h : ∀ H, a.rp S H v x) : Ev S T (tC v) σ H (of a S) (some x) := by
  intro y ey H1 f d Q q
  cases ey
  exact q v H1 (Same.refl _) (h H1)
theorem ev_int {i : Int} : Ev S T (tC (.int i)) σ H (of (K := K) tInt S) (some i) := ev_c fun _ => rfl
theorem ev_bool {i : Bool} : Ev S T (tC (.bl i)) σ H (of (K := K) tBool S) (some i) := ev_c fun _ => rfl
theorem ev_str {i : Str} (h : PyData.strOk i = true := by decide +kernel) : Ev S T (tC (.str i)) σ H (of (K := K) tStr S) (some i) := ev_c fun _ => ⟨rfl, h⟩
theorem ev_none : Ev S T (tC .non) σ H (of (K := K) tNone S) (some ()) := ev_c fun _ => rfl
/-- another code for the same value -/
theorem ev_as {R : Rl α} {R' : Rl β} {r : Option α} {g : α → Option β} (h : Ev S T te σ H R r) (k : ∀ x y, g x = some y → ∀ H1 H2 v, Dom S H1 → R.r H1 H2 v x → R'.r H1 H2 v y) : Ev S T te σ H R' (bd r g) := by
  intro y ey H1 f d Q q
  obtain ⟨x, ex, ey⟩ := bd_some ey
  exact h x ex H1 f d Q fun v H2 s hv => q v H2 s (k x y ey H1 H2 v d hv)
theorem ev_new {r : Option (List α)} (h : Ev S T te σ H (nw a S) r) : Ev S T te σ H (of (tL a) S) r := by
  intro x ex H1 f d Q q
  exact h x ex H1 f d Q fun v H2 s hv => q v H2 s (nwL.rp hv d)
def OpD (a : Ty K α) (b : Ty K β) (S : AS) (R : Rl γ) (r : R2) (f : α → β → Option γ) : Prop :=
  ∀ x y z, f x y = some z → ∀ H1 v w, Dom S H1 → a.rp S H1 v x → b.rp S H1 w y → ∀ Q : VK, (∀ u H2, Same H1 H2 → R.r H1 H2 u z → Q u H2) → r v w H1 Q
theorem ev_op {R : Rl γ} {r : R2} {f : α → β → Option γ} {ra : Option α} {rb : Option β} (h : OpD a b S R r f) (ha : Ev S T ta σ H (of a S) ra) (hb : Ev S T tb σ H (of b S) rb) :
    Ev S T (tOp r ta tb) σ H R (bd ra fun x => bd rb fun y => f x y) := by
  intro z e H1 f1 d Q q
  obtain ⟨x, ex, e⟩ := bd_some e
  obtain ⟨y, ey, e⟩ := bd_some e
  refine ha x ex H1 f1 d _ fun v H2 s2 hv => hb y ey H2 (f1.trans (Fr.same s2)) (d.same s2) _ fun w H3 s3 hw => h x y z e H3 v w ((d.same s2).same s3) (a.mono (Fr.same s3) hv) hw Q fun u H4 s4 hu => q u H4 (s2.trans (s3.trans s4)) (R.same (s2.trans s3) hu)
/-- ints -/
theorem od_I0 {g : Int → Int → V} {k : Int → Int → γ} (h : ∀ i j H, c.rp S H (g i j) (k i j)) : OpD (K := K) tInt tInt S (of c S) (rI0 g) (fun i j => some (k i j)) := by
  intro x y z e H1 v w d hv hw Q q
  cases e
  exact ⟨x, y, hv, hw, q _ H1 (Same.refl _) (h x y H1)⟩
theorem od_I {C : Int → Int → Prop} {p : Int → Int → Bool} {g : Int → Int → V} {k : Int → Int → γ} (hp : ∀ i j, p i j = true → C i j) (h : ∀ i j H, c.rp S H (g i j) (k i j)) : OpD (K := K) tInt tInt S (of c S) (rI C g) (fun i j => if p i j then some (k i j) else none) := by
  intro x y z e H1 v w d hv hw Q q
  dsimp only at e
  split at e
  · rename_i hc
    cases e
    exact ⟨x, y, hv, hw, hp _ _ hc, q _ H1 (Same.refl _) (h x y H1)⟩
  · cases e
def mulP (i j : Int) : Bool := decide (i.natAbs.log2 + j.natAbs.log2 < 1000000)
def mul? (i j : Int) : Option Int := if mulP i j then some (i * j) else none
theorem od_add : OpD (K := K) tInt tInt S (of (K := K) tInt S) (rI0 fun i j => .int (i + j)) (fun i j => some (i + j)) := od_I0 fun _ _ _ => rfl
theorem od_sub : OpD (K := K) tInt tInt S (of (K := K) tInt S) (rI0 fun i j => .int (i - j)) (fun i j => some (i - j)) := od_I0 fun _ _ _ => rfl
theorem od_mul : OpD (K := K) tInt tInt S (of (K := K) tInt S) (rI CMulW fun i j => .int (i * j)) mul? := od_I (fun i j h => show i.natAbs.log2 + j.natAbs.log2 < 1000000 from of_decide_eq_true h) fun _ _ _ => rfl
theorem od_lt : OpD (K := K) tInt tInt S (of (K := K) tBool S) (rI0 fun i j => .bl (decide (i < j))) (fun i j => some (decide (i < j))) := od_I0 fun _ _ _ => rfl
theorem od_le : OpD (K := K) tInt tInt S (of (K := K) tBool S) (rI0 fun i j => .bl (decide (i ≤ j))) (fun i j => some (decide (i ≤ j))) := od_I0 fun _ _ _ => rfl
theorem od_gt : OpD (K := K) tInt tInt S (of (K := K) tBool S) (rI0 fun i j => .bl (decide (j < i))) (fun i j => some (decide (j < i))) := od_I0 fun _ _ _ => rfl
theorem od_ge : OpD (K := K) tInt tInt S (of (K := K) tBool S) (rI0 fun i j => .bl (decide (j ≤ i))) (fun i j => some (decide (j ≤ i))) := od_I0 fun _ _ _ => rfl
theorem od_eqI : OpD (K := K) tInt tInt S (of (K := K) tBool S) rEq (fun i j => some (decide (i = j))) := by
  intro x y z e H1 v w d hv hw Q q
  cases e; cases hv; cases hw
  refine ⟨rfl, ?_⟩
  rw [show decide (V.int x = V.int y) = decide (x = y) by simp]
  exact q _ H1 (Same.refl _) rfl
theorem od_neI : OpD (K := K) tInt tInt S (of (K := K) tBool S) rNe (fun i j => some (!decide (i = j))) := by
  intro x y z e H1 v w d hv hw Q q
  cases e; cases hv; cases hw
  refine ⟨rfl, ?_⟩
  rw [show decide (V.int x = V.int y) = decide (x = y) by simp]
  exact q _ H1 (Same.refl _) rfl
theorem od_eqS : OpD (K := K) tStr tStr S (of (K := K) tBool S) rEq (fun i j => some (decide (i = j))) := by
  intro x y z e H1 v w d hv hw Q q
  obtain ⟨rfl, _⟩ := hv; obtain ⟨rfl, _⟩ := hw; cases e
  refine ⟨rfl, ?_⟩
  rw [show decide (V.str x = V.str y) = decide (x = y) by simp]
  exact q _ H1 (Same.refl _) rfl
theorem od_neS : OpD (K := K) tStr tStr S (of (K := K) tBool S) rNe (fun i j => some (!decide (i = j))) := by
  intro x y z e H1 v w d hv hw Q q
  obtain ⟨rfl, _⟩ := hv; obtain ⟨rfl, _⟩ := hw; cases e
  refine ⟨rfl, ?_⟩
  rw [show decide (V.str x = V.str y) = decide (x = y) by simp]
  exact q _ H1 (Same.refl _) rfl
/-- an item of a list, of a tuple -/
theorem od_ixL : OpD (tL a) (K := K) tInt S (of a S) (rIxL K) (fun xs i => atI xs i) := by
  intro x y z e H1 v w d hv hw Q q
  obtain ⟨p, vs, rfl, hp, ha⟩ := hv
  cases hw
  obtain ⟨u, hu, hz⟩ := ha.at e
  exact ⟨p, vs, y, u, rfl, rfl, hp.sq, hu, q u H1 (Same.refl _) hz⟩
theorem od_ixTs : OpD (tTs a) (K := K) tInt S (of a S) (rIxT K) (fun xs i => atI xs i) := by
  intro x y z e H1 v w d hv hw Q q
  obtain ⟨p, vs, rfl, hp, ha⟩ := hv
  cases hw
  obtain ⟨u, hu, hz⟩ := ha.at e
  exact ⟨p, vs, y, u, rfl, rfl, hp.sq, hu, q u H1 (Same.refl _) hz⟩
/-- an item of a pair of alike things -/
def at2 (x : α × α) (i : Int) : Option α := atI [x.1, x.2] i
theorem od_ix2 : OpD (tT2 a a) (K := K) tInt S (of a S) (rIxT K) at2 := by
  intro x y z e H1 v w d hv hw Q q
  obtain ⟨p, u1, u2, rfl, hp, h1, h2⟩ := hv
  cases hw
  obtain ⟨u, hu, hz⟩ := All2.at (F := a.rp S H1) (.cons h1 (.cons h2 .nil)) e
  exact ⟨p, _, y, u, rfl, rfl, hp.sq, hu, q u H1 (Same.refl _) hz⟩
/-- items 0, 1 of tuples by their written places -/
theorem ev_ixT {R : Rl γ} {i : Int} {ra : Option α} {g : α → γ} (ha : Ev S T ta σ H (of a S) ra) (h : ∀ x H v, a.rp S H v x → ∃ p vs u, v = .ref p ∧ SqT K H p vs ∧ atI vs i = some u ∧ R.r H H u (g x)) :
    Ev S T (tOp (rIxT K) ta (tC (.int i))) σ H R (bd ra fun x => some (g x)) := by
  intro z e H1 f1 d Q q
  obtain ⟨x, ex, e⟩ := bd_some e
  cases e
  refine ha x ex H1 f1 d _ fun v H2 s2 hv => ?_
  obtain ⟨p, vs, u, rfl, hp, hu, hz⟩ := h x H2 v hv
  exact ⟨p, vs, i, u, rfl, rfl, hp, hu, q u H2 s2 (R.same s2 hz)⟩
theorem ev_ix20 {ra : Option (α × β)} (ha : Ev S T ta σ H (of (tT2 a b) S) ra) : Ev S T (tOp (rIxT K) ta (tC (.int 0))) σ H (of a S) (bd ra fun x => some x.1) :=
  ev_ixT ha fun x H v ⟨p, u, w, e, h, h1, h2⟩ => ⟨p, _, u, e, h.sq, rfl, h1⟩
theorem ev_ix21 {ra : Option (α × β)} (ha : Ev S T ta σ H (of (tT2 a b) S) ra) : Ev S T (tOp (rIxT K) ta (tC (.int 1))) σ H (of b S) (bd ra fun x => some x.2) :=
  ev_ixT ha fun x H v ⟨p, u, w, e, h, h1, h2⟩ => ⟨p, _, w, e, h.sq, rfl, h2⟩
theorem ev_ixR0 {ra : Option Rat} (ha : Ev S T ta σ H (of (K := K) tRat S) ra) : Ev S T (tOp (rIxT K) ta (tC (.int 0))) σ H (of (K := K) tInt S) (bd ra fun x => some x.num) :=
  ev_ixT ha fun x H v ⟨p, e, h⟩ => ⟨p, _, _, e, h.sq, rfl, rfl⟩
theorem ev_ixR1 {ra : Option Rat} (ha : Ev S T ta σ H (of (K := K) tRat S) ra) : Ev S T (tOp (rIxT K) ta (tC (.int 1))) σ H (of (K := K) tInt S) (bd ra fun x => some (x.den : Int)) :=
  ev_ixT ha fun x H v ⟨p, e, h⟩ => ⟨p, _, _, e, h.sq, rfl, rfl⟩
/-! tests -/
theorem eb_test {r : Option Bool} (h : Ev S T te σ H (of (K := K) tBool S) r) : EvB S T (tTest te) σ H r := fun x ex H1 f d Q q => h x ex H1 f d _ fun v H2 s hv => ⟨x, hv, q H2 s⟩
theorem eb_B {r : Option Bool} (h : Ev S T te σ H (of (K := K) tBool S) r) : EvB S T (tB te) σ H r := fun x ex H1 f d Q q => h x ex H1 f d _ fun v H2 s hv => ⟨x, hv, q H2 s⟩
theorem eb_not {r : Option Bool} (h : EvB S T tt σ H r) : EvB S T (tNot tt) σ H (bd r fun x => some (!x)) := by
  intro z e H1 f1 d Q q
  obtain ⟨x, ex, e⟩ := bd_some e
  cases e
  exact h x ex H1 f1 d _ fun H2 s => q H2 s
theorem eb_and {r u : Option Bool} (h : EvB S T tt σ H r) (h' : EvB S T tu σ H u) : EvB S T (tAnd tt tu) σ H (bd r fun x => if x then u else some false) := by
  intro z e H1 f1 d Q q
  obtain ⟨x, ex, e⟩ := bd_some e
  refine h x ex H1 f1 d _ fun H2 s => ?_
  cases x with
  | true => exact (if_pos rfl).symm ▸ h' z e H2 (f1.trans (Fr.same s)) (d.same s) Q fun H3 s3 => q H3 (s.trans s3)
  | false => cases e; exact q H2 s
theorem eb_or {r u : Option Bool} (h : EvB S T tt σ H r) (h' : EvB S T tu σ H u) : EvB S T (tOr tt tu) σ H (bd r fun x => if x then some true else u) := by
  intro z e H1 f1 d Q q
  obtain ⟨x, ex, e⟩ := bd_some e
  refine h x ex H1 f1 d _ fun H2 s => ?_
  cases x with
  | false => exact h' z e H2 (f1.trans (Fr.same s)) (d.same s) Q fun H3 s3 => q H3 (s.trans s3)
  | true => cases e; exact q H2 s
theorem ev_if {R : Rl γ} {r : Option Bool} {ra rb : Option γ} (h : EvB S T tt σ H r) (ha : Ev S T ta σ H R ra) (hb : Ev S T tb σ H R rb) : Ev S T (tIf tt ta tb) σ H R (bd r fun x => if x then ra else rb) := by
  intro z e H1 f1 d Q q
  obtain ⟨x, ex, e⟩ := bd_some e
  refine h x ex H1 f1 d _ fun H2 s => ?_
  cases x with
  | true => exact ha z e H2 (f1.trans (Fr.same s)) (d.same s) Q fun v H3 s3 hv => q v H3 (s.trans s3) (R.same s hv)
  | false => exact hb z e H2 (f1.trans (Fr.same s)) (d.same s) Q fun v H3 s3 hv => q v H3 (s.trans s3) (R.same s hv)
theorem ev_and {r u : Option Bool} (h : Ev S T ta σ H (of (K := K) tBool S) r) (h' : Ev S T tb σ H (of (K := K) tBool S) u) : Ev S T (tAndV ta tb) σ H (of (K := K) tBool S) (bd r fun x => if x then u else some false) := by
  intro z e H1 f1 d Q q
  obtain ⟨x, ex, e⟩ := bd_some e
  refine h x ex H1 f1 d _ fun v H2 s hv => ⟨x, hv, ?_⟩
  cases x with
  | true => exact h' z e H2 (f1.trans (Fr.same s)) (d.same s) Q fun v H3 s3 hv => q v H3 (s.trans s3) hv
  | false => cases e; exact q _ H2 s rfl
theorem ev_or {r u : Option Bool} (h : Ev S T ta σ H (of (K := K) tBool S) r) (h' : Ev S T tb σ H (of (K := K) tBool S) u) : Ev S T (tOrV ta tb) σ H (of (K := K) tBool S) (bd r fun x => if x then some true else u) := by
  intro z e H1 f1 d Q q
  obtain ⟨x, ex, e⟩ := bd_some e
  refine h x ex H1 f1 d _ fun v H2 s hv => ⟨x, hv, ?_⟩
  cases x with
  | false => exact h' z e H2 (f1.trans (Fr.same s)) (d.same s) Q fun v H3 s3 hv => q v H3 (s.trans s3) hv
  | true => cases e; exact q _ H2 s rfl
theorem ev_not {r : Option Bool} (h : Ev S T ta σ H (of (K := K) tBool S) r) : Ev S T (tNotV ta) σ H (of (K := K) tBool S) (bd r fun x => some (!x)) := by
  intro z e H1 f1 d Q q
  obtain ⟨x, ex, e⟩ := bd_some e
  cases e
  exact h x ex H1 f1 d _ fun v H2 s hv => ⟨x, hv, q _ H2 s rfl⟩

/-! ### arguments and calls -/
structure TyA (K : PySem.W.Frag) (α : Type) where
  rp : AS → Hp → List V → α → Prop
  mono : ∀ {S H H' v x}, Fr S H H' → rp S H v x → rp S H' v x
def aNil : TyA K Unit := ⟨fun _ _ vs _ => vs = [], fun _ h => h⟩
def aCons (c : Ty K α) (t : TyA K β) : TyA K (α × β) := ⟨fun S H vs x => ∃ v r, vs = v :: r ∧ c.rp S H v x.1 ∧ t.rp S H r x.2, fun f ⟨v, r, e, h, h'⟩ => ⟨v, r, e, c.mono f h, t.mono f h'⟩⟩
def EvA (S T : AS) (ta : TA) (σ : St) (H : Hp) (t : TyA K α) (r : Option α) : Prop :=
  ∀ x, r = some x → ∀ H1, Fr T H H1 → Dom S H1 → ∀ Q : List V → Hp → Prop, (∀ vs H2, Same H1 H2 → t.rp S H2 vs x → Q vs H2) → ta σ H1 Q
theorem ea_nil : EvA S T tNil σ H (K := K) aNil (some ()) := fun _ e H1 f d Q q => q [] H1 (Same.refl _) rfl
theorem ea_cons {tr : TA} {t : TyA K β} {ra : Option α} {rr : Option β} (h : Ev S T ta σ H (of a S) ra) (hr : EvA S T tr σ H t rr) : EvA S T (tCons ta tr) σ H (aCons a t) (bd ra fun x => bd rr fun y => some (x, y)) := by
  intro z e H1 f1 d Q q
  obtain ⟨x, ex, e⟩ := bd_some e
  obtain ⟨y, ey, e⟩ := bd_some e
  cases e
  exact h x ex H1 f1 d _ fun v H2 s2 hv => hr y ey H2 (f1.trans (Fr.same s2)) (d.same s2) _ fun vs H3 s3 hw => q _ H3 (s2.trans s3) ⟨v, vs, rfl, a.mono (Fr.same s3) hv, hw⟩
/-- the promise of a def that changes nothing -/
def spF (t : TyA K α) (R : AS → Rl γ) (f : α → Option γ) : Sp := fun vs H Q _ => ∃ S x z, Dom S H ∧ t.rp S H vs x ∧ f x = some z ∧ ∀ u H', Same H H' → (R S).r H H' u z → Q u H'
theorem ev_call {ta : TA} {t : TyA K α} {R : AS → Rl γ} {f : α → Option γ} {r : Option α} {E : XK} (h : EvA S T ta σ H t r) : Ev S T (tCall (spF t R f) [] E ta) σ H (R S) (bd r f) := by
  intro z e H1 f1 d Q q
  obtain ⟨x, ex, e⟩ := bd_some e
  refine h x ex H1 f1 d _ fun vs H2 s2 hv => ⟨S, x, z, d.same s2, ?_, e, fun u H' s hu => q u H' (s2.trans s) ((R S).same s2 hu)⟩
  rw [List.append_nil]
  exact hv
/-! displays -/
theorem ev_tup2 {ra : Option α} {rb : Option β} (ha : Ev S T ta σ H (of a S) ra) (hb : Ev S T tb σ H (of b S) rb) : Ev S T (tTup (tCons ta (tCons tb tNil))) σ H (of (tT2 a b) S) (bd ra fun x => bd rb fun y => some (x, y)) := by
  intro z e H1 f1 d Q q
  obtain ⟨x, ex, e⟩ := bd_some e
  obtain ⟨y, ey, e⟩ := bd_some e
  cases e
  refine ha x ex H1 f1 d _ fun v H2 s2 hv => hb y ey H2 (f1.trans (Fr.same s2)) (d.same s2) _ fun w H3 s3 hw => ⟨(by show 2 ≤ sizeLine; decide), fun p hp => ?_⟩
  have s4 := same_new (o := .tup [v, w]) hp
  exact q _ _ (s2.trans (s3.trans s4)) ⟨p, v, w, rfl, .inl ⟨.inl upd_same, ((d.same s2).same s3).not_mem hp⟩, a.mono (Fr.same (s3.trans s4)) hv, b.mono (Fr.same s4) hw⟩
end
end M

namespace M
open PySem L2
section
variable {K : PySem.W.Frag} {α β γ δ ε ρ : Type} {S T : AS} {σ : St} {H : Hp} {ta tb te : TE} {tt tu : TT} {a : Ty K α} {b : Ty K β} {c : Ty K γ} {D : Ends} {u t1 t2 : TS}
theorem if_t {A B : Option α} {y : α} (h : (if true = true then A else B) = some y) : A = some y := h
theorem if_f {A B : Option α} {y : α} (h : (if false = true then A else B) = some y) : B = some y := h
theorem q_asg {R : Rl α} {r : Option α} {x : α} {i : Nat} (d : Dom S H) (h : Ev S T te σ H R r) (e : r = some x) (k : ∀ v H1, Same H H1 → R.r H H1 v x → u D (σ.set i (some v)) H1) : tSeq (tAsg te (gName i)) u D σ H := h x e H (Fr.refl _) d _ k
theorem l_asg {R : Rl α} {r : Option α} {x : α} {i : Nat} (d : Dom S H) (h : Ev S T te σ H R r) (e : r = some x) (k : ∀ v H1, Same H H1 → R.r H H1 v x → D.nx (σ.set i (some v)) H1) : tAsg te (gName i) D σ H := h x e H (Fr.refl _) d _ k
theorem q_ret {R : Rl α} {r : Option α} {x : α} (d : Dom S H) (h : Ev S T te σ H R r) (e : r = some x) (k : ∀ v H1, Same H H1 → R.r H H1 v x → D.rt v H1) : tRet te D σ H := h x e H (Fr.refl _) d _ k
theorem l_if {r : Option Bool} {b : Bool} (d : Dom S H) (h : EvB S T tt σ H r) (e : r = some b) (k1 : b = true → ∀ H1, Same H H1 → t1 D σ H1) (k2 : b = false → ∀ H1, Same H H1 → t2 D σ H1) : tIfS tt t1 t2 D σ H := h b e H (Fr.refl _) d _ fun H1 s => by
  cases b with
  | true => exact k1 rfl H1 s
  | false => exact k2 rfl H1 s
theorem q_if {r : Option Bool} {b : Bool} (d : Dom S H) (h : EvB S T tt σ H r) (e : r = some b) (k1 : b = true → ∀ H1, Same H H1 → t1 { D with nx := u D } σ H1) (k2 : b = false → ∀ H1, Same H H1 → t2 { D with nx := u D } σ H1) : tSeq (tIfS tt t1 t2) u D σ H := l_if (D := { D with nx := u D }) d h e k1 k2
theorem q_next {u : TS} {D : Ends} {σ : St} {H : Hp} (h : u D σ H) : tNext { D with nx := u D } σ H := h
theorem l_next (h : D.nx σ H) : tNext D σ H := h
theorem seq_by {t u : TS} (Pv : St → Hp → Prop) (h2 : ∀ σ H, Pv σ H → u D σ H) (h1 : (∀ σ H, Pv σ H → u D σ H) → t { D with nx := u D } σ H) : tSeq t u D σ H := h1 h2
/-- two names at once: a, b = e, f -/
theorem q_par {i j : Nat} {ra : Option α} {rb : Option β} {x : α} {y : β} (d : Dom S H) (ha : Ev S T ta σ H (of a S) ra) (ea : ra = some x) (hb : Ev S T tb σ H (of b S) rb) (eb : rb = some y) (k : ∀ v w H1, Same H H1 → a.rp S H1 v x → b.rp S H1 w y → u D ((σ.set i (some v)).set j (some w)) H1) :
    tSeq (tPar i j (tCons ta (tCons tb tNil))) u D σ H := ha x ea H (Fr.refl _) d _ fun v H1 s1 hv => hb y eb H1 (Fr.same s1) (d.same s1) _ fun w H2 s2 hw => ⟨v, w, rfl, k v w H2 (s1.trans s2) (a.mono (Fr.same s2) hv) hw⟩

theorem q_par2 {i j : Nat} {ra : Option α} {rb : Option β} {x : α} {y : β} (d : Dom S H) (ha : Ev S T ta σ H (of a S) ra) (ea : ra = some x) (hb : Ev S T tb σ H (of b S) rb) (eb : rb = some y) (k : ∀ v w H1, Same H H1 → a.rp S H1 v x → b.rp S H1 w y → u D ((σ.set i (some v)).set j (some w)) H1) :
    tSeq (tAsg (tTup (tCons ta (tCons tb tNil))) (gTup K 2 (gCons (gName i) (gCons (gName j) gNil)))) u D σ H := ha x ea H (Fr.refl _) d _ fun v H1 s1 hv => hb y eb H1 (Fr.same s1) (d.same s1) _ fun w H2 s2 hw => ⟨(by show 2 ≤ sizeLine; decide), fun p hp =>
  ⟨p, _, rfl, .inl (.inl upd_same), rfl, v, _, rfl, w, _, rfl, rfl, k v w _ ((s1.trans s2).trans (same_new hp)) (a.mono (Fr.same (s2.trans (same_new hp))) hv) (b.mono (Fr.same (same_new hp)) hw)⟩⟩
/-! ### loops -/
/-- one turn's end: go on, or tell y -/
inductive Ct (ρ σ : Type) where
  | go (s : σ) | ret (y : ρ) | brk (s : σ)
def loopC (f : δ → α → Option (Ct ρ δ)) : List α → δ → Option (Ct ρ δ)
  | [], s => some (.go s)
  | x :: xs, s => (f s x).bind fun r => match r with | .go s' => loopC f xs s' | .ret y => some (.ret y) | .brk s' => some (.go s')
def rngL (lo : Int) (n : Nat) : List Int := (List.range n).map fun (i : Nat) => lo + (i : Int)
def rngP (i : Int) : Bool := Nat.ble i.natAbs 4611686018427387903
theorem rngP_le {i : Int} (h : rngP i = true) : -(2 ^ 62) ≤ i ∧ i < 2 ^ 62 := by
  have h2 : i.natAbs ≤ 4611686018427387903 := Nat.le_of_ble_eq_true h
  omega
def rng1? (n : Int) : Option (List Int) := if rngP n then some (rngL 0 n.toNat) else none
def rng2? (lo n : Int) : Option (List Int) := if rngP lo && rngP n then some (rngL lo (n - lo).toNat) else none
/-- what is walked: xs, by their values at the heap H0, while nothing of it changes -/
structure Wk (J : It) (a : Ty K α) (S : AS) (H0 : Hp) (xs : List α) : Prop where
  go : ∀ H' i, Fr S H0 H' → i < xs.length → J.go i H'
  yl : ∀ H' i v H'', Fr S H0 H' → J.yld i H' v H'' → ∀ y, xs[i]? = some y → H'' = H' ∧ a.rp S H0 v y
  st : ∀ H' i, Fr S H0 H' → xs.length ≤ i → J.stop i H'
def Sr (S T : AS) (wi : TI) (σ : St) (H : Hp) (a : Ty K α) (r : Option (List α)) : Prop :=
  ∀ xs, r = some xs → ∀ H1, Fr T H H1 → Dom S H1 → ∀ R : It → Hp → Prop, (∀ J H2, Same H1 H2 → Wk J a S H2 xs → R J H2) → wi σ H1 R
theorem wk_list {p : Addr} {vs : List V} {xs : List α} {S : AS} {H : Hp} (hp : nL K S H p vs) (ha : All2 (a.rp S H) vs xs) : Wk (Itl K p) a S H xs where
  go H' i f hi := by
    obtain ⟨v, hv, _⟩ := ha.get i (List.getElem?_eq_getElem hi)
    exact ⟨vs, v, (hp.mono f).sq, hv⟩
  yl H' i v H'' f h y hy := by
    obtain ⟨w, hw, hr⟩ := ha.get i hy
    obtain ⟨e, hx⟩ := h
    have := hx vs (hp.mono f).sq
    rw [hw] at this
    cases this
    exact ⟨e, hr⟩
  st H' i f hi := ⟨vs, (hp.mono f).sq, by rw [ha.len]; exact hi⟩
theorem wk_tup {p : Addr} {vs : List V} {xs : List α} {S : AS} {H : Hp} (hp : nT K S H p vs) (ha : All2 (a.rp S H) vs xs) : Wk (Itt K p) a S H xs where
  go H' i f hi := by
    obtain ⟨v, hv, _⟩ := ha.get i (List.getElem?_eq_getElem hi)
    exact ⟨vs, v, (hp.mono f).sq, hv⟩
  yl H' i v H'' f h y hy := by
    obtain ⟨w, hw, hr⟩ := ha.get i hy
    obtain ⟨e, hx⟩ := h
    have := hx vs (hp.mono f).sq
    rw [hw] at this
    cases this
    exact ⟨e, hr⟩
  st H' i f hi := ⟨vs, (hp.mono f).sq, by rw [ha.len]; exact hi⟩
theorem wk_rng {lo : Int} {n : Nat} {S : AS} {H : Hp} : Wk (Itr lo n) (tInt (K := K)) S H (rngL lo n) where
  go H' i f hi := by
    show i < n
    simpa [rngL] using hi
  yl H' i v H'' f h y hy := by
    obtain ⟨e, hx⟩ := h
    refine ⟨e, ?_⟩
    unfold rngL at hy
    rw [List.getElem?_map] at hy
    cases q : (List.range n)[i]? with
    | none => rw [q] at hy; cases hy
    | some k =>
      rw [q] at hy
      cases hy
      have : k = i := by
        have := (List.getElem?_eq_some_iff.mp q).2
        simp at this
        omega
      subst this
      exact hx
  st H' i f hi := by
    show n ≤ i
    simpa [rngL] using hi
theorem sr_list {tl : TE} {r : Option (List α)} (h : Ev S T tl σ H (of (tL a) S) r) : Sr S T (iList K tl) σ H a r := fun xs e H1 f d R q =>
  h xs e H1 f d _ fun v H2 s ⟨p, vs, ev, hp, ha⟩ => ⟨p, ev, ⟨vs, hp.sq⟩, q _ H2 s (wk_list hp ha)⟩
theorem sr_tup {tl : TE} {r : Option (List α)} (h : Ev S T tl σ H (of (tTs a) S) r) : Sr S T (iTup K tl) σ H a r := fun xs e H1 f d R q =>
  h xs e H1 f d _ fun v H2 s ⟨p, vs, ev, hp, ha⟩ => ⟨p, ev, ⟨vs, hp.sq⟩, q _ H2 s (wk_tup hp ha)⟩
theorem sr_t2 {tl : TE} {r : Option (α × α)} (h : Ev S T tl σ H (of (tT2 a a) S) r) : Sr S T (iTup K tl) σ H a (bd r fun x => some [x.1, x.2]) := fun xs e H1 f d R q => by
  obtain ⟨x, ex, e⟩ := bd_some e
  cases e
  exact h x ex H1 f d _ fun v H2 s ⟨p, u, w, ev, hp, h1, h2⟩ => ⟨p, ev, ⟨_, hp.sq⟩, q _ H2 s (wk_tup hp (.cons h1 (.cons h2 .nil)))⟩
theorem sr_r1 {te : TE} {r : Option Int} (h : Ev S T te σ H (of (K := K) tInt S) r) : Sr S T (iRng1 (tCons te tNil)) σ H (tInt (K := K)) (bd r rng1?) := fun xs e H1 f d R q => by
  obtain ⟨n, en, e⟩ := bd_some e
  unfold rng1? at e
  split at e
  · rename_i hn
    cases e
    have hb := rngP_le hn
    refine h n en H1 f d _ fun v H2 s hv => ?_
    cases hv
    exact ⟨n, rfl, hb.1, hb.2, q _ H2 s wk_rng⟩
  · cases e
theorem sr_r2 {te tg : TE} {r r' : Option Int} (h : Ev S T te σ H (of (K := K) tInt S) r) (h' : Ev S T tg σ H (of (K := K) tInt S) r') : Sr S T (iRng2 (tCons te (tCons tg tNil))) σ H (tInt (K := K)) (bd r fun x => bd r' fun y => rng2? x y) := fun xs e H1 f d R q => by
  obtain ⟨lo, el, e⟩ := bd_some e
  obtain ⟨n, en, e⟩ := bd_some e
  unfold rng2? at e
  split at e
  · rename_i hn
    cases e
    rw [Bool.and_eq_true] at hn
    have hb := rngP_le hn.1
    have hc := rngP_le hn.2
    refine h lo el H1 f d _ fun v H2 s hv => h' n en H2 (f.trans (Fr.same s)) (d.same s) _ fun v' H3 s3 hv' => ?_
    cases hv
    cases hv'
    exact ⟨lo, n, rfl, ⟨hb.1, hb.2, hc.1, hc.2⟩, q _ H3 (s.trans s3) wk_rng⟩
  · cases e
/-- a walk; I: what is known of the state at each turn -/
theorem for_s {wi : TI} {j : Nat} {tb : TS} {r : Option (List α)} {xs : List α} {s0 : δ} {f : δ → α → Option (Ct ρ δ)} {res : Ct ρ δ} (d : Dom S H) (h : Sr S T wi σ H a r) (e : r = some xs) (hf : loopC f xs s0 = some res)
    (I : δ → St → Hp → Prop) (h0 : ∀ H1, Same H H1 → I s0 σ H1)
    (step : (∀ s σ' H', res = .go s → I s σ' H' → D.nx σ' H') → ∀ (s : δ) (x : α) (cr : Ct ρ δ) (v : V) (σ' : St) (H' : Hp), I s σ' H' → a.rp S H' v x → x ∈ xs → f s x = some cr → (∀ y, cr = .ret y → res = .ret y) → (∀ s', cr = .brk s' → res = .go s') →
      tb { D with nx := fun σ2 H2 => ∃ s', cr = .go s' ∧ Fr S H' H2 ∧ I s' σ2 H2, ct := fun σ2 H2 => ∃ s', cr = .go s' ∧ Fr S H' H2 ∧ I s' σ2 H2, bk := D.nx } (σ'.set j (some v)) H')
    (done : ∀ s σ' H', res = .go s → I s σ' H' → D.nx σ' H') : tFor wi (gName j) tb D σ H := by
  refine h xs e H (Fr.refl _) d _ fun J H1 s1 wk => ?_
  refine ⟨fun i m σ' H' => m = xs.length - i ∧ i ≤ xs.length ∧ Fr S H1 H' ∧ ∃ s, I s σ' H' ∧ loopC f (xs.drop i) s = some res, ⟨_, rfl, Nat.zero_le _, Fr.refl _, s0, h0 H1 s1, hf⟩, ?_⟩
  rintro i m σ' H' ⟨rfl, hi, fr, s, hI, hl⟩
  by_cases c : i < xs.length
  · right
    rw [List.drop_eq_getElem_cons c] at hl
    simp only [loopC] at hl
    cases q : f s xs[i] with
    | none => rw [q] at hl; cases hl
    | some cr =>
      rw [q] at hl
      refine ⟨wk.go H' i fr c, fun σ2 H2 => ∃ s', cr = .go s' ∧ Fr S H' H2 ∧ I s' σ2 H2, ?_, ?_⟩
      · rintro σ2 H2 ⟨s', rfl, f2, hI'⟩
        exact ⟨xs.length - (i + 1), by omega, rfl, by omega, fr.trans f2, s', hI', hl⟩
      · intro v H2 hy
        obtain ⟨rfl, hv⟩ := wk.yl H' i v H2 fr hy _ (List.getElem?_eq_getElem c)
        exact step done s xs[i] cr v σ' _ hI (a.mono fr hv) (List.getElem_mem c) q (fun y ey => by subst ey; cases hl; rfl) (fun s' ey => by subst ey; cases hl; rfl)
  · left
    refine ⟨wk.st H' i fr (by omega), ?_⟩
    rw [List.drop_eq_nil_of_le (by omega)] at hl
    cases hl
    exact done s σ' H' rfl hI
theorem q_for_s {wi : TI} {j : Nat} {tb : TS} {r : Option (List α)} {xs : List α} {s0 : δ} {f : δ → α → Option (Ct ρ δ)} {res : Ct ρ δ} (d : Dom S H) (h : Sr S T wi σ H a r) (e : r = some xs) (hf : loopC f xs s0 = some res)
    (I : δ → St → Hp → Prop) (h0 : ∀ H1, Same H H1 → I s0 σ H1)
    (step : (∀ s σ' H', res = .go s → I s σ' H' → u D σ' H') → ∀ (s : δ) (x : α) (cr : Ct ρ δ) (v : V) (σ' : St) (H' : Hp), I s σ' H' → a.rp S H' v x → x ∈ xs → f s x = some cr → (∀ y, cr = .ret y → res = .ret y) → (∀ s', cr = .brk s' → res = .go s') →
      tb { D with nx := fun σ2 H2 => ∃ s', cr = .go s' ∧ Fr S H' H2 ∧ I s' σ2 H2, ct := fun σ2 H2 => ∃ s', cr = .go s' ∧ Fr S H' H2 ∧ I s' σ2 H2, bk := u D } (σ'.set j (some v)) H')
    (done : ∀ s σ' H', res = .go s → I s σ' H' → u D σ' H') : tSeq (tFor wi (gName j) tb) u D σ H := for_s (D := { D with nx := u D }) d h e hf I h0 step done
/-! slices of lists -/
def cutD (xs : List α) (lo hi : Option Int) : List α := (xs.drop (HT.sIx xs.length 0 lo)).take (HT.sIx xs.length xs.length hi - HT.sIx xs.length 0 lo)
theorem All2.cut {F : V → α → Prop} {vs : List V} {xs : List α} (h : All2 F vs xs) (lo hi : Option Int) : All2 F (cutV vs lo hi) (cutD xs lo hi) := by
  unfold cutV cutD
  rw [h.len]
  exact (h.drop _).take _
def EvO (S T : AS) (to : TO) (σ : St) (H : Hp) (r : Option (Option Int)) : Prop :=
  ∀ x, r = some x → ∀ H1, Fr T H H1 → Dom S H1 → ∀ Q : Option Int → Hp → Prop, (∀ H2, Same H1 H2 → Q x H2) → to σ H1 Q
theorem eo_none : EvO S T tNoPart σ H (some none) := fun x e H1 f d Q q => by cases e; exact q H1 (Same.refl _)
theorem eo_some {r : Option Int} (h : Ev S T te σ H (of (K := K) tInt S) r) : EvO S T (tPart te) σ H (bd r fun i => some (some i)) := fun x e H1 f d Q q => by
  obtain ⟨i, ei, e⟩ := bd_some e
  cases e
  exact h i ei H1 f d _ fun v H2 s hv => ⟨i, hv, q H2 s⟩
theorem ev_slL {tl th : TO} {ra : Option (List α)} {rl rh : Option (Option Int)} (ha : Ev S T ta σ H (of (tL a) S) ra) (hl : EvO S T tl σ H rl) (hh : EvO S T th σ H rh) :
    Ev S T (tSl (rSlL K) ta tl th) σ H (nw a S) (bd ra fun xs => bd rl fun l => bd rh fun h => some (cutD xs l h)) := by
  intro z e H1 f1 d Q q
  obtain ⟨xs, ex, e⟩ := bd_some e
  obtain ⟨l, el, e⟩ := bd_some e
  obtain ⟨h, eh, e⟩ := bd_some e
  cases e
  refine ha xs ex H1 f1 d _ fun v H2 s2 hv => hl l el H2 (f1.trans (Fr.same s2)) (d.same s2) _ fun H3 s3 => hh h eh H3 (f1.trans (Fr.same (s2.trans s3))) (d.same (s2.trans s3)) _ fun H4 s4 => ?_
  obtain ⟨p, vs, rfl, hp, hvs⟩ := (tL a).mono (Fr.same (s3.trans s4)) hv
  refine ⟨p, vs, rfl, hp.sq, fun p' hp' => q _ _ ((s2.trans (s3.trans s4)).trans (same_new hp')) ⟨p', rfl, (s2.trans (s3.trans s4)).free hp', _, upd_same, ?_⟩⟩
  exact (hvs.cut l h).imp fun _ _ hh => a.mono (Fr.same (same_new hp')) (a.ext hp' hh)
end
end M

namespace M
open PySem L2
section
variable {K : PySem.W.Frag} {α β γ δ ε ρ : Type} {S T : AS} {σ : St} {H : Hp} {ta tb te : TE} {tt tu : TT} {a : Ty K α} {b : Ty K β} {c : Ty K γ} {D : Ends} {u t1 t2 : TS}
/-! ### ratios -/
/-- a pair of numbers as a ratio -/
def p2r (x : Int × Int) : Option Rat := if (mkRat x.1 x.2.toNat).num = x.1 ∧ ((mkRat x.1 x.2.toNat).den : Int) = x.2 then some (mkRat x.1 x.2.toNat) else none
theorem p2r_rat (q : Rat) : p2r (q.num, (q.den : Int)) = some q := by
  unfold p2r
  simp only [Int.toNat_natCast, Rat.mkRat_self, and_self, if_true]
theorem ev_p2r {r : Option (Int × Int)} (h : Ev S T te σ H (of (K := K) (tT2 tInt tInt) S) r) : Ev S T te σ H (of (K := K) tRat S) (bd r p2r) := ev_as h fun x y e H1 H2 v d ⟨p, u, w, ev, hp, h1, h2⟩ => by
  unfold p2r at e
  split at e
  · rename_i hc
    cases e
    refine ⟨p, ev, ?_⟩
    rw [hc.1, hc.2, ← h1, ← h2]
    exact hp
  · cases e
/-- a ratio as a pair of numbers -/
theorem ev_r2p {r : Option Rat} (h : Ev S T te σ H (of (K := K) tRat S) r) : Ev S T te σ H (of (K := K) (tT2 tInt tInt) S) (bd r fun q => some (q.num, (q.den : Int))) := ev_as h fun x y e H1 H2 v d ⟨p, ev, hp⟩ => by
  cases e
  exact ⟨p, _, _, ev, hp, rfl, rfl⟩
/-! ints -/
theorem ev_neg {r : Option Int} (h : Ev S T te σ H (of (K := K) tInt S) r) : Ev S T (tUn (rU fun i => .int (-i)) te) σ H (of (K := K) tInt S) (bd r fun x => some (-x)) := by
  intro z e H1 f1 d Q q
  obtain ⟨x, ex, e⟩ := bd_some e
  cases e
  exact h x ex H1 f1 d _ fun v H2 s hv => ⟨x, hv, q _ H2 s rfl⟩
theorem ev_abs {r : Option Int} (h : Ev S T te σ H (of (K := K) tInt S) r) : Ev S T (tCB (fun xs H Q => ∃ i, xs = [.int i] ∧ Q (.int (if i < 0 then -i else i)) H) (tCons te tNil)) σ H (of (K := K) tInt S) (bd r fun x => some ((x.natAbs : Nat) : Int)) := by
  intro z e H1 f1 d Q q
  obtain ⟨x, ex, e⟩ := bd_some e
  cases e
  refine h x ex H1 f1 d _ fun v H2 s hv => ?_
  cases hv
  exact ⟨x, rfl, q _ H2 s (by show V.int _ = V.int _; congr 1; split <;> omega)⟩
def fdivP (j : Int) : Bool := decide (j ≠ 0 ∧ j.natAbs.log2 < 9000)
def fdiv? (i j : Int) : Option Int := if fdivP j then some (i.fdiv j) else none
/-! len -/
theorem ev_lenL {r : Option (List α)} (h : Ev S T te σ H (of (tL a) S) r) : Ev S T (tCB (fun xs H Q => ∃ p ys, xs = [.ref p] ∧ (SqL K H p ys ∨ SqT K H p ys) ∧ Q (.int ys.length) H) (tCons te tNil)) σ H (of (K := K) tInt S) (bd r fun x => some (x.length : Int)) := by
  intro z e H1 f1 d Q q
  obtain ⟨x, ex, e⟩ := bd_some e
  cases e
  refine h x ex H1 f1 d _ fun v H2 s hv => ?_
  obtain ⟨p, vs, rfl, hp, ha⟩ := hv
  exact ⟨p, vs, rfl, .inl hp.sq, q _ H2 s (by show V.int _ = V.int _; rw [ha.len])⟩
theorem ev_lenTs {r : Option (List α)} (h : Ev S T te σ H (of (tTs a) S) r) : Ev S T (tCB (fun xs H Q => ∃ p ys, xs = [.ref p] ∧ (SqL K H p ys ∨ SqT K H p ys) ∧ Q (.int ys.length) H) (tCons te tNil)) σ H (of (K := K) tInt S) (bd r fun x => some (x.length : Int)) := by
  intro z e H1 f1 d Q q
  obtain ⟨x, ex, e⟩ := bd_some e
  cases e
  refine h x ex H1 f1 d _ fun v H2 s hv => ?_
  obtain ⟨p, vs, rfl, hp, ha⟩ := hv
  exact ⟨p, vs, rfl, .inr hp.sq, q _ H2 s (by show V.int _ = V.int _; rw [ha.len])⟩
/-! == of things by what they stand for -/
structure TyD (a : Ty K α) where
  dt : α → PyData
  dep : Nat
  dp : ∀ {S H v x}, a.rp S H v x → Dp K H v (dt x)
  shp : ∀ {S H v x}, a.rp S H v x → PyData.canLay0 (dt x) = true
  hd : ∀ x, PyData.depth (dt x) ≤ dep
  eqv : ∀ x y, PyData.eqv (dt x) (dt y) = true ↔ x = y
def dInt : TyD (K := K) tInt := ⟨.int, 0, fun h => by cases h; exact .int _, fun _ => rfl, fun _ => Nat.le_refl _, fun x y => by simp [PyData.eqv]⟩
def dBool : TyD (K := K) tBool := ⟨.bool, 0, fun h => by cases h; exact .bl _, fun _ => rfl, fun _ => Nat.le_refl _, fun x y => by simp [PyData.eqv]⟩
def dStr : TyD (K := K) tStr := ⟨.str, 0, fun h => by rw [h.1]; exact .str _, fun h => h.2, fun _ => Nat.le_refl _, fun x y => by simp [PyData.eqv]⟩
def dNone : TyD (K := K) tNone := ⟨fun _ => .none, 0, fun h => by cases h; exact .non, fun _ => rfl, fun _ => Nat.le_refl _, fun x y => by simp [PyData.eqv]⟩
theorem dpAll {a : Ty K α} (d : TyD a) {S : AS} {H : Hp} : ∀ {vs : List V} {xs : List α}, All2 (a.rp S H) vs xs → DpAll K H vs (xs.map d.dt)
  | _, _, .nil => .nil
  | _, _, .cons h r => .cons (d.dp h) (dpAll d r)
theorem shpAll {a : Ty K α} (d : TyD a) {S : AS} {H : Hp} : ∀ {vs : List V} {xs : List α}, All2 (a.rp S H) vs xs → PyData.canLayAll0 (xs.map d.dt) = true
  | _, _, .nil => rfl
  | _, x :: r, .cons h q => by
    show (PyData.canLay0 (d.dt x) && PyData.canLayAll0 (r.map d.dt)) = true
    rw [d.shp h, shpAll d q]
    rfl
theorem depAll {a : Ty K α} (d : TyD a) : ∀ xs : List α, PyData.depthAll (xs.map d.dt) ≤ d.dep
  | [] => Nat.zero_le _
  | x :: r => by
    show max (PyData.depth (d.dt x)) (PyData.depthAll (r.map d.dt)) ≤ d.dep
    exact Nat.max_le.mpr ⟨d.hd x, depAll d r⟩
theorem eqvAll {a : Ty K α} (d : TyD a) : ∀ xs ys : List α, PyData.eqvAll (xs.map d.dt) (ys.map d.dt) = true ↔ xs = ys
  | [], [] => by simp [PyData.eqvAll]
  | x :: r, [] => by simp [PyData.eqvAll]
  | [], y :: r => by simp [PyData.eqvAll]
  | x :: r, y :: q => by
    show (PyData.eqv (d.dt x) (d.dt y) && PyData.eqvAll (r.map d.dt) (q.map d.dt)) = true ↔ _
    rw [Bool.and_eq_true, d.eqv, eqvAll d r q]
    simp
def dL {a : Ty K α} (d : TyD a) : TyD (tL a) := ⟨fun xs => .list (xs.map d.dt), d.dep + 1, fun ⟨p, vs, e, hp, h⟩ => by subst e; exact .lst hp.sq (dpAll d h), fun ⟨p, vs, e, hp, h⟩ => shpAll d h, fun x => Nat.succ_le_succ (depAll d x), fun x y => eqvAll d x y⟩
def dTs {a : Ty K α} (d : TyD a) : TyD (tTs a) := ⟨fun xs => .tuple (xs.map d.dt), d.dep + 1, fun ⟨p, vs, e, hp, h⟩ => by subst e; exact .tup hp.sq (dpAll d h), fun ⟨p, vs, e, hp, h⟩ => shpAll d h, fun x => Nat.succ_le_succ (depAll d x), fun x y => eqvAll d x y⟩
def dT2 {a : Ty K α} {b : Ty K β} (d : TyD a) (e : TyD b) : TyD (tT2 a b) := ⟨fun x => .tuple [d.dt x.1, e.dt x.2], max d.dep e.dep + 1, fun ⟨p, u, w, z, hp, h1, h2⟩ => by subst z; exact .tup hp.sq (.cons (d.dp h1) (.cons (e.dp h2) .nil)),
  fun {S H v x} ⟨p, u, w, z, hp, h1, h2⟩ => by
    show (PyData.canLay0 (d.dt x.1) && (PyData.canLay0 (e.dt x.2) && true)) = true
    rw [d.shp h1, e.shp h2]
    rfl,
  fun x => by
    show max (PyData.depth (d.dt x.1)) (max (PyData.depth (e.dt x.2)) 0) + 1 ≤ _
    have h1 := d.hd x.1
    have h2 := e.hd x.2
    omega,
  fun x y => by
    show (PyData.eqv (d.dt x.1) (d.dt y.1) && (PyData.eqv (e.dt x.2) (e.dt y.2) && true)) = true ↔ _
    rw [Bool.and_true, Bool.and_eq_true, d.eqv, e.eqv]
    exact ⟨fun h => Prod.ext h.1 h.2, fun h => by subst h; exact ⟨rfl, rfl⟩⟩⟩
def dRat : TyD (K := K) tRat := ⟨fun q => .tuple [.int q.num, .int (q.den : Int)], 1, fun ⟨p, z, hp⟩ => by subst z; exact .tup hp.sq (.cons (.int _) (.cons (.int _) .nil)),
  fun _ => rfl, fun x => by show max 0 (max 0 0) + 1 ≤ 1; decide,
  fun x y => by
    show ((x.num == y.num) && (((x.den : Int) == (y.den : Int)) && true)) = true ↔ _
    rw [Bool.and_true, Bool.and_eq_true, beq_iff_eq, beq_iff_eq]
    exact ⟨fun h => Rat.ext h.1 (by omega), fun h => by subst h; exact ⟨rfl, rfl⟩⟩⟩
abbrev dSpot : TyD (K := K) tSpot := dT2 dRat dRat
theorem TyD.shaped {a : Ty K α} (d : TyD a) (h : d.dep ≤ 64) {S : AS} {H : Hp} {v : V} {x : α} (r : a.rp S H v x) : SeqAt.shaped (d.dt x) = true := by
  unfold SeqAt.shaped
  rw [d.shp r, Bool.true_and]
  exact decide_eq_true (Nat.le_trans (d.hd x) h)
theorem TyD.dec {a : Ty K α} [DecidableEq α] (d : TyD a) (x y : α) : PyData.eqv (d.dt x) (d.dt y) = decide (x = y) := by
  by_cases h : x = y
  · rw [(d.eqv x y).mpr h, decide_eq_true h]
  · rw [decide_eq_false h]
    cases q : PyData.eqv (d.dt x) (d.dt y) with
    | false => rfl
    | true => exact absurd ((d.eqv x y).mp q) h
theorem od_eqD {a : Ty K α} [DecidableEq α] (d : TyD a) (hd : d.dep ≤ 64) : OpD a a S (of (K := K) tBool S) (rEqD K) (fun x y => some (decide (x = y))) := by
  intro x y z e H1 v w dm hv hw Q q
  cases e
  refine ⟨_, _, d.dp hv, d.dp hw, d.shaped hd hv, d.shaped hd hw, ?_⟩
  rw [d.dec]
  exact q _ H1 (Same.refl _) rfl
theorem od_neD {a : Ty K α} [DecidableEq α] (d : TyD a) (hd : d.dep ≤ 64) : OpD a a S (of (K := K) tBool S) (rNeD K) (fun x y => some (!decide (x = y))) := by
  intro x y z e H1 v w dm hv hw Q q
  cases e
  refine ⟨_, _, d.dp hv, d.dp hw, d.shaped hd hv, d.shaped hd hw, ?_⟩
  rw [d.dec]
  exact q _ H1 (Same.refl _) rfl
end
end M

namespace G
open PySem L2
theorem gcd_fmod (a b : Int) : Int.gcd b (a.fmod b) = Int.gcd a b := by
  rw [Int.fmod_def, Int.sub_eq_add_neg, ← Int.mul_neg]
  rw [Int.gcd_add_mul_left_right]
  exact Int.gcd_comm b a
theorem fmod_abs_lt (a : Int) {b : Int} (h : b ≠ 0) : (a.fmod b).natAbs < b.natAbs := by
  rcases Int.lt_or_gt_of_ne h with h | h
  · have e : a.fmod b = -((-a).fmod (-b)) := by
      rw [Int.neg_fmod_neg]; omega
    have h1 := Int.fmod_nonneg_of_pos (-a) (show 0 < -b by omega)
    have h2 := Int.fmod_lt_of_pos (-a) (show 0 < -b by omega)
    omega
  · have h1 := Int.fmod_nonneg_of_pos a h
    have h2 := Int.fmod_lt_of_pos a h
    omega
theorem abs_if (x : Int) : (if x < 0 then -x else x) = ((x.natAbs : Nat) : Int) := by split <;> omega
def cOf (o u : Int) : Int := if u < 0 then -((Int.gcd o u : Nat) : Int) else ((Int.gcd o u : Nat) : Int)
def rN (o u : Int) : Int := o.fdiv (cOf o u)
def rD (o u : Int) : Int := u.fdiv (cOf o u)
def CDivZ (_ j : Int) : Prop := j ≠ 0 ∧ j.natAbs.log2 < 9000
theorem op_fdivZ {X : Cx} : OpR X (binaryOp .FloorDiv) (rI CDivZ fun i j => .int (i.fdiv j)) := opI fun _ _ _ _ _ _ _ hc q => PyProof.Rows.floordiv_int hc.1 q (.inl (PyProof.noPylong_of_log2 hc.2))
theorem cOf_ok {o u : Int} (h : u ≠ 0) (hb : u.natAbs < 2 ^ 9000) (x : Int) : CDivZ x (cOf o u) := by
  have g : 0 < Int.gcd o u := Int.gcd_pos_of_ne_zero_right o h
  have l : Int.gcd o u ≤ u.natAbs := Nat.le_of_dvd (by omega) (Int.gcd_dvd_natAbs_right o u)
  have n : (cOf o u).natAbs = Int.gcd o u := by
    unfold cOf
    split <;> omega
  refine ⟨fun z => ?_, ?_⟩
  · rw [z] at n
    simp at n
    omega
  · rw [n]
    exact PySem.Flt.log2_lt_of (by decide) (Nat.lt_of_le_of_lt l hb)
theorem pow9000 {n : Nat} (h : n < 2 ^ 200) : n < 2 ^ 9000 := Nat.lt_of_lt_of_le h (Nat.pow_le_pow_right (by decide) (by decide))
theorem small_le {n : Nat} (h : n ≤ 1000) : n ≤ sizeLine := Nat.le_of_lt (small1000 h)
theorem two {a b : V} : [a, b].length ≤ sizeLine := by
  show 2 ≤ sizeLine
  decide
theorem cOf_dl (o u : Int) : cOf o u ∣ o := by
  unfold cOf
  split
  · exact Int.neg_dvd.mpr (Int.gcd_dvd_left o u)
  · exact Int.gcd_dvd_left o u
theorem cOf_dr (o u : Int) : cOf o u ∣ u := by
  unfold cOf
  split
  · exact Int.neg_dvd.mpr (Int.gcd_dvd_right o u)
  · exact Int.gcd_dvd_right o u
theorem cOf_ne {o u : Int} (h : u ≠ 0) : cOf o u ≠ 0 := by
  have g : 0 < Int.gcd o u := Int.gcd_pos_of_ne_zero_right o h
  unfold cOf
  split <;> omega
theorem rN_eq (o u : Int) : cOf o u * rN o u = o := Int.mul_fdiv_cancel' (cOf_dl o u)
theorem rD_eq (o u : Int) : cOf o u * rD o u = u := Int.mul_fdiv_cancel' (cOf_dr o u)
theorem rD_pos {o u : Int} (h : u ≠ 0) : 0 < rD o u := by
  have e := rD_eq o u
  have g : 0 < Int.gcd o u := Int.gcd_pos_of_ne_zero_right o h
  unfold cOf at e
  generalize rD o u = d at e
  split at e
  · rename_i hu
    rcases (show 0 < d ∨ d ≤ 0 by omega) with hd | hd
    · exact hd
    · have z : 0 ≤ -((Int.gcd o u : Nat) : Int) * d := Int.mul_nonneg_of_nonpos_of_nonpos (by omega) hd
      omega
  · rcases (show 0 < d ∨ d ≤ 0 by omega) with hd | hd
    · exact hd
    · have z : ((Int.gcd o u : Nat) : Int) * d ≤ 0 := Int.mul_nonpos_of_nonneg_of_nonpos (by omega) hd
      omega
theorem le_of_mul_eq {c k o : Int} (hc : c ≠ 0) (e : c * k = o) : k.natAbs ≤ o.natAbs := by
  rw [← e, Int.natAbs_mul]
  exact Nat.le_mul_of_pos_left _ (by omega)
theorem rN_le {o u : Int} (h : u ≠ 0) : (rN o u).natAbs ≤ o.natAbs := le_of_mul_eq (cOf_ne h) (rN_eq o u)
theorem rD_le {o u : Int} (h : u ≠ 0) : (rD o u).natAbs ≤ u.natAbs := le_of_mul_eq (cOf_ne h) (rD_eq o u)
theorem rDiv {o u : Int} (h : 0 < u) : (rN o u).fdiv (rD o u) = o.fdiv u := by
  have c0 : 0 < cOf o u := by
    have g : 0 < Int.gcd o u := Int.gcd_pos_of_ne_zero_right o (by omega)
    unfold cOf
    split <;> omega
  have e := Int.mul_fdiv_mul_of_pos (rN o u) (rD o u) c0
  rw [rN_eq, rD_eq] at e
  exact e.symm
structure Bag (H : Hp) (b c : Addr) : Prop where
  ne : b ≠ c
  at_ : ∃ (ns : List Int) (slot seed : Int), H b = some (.lst [.ref c, .int slot, .int seed]) ∧ H c = some (.lst (ns.map V.int)) ∧ ns.length ≤ 63 ∧ 0 ≤ slot ∧ 0 ≤ seed ∧ seed < 2147483647
/-- all but what stands at b and c stands -/
def Kept (b c : Addr) (H H' : Hp) : Prop := ∀ p o, H p = some o → p ≠ b → p ≠ c → H' p = some o
theorem Kept.refl {b c : Addr} {H : Hp} : Kept b c H H := fun _ _ e _ _ => e
theorem Kept.trans {b c : Addr} {H H' H'' : Hp} (h : Kept b c H H') (h' : Kept b c H' H'') : Kept b c H H'' := fun p o e n m => h' p o (h p o e n m) n m
theorem kept_same {b c : Addr} {H H' : Hp} (h : Same H H') : Kept b c H H' := fun p o e _ _ => h p o e
theorem same_upd {H : Hp} {p : Addr} {o : HO} (h : H p = none) : Same H (upd H p o) := fun b x e => by
  rw [upd_ne (ne_of_none e h)]
  exact e
theorem Kept.upd {b c p : Addr} {H H' : Hp} {o : HO} (h : Kept b c H H') (hp : H' p = none) : Kept b c H (upd H' p o) := h.trans (kept_same (same_upd hp))
theorem Bag.same {H H' : Hp} {b c : Addr} (h : Bag H b c) (s : Same H H') : Bag H' b c := by
  obtain ⟨ne, ns, sl, sd, h1, h2, r⟩ := h
  exact ⟨ne, ns, sl, sd, s _ _ h1, s _ _ h2, r⟩
theorem Bag.upd {b c p : Addr} {H : Hp} {o : HO} (h : Bag H b c) (hp : H p = none) : Bag (upd H p o) b c := h.same (same_upd hp)
theorem Bag.off {H : Hp} {b c p : Addr} (h : Bag H b c) (hp : H p = none) : p ≠ b ∧ p ≠ c := by
  obtain ⟨_, ns, sl, sd, h1, h2, _⟩ := h
  exact ⟨(ne_of_none h1 hp).symm, (ne_of_none h2 hp).symm⟩
/-- a thing that is no list of the bag's -/
theorem Bag.tup {H : Hp} {b c p : Addr} {xs : List V} (h : Bag H b c) (hp : H p = some (.tup xs)) : p ≠ b ∧ p ≠ c := by
  obtain ⟨_, ns, sl, sd, h1, h2, _⟩ := h
  exact ⟨ne_of hp h1 (by intro z; cases z), ne_of hp h2 (by intro z; cases z)⟩
theorem seq_by {t u : TS} {D : Ends} {σ : St} {H : Hp} (Pv : St → Hp → Prop) (h2 : ∀ σ H, Pv σ H → u D σ H) (h1 : (∀ σ H, Pv σ H → u D σ H) → t { D with nx := u D } σ H) : tSeq t u D σ H := h1 h2
theorem seq_c {u : TS} {i : Nat} {v : V} {D : Ends} {σ : St} {H : Hp} (h : u D (σ.set i (some v)) H) : tSeq (tAsg (tC v) (gName i)) u D σ H := h
theorem seq_asg {te : TE} {u : TS} {i : Nat} {D : Ends} {σ : St} {H : Hp} (h : te σ H fun x H1 => u D (σ.set i (some x)) H1) : tSeq (tAsg te (gName i)) u D σ H := h
theorem seq_sub {te ta ti : TE} {r : TSet} {u : TS} {D : Ends} {σ : St} {H : Hp} (h : te σ H fun x H1 => gSub ta ti r x σ H1 fun σ' H' => u D σ' H') : tSeq (tAsg te (gSub ta ti r)) u D σ H := h
theorem seq_drop {te : TE} {u : TS} {D : Ends} {σ : St} {H : Hp} (h : te σ H fun _ H1 => u D σ H1) : tSeq (tDrop te) u D σ H := h
theorem next_u {u : TS} {D : Ends} {σ : St} {H : Hp} (h : u D σ H) : tNext { D with nx := u D } σ H := h
theorem nx_u {u : TS} {D : Ends} {rt : VK} {bk ct : St → Hp → Prop} {σ : St} {H : Hp} (h : u D σ H) : Ends.nx { nx := u D, rt := rt, bk := bk, ct := ct } σ H := h
theorem yes_ {σ : St} {H : Hp} {A B : Hp → Prop} (h : A H) : tYes σ H (fun b H3 => if b = true then A H3 else B H3) := by
  show if true = true then A H else B H
  exact iteT h
theorem int_at {ns : List Int} {i : Int} (h0 : 0 ≤ i) (h : i < (ns.length : Int)) : ∃ v : Int, atI (ns.map V.int) i = some (.int v) := by
  have ek : i = ((i.toNat : Nat) : Int) := by omega
  have hk : i.toNat < ns.length := by omega
  rw [ek]
  exact ⟨ns[i.toNat], atI_nat (by rw [List.getElem?_map, List.getElem?_eq_getElem hk] <;> rfl)⟩
theorem ix_at {n : Nat} {i : Int} (h0 : 0 ≤ i) (h : i < (n : Int)) : ixN n i = some i.toNat := by
  unfold ixN
  rw [if_pos h0, if_pos h]
theorem set_ints (ns : List Int) (j : Nat) (v : Int) : (ns.map V.int).set j (.int v) = (ns.set j v).map V.int := by
  rw [List.map_set]
theorem at_mem {xs : List V} {r : Int} (h0 : 0 ≤ r) (h : r < (xs.length : Int)) : ∃ v, v ∈ xs ∧ atI xs r = some v := by
  have hk : r.toNat < xs.length := by omega
  have e := atI_nat (xs := xs) (j := r.toNat) (List.getElem?_eq_getElem hk)
  rw [show ((r.toNat : Nat) : Int) = r by omega] at e
  exact ⟨_, List.getElem_mem hk, e⟩
theorem cut_ints (ns : List Int) (lo hi : Option Int) : ∃ ms : List Int, cutV (ns.map V.int) lo hi = ms.map V.int ∧ ms.length ≤ ns.length := by
  refine ⟨(ns.drop (HT.sIx (ns.map V.int).length 0 lo)).take (HT.sIx (ns.map V.int).length (ns.map V.int).length hi - HT.sIx (ns.map V.int).length 0 lo), ?_, ?_⟩
  · unfold cutV
    rw [List.map_take, List.map_drop]
  · rw [List.length_take, List.length_drop]
    omega
theorem ne_true {u : Int} (z : (!decide (V.int u = V.int 0)) = true) : u ≠ 0 := fun e => by
  subst e
  exact absurd z (by decide)
theorem ne_false {u : Int} (z : ¬ (!decide (V.int u = V.int 0)) = true) : u = 0 := by
  by_cases e : u = 0
  · exact e
  · exact absurd (show (!decide (V.int u = V.int 0)) = true by rw [decide_eq_false (fun q => e (V.int.inj q))]; rfl) z
def leS (a b : Str) : Prop := a.cps.toList ≤ b.cps.toList
theorem leS_trans {a b c : Str} (h : leS a b) (h' : leS b c) : leS a c := List.le_trans h h'
theorem leS_anti {a b : Str} (h : leS a b) (h' : leS b a) : a = b := by
  have e : a.cps.toList = b.cps.toList := List.le_antisymm h h'
  cases a
  cases b
  exact congrArg Str.mk (Array.toList_inj.mp e)
theorem ris_all : ∀ (l : List Str) (p : Str), PyProof.Rows.risingS p l = true → (∀ x ∈ l, leS p x) ∧ l.Pairwise leS
  | [], _, _ => ⟨(fun _ h => nomatch h), .nil⟩
  | x :: r, p, h => by
    unfold PyProof.Rows.risingS at h
    rw [Bool.and_eq_true, Bool.not_eq_true'] at h
    rw [PyProof.Rows.ltCps_eq] at h
    have hx : leS p x := of_decide_eq_false h.1
    obtain ⟨i1, i2⟩ := ris_all r x h.2
    refine ⟨fun y hy => ?_, List.pairwise_cons.mpr ⟨i1, i2⟩⟩
    rcases List.mem_cons.mp hy with rfl | hy
    · exact hx
    · exact leS_trans hx (i1 y hy)
theorem srt_pw : ∀ {l : List Str}, PyProof.Rows.sortedS l = true → l.Pairwise leS
  | [], _ => .nil
  | x :: r, h => List.pairwise_cons.mpr (ris_all r x h)
theorem srt_same {a b : List Str} (hp : a.Perm b) (ha : PyProof.Rows.sortedS a = true) (hb : PyProof.Rows.sortedS b = true) : a = b :=
  hp.eq_of_pairwise (fun _ _ _ _ h1 h2 => leS_anti h1 h2) (srt_pw ha) (srt_pw hb)
theorem srtI_same {a b : List Int} (hp : a.Perm b) (ha : a.Pairwise (· ≤ ·)) (hb : b.Pairwise (· ≤ ·)) : a = b :=
  hp.eq_of_pairwise (fun _ _ _ _ h1 h2 => Int.le_antisymm h1 h2) ha hb
theorem lay_all : ∀ {ds : List PyData}, (∀ d ∈ ds, d.canLay0 = true) → PyData.canLayAll0 ds = true
  | [], _ => rfl
  | d :: r, h => by
    unfold PyData.canLayAll0
    rw [h d List.mem_cons_self, lay_all fun x hx => h x (List.mem_cons_of_mem _ hx)]
    rfl
theorem depth_all : ∀ {ds : List PyData} {n : Nat}, (∀ d ∈ ds, d.depth ≤ n) → PyData.depthAll ds ≤ n
  | [], _, _ => Nat.zero_le _
  | d :: r, n, h => by
    unfold PyData.depthAll
    exact Nat.max_le.mpr ⟨h d List.mem_cons_self, depth_all fun x hx => h x (List.mem_cons_of_mem _ hx)⟩

/-! ### ratios of the program are Lean's -/
theorem gcd_rND {o u : Int} (h : u ≠ 0) : Int.gcd (rN o u) (rD o u) = 1 := by
  have g : 0 < Int.gcd o u := Int.gcd_pos_of_ne_zero_right o h
  have e : Int.gcd o u = (cOf o u).natAbs * Int.gcd (rN o u) (rD o u) := by
    rw [← Int.gcd_mul_left, rN_eq, rD_eq]
  have n : (cOf o u).natAbs = Int.gcd o u := by
    unfold cOf
    split <;> omega
  rw [n] at e
  exact (Nat.eq_of_mul_eq_mul_left g (by rw [Nat.mul_one]; exact e)).symm
theorem rat_rND {o u : Int} (h : u ≠ 0) : (Rat.divInt o u).num = rN o u ∧ ((Rat.divInt o u).den : Int) = rD o u := by
  have p := rD_pos (o := o) h
  have c : Nat.Coprime (rN o u).natAbs (rD o u).toNat := by
    have := gcd_rND (o := o) h
    unfold Int.gcd at this
    rw [show (rD o u).natAbs = (rD o u).toNat by omega] at this
    exact this
  have e : Rat.divInt o u = ⟨rN o u, (rD o u).toNat, by omega, c⟩ := by
    rw [Rat.mk_eq_divInt, Int.toNat_of_nonneg (by omega)]
    have e2 := @Rat.divInt_mul_left (rN o u) (rD o u) (cOf o u) (cOf_ne h)
    rw [rN_eq, rD_eq] at e2
    exact e2
  rw [e]
  exact ⟨rfl, by show (((rD o u).toNat : Nat) : Int) = _; omega⟩
end G


namespace M
open PySem L2
section
variable {K : PySem.W.Frag} {α β γ δ ε ρ : Type} {S T : AS} {σ : St} {H : Hp} {ta tb te : TE} {tt tu : TT} {a : Ty K α} {b : Ty K β} {c : Ty K γ} {D : Ends} {u t1 t2 : TS}
theorem if_and {g : Bool} {A : Option α} {y : α} (h : (if g then A else none) = some y) : g = true ∧ A = some y := by
  cases g with
  | true => exact ⟨rfl, h⟩
  | false => cases h
theorem sub_cons {p : Addr} {S S' : AS} (h : Sub S S') : Sub S (p :: S') := fun a m => List.mem_cons_of_mem _ (h a m)
theorem cons_sub {p : Addr} {S S' : AS} (h : p ∈ S') (h' : Sub S S') : Sub (p :: S) S' := fun a m => by
  rcases List.mem_cons.mp m with rfl | m
  · exact h
  · exact h' a m
theorem nwL.sub {c : Ty K α} {S S' T : AS} {H0 H H1 : Hp} {v : V} {xs : List α} (h : nwL c S H H1 v xs) (hs : Sub S' S) (f : Fr T H0 H) (d : Dom T H) : nwL c S' H0 H1 v xs := by
  obtain ⟨p, e, n, vs, hv, ha⟩ := h
  exact ⟨p, e, fr_back f d n, vs, hv, ha.imp fun _ _ => c.sub fun a m => by
    rcases List.mem_cons.mp m with rfl | m
    · exact List.mem_cons_self ..
    · exact List.mem_cons_of_mem _ (hs a m)⟩
theorem Own.same {c : Ty K α} {S : AS} {H H' : Hp} {p : Addr} {xs : List α} (h : Own c S H p xs) (s : Same H H') : Own c S H' p xs := by
  obtain ⟨vs, hv, ha⟩ := h
  exact ⟨vs, s _ _ hv, ha.imp fun _ _ => c.mono (Fr.same s)⟩
theorem Own.fr {c : Ty K α} {S T : AS} {H H' : Hp} {p : Addr} {xs : List α} (h : Own c S H p xs) (f : Fr T H H') (ts : Sub T S) (n : p ∉ T) : Own c S H' p xs := by
  obtain ⟨vs, hv, ha⟩ := h
  exact ⟨vs, f _ _ hv n, ha.imp fun _ _ => c.mono (f.sub ts)⟩
theorem Own.ext {c : Ty K α} {S : AS} {H : Hp} {p q : Addr} {xs : List α} (h : Own c S H p xs) (n : H q = none) : Own c (q :: S) H p xs := by
  obtain ⟨vs, hv, ha⟩ := h
  exact ⟨vs, hv, ha.imp fun _ _ => c.ext n⟩
theorem Own.ne {c : Ty K α} {S : AS} {H : Hp} {p q : Addr} {xs : List α} (h : Own c S H p xs) (n : H q = none) : p ≠ q := by
  obtain ⟨vs, hv, ha⟩ := h
  exact ne_of_none hv n
theorem Own.sub {c : Ty K α} {S S' : AS} {H : Hp} {p : Addr} {xs : List α} (h : Own c S H p xs) (hs : Sub S' S) : Own c S' H p xs := by
  obtain ⟨vs, hv, ha⟩ := h
  exact ⟨vs, hv, ha.imp fun _ _ => c.sub hs⟩
/-! items put behind an owned list -/
def app? (xs : List α) (x : α) : Option (List α) := if xs.length < 100000 then some (xs ++ [x]) else none
/-- all but p stands, and what p held is H1 p -/
structure Mut1 (p : Addr) (H H' : Hp) : Prop where
  k : ∀ a o, H a = some o → a ≠ p → H' a = some o
  p' : H' p ≠ none
theorem l_app {p : Addr} {xs ys : List α} {i : Nat} {r : Option α} {x : α} (d : Dom S H) (o : Own a S H p xs) (im : p ∈ S) (nt : p ∉ T) (ts : Sub T S) (hi : σ[i]? = some (some (.ref p))) (h : Ev S T te σ H (of a S) r) (e : r = some x) (f : app? xs x = some ys)
    (k : ∀ H1, Mut1 p H H1 → Fr S H H1 → Own a S H1 p ys → D.nx σ H1) : tDrop (tBM K "list" rAppend (tVar i) (tCons te tNil)) D σ H := by
  obtain ⟨vs, hv, ha⟩ := o
  unfold app? at f
  split at f
  · rename_i hl
    cases f
    refine ⟨_, hi, Or.inl ⟨rfl, vs, .inl (.inl hv)⟩, h x e H (Fr.refl _) d _ fun v H1 s1 hx => ?_⟩
    refine ⟨p, vs, v, rfl, rfl, s1 _ _ hv, Nat.lt_of_lt_of_le (by rw [ha.len]; exact hl) (by decide), ?_⟩
    have f1 : Fr S H1 (upd H1 p (.lst (vs ++ [v]))) := fr_upd im
    refine k _ ⟨fun b ob e n => by rw [upd_ne n]; exact s1 _ _ e, by rw [upd_same]; intro z; cases z⟩ ((Fr.same s1).trans f1) ⟨vs ++ [v], upd_same, ?_⟩
    exact ((ha.imp fun _ _ h => a.mono (Fr.same s1) h).snoc hx).imp fun _ _ h => a.mono f1 h
  · cases f
theorem q_app {p : Addr} {xs ys : List α} {i : Nat} {r : Option α} {x : α} (d : Dom S H) (o : Own a S H p xs) (im : p ∈ S) (nt : p ∉ T) (ts : Sub T S) (hi : σ[i]? = some (some (.ref p))) (h : Ev S T te σ H (of a S) r) (e : r = some x) (f : app? xs x = some ys)
    (k : ∀ H1, Mut1 p H H1 → Fr S H H1 → Own a S H1 p ys → u D σ H1) : tSeq (tDrop (tBM K "list" rAppend (tVar i) (tCons te tNil))) u D σ H := l_app (D := { D with nx := u D }) d o im nt ts hi h e f k
theorem Fr.mut {p : Addr} {H0 H H' : Hp} (f : Fr T H0 H) (d : Dom T H) (n : H0 p = none) (m : Mut1 p H H') : Fr T H0 H' := fun b o e nb => m.k b o (f b o e nb) (ne_of_none e n)
theorem Mut1.fr {p : Addr} {H H' : Hp} (m : Mut1 p H H') (h : p ∈ S) : Fr S H H' := fun b o e nb => m.k b o e fun z => nb (by rw [z]; exact h)
theorem Fr.mutN {p : Addr} {H0 H H' : Hp} (f : Fr T H0 H) (n : H0 p = none) (m : Mut1 p H H') : Fr T H0 H' := fun b o e nb => m.k b o (f b o e nb) (ne_of_none e n)
theorem Dom.sub {S' : AS} (d : Dom S H) (h : Sub S' S) : Dom S' H := fun a m => d a (h a m)
theorem Dom.fx {p : Addr} {H H' : Hp} (d : Dom S H) (f : Fr S H H') (m : Mut1 p H H') : Dom S H' := fun b mb e => by
  by_cases q : b = p
  · subst q; exact m.p' e
  · cases z : H b with
    | none => exact d b mb z
    | some o => rw [m.k b o z q] at e; cases e
theorem Own.mut {c : Ty K α} {S : AS} {H H' : Hp} {p q : Addr} {xs : List α} (h : Own c S H p xs) (f : Fr S H H') (m : Mut1 q H H') (n : p ≠ q) : Own c S H' p xs := by
  obtain ⟨vs, hv, ha⟩ := h
  exact ⟨vs, m.k _ _ hv n, ha.imp fun _ _ => c.mono f⟩
theorem seq_last {t : TS} (Pv : St → Hp → Prop) (h2 : ∀ σ H, Pv σ H → D.nx σ H) (h1 : (∀ σ H, Pv σ H → D.nx σ H) → t D σ H) : t D σ H := h1 h2
/-! lists made -/
theorem ev_lst0 : Ev S T (tLst tNil) σ H (nw a S) (some []) := fun x e H1 f d Q q => by
  cases e
  exact ⟨Nat.zero_le _, fun p hp => q _ _ (same_new hp) ⟨p, rfl, hp, [], upd_same, .nil⟩⟩
theorem ev_list {r : Option (List α)} (h : Ev S T te σ H (of (tL a) S) r) : Ev S T (tCB (fun xs H Q => ∃ p ys, xs = [.ref p] ∧ (SqL K H p ys ∨ SqT K H p ys) ∧ ∀ l, H l = none → Q (.ref l) (upd H l (.lst ys))) (tCons te tNil)) σ H (nw a S) r := fun x e H1 f d Q q => by
  refine h x e H1 f d _ fun v H2 s2 hv => ?_
  obtain ⟨p, vs, rfl, hp, ha⟩ := hv
  exact ⟨p, vs, rfl, .inl hp.sq, fun l hl => q _ _ (s2.trans (same_new hl)) ⟨l, rfl, s2.free hl, vs, upd_same, ha.imp fun _ _ h => a.mono (Fr.same (same_new hl)) (a.ext hl h)⟩⟩
def EvE (S T : AS) (ta : TA) (σ : St) (H : Hp) (a : Ty K α) (n : Nat) (r : Option (List α)) : Prop :=
  ∀ x, r = some x → ∀ H1, Fr T H H1 → Dom S H1 → ∀ Q : List V → Hp → Prop, (∀ vs H2, vs.length = n → Same H1 H2 → All2 (a.rp S H2) vs x → Q vs H2) → ta σ H1 Q
theorem el_nil : EvE S T tNil σ H a 0 (some []) := fun _ e H1 f d Q q => by cases e; exact q [] H1 rfl (Same.refl _) .nil
theorem el_cons {tr : TA} {n : Nat} {ra : Option α} {rr : Option (List α)} (h : Ev S T ta σ H (of a S) ra) (hr : EvE S T tr σ H a n rr) : EvE S T (tCons ta tr) σ H a (n + 1) (bd ra fun x => bd rr fun y => some (x :: y)) := by
  intro z e H1 f1 d Q q
  obtain ⟨x, ex, e⟩ := bd_some e
  obtain ⟨y, ey, e⟩ := bd_some e
  cases e
  exact h x ex H1 f1 d _ fun v H2 s2 hv => hr y ey H2 (f1.trans (Fr.same s2)) (d.same s2) _ fun vs H3 hl s3 hw => q _ H3 (by simp [hl]) (s2.trans s3) (.cons (a.mono (Fr.same s3) hv) hw)
theorem ev_lst {tr : TA} {n : Nat} {rr : Option (List α)} (h : EvE S T tr σ H a n rr) (hn : n ≤ sizeLine) : Ev S T (tLst tr) σ H (nw a S) rr := fun x e H1 f d Q q =>
  h x e H1 f d _ fun vs H2 hl s2 ha => ⟨by rw [hl]; exact hn, fun p hp => q _ _ (s2.trans (same_new hp)) ⟨p, rfl, s2.free hp, vs, upd_same, ha.imp fun _ _ h => a.mono (Fr.same (same_new hp)) (a.ext hp h)⟩⟩
theorem All2.bools {S : AS} {H : Hp} : ∀ {vs : List V} {xs : List Bool}, All2 ((tBool (K := K)).rp S H) vs xs → vs = xs.map V.bl
  | _, _, .nil => rfl
  | _, _, .cons h r => by rw [List.map_cons, ← All2.bools r, show _ = _ from h]
theorem ev_all {r : Option (List Bool)} (h : Ev S T te σ H (of (K := K) (tL tBool) S) r) : Ev S T (tCB (rAll K) (tCons te tNil)) σ H (of (K := K) tBool S) (bd r fun x => some (x.all id)) := by
  intro z e H1 f1 d Q q
  obtain ⟨x, ex, e⟩ := bd_some e
  cases e
  refine h x ex H1 f1 d _ fun v H2 s hv => ?_
  obtain ⟨p, vs, rfl, hp, ha⟩ := hv
  refine ⟨p, x, rfl, ?_, q _ H2 s rfl⟩
  rw [← ha.bools]
  exact hp.sq
theorem ev_intB {r : Option Bool} (h : Ev S T te σ H (of (K := K) tBool S) r) : Ev S T (tCB (fun xs H Q => (∃ i, xs = [.int i] ∧ Q (.int i) H) ∨ ∃ k, xs = [.bl k] ∧ Q (.int (if k then 1 else 0)) H) (tCons te tNil)) σ H (of (K := K) tInt S) (bd r fun x => some (if x then 1 else 0 : Int)) := by
  intro z e H1 f1 d Q q
  obtain ⟨x, ex, e⟩ := bd_some e
  cases e
  refine h x ex H1 f1 d _ fun v H2 s hv => ?_
  cases hv
  exact .inr ⟨x, rfl, q _ H2 s rfl⟩
/-! comprehensions over a list -/
def mapO (f : α → Option β) : List α → Option (List β)
  | [] => some []
  | x :: xs => bd (f x) fun y => bd (mapO f xs) fun ys => some (y :: ys)
theorem mapO_get {f : α → Option β} : ∀ {xs : List α} {ys : List β} {i : Nat} {x : α}, mapO f xs = some ys → xs[i]? = some x → ∃ y, f x = some y ∧ ys[i]? = some y
  | [], _, i, x, _, e => by simp at e
  | z :: xs, ys, i, x, h, e => by
    obtain ⟨y, hy, h⟩ := bd_some h
    obtain ⟨r, hr, h⟩ := bd_some h
    cases h
    cases i with
    | zero => simp at e; subst e; exact ⟨y, hy, rfl⟩
    | succ i =>
      obtain ⟨w, h1, h2⟩ := mapO_get (i := i) hr (by simpa using e)
      exact ⟨w, h1, by simpa using h2⟩
theorem mapO_len {f : α → Option β} : ∀ {xs : List α} {ys : List β}, mapO f xs = some ys → ys.length = xs.length
  | [], _, h => by cases h; rfl
  | z :: xs, ys, h => by
    obtain ⟨y, hy, h⟩ := bd_some h
    obtain ⟨r, hr, h⟩ := bd_some h
    cases h
    simp [mapO_len hr]
def filO (f : α → Option (Option β)) : List α → Option (List β)
  | [] => some []
  | x :: xs => bd (f x) fun o => bd (filO f xs) fun ys => match o with | some y => some (y :: ys) | none => some ys
theorem filO_map {f : α → Option β} : ∀ xs : List α, filO (fun x => bd (f x) fun y => some (some y)) xs = mapO f xs
  | [] => rfl
  | x :: r => by
    simp only [filO, mapO, bd, filO_map r]
    cases f x <;> rfl
def mapL? (f : α → Option β) (xs : List α) : Option (List β) := if xs.length < 100000 then mapO f xs else none
/-- [te for x in wi] -/
theorem lc_core2 {wi : TI} {j : Nat} {ws : List Nat} {r : Option (List α)} {f : α → Option (Option β)} (h : Sr S T wi σ H a r) (hw : ∀ x, wipe ((wipe σ ws).set j (some x)) ws = wipe σ ws)
    (he : ∀ (x : α) (v : V) (H2 H' : Hp) (p : Addr) (o : Option β), Fr T H H2 → H2 p = none → Same H2 H' → a.rp (p :: S) H' v x → Dom (p :: S) H' → f x = some o → ∀ (Q1 : V → Hp → Prop) (Q0 : Hp → Prop), (∀ y w H3, o = some y → Same H' H3 → b.rp (p :: S) H3 w y → Q1 w H3) → (∀ H3, o = none → Same H' H3 → Q0 H3) →
      tt ((wipe σ ws).set j (some v)) H' fun k H3 => if k = true then te ((wipe σ ws).set j (some v)) H3 Q1 else Q0 H3) :
    Ev S T (tLc wi (gName j) tt te ws) σ H (nw b S) (bd r fun xs => if xs.length < 100000 then filO f xs else none) := by
  intro z e H1 f1 d Q q
  obtain ⟨xs, ex, e⟩ := bd_some e
  split at e
  rotate_left
  · cases e
  rename_i hlen
  refine h xs ex H1 f1 d _ fun J H2 s2 wk => fun Dl hD => ?_
  have d2 := d.same s2
  have sD : Same H2 (upd H2 Dl (.lst [])) := same_new hD
  refine ⟨fun i m H' => m = xs.length - i ∧ i ≤ xs.length ∧ ∃ acc pre, H' Dl = some (.lst acc) ∧ Same H2 H' ∧ acc.length ≤ i ∧ All2 (b.rp (Dl :: S) H') acc pre ∧ ∃ suf, filO f (xs.drop i) = some suf ∧ z = pre ++ suf, ⟨_, rfl, Nat.zero_le _, [], [], upd_same, sD, Nat.zero_le _, .nil, z, e, rfl⟩, ?_⟩
  rintro i m H' ⟨rfl, hi, acc, pre, h1, h2, h3, h4, suf, h5, h6⟩
  by_cases c : i < xs.length
  · right
    rw [List.drop_eq_getElem_cons c] at h5
    obtain ⟨o, ho, h5⟩ := bd_some h5
    obtain ⟨suf', hs', h5⟩ := bd_some h5
    refine ⟨wk.go H' i (Fr.same h2) c, fun H3 => ∃ acc pre, H3 Dl = some (.lst acc) ∧ Same H2 H3 ∧ acc.length ≤ i + 1 ∧ All2 (b.rp (Dl :: S) H3) acc pre ∧ ∃ suf, filO f (xs.drop (i + 1)) = some suf ∧ z = pre ++ suf, ?_, ?_⟩
    · rintro H3 ⟨acc, pre, g1, g2, g3, g4, suf, g5, g6⟩
      exact ⟨xs.length - (i + 1), by omega, rfl, by omega, acc, pre, g1, g2, g3, g4, suf, g5, g6⟩
    · intro v H3 hy
      obtain ⟨rfl, hv⟩ := wk.yl H' i v H3 (Fr.same h2) hy _ (List.getElem?_eq_getElem c)
      refine ⟨hw v, ?_⟩
      refine he xs[i] v H2 _ Dl o (f1.trans (Fr.same s2)) hD h2 (a.mono (Fr.same h2) (a.ext hD hv)) ((d2.same h2).cons h1) ho _ _ (fun y w H4 eo s4 hw4 => ?_) (fun H4 eo s4 => ?_)
      · subst eo
        cases h5
        refine ⟨acc, s4 _ _ h1, Nat.lt_of_lt_of_le (by omega : acc.length < 100000) (by decide), acc ++ [w], pre ++ [y], upd_same, fun p ob eb => ?_, by simp; omega, ?_, suf', hs', by rw [h6]; simp⟩
        · rw [upd_ne (ne_of_none eb hD)]
          exact s4 _ _ (h2 _ _ eb)
        · have fD : Fr (Dl :: S) H4 (upd H4 Dl (.lst (acc ++ [w]))) := fr_upd (List.mem_cons_self ..)
          exact ((h4.imp fun _ _ h => b.mono (Fr.same s4) h).snoc hw4).imp fun _ _ h => b.mono fD h
      · subst eo
        cases h5
        exact ⟨acc, pre, s4 _ _ h1, fun p ob eb => s4 _ _ (h2 _ _ eb), by omega, h4.imp fun _ _ h => b.mono (Fr.same s4) h, _, hs', h6⟩
  · left
    rw [List.drop_eq_nil_of_le (by omega)] at h5
    cases h5
    rw [List.append_nil] at h6
    subst h6
    exact ⟨wk.st H' i (Fr.same h2) (by omega), q _ _ (s2.trans h2) ⟨Dl, rfl, s2.free hD, acc, h1, h4⟩⟩
theorem ev_lc {wi : TI} {j : Nat} {ws : List Nat} {r : Option (List α)} {f : α → Option β} (h : Sr S T wi σ H a r) (hw : ∀ x, wipe ((wipe σ ws).set j (some x)) ws = wipe σ ws)
    (he : ∀ (x : α) (v : V) (H2 H' : Hp) (p : Addr), Fr T H H2 → H2 p = none → Same H2 H' → a.rp (p :: S) H' v x → Ev (p :: S) [] te ((wipe σ ws).set j (some v)) H' (of b (p :: S)) (f x)) :
    Ev S T (tLc wi (gName j) tYes te ws) σ H (nw b S) (bd r fun xs => mapL? f xs) := by
  have k := lc_core2 (tt := tYes) (te := te) (b := b) (f := fun x => bd (f x) fun y => some (some y)) h hw fun x v H2 H' p o g1 g2 g3 g4 g5 g6 Q1 Q0 g7 g8 => by
    obtain ⟨y, hy, g6⟩ := bd_some g6
    cases g6
    refine G.yes_ ?_
    exact he x v H2 H' p g1 g2 g3 g4 y hy H' (Fr.refl _) g5 _ fun w H3 s3 hw3 => g7 y w H3 rfl s3 hw3
  intro z e
  refine k z ?_
  obtain ⟨xs, ex, e⟩ := bd_some e
  rw [ex]
  unfold mapL? at e
  show (if xs.length < 100000 then filO _ xs else none) = some z
  split at e
  · rename_i hl
    rw [if_pos hl, filO_map]
    exact e
  · cases e
/-- with a test -/
def filL? (g : α → Option Bool) (f : α → Option β) (xs : List α) : Option (List β) := if xs.length < 100000 then filO (fun x => bd (g x) fun k => if k then bd (f x) fun y => some (some y) else some none) xs else none
theorem ev_lcF {wi : TI} {j : Nat} {ws : List Nat} {r : Option (List α)} {g : α → Option Bool} {f : α → Option β} (h : Sr S T wi σ H a r) (hw : ∀ x, wipe ((wipe σ ws).set j (some x)) ws = wipe σ ws)
    (ht : ∀ (x : α) (v : V) (H2 H' : Hp) (p : Addr), Fr T H H2 → H2 p = none → Same H2 H' → a.rp (p :: S) H' v x → EvB (p :: S) [] tt ((wipe σ ws).set j (some v)) H' (g x))
    (he : ∀ (x : α) (v : V) (H2 H' : Hp) (p : Addr), Fr T H H2 → H2 p = none → Same H2 H' → a.rp (p :: S) H' v x → Ev (p :: S) [] te ((wipe σ ws).set j (some v)) H' (of b (p :: S)) (f x)) :
    Ev S T (tLc wi (gName j) tt te ws) σ H (nw b S) (bd r fun xs => filL? g f xs) :=
  lc_core2 (tt := tt) (te := te) (b := b) (f := fun x => bd (g x) fun k => if k then bd (f x) fun y => some (some y) else some none) h hw fun x v H2 H' p o g1 g2 g3 g4 g5 g6 Q1 Q0 g7 g8 => by
    obtain ⟨k, hk, g6⟩ := bd_some g6
    refine ht x v H2 H' p g1 g2 g3 g4 k hk H' (Fr.refl _) g5 _ fun H3 s3 => ?_
    cases k with
    | true =>
      obtain ⟨y, hy, g6⟩ := bd_some (if_t g6)
      cases g6
      show if true = true then _ else _
      rw [if_pos rfl]
      exact he x v H2 H' p g1 g2 g3 g4 y hy H3 (Fr.same s3) (g5.same s3) _ fun w H4 s4 hw4 => g7 y w H4 rfl (s3.trans s4) hw4
    | false =>
      cases (if_f g6)
      show if false = true then _ else _
      rw [if_neg (by decide)]
      exact g8 H3 rfl s3
end
end M

namespace M
open PySem L2 G
abbrev Wp (α : Type) := (α → Prop) → Prop
def lf {α : Type} (r : Option α) : Wp α := fun P => ∃ x, r = some x ∧ P x
def opW {α β γ : Type} (f : α → β → Option γ) (wa : Wp α) (wb : Wp β) : Wp γ := fun P => wa fun x => wb fun y => lf (f x y) P
def unW {α γ : Type} (g : α → Option γ) (wa : Wp α) : Wp γ := fun P => wa fun x => lf (g x) P
def tup2W {α β : Type} (wa : Wp α) (wb : Wp β) : Wp (α × β) := fun P => wa fun x => wb fun y => P (x, y)
def consW {α : Type} (wa : Wp α) (wb : Wp (List α)) : Wp (List α) := fun P => wa fun x => wb fun y => P (x :: y)
def andW (r v : Wp Bool) : Wp Bool := fun P => r fun x => if x then v P else P false
def orW (r v : Wp Bool) : Wp Bool := fun P => r fun x => if x then P true else v P
def callBW {α γ : Type} (m : α → Wp γ) (w : Wp α) : Wp γ := fun P => w fun a => m a P
theorem lf_some {α : Type} {x : α} {P : α → Prop} : lf (some x) P ↔ P x := ⟨fun ⟨y, e, h⟩ => by cases e; exact h, fun h => ⟨x, rfl, h⟩⟩
theorem _root_.G.Bag.dom {H : Hp} {b c : Addr} (h : Bag H b c) : Dom [b, c] H := fun a m e => by
  obtain ⟨_, ns, sl, sd, h1, h2, _⟩ := h
  simp only [List.mem_cons, List.not_mem_nil, or_false] at m
  rcases m with rfl | rfl
  · rw [h1] at e; cases e
  · rw [h2] at e; cases e
theorem dom_fr {S : AS} {H H' : Hp} {b c : Addr} (d : Dom S H) (f : Fr [b, c] H H') (h : Bag H' b c) : Dom S H' := fun a m e => by
  by_cases q : a ∈ [b, c]
  · exact h.dom a q e
  · cases z : H a with
    | none => exact d a m z
    | some o => rw [f a o z q] at e; cases e
section
variable {K : PySem.W.Frag} {α β γ δ ε ρ : Type} {S T : AS} {σ : St} {H : Hp} {ta tb te : TE} {tt tu : TT} {a : Ty K α} {b' : Ty K β} {c' : Ty K γ} {D : Ends} {u t1 t2 : TS} {b c : Addr}
def EvW (b c : Addr) (S : AS) (te : TE) (σ : St) (H : Hp) (R : Rl α) (w : Wp α) : Prop :=
  Sub [b, c] S → ∀ P, w P → ∀ H1, Fr [b, c] H H1 → Dom S H1 → Bag H1 b c → ∀ Q : VK, (∀ v H2 x, P x → Fr [b, c] H1 H2 → Dom S H2 → Bag H2 b c → R.r H1 H2 v x → Q v H2) → te σ H1 Q
def BvW (b c : Addr) (S : AS) (tt : TT) (σ : St) (H : Hp) (w : Wp Bool) : Prop :=
  Sub [b, c] S → ∀ P, w P → ∀ H1, Fr [b, c] H H1 → Dom S H1 → Bag H1 b c → ∀ Q : Bool → Hp → Prop, (∀ H2 x, P x → Fr [b, c] H1 H2 → Dom S H2 → Bag H2 b c → Q x H2) → tt σ H1 Q
theorem ew_pure {R : Rl α} {r : Option α} (h : Ev S [b, c] te σ H R r) : EvW b c S te σ H R (lf r) := fun ts P ⟨x, e, hP⟩ H1 f d hB Q q =>
  h x e H1 f d Q fun v H2 s hv => q v H2 x hP (Fr.same s) (d.same s) (hB.same s) hv
theorem ew_new {w : Wp (List α)} (h : EvW b c S te σ H (nw a S) w) : EvW b c S te σ H (of (tL a) S) w := fun ts P hP H1 f d hB Q q =>
  h ts P hP H1 f d hB Q fun v H2 x hx f2 d2 hB2 hv => q v H2 x hx f2 d2 hB2 (nwL.rp hv d)
theorem ew_op {R : Rl γ} {r : R2} {f : α → β → Option γ} {wa : Wp α} {wb : Wp β} (h : OpD a b' S R r f) (ha : EvW b c S ta σ H (of a S) wa) (hb : EvW b c S tb σ H (of b' S) wb) :
    EvW b c S (tOp r ta tb) σ H R (opW f wa wb) := fun ts P hP H1 f1 d hB Q q =>
  ha ts _ hP H1 f1 d hB _ fun v H2 x hx f2 d2 hB2 hv => hb ts _ hx H2 (f1.trans f2) d2 hB2 _ fun w H3 y ⟨z, e, hz⟩ f3 d3 hB3 hw => h x y z e H3 v w d3 (a.mono (f3.sub ts) hv) hw Q fun u H4 s4 hu => q u H4 z hz ((f2.trans f3).trans (Fr.same s4)) (d3.same s4) (hB3.same s4) (R.back (f2.trans f3) hB3.dom hu)
theorem ew_ixT {R : Rl γ} {i : Int} {wa : Wp α} {g : α → γ} (ha : EvW b c S ta σ H (of a S) wa) (h : ∀ x H v, a.rp S H v x → ∃ p vs u, v = .ref p ∧ SqT K H p vs ∧ atI vs i = some u ∧ R.r H H u (g x)) :
    EvW b c S (tOp (rIxT K) ta (tC (.int i))) σ H R (unW (fun x => some (g x)) wa) := fun ts P hP H1 f1 d hB Q q => by
  refine ha ts _ hP H1 f1 d hB _ fun v H2 x ⟨z, e, hz⟩ f2 d2 hB2 hv => ?_
  cases e
  obtain ⟨p, vs, u, rfl, hp, hu, hr⟩ := h x H2 v hv
  exact ⟨p, vs, i, u, rfl, rfl, hp, hu, q u H2 _ hz f2 d2 hB2 (R.back f2 hB2.dom hr)⟩
theorem ew_ix20 {ra : Wp (α × β)} (ha : EvW b c S ta σ H (of (tT2 a b') S) ra) : EvW b c S (tOp (rIxT K) ta (tC (.int 0))) σ H (of a S) (unW (fun x => some x.1) ra) :=
  ew_ixT ha fun x H v ⟨p, u, w, e, h, h1, h2⟩ => ⟨p, _, u, e, h.sq, rfl, h1⟩
theorem ew_ix21 {ra : Wp (α × β)} (ha : EvW b c S ta σ H (of (tT2 a b') S) ra) : EvW b c S (tOp (rIxT K) ta (tC (.int 1))) σ H (of b' S) (unW (fun x => some x.2) ra) :=
  ew_ixT ha fun x H v ⟨p, u, w, e, h, h1, h2⟩ => ⟨p, _, w, e, h.sq, rfl, h2⟩
theorem ew_tup2 {wa : Wp α} {wb : Wp β} (ha : EvW b c S ta σ H (of a S) wa) (hb : EvW b c S tb σ H (of b' S) wb) : EvW b c S (tTup (tCons ta (tCons tb tNil))) σ H (of (tT2 a b') S) (tup2W wa wb) := fun ts P hP H1 f1 d hB Q q => by
  refine ha ts _ hP H1 f1 d hB _ fun v H2 x hx f2 d2 hB2 hv => hb ts _ hx H2 (f1.trans f2) d2 hB2 _ fun w H3 y hy f3 d3 hB3 hw => ⟨(by show 2 ≤ sizeLine; decide), fun p hp => ?_⟩
  have s4 := same_new (o := .tup [v, w]) hp
  exact q _ _ (x, y) hy ((f2.trans f3).trans (Fr.same s4)) (d3.same s4) (hB3.same s4) ⟨p, v, w, rfl, .inl ⟨.inl upd_same, d3.not_mem hp⟩, a.mono (Fr.same s4) (a.mono (f3.sub ts) hv), b'.mono (Fr.same s4) hw⟩
/-! tests -/
theorem bw_pure {r : Option Bool} (h : EvB S [b, c] tt σ H r) : BvW b c S tt σ H (lf r) := fun ts P ⟨x, e, hP⟩ H1 f d hB Q q => h x e H1 f d Q fun H2 s => q H2 x hP (Fr.same s) (d.same s) (hB.same s)
theorem bw_test {w : Wp Bool} (h : EvW b c S te σ H (of (K := K) tBool S) w) : BvW b c S (tTest te) σ H w := fun ts P hP H1 f d hB Q q => h ts P hP H1 f d hB _ fun v H2 x hx f2 d2 hB2 hv => ⟨x, hv, q H2 x hx f2 d2 hB2⟩
theorem bw_B {w : Wp Bool} (h : EvW b c S te σ H (of (K := K) tBool S) w) : BvW b c S (tB te) σ H w := fun ts P hP H1 f d hB Q q => h ts P hP H1 f d hB _ fun v H2 x hx f2 d2 hB2 hv => ⟨x, hv, q H2 x hx f2 d2 hB2⟩
theorem bw_and {r v : Wp Bool} (h : BvW b c S tt σ H r) (h' : BvW b c S tu σ H v) : BvW b c S (tAnd tt tu) σ H (andW r v) := fun ts P hP H1 f1 d hB Q q => by
  refine h ts _ hP H1 f1 d hB _ fun H2 x hx f2 d2 hB2 => ?_
  cases x with
  | true => exact h' ts P hx H2 (f1.trans f2) d2 hB2 Q fun H3 y hy f3 d3 hB3 => q H3 y hy (f2.trans f3) d3 hB3
  | false => exact q H2 false hx f2 d2 hB2
theorem bw_or {r v : Wp Bool} (h : BvW b c S tt σ H r) (h' : BvW b c S tu σ H v) : BvW b c S (tOr tt tu) σ H (orW r v) := fun ts P hP H1 f1 d hB Q q => by
  refine h ts _ hP H1 f1 d hB _ fun H2 x hx f2 d2 hB2 => ?_
  cases x with
  | false => exact h' ts P hx H2 (f1.trans f2) d2 hB2 Q fun H3 y hy f3 d3 hB3 => q H3 y hy (f2.trans f3) d3 hB3
  | true => exact q H2 true hx f2 d2 hB2
theorem ew_and {r v : Wp Bool} (h : EvW b c S ta σ H (of (K := K) tBool S) r) (h' : EvW b c S tb σ H (of (K := K) tBool S) v) : EvW b c S (tAndV ta tb) σ H (of (K := K) tBool S) (andW r v) := fun ts P hP H1 f1 d hB Q q => by
  refine h ts _ hP H1 f1 d hB _ fun v H2 x hx f2 d2 hB2 hv => ⟨x, hv, ?_⟩
  cases x with
  | true => exact h' ts P hx H2 (f1.trans f2) d2 hB2 Q fun v H3 y hy f3 d3 hB3 hv => q v H3 y hy (f2.trans f3) d3 hB3 hv
  | false => exact q _ H2 false hx f2 d2 hB2 rfl
theorem ew_or {r v : Wp Bool} (h : EvW b c S ta σ H (of (K := K) tBool S) r) (h' : EvW b c S tb σ H (of (K := K) tBool S) v) : EvW b c S (tOrV ta tb) σ H (of (K := K) tBool S) (orW r v) := fun ts P hP H1 f1 d hB Q q => by
  refine h ts _ hP H1 f1 d hB _ fun v H2 x hx f2 d2 hB2 hv => ⟨x, hv, ?_⟩
  cases x with
  | false => exact h' ts P hx H2 (f1.trans f2) d2 hB2 Q fun v H3 y hy f3 d3 hB3 hv => q v H3 y hy (f2.trans f3) d3 hB3 hv
  | true => exact q _ H2 true hx f2 d2 hB2 rfl
/-! arguments, calls -/
def EvWA (b c : Addr) (S : AS) (ta : TA) (σ : St) (H : Hp) (t : TyA K α) (w : Wp α) : Prop :=
  Sub [b, c] S → ∀ P, w P → ∀ H1, Fr [b, c] H H1 → Dom S H1 → Bag H1 b c → ∀ Q : List V → Hp → Prop, (∀ vs H2 x, P x → Fr [b, c] H1 H2 → Dom S H2 → Bag H2 b c → t.rp S H2 vs x → Q vs H2) → ta σ H1 Q
theorem wa_nil : EvWA b c S tNil σ H (K := K) aNil (lf (some ())) := fun ts P ⟨x, e, hP⟩ H1 f d hB Q q => q [] H1 x hP (Fr.refl _) d hB rfl
theorem wa_cons {tr : TA} {t : TyA K β} {wa : Wp α} {wr : Wp β} (h : EvW b c S ta σ H (of a S) wa) (hr : EvWA b c S tr σ H t wr) : EvWA b c S (tCons ta tr) σ H (aCons a t) (tup2W wa wr) := fun ts P hP H1 f1 d hB Q q =>
  h ts _ hP H1 f1 d hB _ fun v H2 x hx f2 d2 hB2 hv => hr ts _ hx H2 (f1.trans f2) d2 hB2 _ fun vs H3 y hy f3 d3 hB3 hw => q _ H3 (x, y) hy (f2.trans f3) d3 hB3 ⟨v, vs, rfl, a.mono (f3.sub ts) hv, hw⟩
theorem ew_call {ta : TA} {t : TyA K α} {R : AS → Rl γ} {f : α → Option γ} {w : Wp α} {E : XK} (h : EvWA b c S ta σ H t w) : EvW b c S (tCall (spF t R f) [] E ta) σ H (R S) (unW f w) := fun ts P hP H1 f1 d hB Q q => by
  refine h ts _ hP H1 f1 d hB _ fun vs H2 x ⟨z, e, hz⟩ f2 d2 hB2 hv => ⟨S, x, z, d2, ?_, e, fun u H' s hu => q u H' z hz (f2.trans (Fr.same s)) (d2.same s) (hB2.same s) ((R S).back f2 hB2.dom hu)⟩
  rw [List.append_nil]
  exact hv
/-- the promise of a def that draws from the bag -/
def spB (t : TyA K α) (R : AS → Rl γ) (m : α → Wp γ) : Sp := fun vs H Q _ => ∃ S b c r x P, vs = .ref b :: r ∧ Dom S H ∧ Sub [b, c] S ∧ Bag H b c ∧ t.rp S H r x ∧ m x P ∧ ∀ u H' z, P z → Fr [b, c] H H' → Bag H' b c → (R S).r H H' u z → Q u H'
theorem ew_callB {ta : TA} {t : TyA K α} {R : AS → Rl γ} {m : α → Wp γ} {w : Wp α} {E : XK} {i : Nat} (hi : σ[i]? = some (some (.ref b))) (h : EvWA b c S ta σ H t w) :
    EvW b c S (tCall (spB t R m) [] E (tCons (tVar i) ta)) σ H (R S) (callBW m w) := fun ts P hP H1 f1 d hB Q q => by
  refine ⟨_, hi, h ts _ hP H1 f1 d hB _ fun vs H2 x hx f2 d2 hB2 hv => ⟨S, b, c, vs, x, P, by rw [List.append_nil], d2, ts, hB2, hv, hx, fun u H' z hz f3 hB3 hu => q u H' z hz (f2.trans f3) (dom_fr d2 f3 hB3) hB3 ((R S).back f2 hB2.dom hu)⟩⟩
/-! lists made -/
def EvWE (b c : Addr) (S : AS) (ta : TA) (σ : St) (H : Hp) (a : Ty K α) (n : Nat) (w : Wp (List α)) : Prop :=
  Sub [b, c] S → ∀ P, w P → ∀ H1, Fr [b, c] H H1 → Dom S H1 → Bag H1 b c → ∀ Q : List V → Hp → Prop, (∀ vs H2 x, P x → vs.length = n → Fr [b, c] H1 H2 → Dom S H2 → Bag H2 b c → All2 (a.rp S H2) vs x → Q vs H2) → ta σ H1 Q
theorem wl_nil : EvWE b c S tNil σ H a 0 (lf (some [])) := fun ts P ⟨x, e, hP⟩ H1 f d hB Q q => by cases e; exact q [] H1 [] hP rfl (Fr.refl _) d hB .nil
theorem wl_cons {tr : TA} {n : Nat} {wa : Wp α} {wr : Wp (List α)} (h : EvW b c S ta σ H (of a S) wa) (hr : EvWE b c S tr σ H a n wr) : EvWE b c S (tCons ta tr) σ H a (n + 1) (consW wa wr) := fun ts P hP H1 f1 d hB Q q =>
  h ts _ hP H1 f1 d hB _ fun v H2 x hx f2 d2 hB2 hv => hr ts _ hx H2 (f1.trans f2) d2 hB2 _ fun vs H3 y hy hl f3 d3 hB3 hw => q _ H3 (x :: y) hy (by simp [hl]) (f2.trans f3) d3 hB3 (.cons (a.mono (f3.sub ts) hv) hw)
theorem ew_lst {tr : TA} {n : Nat} {wr : Wp (List α)} (h : EvWE b c S tr σ H a n wr) (hn : n ≤ sizeLine) : EvW b c S (tLst tr) σ H (nw a S) wr := fun ts P hP H1 f d hB Q q =>
  h ts P hP H1 f d hB _ fun vs H2 x hx hl f2 d2 hB2 ha => ⟨by rw [hl]; exact hn, fun p hp => q _ _ x hx (f2.trans (Fr.same (same_new hp))) (d2.same (same_new hp)) (hB2.same (same_new hp)) ⟨p, rfl, fr_back f2 hB2.dom hp, vs, upd_same, ha.imp fun _ _ h => a.mono (Fr.same (same_new hp)) (a.ext hp h)⟩⟩
/-! statements -/
theorem lw_asg {R : Rl α} {w : Wp α} {P : α → Prop} {i : Nat} (d : Dom S H) (hB : Bag H b c) (ts : Sub [b, c] S) (h : EvW b c S te σ H R w) (e : w P) (k : ∀ v H1 x, P x → Fr [b, c] H H1 → Dom S H1 → Bag H1 b c → R.r H H1 v x → D.nx (σ.set i (some v)) H1) : tAsg te (gName i) D σ H := h ts P e H (Fr.refl _) d hB _ k
theorem qw_asg {R : Rl α} {w : Wp α} {P : α → Prop} {i : Nat} (d : Dom S H) (hB : Bag H b c) (ts : Sub [b, c] S) (h : EvW b c S te σ H R w) (e : w P) (k : ∀ v H1 x, P x → Fr [b, c] H H1 → Dom S H1 → Bag H1 b c → R.r H H1 v x → u D (σ.set i (some v)) H1) : tSeq (tAsg te (gName i)) u D σ H := h ts P e H (Fr.refl _) d hB _ k
theorem qw_ret {R : Rl α} {w : Wp α} {P : α → Prop} (d : Dom S H) (hB : Bag H b c) (ts : Sub [b, c] S) (h : EvW b c S te σ H R w) (e : w P) (k : ∀ v H1 x, P x → Fr [b, c] H H1 → Dom S H1 → Bag H1 b c → R.r H H1 v x → D.rt v H1) : tRet te D σ H := h ts P e H (Fr.refl _) d hB _ k
theorem lw_if {w : Wp Bool} {P : Bool → Prop} (d : Dom S H) (hB : Bag H b c) (ts : Sub [b, c] S) (h : BvW b c S tt σ H w) (e : w P) (k1 : ∀ H1, P true → Fr [b, c] H H1 → Dom S H1 → Bag H1 b c → t1 D σ H1) (k2 : ∀ H1, P false → Fr [b, c] H H1 → Dom S H1 → Bag H1 b c → t2 D σ H1) : tIfS tt t1 t2 D σ H := h ts P e H (Fr.refl _) d hB _ fun H1 x hx f d hB => by
  cases x with
  | true => exact k1 H1 hx f d hB
  | false => exact k2 H1 hx f d hB
theorem qw_if {w : Wp Bool} {P : Bool → Prop} (d : Dom S H) (hB : Bag H b c) (ts : Sub [b, c] S) (h : BvW b c S tt σ H w) (e : w P) (k1 : ∀ H1, P true → Fr [b, c] H H1 → Dom S H1 → Bag H1 b c → t1 { D with nx := u D } σ H1) (k2 : ∀ H1, P false → Fr [b, c] H H1 → Dom S H1 → Bag H1 b c → t2 { D with nx := u D } σ H1) : tSeq (tIfS tt t1 t2) u D σ H := lw_if (D := { D with nx := u D }) d hB ts h e k1 k2
theorem ifp_t {A B : Prop} (h : if true = true then A else B) : A := h
theorem ifp_f {A B : Prop} (h : if false = true then A else B) : B := h
theorem ifp_and {g : Bool} {A : Prop} (h : if g then A else False) : g = true ∧ A := by
  cases g with
  | true => exact ⟨rfl, h⟩
  | false => exact h.elim
/-! loops -/
def loopW (f : δ → α → Wp (Ct ρ δ)) : List α → δ → Wp (Ct ρ δ)
  | [], s, P => P (.go s)
  | x :: xs, s, P => f s x fun r => match r with | .go s' => loopW f xs s' P | .ret y => P (.ret y) | .brk s' => P (.go s')
def SrW (b c : Addr) (S : AS) (wi : TI) (σ : St) (H : Hp) (a : Ty K α) (w : Wp (List α)) : Prop :=
  Sub [b, c] S → ∀ P, w P → ∀ H1, Fr [b, c] H H1 → Dom S H1 → Bag H1 b c → ∀ R : It → Hp → Prop, (∀ J H2 xs, P xs → Fr [b, c] H1 H2 → Dom S H2 → Bag H2 b c → Wk J a S H2 xs → R J H2) → wi σ H1 R
theorem srw_pure {wi : TI} {r : Option (List α)} (h : Sr S [b, c] wi σ H a r) : SrW b c S wi σ H a (lf r) := fun ts P ⟨xs, e, hP⟩ H1 f d hB R q => h xs e H1 f d R fun J H2 s wk => q J H2 xs hP (Fr.same s) (d.same s) (hB.same s) wk
theorem srw_r1 {te : TE} {w : Wp Int} (h : EvW b c S te σ H (of (K := K) tInt S) w) : SrW b c S (iRng1 (tCons te tNil)) σ H (tInt (K := K)) (unW rng1? w) := fun ts P hP H1 f d hB R q => by
  refine h ts _ hP H1 f d hB _ fun v H2 n ⟨xs, e, hx⟩ f2 d2 hB2 hv => ?_
  unfold rng1? at e
  split at e
  · rename_i hn
    cases e
    have hb := rngP_le hn
    cases hv
    exact ⟨n, rfl, hb.1, hb.2, q _ H2 _ hx f2 d2 hB2 wk_rng⟩
  · cases e
theorem lw_for_s {wi : TI} {j : Nat} {tb : TS} {w : Wp (List α)} {s0 : δ} {f : δ → α → Wp (Ct ρ δ)} {P : Ct ρ δ → Prop} (d : Dom S H) (hB : Bag H b c) (ts : Sub [b, c] S) (h : SrW b c S wi σ H a w) (hf : w fun xs => loopW f xs s0 P)
    (I : δ → St → Hp → Prop) (h0 : ∀ H1, Fr [b, c] H H1 → Dom S H1 → Bag H1 b c → I s0 σ H1)
    (step : (∀ s σ' H', P (.go s) → I s σ' H' → D.nx σ' H') → ∀ (s : δ) (x : α) (C : Ct ρ δ → Prop) (v : V) (σ' : St) (H' : Hp), I s σ' H' → a.rp S H' v x → f s x C → (∀ y, C (.ret y) → P (.ret y)) → (∀ s', C (.brk s') → P (.go s')) →
      tb { D with nx := fun σ2 H2 => ∃ s', C (.go s') ∧ Fr S H' H2 ∧ I s' σ2 H2, ct := fun σ2 H2 => ∃ s', C (.go s') ∧ Fr S H' H2 ∧ I s' σ2 H2, bk := D.nx } (σ'.set j (some v)) H')
    (done : ∀ s σ' H', P (.go s) → I s σ' H' → D.nx σ' H') : tFor wi (gName j) tb D σ H := by
  refine h ts _ hf H (Fr.refl _) d hB _ fun J H1 xs hl0 f1 d1 hB1 wk => ?_
  refine ⟨fun i m σ' H' => m = xs.length - i ∧ i ≤ xs.length ∧ Fr S H1 H' ∧ ∃ s, I s σ' H' ∧ loopW f (xs.drop i) s P, ⟨_, rfl, Nat.zero_le _, Fr.refl _, s0, h0 H1 f1 d1 hB1, hl0⟩, ?_⟩
  rintro i m σ' H' ⟨rfl, hi, fr, s, hI, hl⟩
  by_cases c : i < xs.length
  · right
    rw [List.drop_eq_getElem_cons c] at hl
    simp only [loopW] at hl
    refine ⟨wk.go H' i fr c, fun σ2 H2 => ∃ s', loopW f (xs.drop (i + 1)) s' P ∧ Fr S H' H2 ∧ I s' σ2 H2, ?_, ?_⟩
    · rintro σ2 H2 ⟨s', hl', f2, hI'⟩
      exact ⟨xs.length - (i + 1), by omega, rfl, by omega, fr.trans f2, s', hI', hl'⟩
    · intro v H2 hy
      obtain ⟨rfl, hv⟩ := wk.yl H' i v H2 fr hy _ (List.getElem?_eq_getElem c)
      exact step done s xs[i] _ v σ' _ hI (a.mono fr hv) hl (fun y ey => ey) (fun s' ey => ey)
  · left
    refine ⟨wk.st H' i fr (by omega), ?_⟩
    rw [List.drop_eq_nil_of_le (by omega)] at hl
    exact done s σ' H' hl hI
theorem qw_for_s {wi : TI} {j : Nat} {tb : TS} {w : Wp (List α)} {s0 : δ} {f : δ → α → Wp (Ct ρ δ)} {P : Ct ρ δ → Prop} (d : Dom S H) (hB : Bag H b c) (ts : Sub [b, c] S) (h : SrW b c S wi σ H a w) (hf : w fun xs => loopW f xs s0 P)
    (I : δ → St → Hp → Prop) (h0 : ∀ H1, Fr [b, c] H H1 → Dom S H1 → Bag H1 b c → I s0 σ H1)
    (step : (∀ s σ' H', P (.go s) → I s σ' H' → u D σ' H') → ∀ (s : δ) (x : α) (C : Ct ρ δ → Prop) (v : V) (σ' : St) (H' : Hp), I s σ' H' → a.rp S H' v x → f s x C → (∀ y, C (.ret y) → P (.ret y)) → (∀ s', C (.brk s') → P (.go s')) →
      tb { D with nx := fun σ2 H2 => ∃ s', C (.go s') ∧ Fr S H' H2 ∧ I s' σ2 H2, ct := fun σ2 H2 => ∃ s', C (.go s') ∧ Fr S H' H2 ∧ I s' σ2 H2, bk := u D } (σ'.set j (some v)) H')
    (done : ∀ s σ' H', P (.go s) → I s σ' H' → u D σ' H') : tSeq (tFor wi (gName j) tb) u D σ H := lw_for_s (D := { D with nx := u D }) d hB ts h hf I h0 step done
theorem _root_.G.Bag.mut {p : Addr} {H H' : Hp} (h : Bag H b c) (m : Mut1 p H H') (n : p ∉ [b, c]) : Bag H' b c := by
  obtain ⟨ne, ns, sl, sd, h1, h2, r⟩ := h
  simp only [List.mem_cons, List.not_mem_nil, or_false, not_or] at n
  exact ⟨ne, ns, sl, sd, m.k _ _ h1 (Ne.symm n.1), m.k _ _ h2 (Ne.symm n.2), r⟩
def jn (f : (δ → Prop) → Prop) (k : δ → Prop) : Prop := f k
theorem jn_open {f : (δ → Prop) → Prop} {k : δ → Prop} (h : jn f k) : ∃ K_ : δ → Prop, (∀ j, K_ j → k j) ∧ f K_ := ⟨k, fun _ h => h, h⟩
/-! owned lists read -/
theorem ev_ownIx {p : Addr} {xs : List α} {i : Nat} {r : Option Int} (o : Own a S H p xs) (nt : p ∉ T) (ts : Sub T S) (hi : σ[i]? = some (some (.ref p))) (h : Ev S T te σ H (of (K := K) tInt S) r) : Ev S T (tOp (rIxL K) (tVar i) te) σ H (of a S) (bd r fun y => atI xs y) := by
  intro z e H1 f1 d Q q
  obtain ⟨y, ey, e⟩ := bd_some e
  refine ⟨_, hi, h y ey H1 f1 d _ fun v H2 s2 hv => ?_⟩
  cases hv
  obtain ⟨vs, hvs, ha⟩ := (o.fr f1 ts nt).same s2
  obtain ⟨w, hw, hz⟩ := ha.at e
  exact ⟨p, vs, y, w, rfl, rfl, .inl (.inl hvs), hw, q _ _ s2 hz⟩
theorem ev_ownLen {p : Addr} {xs : List α} {i : Nat} (o : Own a S H p xs) (nt : p ∉ T) (ts : Sub T S) (hi : σ[i]? = some (some (.ref p))) : Ev S T (tCB (fun xs H Q => ∃ p ys, xs = [.ref p] ∧ (SqL K H p ys ∨ SqT K H p ys) ∧ Q (.int ys.length) H) (tCons (tVar i) tNil)) σ H (of (K := K) tInt S) (some (xs.length : Int)) := by
  intro z e H1 f1 d Q q
  cases e
  obtain ⟨vs, hvs, ha⟩ := o.fr f1 ts nt
  exact ⟨_, hi, p, vs, rfl, .inl (.inl (.inl hvs)), q _ _ (Same.refl _) (by show V.int _ = V.int _; rw [ha.len])⟩
theorem ev_ownNe [DecidableEq α] (dt : TyD a) (hd : (dL dt).dep ≤ 64) {p : Addr} {xs : List α} {i : Nat} {r : Option (List α)} (o : Own a S H p xs) (nt : p ∉ T) (ts : Sub T S) (hi : σ[i]? = some (some (.ref p))) (h : Ev S T te σ H (of (tL a) S) r) : Ev S T (tOp (rNeD K) (tVar i) te) σ H (of (K := K) tBool S) (bd r fun y => some (!decide (xs = y))) := by
  intro z e H1 f1 d Q q
  obtain ⟨y, ey, e⟩ := bd_some e
  cases e
  refine ⟨_, hi, h y ey H1 f1 d _ fun v H2 s2 hv => ?_⟩
  obtain ⟨vs, hvs, ha⟩ := (o.fr f1 ts nt).same s2
  have rp0 : (tL a).rp [] H2 (.ref p) xs := ⟨p, vs, rfl, ⟨hvs, by simp⟩, ha.imp fun _ _ => a.sub fun _ m => by simp at m⟩
  refine ⟨_, _, (dL dt).dp rp0, (dL dt).dp hv, (dL dt).shaped hd rp0, (dL dt).shaped hd hv, ?_⟩
  rw [(dL dt).dec]
  exact q _ _ s2 rfl
end
end M

namespace M
open PySem L2 G
section
variable {K : PySem.W.Frag} {α β γ δ ε ρ : Type} {S T : AS} {σ : St} {H : Hp} {ta tb te tc td : TE} {tt tu : TT} {a : Ty K α} {b' : Ty K β} {c' : Ty K γ} {d' : Ty K δ} {D : Ends} {u t1 t2 : TS} {b c : Addr}
/-! ### None or a thing -/
def optM (o : Option α) (A : β) (B : α → β) : β := match o with | none => A | some x => B x
theorem opt_cases {o : Option α} {A : Option β} {B : α → Option β} {y : β} (h : optM o A B = some y) : (o = none ∧ A = some y) ∨ ∃ x, o = some x ∧ B x = some y := by
  cases o with
  | none => exact .inl ⟨rfl, h⟩
  | some x => exact .inr ⟨x, rfl, h⟩
theorem optp_cases {o : Option α} {A : Prop} {B : α → Prop} (h : optM o A B) : (o = none ∧ A) ∨ ∃ x, o = some x ∧ B x := by
  cases o with
  | none => exact .inl ⟨rfl, h⟩
  | some x => exact .inr ⟨x, rfl, h⟩
/-- a code whose things are never None -/
class NN (a : Ty K α) : Prop where
  h : ∀ {S H v x}, a.rp S H v x → v ≠ .non
instance : NN (K := K) tInt := ⟨fun h => by rw [show _ = _ from h]; intro z; cases z⟩
instance : NN (K := K) tBool := ⟨fun h => by rw [show _ = _ from h]; intro z; cases z⟩
instance : NN (K := K) tStr := ⟨fun h => by rw [h.1]; intro z; cases z⟩
instance : NN (K := K) tRat := ⟨fun ⟨p, e, _⟩ => by rw [e]; intro z; cases z⟩
instance : NN (tT2 a b') := ⟨fun ⟨p, u, w, e, _⟩ => by rw [e]; intro z; cases z⟩
instance : NN (tL a) := ⟨fun ⟨p, u, e, _⟩ => by rw [e]; intro z; cases z⟩
instance : NN (tTs a) := ⟨fun ⟨p, u, e, _⟩ => by rw [e]; intro z; cases z⟩
theorem ev_oN {r : Option Unit} (h : Ev S T te σ H (of (K := K) tNone S) r) : Ev S T te σ H (of (tOpt a) S) (bd r fun _ => some none) := ev_as h fun x y e H1 H2 v d hv => by
  cases e
  exact hv
theorem ev_oS [NN a] {r : Option α} (h : Ev S T te σ H (of a S) r) : Ev S T te σ H (of (tOpt a) S) (bd r fun x => some (some x)) := ev_as h fun x y e H1 H2 v d hv => by
  cases e
  exact ⟨NN.h hv, hv⟩
theorem eb_isN (ts : Sub T S) {i : Nat} {v : V} {x : Option α} (h : (tOpt a).rp S H v x) (e : σ[i]? = some (some v)) : EvB S T (tTest (tOp (fun x y H Q => y = .non ∧ Q (.bl (decide (x = .non))) H) (tVar i) (tC .non))) σ H (some x.isNone) := by
  intro z ez H1 f d Q q
  cases ez
  refine ⟨v, e, rfl, _, rfl, ?_⟩
  cases x with
  | none => rw [show v = .non from h]; exact q H1 (Same.refl _)
  | some y => rw [decide_eq_false h.1]; exact q H1 (Same.refl _)
theorem eb_notN (ts : Sub T S) {i : Nat} {v : V} {x : Option α} (h : (tOpt a).rp S H v x) (e : σ[i]? = some (some v)) : EvB S T (tTest (tOp (fun x y H Q => y = .non ∧ Q (.bl (!decide (x = .non))) H) (tVar i) (tC .non))) σ H (some x.isSome) := by
  intro z ez H1 f d Q q
  cases ez
  refine ⟨v, e, rfl, _, rfl, ?_⟩
  cases x with
  | none => rw [show v = .non from h]; exact q H1 (Same.refl _)
  | some y => rw [decide_eq_false h.1]; exact q H1 (Same.refl _)
theorem opt_is {v : V} {x : Option α} {y : α} (h : (tOpt a).rp S H v x) (e : x = some y) : a.rp S H v y := by
  subst e
  exact h.2
theorem opt_back [NN a] {v : V} {x : Option α} {y : α} (h : a.rp S H v y) (e : x = some y) : (tOpt a).rp S H v x := by
  subst e
  exact ⟨NN.h h, h⟩
/-! ### tuples of four -/
def tT4 (c1 : Ty K α) (c2 : Ty K β) (c3 : Ty K γ) (c4 : Ty K δ) : Ty K (α × β × γ × δ) where
  rp S H v x := ∃ a u1 u2 u3 u4, v = .ref a ∧ nT K S H a [u1, u2, u3, u4] ∧ c1.rp S H u1 x.1 ∧ c2.rp S H u2 x.2.1 ∧ c3.rp S H u3 x.2.2.1 ∧ c4.rp S H u4 x.2.2.2
  mono f := fun ⟨a, u1, u2, u3, u4, e, h, h1, h2, h3, h4⟩ => ⟨a, u1, u2, u3, u4, e, h.mono f, c1.mono f h1, c2.mono f h2, c3.mono f h3, c4.mono f h4⟩
  ext f := fun ⟨a, u1, u2, u3, u4, e, h, h1, h2, h3, h4⟩ => ⟨a, u1, u2, u3, u4, e, h.ext f, c1.ext f h1, c2.ext f h2, c3.ext f h3, c4.ext f h4⟩
  sub f := fun ⟨a, u1, u2, u3, u4, e, h, h1, h2, h3, h4⟩ => ⟨a, u1, u2, u3, u4, e, h.sub f, c1.sub f h1, c2.sub f h2, c3.sub f h3, c4.sub f h4⟩
theorem ev_tup4 {ra : Option α} {rb : Option β} {rc : Option γ} {rd : Option δ} (ha : Ev S T ta σ H (of a S) ra) (hb : Ev S T tb σ H (of b' S) rb) (hc : Ev S T tc σ H (of c' S) rc) (hd : Ev S T td σ H (of d' S) rd) :
    Ev S T (tTup (tCons ta (tCons tb (tCons tc (tCons td tNil))))) σ H (of (tT4 a b' c' d') S) (bd ra fun x => bd rb fun y => bd rc fun z => bd rd fun w => some (x, y, z, w)) := by
  intro z e H1 f1 d Q q
  obtain ⟨x, ex, e⟩ := bd_some e
  obtain ⟨y, ey, e⟩ := bd_some e
  obtain ⟨z3, ez, e⟩ := bd_some e
  obtain ⟨w4, ew, e⟩ := bd_some e
  cases e
  refine ha x ex H1 f1 d _ fun v1 H2 s2 h1 => hb y ey H2 (f1.trans (Fr.same s2)) (d.same s2) _ fun v2 H3 s3 h2 => hc z3 ez H3 (f1.trans (Fr.same (s2.trans s3))) (d.same (s2.trans s3)) _ fun v3 H4 s4 h3 => hd w4 ew H4 (f1.trans (Fr.same ((s2.trans s3).trans s4))) (d.same ((s2.trans s3).trans s4)) _ fun v4 H5 s5 h4 => ⟨(by show 4 ≤ sizeLine; decide), fun p hp => ?_⟩
  have sn := same_new (o := .tup [v1, v2, v3, v4]) hp
  have dd := d.same (((s2.trans s3).trans s4).trans s5)
  exact q _ _ ((((s2.trans s3).trans s4).trans s5).trans sn) ⟨p, v1, v2, v3, v4, rfl, .inl ⟨.inl upd_same, dd.not_mem hp⟩, a.mono (Fr.same (((s3.trans s4).trans s5).trans sn)) h1, b'.mono (Fr.same ((s4.trans s5).trans sn)) h2, c'.mono (Fr.same (s5.trans sn)) h3, d'.mono (Fr.same sn) h4⟩
/-! a, b = e -/
theorem q_unp2 {i j : Nat} {r : Option (α × β)} {x : α × β} (d : Dom S H) (h : Ev S T te σ H (of (tT2 a b') S) r) (e : r = some x) (k : ∀ v w H1, Same H H1 → a.rp S H1 v x.1 → b'.rp S H1 w x.2 → u D ((σ.set i (some v)).set j (some w)) H1) :
    tSeq (tAsg te (gTup K 2 (gCons (gName i) (gCons (gName j) gNil)))) u D σ H := h x e H (Fr.refl _) d _ fun v H1 s1 ⟨p, u1, u2, ev, hp, h1, h2⟩ => ⟨p, _, ev, hp.sq, rfl, u1, _, rfl, u2, _, rfl, rfl, k u1 u2 H1 s1 h1 h2⟩
theorem q_unp4 {i j l m : Nat} {r : Option (α × β × γ × δ)} {x : α × β × γ × δ} (d : Dom S H) (h : Ev S T te σ H (of (tT4 a b' c' d') S) r) (e : r = some x) (k : ∀ v1 v2 v3 v4 H1, Same H H1 → a.rp S H1 v1 x.1 → b'.rp S H1 v2 x.2.1 → c'.rp S H1 v3 x.2.2.1 → d'.rp S H1 v4 x.2.2.2 → u D ((((σ.set i (some v1)).set j (some v2)).set l (some v3)).set m (some v4)) H1) :
    tSeq (tAsg te (gTup K 4 (gCons (gName i) (gCons (gName j) (gCons (gName l) (gCons (gName m) gNil)))))) u D σ H := h x e H (Fr.refl _) d _ fun v H1 s1 ⟨p, u1, u2, u3, u4, ev, hp, h1, h2, h3, h4⟩ => ⟨p, _, ev, hp.sq, rfl, u1, _, rfl, u2, _, rfl, u3, _, rfl, u4, _, rfl, rfl, k u1 u2 u3 u4 H1 s1 h1 h2 h3 h4⟩
theorem ev_revL {r : Option (List α)} (h : Ev S T te σ H (of (tL a) S) r) : Ev S T (tRevL K te) σ H (nw a S) (bd r fun x => some x.reverse) := by
  intro z e H1 f1 d Q q
  obtain ⟨x, ex, e⟩ := bd_some e
  cases e
  refine h x ex H1 f1 d _ fun v H2 s2 hv => ?_
  obtain ⟨p, vs, rfl, hp, ha⟩ := hv
  have hr : ∀ {vs : List V} {xs : List α}, All2 (a.rp S H2) vs xs → All2 (a.rp S H2) vs.reverse xs.reverse := fun {vs xs} h => by
    induction h with
    | nil => exact .nil
    | cons h _ ih => rw [List.reverse_cons, List.reverse_cons]; exact ih.snoc h
  exact ⟨p, vs, rfl, hp.sq, fun l hl => q _ _ (s2.trans (same_new hl)) ⟨l, rfl, s2.free hl, _, upd_same, (hr ha).imp fun _ _ h => a.mono (Fr.same (same_new hl)) (a.ext hl h)⟩⟩
end
end M

namespace M
open PySem L2 G
section
variable {K : PySem.W.Frag} {α β γ δ ε ρ : Type} {S T : AS} {σ : St} {H : Hp} {ta tb te tc td : TE} {tt tu : TT} {a : Ty K α} {b' : Ty K β} {c' : Ty K γ} {d' : Ty K δ} {D : Ends} {u t1 t2 : TS} {b c : Addr}
def rLenQ (K : PySem.W.Frag) : List V → Hp → VK → Prop := fun xs H Q => ∃ p ys, xs = [.ref p] ∧ (SqL K H p ys ∨ SqT K H p ys) ∧ Q (.int ys.length) H
/-! ### lists put together -/
def cat? (xs ys : List α) : Option (List α) := if xs.length + ys.length ≤ 100000 then some (xs ++ ys) else none
theorem od_cat : OpD (tL a) (tL a) S (nw a S) rCat cat? := by
  intro x y z e H1 v w d hv hw Q q
  unfold cat? at e
  split at e
  · rename_i hl
    cases e
    obtain ⟨p, vs, rfl, hp, ha⟩ := hv
    obtain ⟨p', ws, rfl, hp', hb⟩ := hw
    refine ⟨p, p', vs, ws, rfl, rfl, hp.1, hp'.1, Nat.le_trans (by rw [ha.len, hb.len]; exact hl) (by decide), fun l hl => q _ _ (same_new hl) ⟨l, rfl, hl, _, upd_same, (ha.app hb).imp fun _ _ h => a.mono (Fr.same (same_new hl)) (a.ext hl h)⟩⟩
  · cases e
theorem ev_catO {p : Addr} {ys : List α} {i : Nat} {ra : Option (List α)} (o : Own a S H p ys) (nt : p ∉ T) (ts : Sub T S) (hi : σ[i]? = some (some (.ref p))) (ha : Ev S T ta σ H (of (tL a) S) ra) : Ev S T (tOp rCat ta (tVar i)) σ H (nw a S) (bd ra fun x => cat? x ys) := by
  intro z e H1 f1 d Q q
  obtain ⟨x, ex, e⟩ := bd_some e
  unfold cat? at e
  split at e
  · rename_i hl
    cases e
    refine ha x ex H1 f1 d _ fun v H2 s2 hv => ⟨_, hi, ?_⟩
    obtain ⟨ws, hw, hb⟩ := (o.fr f1 ts nt).same s2
    obtain ⟨p', vs, rfl, hp, hvs⟩ := hv
    exact ⟨p', p, vs, ws, rfl, rfl, hp.1, hw, Nat.le_trans (by rw [hvs.len, hb.len]; exact hl) (by decide), fun l hl => q _ _ (s2.trans (same_new hl)) ⟨l, rfl, s2.free hl, _, upd_same, (hvs.app hb).imp fun _ _ h => a.mono (Fr.same (same_new hl)) (a.ext hl h)⟩⟩
  · cases e
theorem Fr.transx {S S' : AS} {H0 H1 H2 : Hp} (f : Fr S H0 H1) (g : Fr S' H1 H2) (h : ∀ a ∈ S', a ∉ S → H0 a = none) : Fr S H0 H2 := fun a o e n => g a o (f a o e n) fun m => by rw [h a m n] at e; cases e
theorem fresh_cons {S S' : AS} {H0 : Hp} {p : Addr} (h : ∀ a ∈ S', a ∉ S → H0 a = none) (n : H0 p = none) : ∀ a ∈ p :: S', a ∉ S → H0 a = none := fun a m k => by
  rcases List.mem_cons.mp m with rfl | m
  · exact n
  · exact h a m k
def rep? (xs : List α) (k : Int) : Option (List α) := if 0 ≤ k ∧ k ≤ 1000 ∧ xs.length ≤ 100 then some (List.replicate k.toNat xs).flatten else none
theorem All2.rep {F : V → α → Prop} {vs : List V} {xs : List α} (h : All2 F vs xs) : ∀ n : Nat, All2 F (List.replicate n vs).flatten (List.replicate n xs).flatten
  | 0 => .nil
  | n + 1 => by
    rw [List.replicate_succ, List.replicate_succ, List.flatten_cons, List.flatten_cons]
    exact h.app (All2.rep h n)
theorem od_rep : OpD (tL a) (K := K) tInt S (nw a S) rRep rep? := by
  intro x y z e H1 v w d hv hw Q q
  unfold rep? at e
  split at e
  · rename_i hl
    cases e
    obtain ⟨p, vs, rfl, hp, ha⟩ := hv
    cases hw
    refine ⟨p, y, vs, rfl, rfl, hp.1, by omega, by omega, ?_, fun l hl => q _ _ (same_new hl) ⟨l, rfl, hl, _, upd_same, (ha.rep _).imp fun _ _ h => a.mono (Fr.same (same_new hl)) (a.ext hl h)⟩⟩
    refine Nat.le_trans (Nat.mul_le_mul (show vs.length ≤ 100 by rw [ha.len]; omega) (show y.toNat ≤ 1000 by omega)) (by decide)
  · cases e
/-! ### the least of several -/
theorem All2.ints {S : AS} {H : Hp} : ∀ {vs : List V} {xs : List Int}, All2 ((tInt (K := K)).rp S H) vs xs → vs = xs.map V.int
  | _, _, .nil => rfl
  | _, _, .cons h r => by rw [List.map_cons, ← All2.ints r, show _ = _ from h]
theorem ev_min {r : Option (List Int)} (h : Ev S T te σ H (of (K := K) (tL tInt) S) r) : Ev S T (tCB (rMin K) (tCons te tNil)) σ H (of (K := K) tInt S) (bd r fun x => x.min?) := by
  intro z e H1 f1 d Q q
  obtain ⟨x, ex, e⟩ := bd_some e
  have hm := List.min?_eq_some_iff.mp e
  refine h x ex H1 f1 d _ fun v H2 s hv => ?_
  obtain ⟨p, vs, rfl, hp, ha⟩ := hv
  refine ⟨p, x, rfl, by rw [← ha.ints]; exact hp.sq, List.length_pos_of_mem hm.1, fun m h1 h2 => ?_⟩
  have : m = z := Int.le_antisymm (h2 z hm.1) (hm.2 m h1)
  rw [this]
  exact q _ H2 s rfl
/-! ### in -/
theorem inV_int (i : Int) : ∀ xs : List Int, inV (.int i) (xs.map V.int) = decide (i ∈ xs)
  | [] => by simp [inV]
  | x :: r => by
    have ih := inV_int i r
    unfold inV at ih ⊢
    rw [List.map_cons, List.any_cons, ih]
    have : eqV (.int x) (.int i) = decide (x = i) := by
      simp [eqV]
      rfl
    rw [this]
    by_cases c : x = i
    · subst c; simp
    · have : ¬ i = x := fun z => c z.symm
      simp [c, this]
theorem flat_ints : ∀ xs : List Int, (xs.map V.int).all flatV = true
  | [] => rfl
  | x :: r => by rw [List.map_cons, List.all_cons, flat_ints r]; rfl
theorem od_inI {neg : Bool} : OpD (K := K) tInt (tL tInt) S (of (K := K) tBool S) (rIn K neg) (fun x xs => some (if neg then !decide (x ∈ xs) else decide (x ∈ xs))) := by
  intro x y z e H1 v w d hv hw Q q
  cases e
  obtain ⟨p, vs, rfl, hp, ha⟩ := hw
  cases hv
  refine ⟨p, vs, rfl, .inl hp.sq, rfl, by rw [ha.ints]; exact flat_ints y, ?_⟩
  rw [ha.ints, inV_int]
  exact q _ H1 (Same.refl _) rfl
theorem od_inIT {neg : Bool} : OpD (K := K) tInt (tTs tInt) S (of (K := K) tBool S) (rIn K neg) (fun x xs => some (if neg then !decide (x ∈ xs) else decide (x ∈ xs))) := by
  intro x y z e H1 v w d hv hw Q q
  cases e
  obtain ⟨p, vs, rfl, hp, ha⟩ := hw
  cases hv
  refine ⟨p, vs, rfl, .inr hp.sq, rfl, by rw [ha.ints]; exact flat_ints y, ?_⟩
  rw [ha.ints, inV_int]
  exact q _ H1 (Same.refl _) rfl
/-! ### a list or a tuple -/
def tSq (a : Ty K α) : Ty K (List α) where
  rp S H v xs := (tL a).rp S H v xs ∨ (tTs a).rp S H v xs
  mono f := fun h => h.elim (fun h => .inl ((tL a).mono f h)) (fun h => .inr ((tTs a).mono f h))
  ext f := fun h => h.elim (fun h => .inl ((tL a).ext f h)) (fun h => .inr ((tTs a).ext f h))
  sub f := fun h => h.elim (fun h => .inl ((tL a).sub f h)) (fun h => .inr ((tTs a).sub f h))
theorem ev_L2Sq {r : Option (List α)} (h : Ev S T te σ H (of (tL a) S) r) : Ev S T te σ H (of (tSq a) S) r := fun x e H1 f d Q q => h x e H1 f d Q fun v H2 s hv => q v H2 s (.inl hv)
theorem ev_T2Sq {r : Option (List α)} (h : Ev S T te σ H (of (tTs a) S) r) : Ev S T te σ H (of (tSq a) S) r := fun x e H1 f d Q q => h x e H1 f d Q fun v H2 s hv => q v H2 s (.inr hv)
theorem od_inISq {neg : Bool} : OpD (K := K) tInt (tSq tInt) S (of (K := K) tBool S) (rIn K neg) (fun x xs => some (if neg then !decide (x ∈ xs) else decide (x ∈ xs))) := by
  intro x y z e H1 v w d hv hw Q q
  rcases hw with hw | hw
  · exact od_inI x y z e H1 v w d hv hw Q q
  · exact od_inIT x y z e H1 v w d hv hw Q q
theorem ev_listSq {r : Option (List α)} (h : Ev S T te σ H (of (tSq a) S) r) : Ev S T (tCB (fun xs H Q => ∃ p ys, xs = [.ref p] ∧ (SqL K H p ys ∨ SqT K H p ys) ∧ ∀ l, H l = none → Q (.ref l) (upd H l (.lst ys))) (tCons te tNil)) σ H (nw a S) r := fun x e H1 f d Q q => by
  refine h x e H1 f d _ fun v H2 s2 hv => ?_
  rcases hv with ⟨p, vs, rfl, hp, ha⟩ | ⟨p, vs, rfl, hp, ha⟩
  · exact ⟨p, vs, rfl, .inl hp.sq, fun l hl => q _ _ (s2.trans (same_new hl)) ⟨l, rfl, s2.free hl, vs, upd_same, ha.imp fun _ _ h => a.mono (Fr.same (same_new hl)) (a.ext hl h)⟩⟩
  · exact ⟨p, vs, rfl, .inr hp.sq, fun l hl => q _ _ (s2.trans (same_new hl)) ⟨l, rfl, s2.free hl, vs, upd_same, ha.imp fun _ _ h => a.mono (Fr.same (same_new hl)) (a.ext hl h)⟩⟩
/-! ### tuple(xs) -/
theorem ev_tupleL {r : Option (List α)} (h : Ev S T te σ H (of (tL a) S) r) : Ev S T (tCB (fun xs H Q => ∃ p ys, xs = [.ref p] ∧ ((SqL K H p ys ∧ ∀ l, H l = none → Q (.ref l) (upd H l (.tup ys))) ∨ (SqT K H p ys ∧ Q (.ref p) H))) (tCons te tNil)) σ H (of (tTs a) S) r := fun x e H1 f d Q q => by
  refine h x e H1 f d _ fun v H2 s2 hv => ?_
  obtain ⟨p, vs, rfl, hp, ha⟩ := hv
  exact ⟨p, vs, rfl, .inl ⟨hp.sq, fun l hl => q _ _ (s2.trans (same_new hl)) ⟨l, vs, rfl, .inl ⟨.inl upd_same, (d.same s2).not_mem hl⟩, ha.imp fun _ _ h => a.mono (Fr.same (same_new hl)) h⟩⟩⟩
/-! ### xs[i] = e of an owned list -/
def set? (xs : List α) (i : Int) (x : α) : Option (List α) := (ixN xs.length i).bind fun j => some (xs.set j x)
theorem l_set {p : Addr} {xs ys : List α} {i : Nat} {r : Option α} {ri : Option Int} {x : α} {k : Int} (d : Dom S H) (o : Own a S H p xs) (im : p ∈ S) (nt : p ∉ T) (ts : Sub T S) (hi : σ[i]? = some (some (.ref p))) (h : Ev S T te σ H (of a S) r) (e : r = some x) (hk : Ev S T td σ H (of (K := K) tInt S) ri) (ek : ri = some k) (f : set? xs k x = some ys)
    (q : ∀ H1, Mut1 p H H1 → Fr S H H1 → Own a S H1 p ys → D.nx σ H1) : tAsg te (gSub (tVar i) td rSetL) D σ H := by
  obtain ⟨vs, hv, ha⟩ := o
  obtain ⟨j, ej, f⟩ := bd_some f
  cases f
  refine h x e H (Fr.refl _) d _ fun v H1 s1 hx => ⟨_, hi, hk k ek H1 (Fr.same s1) (d.same s1) _ fun w H2 s2 hw => ?_⟩
  cases hw
  refine ⟨p, vs, k, j, rfl, rfl, s2 _ _ (s1 _ _ hv), by rw [ha.len]; exact ej, ?_⟩
  have f1 : Fr S H2 (upd H2 p (.lst (vs.set j v))) := fr_upd im
  refine q _ ⟨fun b ob e n => by rw [upd_ne n]; exact s2 _ _ (s1 _ _ e), by rw [upd_same]; intro z; cases z⟩ ((Fr.same (s1.trans s2)).trans f1) ⟨_, upd_same, ?_⟩
  exact (All2.set (a.mono (Fr.same s2) hx) j (ha.imp fun _ _ h => a.mono (Fr.same (s1.trans s2)) h)).imp fun _ _ h => a.mono f1 h
theorem q_set {p : Addr} {xs ys : List α} {i : Nat} {r : Option α} {ri : Option Int} {x : α} {k : Int} (d : Dom S H) (o : Own a S H p xs) (im : p ∈ S) (nt : p ∉ T) (ts : Sub T S) (hi : σ[i]? = some (some (.ref p))) (h : Ev S T te σ H (of a S) r) (e : r = some x) (hk : Ev S T td σ H (of (K := K) tInt S) ri) (ek : ri = some k) (f : set? xs k x = some ys)
    (q : ∀ H1, Mut1 p H H1 → Fr S H H1 → Own a S H1 p ys → u D σ H1) : tSeq (tAsg te (gSub (tVar i) td rSetL)) u D σ H := l_set (D := { D with nx := u D }) d o im nt ts hi h e hk ek f q
/-! ### range(a, b, -1) -/
def dnL (i : Int) (n : Nat) : List Int := (List.range n).map fun (k : Nat) => i - (k : Int)
def rng3? (i j : Int) : Option (List Int) := if rngP i && rngP j then some (dnL i (i - j).toNat) else none
theorem wk_dn {i : Int} {n : Nat} : Wk (Itc i (-1) n) (tInt (K := K)) S H (dnL i n) where
  go H' k f hi := by
    show k < n
    simpa [dnL] using hi
  yl H' k v H'' f h y hy := by
    obtain ⟨e, hx⟩ := h
    refine ⟨e, ?_⟩
    unfold dnL at hy
    rw [List.getElem?_map] at hy
    cases q : (List.range n)[k]? with
    | none => rw [q] at hy; cases hy
    | some m =>
      rw [q] at hy
      cases hy
      have : m = k := by
        have := (List.getElem?_eq_some_iff.mp q).2
        simp at this
        omega
      subst this
      rw [hx]
      show V.int (i + ((m : Nat) : Int) * -1) = V.int (i - (m : Int))
      congr 1
      omega
  st H' k f hi := by
    show n ≤ k
    simpa [dnL] using hi
theorem sr_r3 {te tg : TE} {r r' : Option Int} (h : Ev S T te σ H (of (K := K) tInt S) r) (h' : Ev S T tg σ H (of (K := K) tInt S) r') : Sr S T (iRng3 (tCons te (tCons tg (tCons (tUn (rU fun i => .int (-i)) (tC (.int 1))) tNil)))) σ H (tInt (K := K)) (bd r fun x => bd r' fun y => rng3? x y) := fun xs e H1 f d R q => by
  obtain ⟨lo, el, e⟩ := bd_some e
  obtain ⟨n, en, e⟩ := bd_some e
  unfold rng3? at e
  split at e
  · rename_i hn
    cases e
    rw [Bool.and_eq_true] at hn
    have hb := rngP_le hn.1
    have hc := rngP_le hn.2
    refine h lo el H1 f d _ fun v H2 s hv => h' n en H2 (f.trans (Fr.same s)) (d.same s) _ fun v' H3 s3 hv' => ?_
    cases hv
    cases hv'
    exact ⟨1, rfl, lo, n, -1, _, rfl, RgC.neg hb.1 hb.2 hc.1 hc.2, q _ H3 (s.trans s3) wk_dn⟩
  · cases e
end
end M

namespace M
open PySem L2 G
section
variable {K : PySem.W.Frag} {α β γ δ ε ρ : Type} {S T : AS} {σ : St} {H : Hp} {ta tb te tc td : TE} {tt tu : TT} {a : Ty K α} {b' : Ty K β} {D : Ends} {u t1 t2 : TS} {b c : Addr}
/-! ### comprehensions that draw -/
def filW (f : α → Wp (Option β)) : List α → Wp (List β)
  | [], P => P []
  | x :: xs, P => f x fun o => filW f xs fun ys => P (o.toList ++ ys)
def lcW (w : Wp (List α)) (f : α → Wp (Option β)) : Wp (List β) := fun P => w fun xs => if xs.length < 100000 then filW f xs P else False
theorem ew_lcCore {wi : TI} {j : Nat} {ws : List Nat} {w : Wp (List α)} {f : α → Wp (Option β)} (h : SrW b c S wi σ H a w) (hw : ∀ x, wipe ((wipe σ ws).set j (some x)) ws = wipe σ ws)
    (he : ∀ (x : α) (v : V) (H2 H' : Hp) (p : Addr) (Po : Option β → Prop), Sub [b, c] S → Fr [b, c] H H2 → H2 p = none → Fr [b, c] H2 H' → a.rp (p :: S) H' v x → Dom (p :: S) H' → Bag H' b c → f x Po → ∀ (Q1 : V → Hp → Prop) (Q0 : Hp → Prop),
      (∀ y w H3, Po (some y) → Fr [b, c] H' H3 → Dom (p :: S) H3 → Bag H3 b c → b'.rp (p :: S) H3 w y → Q1 w H3) → (∀ H3, Po none → Fr [b, c] H' H3 → Dom (p :: S) H3 → Bag H3 b c → Q0 H3) →
      tt ((wipe σ ws).set j (some v)) H' fun k H3 => if k = true then te ((wipe σ ws).set j (some v)) H3 Q1 else Q0 H3) :
    EvW b c S (tLc wi (gName j) tt te ws) σ H (nw b' S) (lcW w f) := fun ts P hP H1 f1 d hB Q q => by
  refine h ts _ hP H1 f1 d hB _ fun J H2 xs hx f2 d2 hB2 wk => fun Dl hD => ?_
  split at hx
  rotate_left
  · exact hx.elim
  rename_i hlen
  have nD : Dl ∉ [b, c] := hB2.dom.not_mem hD
  have sD : Same H2 (upd H2 Dl (.lst [])) := same_new hD
  refine ⟨fun i m H' => m = xs.length - i ∧ i ≤ xs.length ∧ ∃ acc pre, H' Dl = some (.lst acc) ∧ Fr [b, c] H2 H' ∧ Dom (Dl :: S) H' ∧ Bag H' b c ∧ acc.length ≤ i ∧ All2 (b'.rp (Dl :: S) H') acc pre ∧ filW f (xs.drop i) fun suf => P (pre ++ suf),
    ⟨_, rfl, Nat.zero_le _, [], [], upd_same, Fr.same sD, (d2.same sD).cons upd_same, hB2.same sD, Nat.zero_le _, .nil, hx⟩, ?_⟩
  rintro i m H' ⟨rfl, hi, acc, pre, h1, h2, h3, h4, h5, h6, h7⟩
  have g2 : Fr S H2 H' := h2.sub ts
  by_cases cc : i < xs.length
  · right
    rw [List.drop_eq_getElem_cons cc] at h7
    simp only [filW] at h7
    refine ⟨wk.go H' i g2 cc, fun H3 => ∃ acc pre, H3 Dl = some (.lst acc) ∧ Fr [b, c] H2 H3 ∧ Dom (Dl :: S) H3 ∧ Bag H3 b c ∧ acc.length ≤ i + 1 ∧ All2 (b'.rp (Dl :: S) H3) acc pre ∧ filW f (xs.drop (i + 1)) fun suf => P (pre ++ suf), ?_, ?_⟩
    · rintro H3 ⟨acc, pre, k⟩
      exact ⟨xs.length - (i + 1), by omega, rfl, by omega, acc, pre, k⟩
    · intro v H3 hy
      obtain ⟨rfl, hv⟩ := wk.yl H' i v H3 g2 hy _ (List.getElem?_eq_getElem cc)
      refine ⟨hw v, ?_⟩
      refine he xs[i] v H2 _ Dl _ ts (f1.trans f2) hD h2 (a.mono (h2.sub (sub_cons ts)) (a.ext hD hv)) h3 h4 h7 _ _ (fun y w H4 hPo f4 d4 hB4 hw4 => ?_) (fun H4 hPo f4 d4 hB4 => ?_)
      · have fD : Fr (Dl :: S) H4 (upd H4 Dl (.lst (acc ++ [w]))) := fr_upd (List.mem_cons_self ..)
        refine ⟨acc, f4 _ _ h1 nD, Nat.lt_of_lt_of_le (by omega : acc.length < 100000) (by decide), acc ++ [w], pre ++ [y], upd_same, fun p ob eb nb => ?_, d4.upd, ?_, by simp; omega, ?_, ?_⟩
        · rw [upd_ne (ne_of_none eb hD)]
          exact f4 _ _ (h2 _ _ eb nb) nb
        · obtain ⟨ne, ns, sl, sd, e1, e2, r⟩ := hB4
          simp only [List.mem_cons, List.not_mem_nil, or_false, not_or] at nD
          exact ⟨ne, ns, sl, sd, by rw [upd_ne (Ne.symm nD.1)]; exact e1, by rw [upd_ne (Ne.symm nD.2)]; exact e2, r⟩
        · exact ((h6.imp fun _ _ h => b'.mono (f4.sub (sub_cons ts)) h).snoc hw4).imp fun _ _ h => b'.mono fD h
        · simpa using hPo
      · refine ⟨acc, pre, f4 _ _ h1 nD, h2.trans f4, d4, hB4, by omega, h6.imp fun _ _ h => b'.mono (f4.sub (sub_cons ts)) h, ?_⟩
        simpa using hPo
  · left
    rw [List.drop_eq_nil_of_le (by omega)] at h7
    refine ⟨wk.st H' i g2 (by omega), q _ _ pre (by simpa [filW] using h7) (f2.trans h2) (h3.sub (sub_cons fun a m => m)) h4 ⟨Dl, rfl, fr_back f2 hB2.dom hD, acc, h1, h6⟩⟩
theorem ew_lc {wi : TI} {j : Nat} {ws : List Nat} {w : Wp (List α)} {f : α → Wp β} (h : SrW b c S wi σ H a w) (hw : ∀ x, wipe ((wipe σ ws).set j (some x)) ws = wipe σ ws)
    (he : ∀ (x : α) (v : V) (H2 H' : Hp) (p : Addr), Sub [b, c] S → Fr [b, c] H H2 → H2 p = none → Fr [b, c] H2 H' → a.rp (p :: S) H' v x → EvW b c (p :: S) te ((wipe σ ws).set j (some v)) H' (of b' (p :: S)) (f x)) :
    EvW b c S (tLc wi (gName j) tYes te ws) σ H (nw b' S) (lcW w fun x Po => f x fun y => Po (some y)) :=
  ew_lcCore h hw fun x v H2 H' p Po ts g1 g2 g3 g4 g5 g6 g7 Q1 Q0 q1 q0 => by
    refine G.yes_ ?_
    exact he x v H2 H' p ts g1 g2 g3 g4 (sub_cons ts) _ g7 H' (Fr.refl _) g5 g6 _ fun w H3 y hy f3 d3 hB3 hw3 => q1 y w H3 hy f3 d3 hB3 hw3
theorem ew_lcF {wi : TI} {j : Nat} {ws : List Nat} {w : Wp (List α)} {t : α → Wp Bool} {f : α → Wp β} (h : SrW b c S wi σ H a w) (hw : ∀ x, wipe ((wipe σ ws).set j (some x)) ws = wipe σ ws)
    (ht : ∀ (x : α) (v : V) (H2 H' : Hp) (p : Addr), Sub [b, c] S → Fr [b, c] H H2 → H2 p = none → Fr [b, c] H2 H' → a.rp (p :: S) H' v x → BvW b c (p :: S) tt ((wipe σ ws).set j (some v)) H' (t x))
    (he : ∀ (x : α) (v : V) (H2 H' : Hp) (p : Addr), Sub [b, c] S → Fr [b, c] H H2 → H2 p = none → Fr [b, c] H2 H' → a.rp (p :: S) H' v x → EvW b c (p :: S) te ((wipe σ ws).set j (some v)) H' (of b' (p :: S)) (f x)) :
    EvW b c S (tLc wi (gName j) tt te ws) σ H (nw b' S) (lcW w fun x Po => t x fun k => if k then f x fun y => Po (some y) else Po none) :=
  ew_lcCore h hw fun x v H2 H' p Po ts g1 g2 g3 g4 g5 g6 g7 Q1 Q0 q1 q0 => by
    refine ht x v H2 H' p ts g1 g2 g3 g4 (sub_cons ts) _ g7 H' (Fr.refl _) g5 g6 _ fun H3 k hk f3 d3 hB3 => ?_
    cases k with
    | true =>
      have hk := ifp_t hk
      show if true = true then _ else _
      rw [if_pos rfl]
      refine he x v H2 H' p ts g1 g2 g3 g4 (sub_cons ts) _ hk H3 f3 d3 hB3 _ fun w H4 y hy f4 d4 hB4 hw4 => q1 y w H4 hy (f3.trans f4) d4 hB4 hw4
    | false =>
      have hk := ifp_f hk
      show if false = true then _ else _
      rw [if_neg (by decide)]
      exact q0 H3 hk f3 d3 hB3
end
end M

namespace M
open PySem L2 G
/-! ### a def with one keyword-only parameter that has a default -/
structure AtK (K : PySem.W.Frag) (mg : Str → Option Value) (name : String) (st : Stmt) (ps : List Str) (n : Nat) (kw : Str) (dv : V) (f : Addr) (fd : FuncData) : Prop where
  F : Fun K (Str.ofString name) (Str.ofString name) st f fd
  m : mg (Str.ofString name) = some (.ref f)
  kb : KBn K fd ps n [kw] (fun us ws => us ++ ws) (fun vs zs => vs ++ zs)
  b0 : ∃ ds, Vals [dv] ds ∧ Binds K fd ps ds
theorem kb_of {K : PySem.W.Frag} {x : Str} {st : Stmt} {f : Addr} {fd : FuncData} {ps : List Str} {n : Nat} {kw : Str} (F : Fun K x x st f fd)
    (h : ∀ (kV doc pm : Value) (an : Option Addr) (cdv ct : Value) (us ws : List Value), us.length = n → ws.length = 1 → bindArgs (PySem.W.fnOf x x (defArgs st) (defBody st) (defScope st) .none kV doc pm an cdv ct) ⟨us, [kw].zip ws⟩ = pure (ps.zip (us ++ ws))) :
    KBn K fd ps n [kw] (fun us ws => us ++ ws) (fun vs zs => vs ++ zs) := by
  obtain ⟨oc, od, kV, doc, pm, an, cdv, ct, osl, rfl, lk, hcd⟩ := F.ex
  exact ⟨fun s us ws X h1 h2 => .of_eq (h kV doc pm an cdv ct us ws h1 h2), fun r1 r2 => r1.append r2⟩
section
variable {K : PySem.W.Frag} {α β γ δ ε ρ : Type} {S T : AS} {σ : St} {H : Hp} {t1 t2 t3 t4 t5 : TE} {a1 : Ty K α} {a2 : Ty K β} {a3 : Ty K γ} {R : AS → Rl ρ} {E : XK}
theorem ev_callK {f : α × β × γ × Unit → Option ρ} {r1 : Option α} {r2 : Option β} {r3 : Option γ} (h1 : Ev S T t1 σ H (of a1 S) r1) (h2 : Ev S T t2 σ H (of a2 S) r2) (h3 : Ev S T t3 σ H (of a3 S) r3) :
    Ev S T (tCallN 2 1 (spF (aCons a1 (aCons a2 (aCons a3 aNil))) R f) (fun vs zs => vs ++ zs) E (tCons t1 (tCons t2 tNil)) (tCons t3 tNil)) σ H (R S) (bd r1 fun x => bd r2 fun y => bd r3 fun z => f (x, y, z, ())) := by
  intro o e H1 f1 d Q q
  obtain ⟨x, ex, e⟩ := bd_some e
  obtain ⟨y, ey, e⟩ := bd_some e
  obtain ⟨z, ez, e⟩ := bd_some e
  refine h1 x ex H1 f1 d _ fun v1 H2 s2 g1 => h2 y ey H2 (f1.trans (Fr.same s2)) (d.same s2) _ fun v2 H3 s3 g2 => h3 z ez H3 (f1.trans (Fr.same (s2.trans s3))) (d.same (s2.trans s3)) _ fun v3 H4 s4 g3 => ⟨rfl, rfl, S, (x, y, z, ()), o, d.same ((s2.trans s3).trans s4), ⟨v1, _, rfl, a1.mono (Fr.same (s3.trans s4)) g1, v2, _, rfl, a2.mono (Fr.same s4) g2, v3, _, rfl, g3, rfl⟩, e, fun u H' s hu => q u H' (((s2.trans s3).trans s4).trans s) ((R S).same ((s2.trans s3).trans s4) hu)⟩
theorem ev_callD {f : α × β × γ × Unit → Option ρ} {r1 : Option α} {r2 : Option β} {dv : V} {z : γ} (hz : ∀ S H, a3.rp S H dv z) (h1 : Ev S T t1 σ H (of a1 S) r1) (h2 : Ev S T t2 σ H (of a2 S) r2) :
    Ev S T (tCall (spF (aCons a1 (aCons a2 (aCons a3 aNil))) R f) [dv] E (tCons t1 (tCons t2 tNil))) σ H (R S) (bd r1 fun x => bd r2 fun y => f (x, y, z, ())) := by
  intro o e H1 f1 d Q q
  obtain ⟨x, ex, e⟩ := bd_some e
  obtain ⟨y, ey, e⟩ := bd_some e
  refine h1 x ex H1 f1 d _ fun v1 H2 s2 g1 => h2 y ey H2 (f1.trans (Fr.same s2)) (d.same s2) _ fun v2 H3 s3 g2 => ⟨S, (x, y, z, ()), o, d.same (s2.trans s3), ⟨v1, _, rfl, a1.mono (Fr.same s3) g1, v2, _, rfl, g2, dv, _, rfl, hz S H3, rfl⟩, e, fun u H' s hu => q u H' ((s2.trans s3).trans s) ((R S).same (s2.trans s3) hu)⟩
end
end M

namespace M
open PySem L2 G
section
variable {K : PySem.W.Frag} {α β γ δ ε ρ : Type} {S T : AS} {σ : St} {H : Hp} {ta tb te tc : TE} {tt tu : TT} {a : Ty K α} {b' : Ty K β} {c' : Ty K γ} {D : Ends} {u t1 t2 : TS} {b c : Addr}
/-! ### while -/
def whileC (t : δ → Option Bool) (f : δ → Option (Ct ρ δ)) : Nat → δ → Option (Ct ρ δ)
  | 0, _ => none
  | n + 1, s => (t s).bind fun k => if k then (f s).bind fun r => match r with | .go s' => whileC t f n s' | .ret y => some (.ret y) | .brk s' => some (.go s') else some (.go s)
theorem while_s {tb : TS} {n : Nat} {s0 : δ} {t : δ → Option Bool} {f : δ → Option (Ct ρ δ)} {res : Ct ρ δ} (hf : whileC t f n s0 = some res)
    (I : δ → St → Hp → Prop) (h0 : I s0 σ H)
    (test : ∀ s σ' H', I s σ' H' → ∃ S', Dom S' H' ∧ EvB S' T tt σ' H' (t s))
    (step : (∀ s σ' H' H1, res = .go s → I s σ' H' → Same H' H1 → D.nx σ' H1) → ∀ (s : δ) (cr : Ct ρ δ) (σ' : St) (H' H1 : Hp), I s σ' H' → Same H' H1 → f s = some cr → (∀ y, cr = .ret y → res = .ret y) → (∀ s', cr = .brk s' → res = .go s') →
      tb { D with nx := fun σ2 H2 => ∃ s', cr = .go s' ∧ Fr S H1 H2 ∧ I s' σ2 H2, ct := fun σ2 H2 => ∃ s', cr = .go s' ∧ Fr S H1 H2 ∧ I s' σ2 H2, bk := D.nx } σ' H1)
    (done : ∀ s σ' H' H1, res = .go s → I s σ' H' → Same H' H1 → D.nx σ' H1) : tWhile tt tb D σ H := by
  refine ⟨fun m σ' H' => ∃ s, I s σ' H' ∧ whileC t f m s = some res, ⟨n, s0, h0, hf⟩, ?_⟩
  rintro m σ' H' ⟨s, hI, hw⟩
  cases m with
  | zero => cases hw
  | succ m =>
    simp only [whileC] at hw
    cases q : t s with
    | none => rw [q] at hw; cases hw
    | some k =>
      rw [q] at hw
      obtain ⟨S', dm, hev⟩ := test s σ' H' hI
      refine hev k q H' (Fr.refl _) dm _ fun H1 s1 => ?_
      cases k with
      | false =>
        cases hw
        rw [if_neg (by decide)]
        exact done s σ' H' H1 rfl hI s1
      | true =>
        rw [if_pos rfl]
        simp only [Option.bind_some, if_true] at hw
        cases q2 : f s with
        | none => rw [q2] at hw; cases hw
        | some cr =>
          rw [q2] at hw
          refine ⟨fun σ2 H2 => ∃ s', cr = .go s' ∧ Fr S H1 H2 ∧ I s' σ2 H2, ?_, ?_⟩
          · rintro σ2 H2 ⟨s', rfl, f2, hI'⟩
            exact ⟨m, Nat.lt_succ_self _, s', hI', hw⟩
          · exact step done s cr σ' H' H1 hI s1 q2 (fun y ey => by subst ey; cases hw; rfl) (fun s' ey => by subst ey; cases hw; rfl)
theorem q_while_s {tb : TS} {n : Nat} {s0 : δ} {t : δ → Option Bool} {f : δ → Option (Ct ρ δ)} {res : Ct ρ δ} (hf : whileC t f n s0 = some res)
    (I : δ → St → Hp → Prop) (h0 : I s0 σ H)
    (test : ∀ s σ' H', I s σ' H' → ∃ S', Dom S' H' ∧ EvB S' T tt σ' H' (t s))
    (step : (∀ s σ' H' H1, res = .go s → I s σ' H' → Same H' H1 → u D σ' H1) → ∀ (s : δ) (cr : Ct ρ δ) (σ' : St) (H' H1 : Hp), I s σ' H' → Same H' H1 → f s = some cr → (∀ y, cr = .ret y → res = .ret y) → (∀ s', cr = .brk s' → res = .go s') →
      tb { D with nx := fun σ2 H2 => ∃ s', cr = .go s' ∧ Fr S H1 H2 ∧ I s' σ2 H2, ct := fun σ2 H2 => ∃ s', cr = .go s' ∧ Fr S H1 H2 ∧ I s' σ2 H2, bk := u D } σ' H1)
    (done : ∀ s σ' H' H1, res = .go s → I s σ' H' → Same H' H1 → u D σ' H1) : tSeq (tWhile tt tb) u D σ H := while_s (D := { D with nx := u D }) (S := S) (T := T) hf I h0 test step done
theorem whileC_go {t : δ → Option Bool} {f : δ → Option (Ct ρ δ)} {n : Nat} {s s' : δ} (h : t s = some true) (h' : f s = some (.go s')) : whileC t f (n + 1) s = whileC t f n s' := by simp [whileC, h, h']
theorem whileC_stop {t : δ → Option Bool} {f : δ → Option (Ct ρ δ)} {n : Nat} {s : δ} (h : t s = some false) : whileC t f (n + 1) s = some (.go s) := by simp [whileC, h]
/-! ### chains of comparisons -/
theorem ev_chain {r r' : R2} {f g : α → α → Bool} {ra rb rc : Option α} (h : OpD a a S (of (K := K) tBool S) r (fun x y => some (f x y))) (h' : OpD a a S (of (K := K) tBool S) r' (fun x y => some (g x y)))
    (ha : Ev S T ta σ H (of a S) ra) (hb : Ev S T tb σ H (of a S) rb) (hc : Ev S T tc σ H (of a S) rc) :
    Ev S T (tChain r r' ta tb tc) σ H (of (K := K) tBool S) (bd ra fun x => bd rb fun y => if f x y then bd rc fun z => some (g y z) else some false) := by
  intro z e H1 f1 d Q q
  obtain ⟨x, ex, e⟩ := bd_some e
  obtain ⟨y, ey, e⟩ := bd_some e
  refine ha x ex H1 f1 d _ fun v H2 s2 hv => hb y ey H2 (f1.trans (Fr.same s2)) (d.same s2) _ fun w H3 s3 hw => ?_
  have d3 := (d.same s2).same s3
  refine h x y _ rfl H3 v w d3 (a.mono (Fr.same s3) hv) hw _ fun k H4 s4 hk => ⟨_, hk, ?_⟩
  by_cases c1 : f x y = true
  · rw [if_pos c1] at e
    rw [if_pos c1]
    obtain ⟨z', ez, e⟩ := bd_some e
    cases e
    refine hc z' ez H4 (f1.trans (Fr.same ((s2.trans s3).trans s4))) (d3.same s4) _ fun w' H5 s5 hw' => ?_
    refine h' y z' _ rfl H5 w w' ((d3.same s4).same s5) (a.mono (Fr.same (s4.trans s5)) hw) hw' Q fun u' H6 s6 hu => q u' H6 (((s2.trans s3).trans (s4.trans s5)).trans s6) hu
  · rw [if_neg c1] at e
    rw [if_neg c1]
    cases e
    exact q _ H4 ((s2.trans s3).trans s4) rfl
/-! ### x in l by data -/
def memD [DecidableEq α] (x : α) (xs : List α) : Bool := decide (x ∈ xs)
theorem _root_.L2.Room.units65 {k : Nat} {A : Around} (r : Room k A) : A.units + 65 < cLine := by have := r.un; omega
theorem any_eqv {a : Ty K α} [DecidableEq α] (d : TyD a) (x : α) : ∀ xs : List α, ((xs.map d.dt).any fun z => PyData.eqv z (d.dt x)) = memD x xs
  | [] => by simp [memD]
  | y :: ys => by
    rw [List.map_cons, List.any_cons, d.dec, any_eqv d x ys]
    unfold memD
    by_cases h : y = x
    · subst h; simp
    · by_cases h2 : x ∈ ys
      · simp [h2]
      · simp [h, h2, Ne.symm h]
theorem od_inD [DecidableEq α] (d : TyD a) (hd : d.dep ≤ 63) : OpD a (tL a) S (of (K := K) tBool S) (rInD K) (fun x xs => some (memD x xs)) := by
  intro x xs z e H1 v w dm hv hw Q q
  cases e
  have h2 := (dL d).dp hw
  refine ⟨d.dt x, xs.map d.dt, d.dp hv, h2, d.shaped (by omega) hv, (dL d).shaped (by show d.dep + 1 ≤ 64; omega) hw, ?_⟩
  rw [any_eqv]
  exact q _ H1 (Same.refl _) rfl
theorem od_notInD [DecidableEq α] (d : TyD a) (hd : d.dep ≤ 63) : OpD a (tL a) S (of (K := K) tBool S) (rNotInD K) (fun x xs => some (!memD x xs)) := by
  intro x xs z e H1 v w dm hv hw Q q
  cases e
  have h2 := (dL d).dp hw
  refine ⟨d.dt x, xs.map d.dt, d.dp hv, h2, d.shaped (by omega) hv, (dL d).shaped (by show d.dep + 1 ≤ 64; omega) hw, ?_⟩
  rw [any_eqv]
  exact q _ H1 (Same.refl _) rfl
/-! ### powers of constants -/
theorem ev_powC {i j : Int} (hc : 0 ≤ j ∧ j ≤ 1000000 ∧ i.natAbs < 2 ^ 64) : Ev S T (tOp (rI (fun i j => 0 ≤ j ∧ j ≤ 1000000 ∧ i.natAbs < 2 ^ 64) fun i j => .int (i ^ j.toNat)) (tC (.int i)) (tC (.int j))) σ H (of (K := K) tInt S) (some (i ^ j.toNat)) := by
  intro y ey H1 f d Q q
  cases ey
  exact ⟨i, j, rfl, rfl, hc, q _ H1 (Same.refl _) rfl⟩
/-! ### None or not, of any expression -/
theorem eb_isNe {r : Option (Option α)} (h : Ev S T te σ H (of (tOpt a) S) r) : EvB S T (tTest (tOp (fun x y H Q => y = .non ∧ Q (.bl (decide (x = .non))) H) te (tC .non))) σ H (bd r fun x => some x.isNone) := by
  intro z ez H1 f d Q q
  obtain ⟨x, ex, ez⟩ := bd_some ez
  cases ez
  refine h x ex H1 f d _ fun v H2 s hv => ⟨rfl, _, rfl, ?_⟩
  cases x with
  | none => rw [show v = .non from hv]; exact q H2 s
  | some y => rw [decide_eq_false hv.1]; exact q H2 s
theorem eb_notNe {r : Option (Option α)} (h : Ev S T te σ H (of (tOpt a) S) r) : EvB S T (tTest (tOp (fun x y H Q => y = .non ∧ Q (.bl (!decide (x = .non))) H) te (tC .non))) σ H (bd r fun x => some x.isSome) := by
  intro z ez H1 f d Q q
  obtain ⟨x, ex, ez⟩ := bd_some ez
  cases ez
  refine h x ex H1 f d _ fun v H2 s hv => ⟨rfl, _, rfl, ?_⟩
  cases x with
  | none => rw [show v = .non from hv]; exact q H2 s
  | some y => rw [decide_eq_false hv.1]; exact q H2 s
/-! ### max of two -/
theorem ev_max2 {ra rb : Option Int} (ha : Ev S T ta σ H (of (K := K) tInt S) ra) (hb : Ev S T tb σ H (of (K := K) tInt S) rb) :
    Ev S T (tCB (fun xs H Q => ∃ i j, xs = [.int i, .int j] ∧ Q (.int (if j > i then j else i)) H) (tCons ta (tCons tb tNil))) σ H (of (K := K) tInt S) (bd ra fun x => bd rb fun y => some (max x y)) := by
  intro z e H1 f1 d Q q
  obtain ⟨x, ex, e⟩ := bd_some e
  obtain ⟨y, ey, e⟩ := bd_some e
  cases e
  refine ha x ex H1 f1 d _ fun v H2 s2 hv => hb y ey H2 (f1.trans (Fr.same s2)) (d.same s2) _ fun w H3 s3 hw => ?_
  cases hv
  cases hw
  refine ⟨x, y, rfl, q _ H3 (s2.trans s3) ?_⟩
  show V.int _ = V.int _
  congr 1
  omega
/-! ### calls with keywords -/
def EvAn (S T : AS) (ta : TA) (σ : St) (H : Hp) (n : Nat) (t : TyA K α) (r : Option α) : Prop :=
  ∀ x, r = some x → ∀ H1, Fr T H H1 → Dom S H1 → ∀ Q : List V → Hp → Prop, (∀ vs H2, vs.length = n → Same H1 H2 → t.rp S H2 vs x → Q vs H2) → ta σ H1 Q
theorem en_nil : EvAn S T tNil σ H 0 (K := K) aNil (some ()) := fun _ e H1 f d Q q => q [] H1 rfl (Same.refl _) rfl
theorem en_cons {n : Nat} {tr : TA} {t : TyA K β} {ra : Option α} {rr : Option β} (h : Ev S T ta σ H (of a S) ra) (hr : EvAn S T tr σ H n t rr) : EvAn S T (tCons ta tr) σ H (n + 1) (aCons a t) (bd ra fun x => bd rr fun y => some (x, y)) := by
  intro z e H1 f1 d Q q
  obtain ⟨x, ex, e⟩ := bd_some e
  obtain ⟨y, ey, e⟩ := bd_some e
  cases e
  exact h x ex H1 f1 d _ fun v H2 s2 hv => hr y ey H2 (f1.trans (Fr.same s2)) (d.same s2) _ fun vs H3 l s3 hvs => q (v :: vs) H3 (by simp [l]) (s2.trans s3) ⟨v, vs, rfl, a.mono (Fr.same s3) hv, hvs⟩
/-- first t, then tk: together they are the arguments -/
def EvA2 (S T : AS) (ta tk : TA) (σ : St) (H : Hp) (n m : Nat) (t : TyA K α) (r : Option α) : Prop :=
  ∀ x, r = some x → ∀ H1, Fr T H H1 → Dom S H1 → ∀ Q : List V → List V → Hp → Prop, (∀ vs zs H2, vs.length = n → zs.length = m → Same H1 H2 → t.rp S H2 (vs ++ zs) x → Q vs zs H2) → ta σ H1 fun vs H2 => tk σ H2 fun zs H3 => Q vs zs H3
theorem e2_nil {tk : TA} {m : Nat} {t : TyA K α} {r : Option α} (h : EvAn S T tk σ H m t r) : EvA2 S T tNil tk σ H 0 m t r := fun x e H1 f d Q q => h x e H1 f d _ fun vs H2 l s hv => q [] vs H2 rfl l s hv
theorem e2_cons {n m : Nat} {tr tk : TA} {t : TyA K β} {ra : Option α} {rr : Option β} (h : Ev S T ta σ H (of a S) ra) (hr : EvA2 S T tr tk σ H n m t rr) : EvA2 S T (tCons ta tr) tk σ H (n + 1) m (aCons a t) (bd ra fun x => bd rr fun y => some (x, y)) := by
  intro z e H1 f1 d Q q
  obtain ⟨x, ex, e⟩ := bd_some e
  obtain ⟨y, ey, e⟩ := bd_some e
  cases e
  exact h x ex H1 f1 d _ fun v H2 s2 hv => hr y ey H2 (f1.trans (Fr.same s2)) (d.same s2) _ fun vs zs H3 l l' s3 hvs => q (v :: vs) zs H3 (by simp [l]) l' (s2.trans s3) ⟨v, vs ++ zs, rfl, a.mono (Fr.same s3) hv, hvs⟩
theorem ev_callN {n m : Nat} {ta tk : TA} {t : TyA K α} {R : AS → Rl γ} {f : α → Option γ} {r : Option α} {E : XK} (h : EvA2 S T ta tk σ H n m t r) : Ev S T (tCallN n m (spF t R f) (fun vs zs => vs ++ zs) E ta tk) σ H (R S) (bd r f) := by
  intro z e H1 f1 d Q q
  obtain ⟨x, ex, e⟩ := bd_some e
  exact h x ex H1 f1 d _ fun vs zs H2 l l' s2 hv => ⟨l, l', S, x, z, d.same s2, hv, e, fun u H' s hu => q u H' (s2.trans s) ((R S).same s2 hu)⟩
/-- .. with a default behind -/
def EvAd (S T : AS) (ta : TA) (σ : St) (H : Hp) (ds : List V) (t : TyA K α) (r : Option α) : Prop :=
  ∀ x, r = some x → ∀ H1, Fr T H H1 → Dom S H1 → ∀ Q : List V → Hp → Prop, (∀ vs H2, Same H1 H2 → t.rp S H2 (vs ++ ds) x → Q vs H2) → ta σ H1 Q
theorem edd_nil {dv : V} {z : α} (hz : ∀ S H, a.rp S H dv z) : EvAd S T tNil σ H [dv] (aCons a aNil) (some (z, ())) := fun _ e H1 f d Q q => by cases e; exact q [] H1 (Same.refl _) ⟨dv, [], rfl, hz S H1, rfl⟩
theorem edd_cons {ds : List V} {tr : TA} {t : TyA K β} {ra : Option α} {rr : Option β} (h : Ev S T ta σ H (of a S) ra) (hr : EvAd S T tr σ H ds t rr) : EvAd S T (tCons ta tr) σ H ds (aCons a t) (bd ra fun x => bd rr fun y => some (x, y)) := by
  intro z e H1 f1 d Q q
  obtain ⟨x, ex, e⟩ := bd_some e
  obtain ⟨y, ey, e⟩ := bd_some e
  cases e
  exact h x ex H1 f1 d _ fun v H2 s2 hv => hr y ey H2 (f1.trans (Fr.same s2)) (d.same s2) _ fun vs H3 s3 hvs => q (v :: vs) H3 (s2.trans s3) ⟨v, vs ++ ds, rfl, a.mono (Fr.same s3) hv, hvs⟩
theorem ev_callDn {ds : List V} {ta : TA} {t : TyA K α} {R : AS → Rl γ} {f : α → Option γ} {r : Option α} {E : XK} (h : EvAd S T ta σ H ds t r) : Ev S T (tCall (spF t R f) ds E ta) σ H (R S) (bd r f) := by
  intro z e H1 f1 d Q q
  obtain ⟨x, ex, e⟩ := bd_some e
  exact h x ex H1 f1 d _ fun vs H2 s2 hv => ⟨S, x, z, d.same s2, hv, e, fun u H' s hu => q u H' (s2.trans s) ((R S).same s2 hu)⟩
/-! .. while drawing -/
def EvWAn (b c : Addr) (S : AS) (ta : TA) (σ : St) (H : Hp) (n : Nat) (t : TyA K α) (w : Wp α) : Prop :=
  Sub [b, c] S → ∀ P, w P → ∀ H1, Fr [b, c] H H1 → Dom S H1 → Bag H1 b c → ∀ Q : List V → Hp → Prop, (∀ vs H2 x, vs.length = n → P x → Fr [b, c] H1 H2 → Dom S H2 → Bag H2 b c → t.rp S H2 vs x → Q vs H2) → ta σ H1 Q
theorem wn_nil : EvWAn b c S tNil σ H 0 (K := K) aNil (lf (some ())) := fun ts P ⟨x, e, hP⟩ H1 f d hB Q q => by cases e; exact q [] H1 () rfl hP (Fr.refl _) d hB rfl
theorem wn_cons {n : Nat} {tr : TA} {t : TyA K β} {wa : Wp α} {wr : Wp β} (h : EvW b c S ta σ H (of a S) wa) (hr : EvWAn b c S tr σ H n t wr) : EvWAn b c S (tCons ta tr) σ H (n + 1) (aCons a t) (tup2W wa wr) := fun ts P hP H1 f1 d hB Q q =>
  h ts _ hP H1 f1 d hB _ fun v H2 x hx f2 d2 hB2 hv => hr ts _ hx H2 (f1.trans f2) d2 hB2 _ fun vs H3 y l hy f3 d3 hB3 hvs => q (v :: vs) H3 (x, y) (by simp [l]) hy (f2.trans f3) d3 hB3 ⟨v, vs, rfl, a.mono (f3.sub ts) hv, hvs⟩
def EvWA2 (b c : Addr) (S : AS) (ta tk : TA) (σ : St) (H : Hp) (n m : Nat) (t : TyA K α) (w : Wp α) : Prop :=
  Sub [b, c] S → ∀ P, w P → ∀ H1, Fr [b, c] H H1 → Dom S H1 → Bag H1 b c → ∀ Q : List V → List V → Hp → Prop, (∀ vs zs H2 x, vs.length = n → zs.length = m → P x → Fr [b, c] H1 H2 → Dom S H2 → Bag H2 b c → t.rp S H2 (vs ++ zs) x → Q vs zs H2) → ta σ H1 fun vs H2 => tk σ H2 fun zs H3 => Q vs zs H3
theorem w2_nil {tk : TA} {m : Nat} {t : TyA K α} {w : Wp α} (h : EvWAn b c S tk σ H m t w) : EvWA2 b c S tNil tk σ H 0 m t w := fun ts P hP H1 f d hB Q q => h ts P hP H1 f d hB _ fun vs H2 x l hx f2 d2 hB2 hv => q [] vs H2 x rfl l hx f2 d2 hB2 hv
theorem w2_cons {n m : Nat} {tr tk : TA} {t : TyA K β} {wa : Wp α} {wr : Wp β} (h : EvW b c S ta σ H (of a S) wa) (hr : EvWA2 b c S tr tk σ H n m t wr) : EvWA2 b c S (tCons ta tr) tk σ H (n + 1) m (aCons a t) (tup2W wa wr) := fun ts P hP H1 f1 d hB Q q =>
  h ts _ hP H1 f1 d hB _ fun v H2 x hx f2 d2 hB2 hv => hr ts _ hx H2 (f1.trans f2) d2 hB2 _ fun vs zs H3 y l l' hy f3 d3 hB3 hvs => q (v :: vs) zs H3 (x, y) (by simp [l]) l' hy (f2.trans f3) d3 hB3 ⟨v, vs ++ zs, rfl, a.mono (f3.sub ts) hv, hvs⟩
theorem ew_callN {n m : Nat} {ta tk : TA} {t : TyA K α} {R : AS → Rl γ} {f : α → Option γ} {w : Wp α} {E : XK} (h : EvWA2 b c S ta tk σ H n m t w) : EvW b c S (tCallN n m (spF t R f) (fun vs zs => vs ++ zs) E ta tk) σ H (R S) (unW f w) := fun ts P hP H1 f1 d hB Q q =>
  h ts _ hP H1 f1 d hB _ fun vs zs H2 x l l' ⟨z, e, hz⟩ f2 d2 hB2 hv => ⟨l, l', S, x, z, d2, hv, e, fun u H' s hu => q u H' z hz (f2.trans (Fr.same s)) (d2.same s) (hB2.same s) ((R S).back f2 hB2.dom hu)⟩
/-! ### any; truth of a list -/
theorem ev_any {r : Option (List Bool)} (h : Ev S T te σ H (of (K := K) (tL tBool) S) r) : Ev S T (tCB (rAny K) (tCons te tNil)) σ H (of (K := K) tBool S) (bd r fun x => some (x.any id)) := by
  intro z e H1 f1 d Q q
  obtain ⟨x, ex, e⟩ := bd_some e
  cases e
  refine h x ex H1 f1 d _ fun v H2 s hv => ?_
  obtain ⟨p, vs, rfl, hp, ha⟩ := hv
  refine ⟨p, x, rfl, ?_, q _ H2 s rfl⟩
  rw [← ha.bools]
  exact hp.sq
theorem All2.empty {F : V → α → Prop} {vs : List V} {xs : List α} (h : All2 F vs xs) : vs.isEmpty = xs.isEmpty := by cases h <;> rfl
theorem eb_truL {r : Option (List α)} (h : Ev S T te σ H (of (tL a) S) r) : EvB S T (fun σ H Q => te σ H fun x H' => ∃ k, TruV K x H' k ∧ Q k H') σ H (bd r fun x => some (!x.isEmpty)) := by
  intro z ez H1 f d Q q
  obtain ⟨x, ex, ez⟩ := bd_some ez
  cases ez
  refine h x ex H1 f d _ fun v H2 s ⟨p, vs, ev, hp, ha⟩ => ⟨_, ?_, q H2 s⟩
  subst ev
  exact .inl ⟨vs, hp.sq, by rw [ha.empty]⟩
/-! ### an owned list that is owned no more -/
theorem sub_keep {p : Addr} {S S' : AS} (h : Sub S S') : Sub (p :: S) (p :: S') := fun a m => by
  rcases List.mem_cons.mp m with rfl | m
  · exact List.mem_cons_self ..
  · exact List.mem_cons_of_mem _ (h a m)
theorem nmc {p q : Addr} {S : AS} (h : p ≠ q) (n : p ∉ S) : p ∉ q :: S := fun m => by
  rcases List.mem_cons.mp m with e | m
  · exact h e
  · exact n m
theorem Own.frz {p : Addr} {xs : List α} {S' : AS} (o : Own a S H p xs) (hs : Sub S' S) (n : p ∉ S') : (tL a).rp S' H (.ref p) xs := by
  obtain ⟨vs, hv, ha⟩ := o
  exact ⟨p, vs, rfl, ⟨hv, n⟩, ha.imp fun _ _ => a.sub hs⟩
/-! ### walks that unpack pairs -/
theorem for_s2 {wi : TI} {j j2 : Nat} {tb : TS} {r : Option (List (α × β))} {xs : List (α × β)} {s0 : δ} {f : δ → α × β → Option (Ct ρ δ)} {res : Ct ρ δ} (d : Dom S H) (h : Sr S T wi σ H (tT2 a b') r) (e : r = some xs) (hf : loopC f xs s0 = some res)
    (I : δ → St → Hp → Prop) (h0 : ∀ H1, Same H H1 → I s0 σ H1)
    (step : (∀ s σ' H', res = .go s → I s σ' H' → D.nx σ' H') → ∀ (s : δ) (x : α × β) (cr : Ct ρ δ) (v w : V) (σ' : St) (H' : Hp), I s σ' H' → a.rp S H' v x.1 → b'.rp S H' w x.2 → x ∈ xs → f s x = some cr → (∀ y, cr = .ret y → res = .ret y) → (∀ s', cr = .brk s' → res = .go s') →
      tb { D with nx := fun σ2 H2 => ∃ s', cr = .go s' ∧ Fr S H' H2 ∧ I s' σ2 H2, ct := fun σ2 H2 => ∃ s', cr = .go s' ∧ Fr S H' H2 ∧ I s' σ2 H2, bk := D.nx } ((σ'.set j (some v)).set j2 (some w)) H')
    (done : ∀ s σ' H', res = .go s → I s σ' H' → D.nx σ' H') : tFor wi (gTup K 2 (gCons (gName j) (gCons (gName j2) gNil))) tb D σ H := by
  refine h xs e H (Fr.refl _) d _ fun J H1 s1 wk => ?_
  refine ⟨fun i m σ' H' => m = xs.length - i ∧ i ≤ xs.length ∧ Fr S H1 H' ∧ ∃ s, I s σ' H' ∧ loopC f (xs.drop i) s = some res, ⟨_, rfl, Nat.zero_le _, Fr.refl _, s0, h0 H1 s1, hf⟩, ?_⟩
  rintro i m σ' H' ⟨rfl, hi, fr, s, hI, hl⟩
  by_cases c : i < xs.length
  · right
    rw [List.drop_eq_getElem_cons c] at hl
    simp only [loopC] at hl
    cases q : f s xs[i] with
    | none => rw [q] at hl; cases hl
    | some cr =>
      rw [q] at hl
      refine ⟨wk.go H' i fr c, fun σ2 H2 => ∃ s', cr = .go s' ∧ Fr S H' H2 ∧ I s' σ2 H2, ?_, ?_⟩
      · rintro σ2 H2 ⟨s', rfl, f2, hI'⟩
        exact ⟨xs.length - (i + 1), by omega, rfl, by omega, fr.trans f2, s', hI', hl⟩
      · intro v H2 hy
        obtain ⟨rfl, hv⟩ := wk.yl H' i v H2 fr hy _ (List.getElem?_eq_getElem c)
        obtain ⟨p, v1, v2, rfl, hp, h1, h2⟩ := (tT2 a b').mono fr hv
        exact ⟨p, _, rfl, hp.sq, rfl, v1, _, rfl, v2, _, rfl, rfl, step done s xs[i] cr v1 v2 σ' _ hI h1 h2 (List.getElem_mem c) q (fun y ey => by subst ey; cases hl; rfl) (fun s' ey => by subst ey; cases hl; rfl)⟩
  · left
    refine ⟨wk.st H' i fr (by omega), ?_⟩
    rw [List.drop_eq_nil_of_le (by omega)] at hl
    cases hl
    exact done s σ' H' rfl hI
theorem q_for_s2 {wi : TI} {j j2 : Nat} {tb : TS} {r : Option (List (α × β))} {xs : List (α × β)} {s0 : δ} {f : δ → α × β → Option (Ct ρ δ)} {res : Ct ρ δ} (d : Dom S H) (h : Sr S T wi σ H (tT2 a b') r) (e : r = some xs) (hf : loopC f xs s0 = some res)
    (I : δ → St → Hp → Prop) (h0 : ∀ H1, Same H H1 → I s0 σ H1)
    (step : (∀ s σ' H', res = .go s → I s σ' H' → u D σ' H') → ∀ (s : δ) (x : α × β) (cr : Ct ρ δ) (v w : V) (σ' : St) (H' : Hp), I s σ' H' → a.rp S H' v x.1 → b'.rp S H' w x.2 → x ∈ xs → f s x = some cr → (∀ y, cr = .ret y → res = .ret y) → (∀ s', cr = .brk s' → res = .go s') →
      tb { D with nx := fun σ2 H2 => ∃ s', cr = .go s' ∧ Fr S H' H2 ∧ I s' σ2 H2, ct := fun σ2 H2 => ∃ s', cr = .go s' ∧ Fr S H' H2 ∧ I s' σ2 H2, bk := u D } ((σ'.set j (some v)).set j2 (some w)) H')
    (done : ∀ s σ' H', res = .go s → I s σ' H' → u D σ' H') : tSeq (tFor wi (gTup K 2 (gCons (gName j) (gCons (gName j2) gNil))) tb) u D σ H := for_s2 (D := { D with nx := u D }) d h e hf I h0 step done
end
end M

namespace M
open PySem L2 G
section
variable {K : PySem.W.Frag} {α β γ δ ε ρ : Type} {S T : AS} {σ : St} {H : Hp} {ta tb te tc : TE} {tt tu : TT} {a : Ty K α} {b' : Ty K β} {c' : Ty K γ} {D : Ends} {u t1 t2 : TS} {b c : Addr}
/-! ### isinstance, by the code -/
theorem tyTm {H : Hp} {a : Addr} {xs : List V} (h : SqT K H a xs) : TyX K H (.ref a) (.type "tuple") := by
  rcases h with (h | ⟨o, h⟩) | ⟨o, _, _, h, hc, _⟩
  · exact .base (.tup h)
  · exact .fTuple h
  · exact .kTuple h hc
theorem tyLm {H : Hp} {a : Addr} {xs : List V} (h : SqL K H a xs) : TyX K H (.ref a) (.type "list") := by
  rcases h with (h | ⟨o, h⟩) | ⟨o, _, _, h, hc, _⟩
  · exact .base (.lst h)
  · exact .base (.frz h)
  · exact .kList h hc
class IsTy (a : Ty K α) (t : outParam String) : Prop where
  h : ∀ {S H v x}, a.rp S H v x → TyX K H v (.type t)
instance : IsTy (K := K) tInt "int" := ⟨fun h => by rw [show _ = _ from h]; exact .base (.int _)⟩
instance : IsTy (K := K) tBool "bool" := ⟨fun h => by rw [show _ = _ from h]; exact .base (.bl _)⟩
instance : IsTy (K := K) tStr "str" := ⟨fun h => by rw [h.1]; exact .base (.str _)⟩
instance : IsTy (K := K) tRat "tuple" := ⟨fun ⟨p, e, h⟩ => by rw [e]; exact tyTm h.sq⟩
instance : IsTy (tT2 a b') "tuple" := ⟨fun ⟨p, _, _, e, h, _⟩ => by rw [e]; exact tyTm h.sq⟩
instance : IsTy (tTs a) "tuple" := ⟨fun ⟨p, _, e, h, _⟩ => by rw [e]; exact tyTm h.sq⟩
instance : IsTy (tL a) "list" := ⟨fun ⟨p, _, e, h, _⟩ => by rw [e]; exact tyLm h.sq⟩
theorem ev_isi {r : Option α} {t n : String} {k : Bool} [hi : IsTy a t] (h : Ev S T te σ H (of a S) r) (hk : kitB t n = some k) :
    Ev S T (tCB (rIsi K) (tCons te (tCons (tC (.ty n)) tNil))) σ H (of (K := K) tBool S) (bd r fun _ => some k) := by
  intro z e H1 f1 d Q q
  obtain ⟨x, ex, e⟩ := bd_some e
  cases e
  exact h x ex H1 f1 d _ fun v H2 s hv => ⟨v, _, _, _, k, rfl, .ty _, hi.h hv, kit_ty hk, q _ H2 s rfl⟩
theorem ev_lenR {r : Option Rat} (h : Ev S T te σ H (of (K := K) tRat S) r) : Ev S T (tCB (fun xs H Q => ∃ p ys, xs = [.ref p] ∧ (SqL K H p ys ∨ SqT K H p ys) ∧ Q (.int ys.length) H) (tCons te tNil)) σ H (of (K := K) tInt S) (bd r fun _ => some (2 : Int)) := by
  intro z e H1 f1 d Q q
  obtain ⟨x, ex, e⟩ := bd_some e
  cases e
  exact h x ex H1 f1 d _ fun v H2 s ⟨p, ev, hp⟩ => by subst ev; exact ⟨p, _, rfl, .inr hp.sq, q _ H2 s rfl⟩
/-! ### pairs as tuples of any length -/
theorem ev_t2Sq {r : Option (α × α)} (h : Ev S T te σ H (of (tT2 a a) S) r) : Ev S T te σ H (of (tSq a) S) (bd r fun x => some [x.1, x.2]) := ev_as h fun x y e H1 H2 v d ⟨p, u, w, ev, hp, h1, h2⟩ => by
  cases e
  exact .inr ⟨p, _, ev, hp, .cons h1 (.cons h2 .nil)⟩
theorem sr_t4 {tl : TE} {r : Option (α × α × α × α)} (h : Ev S T tl σ H (of (tT4 a a a a) S) r) : Sr S T (iTup K tl) σ H a (bd r fun x => some [x.1, x.2.1, x.2.2.1, x.2.2.2]) := fun xs e H1 f d R q => by
  obtain ⟨x, ex, e⟩ := bd_some e
  cases e
  exact h x ex H1 f d _ fun v H2 s ⟨p, u1, u2, u3, u4, ev, hp, h1, h2, h3, h4⟩ => ⟨p, ev, ⟨_, hp.sq⟩, q _ H2 s (wk_tup hp (.cons h1 (.cons h2 (.cons h3 (.cons h4 .nil)))))⟩
/-! ### targets that take lists and tuples -/
def gOr (g g' : TG) : TG := fun v σ H Q => g v σ H Q ∨ g' v σ H Q
theorem pg_or {X : Cx} {e : Expr} {g g' : TG} (h : PG X e g) (h' : PG X e g') : PG X e (gOr g g') := ⟨fun pins s σ H v u Q I r hw => by
  rcases hw with hw | hw
  · exact h.run pins s σ H v u Q I r hw
  · exact h'.run pins s σ H v u Q I r hw⟩
def two? : List α → Option (α × α)
  | [x, y] => some (x, y)
  | _ => none
theorem two_some {xs : List α} {p : α × α} (h : two? xs = some p) : xs = [p.1, p.2] := by
  match xs, h with
  | [x, y], h => cases h; rfl
theorem for_s2q {wi : TI} {j j2 : Nat} {tb : TS} {r : Option (List (List α))} {xs : List (List α)} {ps : List (α × α)} {s0 : δ} {f : δ → α × α → Option (Ct ρ δ)} {res : Ct ρ δ} (d : Dom S H) (h : Sr S T wi σ H (tSq a) r) (e : r = some xs) (e2 : mapO two? xs = some ps) (hf : loopC f ps s0 = some res)
    (I : δ → St → Hp → Prop) (h0 : ∀ H1, Same H H1 → I s0 σ H1)
    (step : (∀ s σ' H', res = .go s → I s σ' H' → D.nx σ' H') → ∀ (s : δ) (x : α × α) (cr : Ct ρ δ) (v w : V) (σ' : St) (H' : Hp), I s σ' H' → a.rp S H' v x.1 → a.rp S H' w x.2 → x ∈ ps → f s x = some cr → (∀ y, cr = .ret y → res = .ret y) → (∀ s', cr = .brk s' → res = .go s') →
      tb { D with nx := fun σ2 H2 => ∃ s', cr = .go s' ∧ Fr S H' H2 ∧ I s' σ2 H2, ct := fun σ2 H2 => ∃ s', cr = .go s' ∧ Fr S H' H2 ∧ I s' σ2 H2, bk := D.nx } ((σ'.set j (some v)).set j2 (some w)) H')
    (done : ∀ s σ' H', res = .go s → I s σ' H' → D.nx σ' H') : tFor wi (gOr (gTup K 2 (gCons (gName j) (gCons (gName j2) gNil))) (gLst K 2 (gCons (gName j) (gCons (gName j2) gNil)))) tb D σ H := by
  refine h xs e H (Fr.refl _) d _ fun J H1 s1 wk => ?_
  have ln := mapO_len e2
  refine ⟨fun i m σ' H' => m = ps.length - i ∧ i ≤ ps.length ∧ Fr S H1 H' ∧ ∃ s, I s σ' H' ∧ loopC f (ps.drop i) s = some res, ⟨_, rfl, Nat.zero_le _, Fr.refl _, s0, h0 H1 s1, hf⟩, ?_⟩
  rintro i m σ' H' ⟨rfl, hi, fr, s, hI, hl⟩
  by_cases c : i < ps.length
  · right
    rw [List.drop_eq_getElem_cons c] at hl
    simp only [loopC] at hl
    cases q : f s ps[i] with
    | none => rw [q] at hl; cases hl
    | some cr =>
      rw [q] at hl
      refine ⟨wk.go H' i fr (by omega), fun σ2 H2 => ∃ s', cr = .go s' ∧ Fr S H' H2 ∧ I s' σ2 H2, ?_, ?_⟩
      · rintro σ2 H2 ⟨s', rfl, f2, hI'⟩
        exact ⟨ps.length - (i + 1), by omega, rfl, by omega, fr.trans f2, s', hI', hl⟩
      · intro v H2 hy
        have hx : i < xs.length := by omega
        obtain ⟨rfl, hv⟩ := wk.yl H' i v H2 fr hy _ (List.getElem?_eq_getElem hx)
        obtain ⟨p, ep, ep2⟩ := mapO_get e2 (List.getElem?_eq_getElem hx)
        have : p = ps[i] := by rw [List.getElem?_eq_getElem c] at ep2; exact (Option.some.inj ep2).symm
        subst this
        have hv := (tSq a).mono fr hv
        rw [two_some ep] at hv
        rcases hv with ⟨p, vs, ev, hp, ha⟩ | ⟨p, vs, ev, hp, ha⟩
        · subst ev
          cases ha with
          | cons g1 ha => cases ha with
            | cons g2 ha => cases ha with
              | nil =>
                right
                refine ⟨p, _, rfl, hp.sq, rfl, _, _, rfl, _, _, rfl, rfl, ?_⟩
                exact step done s ps[i] cr _ _ σ' _ hI g1 g2 (List.getElem_mem c) q (fun y ey => by subst ey; cases hl; rfl) (fun s' ey => by subst ey; cases hl; rfl)
        · subst ev
          cases ha with
          | cons g1 ha => cases ha with
            | cons g2 ha => cases ha with
              | nil =>
                left
                refine ⟨p, _, rfl, hp.sq, rfl, _, _, rfl, _, _, rfl, rfl, ?_⟩
                exact step done s ps[i] cr _ _ σ' _ hI g1 g2 (List.getElem_mem c) q (fun y ey => by subst ey; cases hl; rfl) (fun s' ey => by subst ey; cases hl; rfl)
  · left
    refine ⟨wk.st H' i fr (by omega), ?_⟩
    rw [List.drop_eq_nil_of_le (by omega)] at hl
    cases hl
    exact done s σ' H' rfl hI
theorem q_for_s2q {wi : TI} {j j2 : Nat} {tb : TS} {r : Option (List (List α))} {xs : List (List α)} {ps : List (α × α)} {s0 : δ} {f : δ → α × α → Option (Ct ρ δ)} {res : Ct ρ δ} (d : Dom S H) (h : Sr S T wi σ H (tSq a) r) (e : r = some xs) (e2 : mapO two? xs = some ps) (hf : loopC f ps s0 = some res)
    (I : δ → St → Hp → Prop) (h0 : ∀ H1, Same H H1 → I s0 σ H1)
    (step : (∀ s σ' H', res = .go s → I s σ' H' → u D σ' H') → ∀ (s : δ) (x : α × α) (cr : Ct ρ δ) (v w : V) (σ' : St) (H' : Hp), I s σ' H' → a.rp S H' v x.1 → a.rp S H' w x.2 → x ∈ ps → f s x = some cr → (∀ y, cr = .ret y → res = .ret y) → (∀ s', cr = .brk s' → res = .go s') →
      tb { D with nx := fun σ2 H2 => ∃ s', cr = .go s' ∧ Fr S H' H2 ∧ I s' σ2 H2, ct := fun σ2 H2 => ∃ s', cr = .go s' ∧ Fr S H' H2 ∧ I s' σ2 H2, bk := u D } ((σ'.set j (some v)).set j2 (some w)) H')
    (done : ∀ s σ' H', res = .go s → I s σ' H' → u D σ' H') : tSeq (tFor wi (gOr (gTup K 2 (gCons (gName j) (gCons (gName j2) gNil))) (gLst K 2 (gCons (gName j) (gCons (gName j2) gNil)))) tb) u D σ H := for_s2q (D := { D with nx := u D }) d h e e2 hf I h0 step done
/-! ### slices, two names at once, while drawing -/
def EvWO (b c : Addr) (S : AS) (to : TO) (σ : St) (H : Hp) (w : Wp (Option Int)) : Prop :=
  Sub [b, c] S → ∀ P, w P → ∀ H1, Fr [b, c] H H1 → Dom S H1 → Bag H1 b c → ∀ Q : Option Int → Hp → Prop, (∀ H2 x, P x → Fr [b, c] H1 H2 → Dom S H2 → Bag H2 b c → Q x H2) → to σ H1 Q
theorem wo_pure {to : TO} {r : Option (Option Int)} (h : EvO S [b, c] to σ H r) : EvWO b c S to σ H (lf r) := fun ts P ⟨x, e, hP⟩ H1 f d hB Q q => h x e H1 f d Q fun H2 s => q H2 x hP (Fr.same s) (d.same s) (hB.same s)
theorem wo_some {w : Wp Int} (h : EvW b c S te σ H (of (K := K) tInt S) w) : EvWO b c S (tPart te) σ H (unW (fun i => some (some i)) w) := fun ts P hP H1 f d hB Q q =>
  h ts _ hP H1 f d hB _ fun v H2 i ⟨z, e, hz⟩ f2 d2 hB2 hv => ⟨i, hv, q H2 _ (by cases e; exact hz) f2 d2 hB2⟩
def slW (wa : Wp (List α)) (wl wh : Wp (Option Int)) : Wp (List α) := fun P => wa fun xs => wl fun l => wh fun h => P (cutD xs l h)
theorem ew_slL {tl th : TO} {wa : Wp (List α)} {wl wh : Wp (Option Int)} (ha : EvW b c S ta σ H (of (tL a) S) wa) (hl : EvWO b c S tl σ H wl) (hh : EvWO b c S th σ H wh) :
    EvW b c S (tSl (rSlL K) ta tl th) σ H (nw a S) (slW wa wl wh) := fun ts P hP H1 f1 d hB Q q => by
  refine ha ts _ hP H1 f1 d hB _ fun v H2 xs hx f2 d2 hB2 hv => hl ts _ hx H2 (f1.trans f2) d2 hB2 _ fun H3 l hl' f3 d3 hB3 => hh ts _ hl' H3 ((f1.trans f2).trans f3) d3 hB3 _ fun H4 h hh' f4 d4 hB4 => ?_
  obtain ⟨p, vs, rfl, hp, hvs⟩ := (tL a).mono ((f3.trans f4).sub ts) hv
  refine ⟨p, vs, rfl, hp.sq, fun p' hp' => q _ _ _ hh' (((f2.trans f3).trans f4).trans (Fr.same (same_new hp'))) (d4.same (same_new hp')) (hB4.same (same_new hp')) ⟨p', rfl, fr_back ((f2.trans f3).trans f4) hB4.dom hp', _, upd_same, ?_⟩⟩
  exact (hvs.cut l h).imp fun _ _ hh => a.mono (Fr.same (same_new hp')) (a.ext hp' hh)
theorem qw_par {i j : Nat} {wa : Wp α} {wb : Wp β} {P : α → β → Prop} (d : Dom S H) (hB : Bag H b c) (ts : Sub [b, c] S) (ha : EvW b c S ta σ H (of a S) wa) (hb : EvW b c S tb σ H (of b' S) wb) (e : wa fun x => wb fun y => P x y)
    (k : ∀ v w H1 x y, P x y → Fr [b, c] H H1 → Dom S H1 → Bag H1 b c → a.rp S H1 v x → b'.rp S H1 w y → u D ((σ.set i (some v)).set j (some w)) H1) :
    tSeq (tPar i j (tCons ta (tCons tb tNil))) u D σ H := ha ts _ e H (Fr.refl _) d hB _ fun v H1 x hx f1 d1 hB1 hv => hb ts _ hx H1 f1 d1 hB1 _ fun w H2 y hy f2 d2 hB2 hw => ⟨v, w, rfl, k v w H2 x y hy (f1.trans f2) d2 hB2 (a.mono (f2.sub ts) hv) hw⟩
theorem qw_par2 {i j : Nat} {wa : Wp α} {wb : Wp β} {P : α → β → Prop} (d : Dom S H) (hB : Bag H b c) (ts : Sub [b, c] S) (ha : EvW b c S ta σ H (of a S) wa) (hb : EvW b c S tb σ H (of b' S) wb) (e : wa fun x => wb fun y => P x y)
    (k : ∀ v w H1 x y, P x y → Fr [b, c] H H1 → Dom S H1 → Bag H1 b c → a.rp S H1 v x → b'.rp S H1 w y → u D ((σ.set i (some v)).set j (some w)) H1) :
    tSeq (tAsg (tTup (tCons ta (tCons tb tNil))) (gTup K 2 (gCons (gName i) (gCons (gName j) gNil)))) u D σ H := ha ts _ e H (Fr.refl _) d hB _ fun v H1 x hx f1 d1 hB1 hv => hb ts _ hx H1 f1 d1 hB1 _ fun w H2 y hy f2 d2 hB2 hw => ⟨(by show 2 ≤ sizeLine; decide), fun p hp =>
  ⟨p, _, rfl, .inl (.inl upd_same), rfl, v, _, rfl, w, _, rfl, rfl, k v w _ x y hy ((f1.trans f2).trans (Fr.same (same_new hp))) (d2.same (same_new hp)) (hB2.same (same_new hp)) (a.mono (Fr.same (same_new hp)) (a.mono (f2.sub ts) hv)) (b'.mono (Fr.same (same_new hp)) hw)⟩⟩
end
end M

namespace M
open PySem L2 G
theorem mapO_all {α β : Type} {f : α → Option β} {g : α → β} : ∀ {xs : List α}, (∀ x ∈ xs, f x = some (g x)) → mapO f xs = some (xs.map g)
  | [], _ => rfl
  | x :: r, h => by
    simp only [mapO, bd, h x (List.mem_cons_self ..), Option.bind_some, mapO_all (fun y hy => h y (List.mem_cons_of_mem _ hy)), List.map_cons]
theorem cut_mem {α : Type} {xs : List α} {lo hi : Option Int} {x : α} (h : x ∈ cutD xs lo hi) : x ∈ xs := by
  unfold cutD at h
  exact List.mem_of_mem_drop (List.mem_of_mem_take h)
theorem cut_len {α : Type} (xs : List α) (lo hi : Option Int) : (cutD xs lo hi).length ≤ xs.length := by
  unfold cutD
  rw [List.length_take, List.length_drop]
  omega
theorem at_in {α : Type} {xs : List α} {i : Int} (h0 : 0 ≤ i) (h : i < xs.length) : ∃ x, atI xs i = some x ∧ x ∈ xs := by
  have hk : i.toNat < xs.length := by omega
  have e := atI_nat (xs := xs) (j := i.toNat) (List.getElem?_eq_getElem hk)
  rw [show ((i.toNat : Nat) : Int) = i by omega] at e
  exact ⟨_, e, List.getElem_mem hk⟩
theorem rngP_of {n : Int} (h : -1000000 ≤ n ∧ n ≤ 1000000) : rngP n = true := by
  unfold rngP
  exact Nat.ble_eq_true_of_le (by omega)
theorem rng2_eq {a b : Int} (ha : -1000000 ≤ a ∧ a ≤ 1000000) (hb : -1000000 ≤ b ∧ b ≤ 1000000) : rng2? a b = some (rngL a (b - a).toNat) := by
  unfold rng2?
  rw [rngP_of ha, rngP_of hb]
  rfl
theorem rng1_eq {b : Int} (hb : -1000000 ≤ b ∧ b ≤ 1000000) : rng1? b = some (rngL 0 b.toNat) := by
  unfold rng1?
  rw [rngP_of hb]
  rfl
theorem rngL_succ (a : Int) (m : Nat) : rngL a (m + 1) = a :: rngL (a + 1) m := by
  unfold rngL
  rw [List.range_succ_eq_map, List.map_cons, List.map_map]
  congr 1
  · simp
  · apply List.map_congr_left
    intro k _
    simp only [Function.comp_apply]
    omega
theorem app_eq {α : Type} {xs : List α} (x : α) (h : xs.length < 100000) : app? xs x = some (xs ++ [x]) := by
  unfold app?
  rw [if_pos h]
theorem rng_len (lo : Int) (n : Nat) : (rngL lo n).length = n := by simp [rngL]
theorem rng_mem {lo x : Int} {n : Nat} (h : x ∈ rngL lo n) : lo ≤ x ∧ x < lo + n := by
  unfold rngL at h
  obtain ⟨i, hi, rfl⟩ := List.mem_map.mp h
  have := List.mem_range.mp hi
  omega
theorem mapL_eq {α β : Type} {f : α → Option β} {g : α → β} {xs : List α} (hl : xs.length ≤ 1000) (h : ∀ x ∈ xs, f x = some (g x)) : mapL? f xs = some (xs.map g) := by
  have h2 : xs.length < 100000 := Nat.lt_of_le_of_lt hl (by decide)
  have e : mapL? f xs = mapO f xs := if_pos h2
  rw [e]
  exact mapO_all h
theorem atI_toNat {α : Type} {xs : List α} {j : Int} (h0 : 0 ≤ j) (h : j < xs.length) : atI xs j = xs[j.toNat]? := by
  have hk : j.toNat < xs.length := by omega
  have e := atI_nat (xs := xs) (j := j.toNat) (List.getElem?_eq_getElem hk)
  rw [show ((j.toNat : Nat) : Int) = j by omega] at e
  rw [e, List.getElem?_eq_getElem hk]
theorem cut_nat {α : Type} {xs : List α} {a b : Nat} (ha : a ≤ b) (hb : b ≤ xs.length) : cutD xs (some (a : Int)) (some (b : Int)) = (xs.drop a).take (b - a) := by
  unfold cutD
  rw [HT.sIx_nat, HT.sIx_nat, show min a xs.length = a by omega, show min b xs.length = b by omega]
theorem cut_from {α : Type} {xs : List α} {a : Nat} (ha : a ≤ xs.length) : cutD xs (some (a : Int)) none = xs.drop a := by
  unfold cutD
  rw [HT.sIx_nat, show min a xs.length = a by omega]
  rw [show HT.sIx xs.length xs.length none = xs.length from rfl]
  exact List.take_of_length_le (by rw [List.length_drop]; omega)
theorem loopW_ix {α δ ρ : Type} {f : δ → α → Wp (Ct ρ δ)} {P : Ct ρ δ → Prop} (J : Nat → δ → Prop) : ∀ (xs : List α) (i : Nat) (s : δ), J i s →
    (∀ (k : Nat) (s : δ) (x : α) (C : Ct ρ δ → Prop), i ≤ k → k < i + xs.length → J k s → x ∈ xs → (∀ s', J (k + 1) s' → C (.go s')) → f s x C) → (∀ s, J (i + xs.length) s → P (.go s)) → loopW f xs s P
  | [], i, s, h, _, e => e s h
  | x :: r, i, s, h, st, e => by
    unfold loopW
    refine st i s x _ (Nat.le_refl _) (by simp) h (List.mem_cons_self ..) fun s' h' => ?_
    show loopW f r s' P
    refine loopW_ix J r (i + 1) s' h' (fun k s x C h1 h2 hJ hx hC => st k s x C (by omega) (by simp at h2 ⊢; omega) hJ (List.mem_cons_of_mem _ hx) hC) fun s hs => e s ?_
    rw [List.length_cons, show i + (r.length + 1) = i + 1 + r.length by omega]
    exact hs
theorem loopW_all {α δ ρ : Type} {f : δ → α → Wp (Ct ρ δ)} {P : Ct ρ δ → Prop} (J : δ → Prop) (xs : List α) (s : δ) (h : J s) (st : ∀ (s : δ) (x : α) (C : Ct ρ δ → Prop), J s → x ∈ xs → (∀ s', J s' → C (.go s')) → f s x C) (e : ∀ s, J s → P (.go s)) : loopW f xs s P :=
  loopW_ix (fun _ => J) xs 0 s h (fun _ s x C _ _ hJ hx hC => st s x C hJ hx hC) (fun s hs => e s hs)
theorem last_at {α : Type} {xs : List α} (h : xs ≠ []) : ∃ x, atI xs (-1) = some x ∧ x ∈ xs := by
  have l := List.length_pos_iff.mpr h
  have hk : xs.length - 1 < xs.length := by omega
  refine ⟨xs[xs.length - 1], ?_, List.getElem_mem hk⟩
  unfold atI ixN
  rw [if_neg (by decide), if_pos (by omega), Option.bind_some, show ((-1 : Int) + (xs.length : Int)).toNat = xs.length - 1 by omega]
  exact List.getElem?_eq_getElem hk
theorem jn_of {δ : Type} {f : (δ → Prop) → Prop} {k : δ → Prop} (Gd : δ → Prop) (h1 : ∀ K : δ → Prop, (∀ j, Gd j → K j) → f K) (h2 : ∀ j, Gd j → k j) : jn f k := h1 k h2
theorem filW_all {α β : Type} {f : α → Wp (Option β)} {p : β → Prop} : ∀ {xs : List α} {P : List β → Prop}, (∀ x ∈ xs, ∀ Po : Option β → Prop, (∀ y, p y → Po (some y)) → Po none → f x Po) → (∀ ys, ys.length ≤ xs.length → (∀ y ∈ ys, p y) → P ys) → filW f xs P
  | [], P, _, h => h [] (by simp) (fun y hy => by simp at hy)
  | x :: r, P, hf, h => by
    unfold filW
    refine hf x (List.mem_cons_self ..) _ (fun y hy => ?_) ?_
    · refine filW_all (fun z hz => hf z (List.mem_cons_of_mem _ hz)) fun ys hl hp => h _ (by simp; omega) fun z hz => ?_
      simp at hz
      rcases hz with rfl | hz
      · exact hy
      · exact hp z hz
    · refine filW_all (fun z hz => hf z (List.mem_cons_of_mem _ hz)) fun ys hl hp => h _ (by simp; omega) fun z hz => hp z (by simpa using hz)
theorem loopW_rng {δ ρ : Type} {f : δ → Int → Wp (Ct ρ δ)} {P : Ct ρ δ → Prop} (J : Nat → δ → Prop) : ∀ (n : Nat) {a : Nat} (s : δ), J a s → (∀ (k : Nat) (s : δ) (C : Ct ρ δ → Prop), a ≤ k → k < a + n → J k s → (∀ s', J (k + 1) s' → C (.go s')) → f s (k : Int) C) → (∀ s, J (a + n) s → P (.go s)) → loopW f (rngL (a : Int) n) s P
  | 0, a, s, h, _, e => e s h
  | n + 1, a, s, h, st, e => by
    rw [rngL_succ]
    unfold loopW
    refine st a s _ (Nat.le_refl _) (by omega) h fun s' h' => ?_
    show loopW f (rngL ((a : Int) + 1) n) s' P
    have := loopW_rng (f := f) (P := P) J n (a := a + 1) s' h' (fun k s C h1 h2 hJ hC => st k s C (by omega) (by omega) hJ hC) (fun s hs => e s (by rw [show a + (n + 1) = a + 1 + n by omega]; exact hs))
    simpa using this
theorem loopC_chk {α : Type} {f : Unit → α → Option (Ct Bool Unit)} {g : α → Bool} : ∀ (xs : List α), (∀ x ∈ xs, f () x = some (if g x then .ret false else .go ())) → loopC f xs () = some (if xs.any g then .ret false else .go ())
  | [], _ => rfl
  | x :: r, h => by
    have hx := h x (List.mem_cons_self ..)
    have hr := loopC_chk r fun y hy => h y (List.mem_cons_of_mem _ hy)
    unfold loopC
    rw [hx, Option.bind_some]
    by_cases c : g x = true
    · simp [c]
    · simp only [c, Bool.false_eq_true, if_false, List.any_cons, Bool.false_or]
      exact hr
theorem loopC_app {α β ρ : Type} {f : List β → α → Option (Ct ρ (List β))} {g : α → List β} {M c : Nat} : ∀ (xs : List α) (s : List β), (∀ x ∈ xs, (g x).length ≤ c ∧ ∀ s, s.length + c ≤ M → f s x = some (.go (s ++ g x))) → s.length + xs.length * c ≤ M → loopC f xs s = some (.go (s ++ xs.flatMap g))
  | [], s, _, _ => by simp [loopC]
  | x :: r, s, h, hb => by
    have hx := h x (List.mem_cons_self ..)
    have e : (x :: r).length * c = c + r.length * c := by rw [List.length_cons, Nat.succ_mul, Nat.add_comm]
    rw [e] at hb
    unfold loopC
    rw [hx.2 s (by omega), Option.bind_some]
    refine (loopC_app r (s ++ g x) (fun y hy => h y (List.mem_cons_of_mem _ hy)) ?_).trans ?_
    · rw [List.length_append]
      have := hx.1
      omega
    · simp
theorem filO_gen {α : Type} {g : α → Option Bool} {p : α → Bool} : ∀ (xs : List α), (∀ x ∈ xs, g x = some (p x)) → filO (fun x => bd (g x) fun k => if k then bd (some x) fun y => some (some y) else some none) xs = some (xs.filter p)
  | [], _ => rfl
  | x :: r, h => by
    have hr := filO_gen r fun y hy => h y (List.mem_cons_of_mem _ hy)
    simp only [filO, h x (List.mem_cons_self ..), bd, Option.bind_some] at hr ⊢
    by_cases c : p x = true
    · simp [c, hr]
    · simp [c, hr]
theorem fil_gen {α : Type} {g : α → Option Bool} {p : α → Bool} {xs : List α} (hl : xs.length ≤ 1000) (h : ∀ x ∈ xs, g x = some (p x)) : filL? g (fun x => some x) xs = some (xs.filter p) := by
  unfold filL?
  rw [if_pos (by omega)]
  exact filO_gen xs h
theorem at_get {α : Type} {xs : List α} {j : Int} (d : α) (h0 : 0 ≤ j) (h : j < xs.length) : atI xs j = some (xs.getD j.toNat d) := by
  rw [atI_toNat h0 h, List.getD_eq_getElem?_getD, List.getElem?_eq_getElem (by omega)]
  rfl
theorem at_lastD {α : Type} {xs : List α} (d : α) (h : xs ≠ []) : atI xs (-1) = some (xs.getD (xs.length - 1) d) := by
  have hl := List.length_pos_iff.mpr h
  unfold atI ixN
  rw [if_neg (by decide), if_pos (by omega), Option.bind_some, show ((-1 : Int) + (xs.length : Int)).toNat = xs.length - 1 by omega, List.getD_eq_getElem?_getD, List.getElem?_eq_getElem (by omega)]
  rfl
theorem rng_memI {lo x : Int} {n : Nat} (h : lo ≤ x ∧ x < lo + n) : x ∈ rngL lo n := by
  unfold rngL
  rw [List.mem_map]
  exact ⟨(x - lo).toNat, by simp; omega, by omega⟩
theorem memD_iff {α : Type} [DecidableEq α] {x : α} {xs : List α} : memD x xs = true ↔ x ∈ xs := by simp [memD]
theorem flatMap_len {α β : Type} {g : α → List β} {c : Nat} : ∀ xs : List α, (∀ x ∈ xs, (g x).length ≤ c) → (xs.flatMap g).length ≤ xs.length * c
  | [], _ => by simp
  | x :: r, h => by
    have := flatMap_len r fun y hy => h y (List.mem_cons_of_mem _ hy)
    have := h x (List.mem_cons_self ..)
    rw [List.flatMap_cons, List.length_append, List.length_cons, Nat.succ_mul]
    omega
theorem whileC_meas {δ ρ : Type} {t : δ → Option Bool} {f : δ → Option (Ct ρ δ)} (J : δ → Prop) (μ : δ → Nat) (h : ∀ s, J s → t s = some false ∨ (t s = some true ∧ ∃ s', f s = some (.go s') ∧ J s' ∧ μ s' < μ s)) : ∀ (n : Nat) (s : δ), J s → μ s < n → ∃ s', whileC t f n s = some (.go s') ∧ J s' ∧ t s' = some false
  | 0, s, _, hm => by omega
  | n + 1, s, hJ, hm => by
    rcases h s hJ with h1 | ⟨h1, s', h2, h3, h4⟩
    · exact ⟨s, whileC_stop h1, hJ, h1⟩
    · obtain ⟨z, e1, e2, e3⟩ := whileC_meas J μ h n s' h3 (by omega)
      exact ⟨z, by rw [whileC_go h1 h2, e1], e2, e3⟩
theorem min_mem {xs : List Int} (h : xs ≠ []) : ∃ m, xs.min? = some m ∧ m ∈ xs := by
  cases e : xs.min? with
  | none => exact absurd (List.min?_eq_none_iff.mp e) h
  | some m => exact ⟨m, rfl, List.min?_mem e⟩
theorem cat_eq {α : Type} {xs ys : List α} (h : xs.length + ys.length ≤ 1000) : cat? xs ys = some (xs ++ ys) := by
  unfold cat?
  rw [if_pos (by omega)]
end M

namespace M
open PySem L2 G
section
variable {K : PySem.W.Frag} {α β γ δ ε ρ : Type} {S T : AS} {σ : St} {H : Hp} {ta tb te tc : TE} {tt tu : TT} {a : Ty K α} {b' : Ty K β} {c' : Ty K γ} {D : Ends} {u t1 t2 : TS} {b c : Addr}
theorem kitAny2 {t n1 n2 : String} {k1 k2 : Bool} (h1 : kitB t n1 = some k1) (h2 : kitB t n2 = some k2) : PySem.W.kitAny K (.type t) [.type n1, .type n2] = some (k1 || k2) := by
  cases k1 with
  | true => exact kitAny_cons (b := true) (kit_ty h1) (fun z => nomatch z) (fun _ => rfl)
  | false =>
    refine kitAny_cons (b := false) (kit_ty h1) (fun _ => ?_) (fun z => nomatch z)
    cases k2 with
    | true => exact kitAny_cons (b := true) (kit_ty h2) (fun z => nomatch z) (fun _ => rfl)
    | false => exact kitAny_cons (b := false) (kit_ty h2) (fun _ => rfl) (fun z => nomatch z)
theorem ev_isi2 {r : Option α} {t n1 n2 : String} {k1 k2 : Bool} [hi : IsTy a t] (h : Ev S T te σ H (of a S) r) (h1 : kitB t n1 = some k1) (h2 : kitB t n2 = some k2) :
    Ev S T (tCB (rIsiT K) (tCons te (tCons (tTup (tCons (tC (.ty n1)) (tCons (tC (.ty n2)) tNil))) tNil))) σ H (of (K := K) tBool S) (bd r fun _ => some (k1 || k2)) := by
  intro z e H1 f1 d Q q
  obtain ⟨x, ex, e⟩ := bd_some e
  cases e
  exact h x ex H1 f1 d _ fun v H2 s hv => ⟨(by show 2 ≤ sizeLine; decide), fun p hp => ⟨v, p, _, _, _, _, rfl, upd_same, .cons (.ty _) (.cons (.ty _) .nil), hi.h (a.mono (Fr.same (same_new hp)) hv), kitAny2 h1 h2, q _ _ (s.trans (same_new hp)) rfl⟩⟩
theorem ev_isNv [NN a] {r : Option α} (h : Ev S T te σ H (of a S) r) : Ev S T (tOp (fun x y H Q => y = .non ∧ Q (.bl (decide (x = .non))) H) te (tC .non)) σ H (of (K := K) tBool S) (bd r fun _ => some false) := by
  intro z e H1 f1 d Q q
  obtain ⟨x, ex, e⟩ := bd_some e
  cases e
  exact h x ex H1 f1 d _ fun v H2 s hv => ⟨rfl, q _ H2 s (by show V.bl _ = V.bl false; rw [decide_eq_false (NN.h hv)])⟩
theorem ev_slO {p : Addr} {xs : List α} {i : Nat} {tl th : TO} {rl rh : Option (Option Int)} (o : Own a S H p xs) (nt : p ∉ T) (ts : Sub T S) (hi : σ[i]? = some (some (.ref p))) (hl : EvO S T tl σ H rl) (hh : EvO S T th σ H rh) :
    Ev S T (tSl (rSlL K) (tVar i) tl th) σ H (nw a S) (bd rl fun l => bd rh fun h => some (cutD xs l h)) := by
  intro z e H1 f1 d Q q
  obtain ⟨l, el, e⟩ := bd_some e
  obtain ⟨h, eh, e⟩ := bd_some e
  cases e
  refine ⟨_, hi, hl l el H1 f1 d _ fun H2 s2 => hh h eh H2 (f1.trans (Fr.same s2)) (d.same s2) _ fun H3 s3 => ?_⟩
  obtain ⟨vs, hv, ha⟩ := ((o.fr f1 ts nt).same s2).same s3
  refine ⟨p, vs, rfl, .inl (.inl hv), fun p' hp' => q _ _ ((s2.trans s3).trans (same_new hp')) ⟨p', rfl, (s2.trans s3).free hp', _, upd_same, ?_⟩⟩
  exact (ha.cut l h).imp fun _ _ hh => a.mono (Fr.same (same_new hp')) (a.ext hp' hh)
theorem lw_set {p : Addr} {xs : List α} {i : Nat} {w : Wp α} {td : TE} {ri : Option Int} {R : List α → Prop} (d : Dom S H) (hB : Bag H b c) (ts : Sub [b, c] S) (o : Own a S H p xs) (im : p ∈ S) (nt : p ∉ [b, c]) (hi : σ[i]? = some (some (.ref p))) (h : EvW b c S te σ H (of a S) w) (hk : Ev S [b, c] td σ H (of (K := K) tInt S) ri)
    (e : w fun x => lf ri fun k => lf (set? xs k x) R)
    (q : ∀ ys H1 H2, R ys → Fr [b, c] H H1 → Dom S H1 → Bag H1 b c → Mut1 p H1 H2 → Fr S H1 H2 → Own a S H2 p ys → D.nx σ H2) : tAsg te (gSub (tVar i) td rSetL) D σ H := by
  refine h ts _ e H (Fr.refl _) d hB _ fun v H1 x ⟨k, ek, ys, ey, hR⟩ f1 d1 hB1 hx => ⟨_, hi, hk k ek H1 f1 d1 _ fun w H2 s2 hw => ?_⟩
  cases hw
  obtain ⟨vs, hv, ha⟩ := o.fr f1 ts nt
  obtain ⟨j, ej, ey⟩ := bd_some ey
  cases ey
  refine ⟨p, vs, k, j, rfl, rfl, s2 _ _ hv, by rw [ha.len]; exact ej, ?_⟩
  have g1 : Fr S H2 (upd H2 p (.lst (vs.set j v))) := fr_upd im
  refine q _ H1 _ hR f1 d1 hB1 ⟨fun b ob e n => by rw [upd_ne n]; exact s2 _ _ e, by rw [upd_same]; intro z; cases z⟩ ((Fr.same s2).trans g1) ⟨_, upd_same, ?_⟩
  exact (All2.set (a.mono (Fr.same s2) hx) j (ha.imp fun _ _ h => a.mono (Fr.same s2) h)).imp fun _ _ h => a.mono g1 h
theorem qw_set {p : Addr} {xs : List α} {i : Nat} {w : Wp α} {td : TE} {ri : Option Int} {R : List α → Prop} (d : Dom S H) (hB : Bag H b c) (ts : Sub [b, c] S) (o : Own a S H p xs) (im : p ∈ S) (nt : p ∉ [b, c]) (hi : σ[i]? = some (some (.ref p))) (h : EvW b c S te σ H (of a S) w) (hk : Ev S [b, c] td σ H (of (K := K) tInt S) ri)
    (e : w fun x => lf ri fun k => lf (set? xs k x) R)
    (q : ∀ ys H1 H2, R ys → Fr [b, c] H H1 → Dom S H1 → Bag H1 b c → Mut1 p H1 H2 → Fr S H1 H2 → Own a S H2 p ys → u D σ H2) : tSeq (tAsg te (gSub (tVar i) td rSetL)) u D σ H := lw_set (D := { D with nx := u D }) d hB ts o im nt hi h hk e q
end
end M

namespace M
open PySem L2 G
open PyProof.Rows (itemOrd)
open PySem.W (dataLt alike alikeAll AlikeAll minD min_list_data alike_unique)
/-! ### min of a list of data -/
theorem fold_mem {α : Type} (f : α → α → Bool) : ∀ (xs : List α) (x : α), xs.foldl (fun a y => if f y a then y else a) x ∈ x :: xs
  | [], x => by simp
  | y :: r, x => by
    rw [List.foldl_cons]
    have := fold_mem f r (if f y x then y else x)
    rcases List.mem_cons.mp this with e | m
    · rw [e]
      split <;> simp
    · exact List.mem_cons_of_mem _ (List.mem_cons_of_mem _ m)
def rMinA (K : PySem.W.Frag) : List V → Hp → VK → Prop := fun vs H Q => ∃ (a : Addr) (xs : List V) (d : PyData) (ds : List PyData), vs = [.ref a] ∧ SqL K H a xs ∧ DpAll K H xs (d :: ds) ∧ AlikeAll (d :: ds) ∧ PyData.depthAll (d :: ds) ≤ 60 ∧
  ∀ (i : Nat) (v : V), xs[i]? = some v → (d :: ds)[i]? = some (minD d ds) → Q v H
theorem cr_minA {X : Cx} (hc : X.calm = true) (hu : X.A.units + 65 < cLine) : CallR X (.builtin "min") (rMinA X.K) := by
  intro pins s σ H vs us Q I r h
  obtain ⟨a, xs, d, ds, rfl, hs, hd, hal, hdp, q⟩ := h
  obtain ⟨its, rv, hl, _⟩ := I.list hs
  rw [Vals.ref1 r]
  obtain ⟨as, hr⟩ := Dp.readsAll I (d :: ds) xs its hd rv
  refine min_list_data (I.ok.hd hc) hl.isList (by simpa using hr) hal (by omega) fun i v h' tk bs hv hr' hk => ?_
  have hv' : its[i]? = some v := by simpa using hv
  have hlen := rv.length
  have hi : i < its.length := (List.getElem?_eq_some_iff.mp hv').1
  obtain ⟨x, hx⟩ : ∃ x, xs[i]? = some x := ⟨_, List.getElem?_eq_getElem (by omega)⟩
  have rx : RelV x v := by
    obtain ⟨u, hu', ru⟩ := Vals.get rv hx
    rw [hv'] at hu'
    cases hu'
    exact ru
  obtain ⟨cs, rc, hin, _, _⟩ := PySem.W.readsAll_at hr i v hv'
  have e : (d :: ds).getD i .none = minD d ds := by
    have r1 := PySem.W.reads_keeps hk rc
    refine alike_unique _ _ v _ _ ?_ r1 hr'
    refine hal.1 _ ?_ _ ?_
    · rw [List.getD_eq_getElem?_getD, List.getElem?_eq_getElem hin]
      exact List.getElem_mem _
    · exact fold_mem _ _ _
  refine ⟨x, H, I.kept hk, rx, q i x hx ?_⟩
  rw [← e, List.getD_eq_getElem?_getD, List.getElem?_eq_getElem hin]
  rfl
/-- codes whose things can be ordered -/
structure TyLt {K : PySem.W.Frag} {α : Type} {a : Ty K α} (d : TyD a) (lt : α → α → Bool) : Prop where
  al : ∀ x y, alike (d.dt x) (d.dt y) = true
  nn : ∀ x, d.dt x ≠ .none
  lt : ∀ x y, dataLt (d.dt x) (d.dt y) = lt x y
def minBy? {α : Type} (lt : α → α → Bool) : List α → Option α
  | [] => none
  | x :: xs => some (xs.foldl (fun a y => if lt y a then y else a) x)
theorem minD_map {K : PySem.W.Frag} {α : Type} {a : Ty K α} {d : TyD a} {lt : α → α → Bool} (h : TyLt d lt) : ∀ (xs : List α) (x : α), minD (d.dt x) (xs.map d.dt) = d.dt (xs.foldl (fun a y => if lt y a then y else a) x)
  | [], x => rfl
  | y :: r, x => by
    have ih := minD_map h r (if lt y x then y else x)
    unfold minD at ih ⊢
    rw [List.map_cons, List.foldl_cons, List.foldl_cons, h.lt, ← ih]
    congr 1
    split <;> rfl
theorem ev_minBy {K : PySem.W.Frag} {α : Type} {S T : AS} {σ : St} {H : Hp} {te : TE} {a : Ty K α} [DecidableEq α] {d : TyD a} {lt : α → α → Bool} {r : Option (List α)} (hd : d.dep ≤ 60) (hl : TyLt d lt) (h : Ev S T te σ H (of (tL a) S) r) :
    Ev S T (tCB (rMinA K) (tCons te tNil)) σ H (of a S) (bd r fun x => minBy? lt x) := by
  intro z e H1 f1 dm Q q
  obtain ⟨x, ex, e⟩ := bd_some e
  refine h x ex H1 f1 dm _ fun v H2 s ⟨p, vs, ev, hp, ha⟩ => ?_
  subst ev
  cases x with
  | nil => cases e
  | cons y ys =>
    cases e
    have da := dpAll d ha
    rw [List.map_cons] at da
    refine ⟨p, vs, d.dt y, ys.map d.dt, rfl, hp.sq, da, ⟨fun u hu w hw => ?_, fun u hu => ?_⟩, ?_, fun i w hw he => ?_⟩
    · rw [← List.map_cons] at hu hw
      obtain ⟨u', _, rfl⟩ := List.mem_map.mp hu
      obtain ⟨w', _, rfl⟩ := List.mem_map.mp hw
      exact hl.al _ _
    · rw [← List.map_cons] at hu
      obtain ⟨u', _, rfl⟩ := List.mem_map.mp hu
      exact hl.nn _
    · rw [← List.map_cons]
      exact Nat.le_trans (depAll d (y :: ys)) hd
    · rw [← List.map_cons, List.getElem?_map, minD_map hl] at he
      obtain ⟨c, hc, rc⟩ := ha.getL i hw
      rw [hc] at he
      have ec : c = ys.foldl (fun a y => if lt y a then y else a) y := by
        have := Option.some.inj he
        have e2 := d.dec c (ys.foldl (fun a y => if lt y a then y else a) y)
        rw [this, d.dec] at e2
        simpa using e2.symm
      subst ec
      exact q w H2 s rc
/-! lists of ints, as Python orders them -/
def lexI : List Int → List Int → Bool
  | [], [] => false
  | [], _ :: _ => true
  | _ :: _, [] => false
  | x :: xs, y :: ys => if x = y then lexI xs ys else decide (x < y)
theorem lexI_toks : ∀ xs ys : List Int, PyProof.Rows.lexLt itemOrd (PySem.W.keyToksAll (xs.map .int)) (PySem.W.keyToksAll (ys.map .int)) = lexI xs ys
  | [], [] => by rfl
  | [], y :: ys => by rfl
  | x :: xs, [] => by rfl
  | x :: xs, y :: ys => by
    rw [List.map_cons, List.map_cons]
    have al : alike (.int x) (.int y) = true := rfl
    unfold lexI
    by_cases c : x = y
    · rw [if_pos c, PySem.W.dataLt_all_yes al (by simp [PyData.eqv, c])]
      exact lexI_toks xs ys
    · rw [if_neg c, PySem.W.dataLt_all_no al (by simp [PyData.eqv, c]), PySem.W.dataLt_int]
theorem alike_ints' : ∀ xs ys : List Int, alikeAll (xs.map .int) (ys.map .int) = true
  | [], ys => by simp [alikeAll]
  | x :: xs, [] => by simp [alikeAll]
  | x :: xs, y :: ys => by simp [alikeAll, alike, alike_ints' xs ys]
theorem lt_LI {K : PySem.W.Frag} : TyLt (K := K) (dL dInt) lexI := ⟨fun x y => by show alike (.list _) (.list _) = true; rw [alike]; exact alike_ints' x y, fun x z => (by cases z), fun x y => by show dataLt (.list _) (.list _) = _; rw [PySem.W.dataLt_list]; exact lexI_toks x y⟩
/-! one taken out of a list -/
def popAt? {α : Type} (xs : List α) (i : Int) : Option (α × List α) := if 0 ≤ i then (xs[i.toNat]?).map fun y => (y, xs.eraseIdx i.toNat) else none
theorem All2.erase {α β : Type} {F : α → β → Prop} : ∀ (n : Nat) {xs : List α} {ys : List β}, All2 F xs ys → All2 F (xs.eraseIdx n) (ys.eraseIdx n)
  | _, _, _, .nil => .nil
  | 0, _, _, .cons _ r => r
  | n + 1, _, _, .cons a r => .cons a (All2.erase n r)
end M

namespace M
open PySem L2 G
open PyProof.Rows (itemOrd)
open PySem.W (dataLt alike alikeAll AllAlike Sortable dataLe sorted_data EachIs)
/-! ### sorted of a list of data -/
def rSortA (K : PySem.W.Frag) : List V → Hp → VK → Prop := fun vs H Q => ∃ (a : Addr) (bs : List (V × PyData)), vs = [.ref a] ∧ SqL K H a (bs.map (·.1)) ∧ (∀ b ∈ bs, Dp K H b.1 b.2) ∧ AllAlike (bs.map (·.2)) ∧ Sortable (bs.map (·.2)) ∧ (∀ b ∈ bs, b.2.depth ≤ 60) ∧
  ∀ p, H p = none → Q (.ref p) (upd H p (.lst ((bs.mergeSort (dataLe false (·.2))).map (·.1))))
theorem each_vals {X : Cx} {pins : List (Addr × Obj)} {σ : St} {H : Hp} {s : Shared} (I : Inv X pins σ H s) : ∀ {bs : List (V × PyData)} {its : List Value}, Vals (bs.map (·.1)) its → (∀ b ∈ bs, Dp X.K H b.1 b.2) →
    EachIs (fun v (b : V × PyData) => RelV b.1 v) its bs ∧ EachIs (fun v (b : V × PyData) => ∃ as, Reads s.heap v b.2 as) its bs
  | [], _, .nil, _ => ⟨.nil, .nil⟩
  | b :: r, _, .cons h t, hd => by
    obtain ⟨e1, e2⟩ := each_vals I t fun x hx => hd x (List.mem_cons_of_mem _ hx)
    exact ⟨.cons h e1, .cons (Dp.reads I b.2 b.1 _ (hd b (List.mem_cons_self ..)) h) e2⟩
theorem vals_each : ∀ {out : List Value} {bs : List (V × PyData)}, EachIs (fun v (b : V × PyData) => RelV b.1 v) out bs → Vals (bs.map (·.1)) out
  | _, _, .nil => .nil
  | _, _, .cons h t => .cons h (vals_each t)
theorem cr_sortA {X : Cx} (hu : X.A.units + 65 < cLine) : CallR X (.builtin "sorted") (rSortA X.K) := by
  intro pins s σ H vs us Q I r h
  obtain ⟨a, bs, rfl, hs, hd, hal, hk, hdp, q⟩ := h
  obtain ⟨its, rv, hl, hz⟩ := I.list hs
  rw [Vals.ref1 r]
  obtain ⟨e1, e2⟩ := each_vals I rv hd
  have hz' : bs.length ≤ sizeLine := by simpa using hz
  refine sorted_data (bs := bs) (enc := (·.2)) hl.isList e1 e2 hal hk hz' (fun b hb => by have := hdp b hb; omega) fun out ho he => ?_
  obtain ⟨ep, he'⟩ := PyProof.Rows.sortedAll_at s.heap its out.toArray
  have hlen : ((bs.mergeSort (dataLe false (·.2))).map (·.1)).length ≤ sizeLine := by rw [List.length_map, List.length_mergeSort]; exact hz'
  exact ⟨.ref _, upd H (s.heap.objs.size + 1) (.lst ((bs.mergeSort (dataLe false (·.2))).map (·.1))), I.laid (t' := s.toks) (fun _ _ => PyProof.Rows.sortedAll_old) (Nat.le_succ _) ⟨hlen, out, ep, vals_each he, by simpa using he'⟩, rfl, q _ (I.hok.fresh (Nat.le_succ _))⟩
def sortBy {α : Type} (lt : α → α → Bool) (xs : List α) : List α := xs.mergeSort fun x y => !lt y x
theorem dataLe_not {β : Type} (k : β → PyData) (x y : β) : dataLe false k x y = !dataLt (k y) (k x) := by
  first | rfl | (unfold dataLe dataLt; rfl)
/-- codes of which all are tuples with an item, or none is -/
def Srt {K : PySem.W.Frag} {α : Type} {a : Ty K α} (d : TyD a) : Prop := (∀ x, ∃ y r, d.dt x = .tuple (y :: r)) ∨ ∀ x ys, d.dt x ≠ .tuple ys
theorem ev_sortBy {K : PySem.W.Frag} {α : Type} {S T : AS} {σ : St} {H : Hp} {te : TE} {a : Ty K α} {d : TyD a} {lt : α → α → Bool} {r : Option (List α)} (hd : d.dep ≤ 60) (hl : TyLt d lt) (hs : Srt d) (h : Ev S T te σ H (of (tL a) S) r) :
    Ev S T (tCB (rSortA K) (tCons te tNil)) σ H (nw a S) (bd r fun x => some (sortBy lt x)) := by
  intro z e H1 f1 dm Q q
  obtain ⟨xs, ex, e⟩ := bd_some e
  cases e
  refine h xs ex H1 f1 dm _ fun v H2 s ⟨p, vs, ev, hp, ha⟩ => ?_
  subst ev
  have len := ha.len
  have m1 : ((vs.zip xs).map fun t : V × α => (t.1, d.dt t.2)).map (·.1) = vs := by
    rw [List.map_map]
    exact List.map_fst_zip (by omega)
  have m2 : (vs.zip xs).map Prod.snd = xs := List.map_snd_zip (by omega)
  have hz : ∀ t ∈ vs.zip xs, a.rp S H2 t.1 t.2 := fun t ht => by
    obtain ⟨i, hi, rfl⟩ := List.mem_iff_getElem.mp ht
    rw [List.length_zip] at hi
    rw [List.getElem_zip]
    obtain ⟨w, hw, hr⟩ := ha.get i (List.getElem?_eq_getElem (show i < xs.length by omega))
    rw [List.getElem?_eq_getElem (by omega)] at hw
    cases hw
    exact hr
  refine ⟨p, (vs.zip xs).map fun t => (t.1, d.dt t.2), rfl, by rw [m1]; exact hp.sq, fun b hb => ?_, ?_, ?_, fun b hb => ?_, fun p' hp' => ?_⟩
  · obtain ⟨t, ht, rfl⟩ := List.mem_map.mp hb
    exact d.dp (hz t ht)
  · intro u hu w hw
    rw [List.map_map] at hu hw
    obtain ⟨t, _, rfl⟩ := List.mem_map.mp hu
    obtain ⟨t', _, rfl⟩ := List.mem_map.mp hw
    exact hl.al _ _
  · rcases hs with hs | hs
    · left
      intro u hu
      rw [List.map_map] at hu
      obtain ⟨t, _, rfl⟩ := List.mem_map.mp hu
      exact hs _
    · right
      intro u hu
      rw [List.map_map] at hu
      obtain ⟨t, _, rfl⟩ := List.mem_map.mp hu
      exact ⟨hl.nn _, hs _⟩
  · obtain ⟨t, _, rfl⟩ := List.mem_map.mp hb
    exact Nat.le_trans (d.hd _) hd
  · have k1 := List.map_mergeSort (r := fun t t' : V × α => !lt t'.2 t.2) (s := dataLe false (fun b : V × PyData => b.2)) (f := fun t : V × α => (t.1, d.dt t.2)) (l := vs.zip xs) (fun t _ t' _ => by rw [dataLe_not, hl.lt])
    have k2 := List.map_mergeSort (r := fun t t' : V × α => !lt t'.2 t.2) (s := fun x y => !lt y x) (f := Prod.snd) (l := vs.zip xs) (fun t _ t' _ => rfl)
    rw [m2] at k2
    rw [← k1, List.map_map]
    have s4 := same_new (o := .lst (((vs.zip xs).mergeSort fun t t' : V × α => !lt t'.2 t.2).map fun t => t.1)) hp'
    refine q _ _ (s.trans s4) ⟨p', rfl, s.free hp', _, upd_same, ?_⟩
    unfold sortBy
    rw [← k2]
    have al : ∀ ts : List (V × α), (∀ t ∈ ts, a.rp S H2 t.1 t.2) → All2 (a.rp (p' :: S) (upd H2 p' (.lst (((vs.zip xs).mergeSort fun t t' : V × α => !lt t'.2 t.2).map fun t => t.1)))) (ts.map fun t => t.1) (ts.map Prod.snd) := by
      intro ts
      induction ts with
      | nil => exact fun _ => .nil
      | cons t r ih => exact fun ht => .cons (a.mono (Fr.same s4) (a.ext hp' (ht t (List.mem_cons_self ..)))) (ih fun x hx => ht x (List.mem_cons_of_mem _ hx))
    exact al _ fun t ht => hz t (List.mem_mergeSort.mp ht)
/-! pairs of a number and a list of numbers; texts -/
def ltPL (x y : Int × List Int) : Bool := if x.1 = y.1 then lexI x.2 y.2 else decide (x.1 < y.1)
theorem lt_PL {K : PySem.W.Frag} : TyLt (K := K) (dT2 dInt (dL dInt)) ltPL := by
  have al1 : ∀ n m : Int, alike (.int n) (.int m) = true := fun _ _ => rfl
  have al2 : ∀ x y : List Int, alike (.list (x.map .int)) (.list (y.map .int)) = true := fun x y => by rw [alike]; exact alike_ints' x y
  refine ⟨fun x y => ?_, fun x z => (by cases z), fun x y => ?_⟩
  · show alike (.tuple [.int x.1, .list (x.2.map .int)]) (.tuple [.int y.1, .list (y.2.map .int)]) = true
    rw [alike, alikeAll, alikeAll, al1, al2, alikeAll]
    rfl
  · show dataLt (.tuple [.int x.1, .list (x.2.map .int)]) (.tuple [.int y.1, .list (y.2.map .int)]) = ltPL x y
    rw [PySem.W.dataLt_tuple]
    unfold ltPL
    by_cases c : x.1 = y.1
    · rw [if_pos c, PySem.W.dataLt_all_yes (al1 _ _) (by simp [PyData.eqv, c])]
      have e2 : PyData.eqv (.list (x.2.map .int)) (.list (y.2.map .int)) = decide (x.2 = y.2) := (dL (K := K) dInt).dec x.2 y.2
      by_cases c2 : x.2 = y.2
      · rw [PySem.W.dataLt_all_yes (al2 _ _) (by rw [e2]; exact decide_eq_true c2), c2]
        have irr : ∀ l : List Int, lexI l l = false := fun l => by induction l with | nil => rfl | cons a r ih => simp [lexI, ih]
        rw [irr]
        rfl
      · rw [PySem.W.dataLt_all_no (al2 _ _) (by rw [e2]; exact decide_eq_false c2), PySem.W.dataLt_list]
        exact lexI_toks _ _
    · rw [if_neg c, PySem.W.dataLt_all_no (al1 _ _) (by simp [PyData.eqv, c]), PySem.W.dataLt_int]
theorem srt_PL {K : PySem.W.Frag} : Srt (K := K) (dT2 dInt (dL dInt)) := .inl fun x => ⟨_, _, rfl⟩
def ltS (x y : Str) : Bool := decide (x.cps.toList < y.cps.toList)
theorem lt_S {K : PySem.W.Frag} : TyLt (K := K) dStr ltS := ⟨fun x y => rfl, fun x z => (by cases z), fun x y => PySem.W.dataLt_str x y⟩
theorem srt_S {K : PySem.W.Frag} : Srt (K := K) dStr := .inr fun x ys z => (by cases z)
def ltI (x y : Int) : Bool := decide (x < y)
theorem lt_I {K : PySem.W.Frag} : TyLt (K := K) dInt ltI := ⟨fun x y => rfl, fun x z => (by cases z), fun x y => PySem.W.dataLt_int x y⟩
theorem srt_I {K : PySem.W.Frag} : Srt (K := K) dInt := .inr fun x ys z => (by cases z)
end M

namespace M
open PySem L2 G
/-! ### dicts -/
/-- what can be a key: ints and texts -/
class KeyC (κ : Type) where
  kk : κ → Key
  ok : κ → Prop
  inj : ∀ {x y}, kk x = kk y → x = y
instance : KeyC Int := ⟨Sum.inl, fun _ => True, fun h => by cases h; rfl⟩
instance : KeyC Str := ⟨Sum.inr, fun z => PyData.strOk z = true, fun h => by cases h; rfl⟩
section
variable {K : PySem.W.Frag} {α β γ δ ε ρ κ : Type} [KeyC κ] [DecidableEq κ] {S T : AS} {σ : St} {H : Hp} {ta tb te tc td ty tv : TE} {tt tu : TT} {a : Ty K α} {b' : Ty K β} {c' : Ty K γ} {D : Ends} {u t1 t2 : TS} {b c : Addr}
open KeyC
/-- the codes of keys -/
class KeyT (c : Ty K κ) : Prop where
  to : ∀ {S H v x}, c.rp S H v x → v = kV (kk x) ∧ ok x
  of_ : ∀ {S H x}, ok x → c.rp S H (kV (kk x)) x
instance : KeyT (K := K) (κ := Int) tInt := ⟨fun h => ⟨h, trivial⟩, fun _ => rfl⟩
instance : KeyT (K := K) (κ := Str) tStr := ⟨fun h => ⟨h.1, h.2⟩, fun h => ⟨rfl, h⟩⟩
def KvP (b' : Ty K β) (S : AS) (H : Hp) (kv : Key × V) (x : κ × β) : Prop := kv.1 = kk x.1 ∧ ok x.1 ∧ b'.rp S H kv.2 x.2
def nDk (S : AS) (H : Hp) (a : Addr) (kvs : List (Key × V)) : Prop := H a = some (.dK kvs) ∧ a ∉ S
variable (κ) in
def tD (b' : Ty K β) : Ty K (List (κ × β)) where
  rp S H v xs := ∃ a kvs, v = .ref a ∧ nDk S H a kvs ∧ All2 (KvP b' S H) kvs xs ∧ (xs.map Prod.fst).Nodup
  mono f := fun ⟨a, kvs, e, h, h1, h2⟩ => ⟨a, kvs, e, ⟨f _ _ h.1 h.2, h.2⟩, h1.imp fun _ _ ⟨p, q, r⟩ => ⟨p, q, b'.mono f r⟩, h2⟩
  ext f := fun ⟨a, kvs, e, h, h1, h2⟩ => ⟨a, kvs, e, ⟨h.1, not_cons f (by rw [h.1]; intro z; cases z) h.2⟩, h1.imp fun _ _ ⟨p, q, r⟩ => ⟨p, q, b'.ext f r⟩, h2⟩
  sub f := fun ⟨a, kvs, e, h, h1, h2⟩ => ⟨a, kvs, e, ⟨h.1, fun m => h.2 (f _ m)⟩, h1.imp fun _ _ ⟨p, q, r⟩ => ⟨p, q, b'.sub f r⟩, h2⟩
/-- an owned dict -/
def OwnD (b' : Ty K β) (S : AS) (H : Hp) (p : Addr) (xs : List (κ × β)) : Prop := ∃ kvs, H p = some (.dK kvs) ∧ All2 (KvP b' S H) kvs xs ∧ (xs.map Prod.fst).Nodup
def nwD (b' : Ty K β) (S : AS) (H0 H : Hp) (v : V) (xs : List (κ × β)) : Prop := ∃ p, v = .ref p ∧ H0 p = none ∧ OwnD b' (p :: S) H p xs
def nwd (b' : Ty K β) (S : AS) : Rl (List (κ × β)) := ⟨nwD b' S, fun f d ⟨p, e, n, h⟩ => ⟨p, e, fr_back f d n, h⟩⟩
theorem nwD.rp {S : AS} {H0 H : Hp} {v : V} {xs : List (κ × β)} (h : nwD b' S H0 H v xs) (d : Dom S H0) : (tD κ b').rp S H v xs := by
  obtain ⟨p, e, hp, kvs, hv, ha, hn⟩ := h
  exact ⟨p, kvs, e, ⟨hv, d.not_mem hp⟩, ha.imp fun _ _ ⟨q, r, s⟩ => ⟨q, r, b'.sub (fun _ m => List.mem_cons_of_mem _ m) s⟩, hn⟩
theorem ev_newD {r : Option (List (κ × β))} (h : Ev S T te σ H (nwd b' S) r) : Ev S T te σ H (of (tD κ b') S) r := by
  intro x ex H1 f d Q q
  exact h x ex H1 f d Q fun v H2 s hv => q v H2 s (nwD.rp hv d)
/-! what a dict tells -/
def getK (xs : List (κ × β)) (k : κ) : Option β := (xs.find? fun p => decide (p.1 = k)).map (·.2)
theorem val_get {S : AS} {H : Hp} {k : κ} : ∀ {kvs : List (Key × V)} {xs : List (κ × β)}, All2 (KvP b' S H) kvs xs → (getK xs k = none ∧ valV kvs (kk k) = none) ∨ ∃ x v, getK xs k = some x ∧ valV kvs (kk k) = some v ∧ b'.rp S H v x
  | _, _, .nil => .inl ⟨rfl, rfl⟩
  | kv :: kvs, x :: xs, .cons h r => by
    by_cases e : x.1 = k
    · right
      refine ⟨x.2, kv.2, ?_, ?_, h.2.2⟩
      · simp [getK, List.find?_cons, e]
      · exact valV_pos (by rw [h.1, e])
    · have e' : ¬ kv.1 = kk k := fun z => e (inj (h.1.symm.trans z))
      have g1 : getK (x :: xs) k = getK xs k := by simp [getK, List.find?_cons, e]
      have g2 := valV_neg (p := kv) (r := kvs) (k := kk k) e'
      rw [g1, g2]
      exact val_get r
theorem ev_dget {ck : Ty K κ} [KeyT ck] {rd : Option (List (κ × β))} {rk : Option κ} (hd : Ev S T td σ H (of (tD κ b') S) rd) (hk : Ev S T ty σ H (of ck S) rk) :
    Ev S T (tDGet td ty) σ H (of b' S) (bd rd fun d => bd rk fun k => getK d k) := by
  intro z e H1 f1 d Q q
  obtain ⟨xs, ex, e⟩ := bd_some e
  obtain ⟨k, ek, e⟩ := bd_some e
  refine hd xs ex H1 f1 d _ fun v H2 s2 hv => hk k ek H2 (f1.trans (Fr.same s2)) (d.same s2) _ fun w H3 s3 hw => ?_
  obtain ⟨p, kvs, rfl, hp, ha, hn⟩ := (tD κ b').mono (Fr.same s3) hv
  obtain ⟨rfl, hok⟩ := KeyT.to hw
  rcases val_get (k := k) ha with ⟨g1, _⟩ | ⟨x, u, g1, g2, g3⟩
  · rw [g1] at e; cases e
  · rw [g1] at e
    cases e
    exact ⟨p, u, rfl, .inl ⟨kvs, kk k, .inl hp.1, rfl, g2.symm⟩, q u H3 (s2.trans s3) g3⟩
theorem ev_din {ck : Ty K κ} [KeyT ck] {rd : Option (List (κ × β))} {rk : Option κ} (hk : Ev S T ty σ H (of ck S) rk) (hd : Ev S T td σ H (of (tD κ b') S) rd) :
    Ev S T (tDIn ty td) σ H (of (K := K) tBool S) (bd rk fun k => bd rd fun d => some (getK d k).isSome) := by
  intro z e H1 f1 d Q q
  obtain ⟨k, ek, e⟩ := bd_some e
  obtain ⟨xs, ex, e⟩ := bd_some e
  cases e
  refine hk k ek H1 f1 d _ fun w H2 s2 hw => hd xs ex H2 (f1.trans (Fr.same s2)) (d.same s2) _ fun v H3 s3 hv => ?_
  obtain ⟨p, kvs, rfl, hp, ha, hn⟩ := hv
  obtain ⟨rfl, hok⟩ := KeyT.to hw
  refine ⟨p, _, rfl, .inl ⟨kvs, kk k, .inl hp.1, rfl, rfl⟩, q _ H3 (s2.trans s3) ?_⟩
  rcases val_get (k := k) ha with ⟨g1, g2⟩ | ⟨x, u, g1, g2, g3⟩
  · rw [g1, g2]; rfl
  · rw [g1, g2]; rfl
theorem ev_dnotin {ck : Ty K κ} [KeyT ck] {rd : Option (List (κ × β))} {rk : Option κ} (hk : Ev S T ty σ H (of ck S) rk) (hd : Ev S T td σ H (of (tD κ b') S) rd) :
    Ev S T (tDNotIn ty td) σ H (of (K := K) tBool S) (bd rk fun k => bd rd fun d => some (!(getK d k).isSome)) := by
  intro z e H1 f1 d Q q
  obtain ⟨k, ek, e⟩ := bd_some e
  obtain ⟨xs, ex, e⟩ := bd_some e
  cases e
  refine hk k ek H1 f1 d _ fun w H2 s2 hw => hd xs ex H2 (f1.trans (Fr.same s2)) (d.same s2) _ fun v H3 s3 hv => ?_
  obtain ⟨p, kvs, rfl, hp, ha, hn⟩ := hv
  obtain ⟨rfl, hok⟩ := KeyT.to hw
  refine ⟨p, _, rfl, .inl ⟨kvs, kk k, .inl hp.1, rfl, rfl⟩, q _ H3 (s2.trans s3) ?_⟩
  rcases val_get (k := k) ha with ⟨g1, g2⟩ | ⟨x, u, g1, g2, g3⟩
  · rw [g1, g2]; rfl
  · rw [g1, g2]; rfl
theorem ev_dnew : Ev S T tDNewK σ H (nwd (κ := κ) b' S) (some []) := fun x e H1 f d Q q => by
  cases e
  exact fun p hp => q _ _ (same_new hp) ⟨p, rfl, hp, [], upd_same, .nil, by simp⟩
/-! put -/
def putL (xs : List (κ × β)) (k : κ) (x : β) : List (κ × β) := if xs.any (fun p => decide (p.1 = k)) then xs.map fun p => if p.1 = k then (p.1, x) else p else xs ++ [(k, x)]
def putL? (xs : List (κ × β)) (k : κ) (x : β) : Option (List (κ × β)) := if xs.length < 100000 then some (putL xs k x) else none
theorem any_kk {S : AS} {H : Hp} {k : κ} : ∀ {kvs : List (Key × V)} {xs : List (κ × β)}, All2 (KvP b' S H) kvs xs → (kvs.any fun kv => decide (kv.1 = kk k)) = xs.any fun p => decide (p.1 = k)
  | _, _, .nil => rfl
  | kv :: kvs, x :: xs, .cons h r => by
    rw [List.any_cons, List.any_cons, any_kk r, h.1]
    congr 1
    by_cases e : x.1 = k
    · rw [e]; simp
    · have : ¬ (kk x.1 : Key) = kk k := fun z => e (inj z)
      simp [e, this]
theorem put_all {S : AS} {H : Hp} {k : κ} {v : V} {x : β} (hk : ok k) (hv : b'.rp S H v x) {kvs : List (Key × V)} {xs : List (κ × β)} (h : All2 (KvP b' S H) kvs xs) : All2 (KvP b' S H) (putK kvs (kk k) v) (putL xs k x) := by
  unfold putK putL
  rw [any_kk h]
  split
  · have : ∀ {kvs : List (Key × V)} {xs : List (κ × β)}, All2 (KvP b' S H) kvs xs → All2 (KvP b' S H) (kvs.map fun kv => if kv.1 = kk k then (kv.1, v) else kv) (xs.map fun p => if p.1 = k then (p.1, x) else p) := by
      intro kvs xs h
      induction h with
      | nil => exact .nil
      | @cons kv y kvs xs h r ih =>
        refine .cons ?_ ih
        dsimp only
        by_cases e : y.1 = k
        · rw [if_pos e, if_pos (by rw [h.1, e])]
          exact ⟨h.1, h.2.1, hv⟩
        · rw [if_neg e, if_neg (fun z => e (inj (h.1.symm.trans z)))]
          exact h
    exact this h
  · exact h.snoc ⟨rfl, hk, hv⟩
theorem put_nd {k : κ} {x : β} {xs : List (κ × β)} (h : (xs.map Prod.fst).Nodup) : ((putL xs k x).map Prod.fst).Nodup := by
  unfold putL
  split
  · rw [List.map_map]
    have : (Prod.fst ∘ fun p : κ × β => if p.1 = k then (p.1, x) else p) = Prod.fst := by
      funext p
      simp only [Function.comp_apply]
      split <;> rfl
    rw [this]
    exact h
  · rename_i hn
    rw [List.map_append, List.map_singleton]
    refine List.nodup_append.mpr ⟨h, by simp, fun y hy z hz e => ?_⟩
    rw [List.mem_singleton] at hz
    subst hz
    subst e
    obtain ⟨p, hp, e⟩ := List.mem_map.mp hy
    exact hn (List.any_eq_true.mpr ⟨p, hp, decide_eq_true e⟩)
end
end M

namespace M
open PySem L2 G
section
variable {K : PySem.W.Frag} {α β γ δ ε ρ κ : Type} [KeyC κ] [DecidableEq κ] {S T : AS} {σ : St} {H : Hp} {ta tb te tc td ty tv : TE} {tt tu : TT} {a : Ty K α} {b' : Ty K β} {c' : Ty K γ} {D : Ends} {u t1 t2 : TS} {b c : Addr}
open KeyC
theorem KvP.mono {S : AS} {H H' : Hp} {kv : Key × V} {x : κ × β} (f : Fr S H H') (h : KvP b' S H kv x) : KvP b' S H' kv x := ⟨h.1, h.2.1, b'.mono f h.2.2⟩
theorem KvP.ext {S : AS} {H : Hp} {q : Addr} {kv : Key × V} {x : κ × β} (n : H q = none) (h : KvP b' S H kv x) : KvP b' (q :: S) H kv x := ⟨h.1, h.2.1, b'.ext n h.2.2⟩
theorem KvP.sub {S S' : AS} {H : Hp} {kv : Key × V} {x : κ × β} (f : Sub S' S) (h : KvP b' S H kv x) : KvP b' S' H kv x := ⟨h.1, h.2.1, b'.sub f h.2.2⟩
theorem OwnD.same {S : AS} {H H' : Hp} {p : Addr} {xs : List (κ × β)} (h : OwnD b' S H p xs) (s : Same H H') : OwnD b' S H' p xs := by
  obtain ⟨kvs, hv, ha, hn⟩ := h
  exact ⟨kvs, s _ _ hv, ha.imp fun _ _ => KvP.mono (Fr.same s), hn⟩
theorem OwnD.fr {S T : AS} {H H' : Hp} {p : Addr} {xs : List (κ × β)} (h : OwnD b' S H p xs) (f : Fr T H H') (ts : Sub T S) (n : p ∉ T) : OwnD b' S H' p xs := by
  obtain ⟨kvs, hv, ha, hn⟩ := h
  exact ⟨kvs, f _ _ hv n, ha.imp fun _ _ => KvP.mono (f.sub ts), hn⟩
theorem OwnD.ext {S : AS} {H : Hp} {p q : Addr} {xs : List (κ × β)} (h : OwnD b' S H p xs) (n : H q = none) : OwnD b' (q :: S) H p xs := by
  obtain ⟨kvs, hv, ha, hn⟩ := h
  exact ⟨kvs, hv, ha.imp fun _ _ => KvP.ext n, hn⟩
theorem OwnD.ne {S : AS} {H : Hp} {p q : Addr} {xs : List (κ × β)} (h : OwnD b' S H p xs) (n : H q = none) : p ≠ q := by
  obtain ⟨kvs, hv, _⟩ := h
  exact ne_of_none hv n
theorem OwnD.sub {S S' : AS} {H : Hp} {p : Addr} {xs : List (κ × β)} (h : OwnD b' S H p xs) (hs : Sub S' S) : OwnD b' S' H p xs := by
  obtain ⟨kvs, hv, ha, hn⟩ := h
  exact ⟨kvs, hv, ha.imp fun _ _ => KvP.sub hs, hn⟩
theorem OwnD.mut {S : AS} {H H' : Hp} {p q : Addr} {xs : List (κ × β)} (h : OwnD b' S H p xs) (f : Fr S H H') (m : Mut1 q H H') (n : p ≠ q) : OwnD b' S H' p xs := by
  obtain ⟨kvs, hv, ha, hn⟩ := h
  exact ⟨kvs, m.k _ _ hv n, ha.imp fun _ _ => KvP.mono f, hn⟩
theorem OwnD.frz {p : Addr} {xs : List (κ × β)} {S' : AS} (o : OwnD b' S H p xs) (hs : Sub S' S) (n : p ∉ S') : (tD κ b').rp S' H (.ref p) xs := by
  obtain ⟨kvs, hv, ha, hn⟩ := o
  exact ⟨p, kvs, rfl, ⟨hv, n⟩, ha.imp fun _ _ => KvP.sub hs, hn⟩
/-! an owned dict is read -/
theorem ev_ownDGet {ck : Ty K κ} [KeyT ck] {p : Addr} {xs : List (κ × β)} {i : Nat} {rk : Option κ} (o : OwnD b' S H p xs) (nt : p ∉ T) (ts : Sub T S) (hi : σ[i]? = some (some (.ref p))) (hk : Ev S T ty σ H (of ck S) rk) :
    Ev S T (tDGet (tVar i) ty) σ H (of b' S) (bd rk fun k => getK xs k) := by
  intro z e H1 f1 d Q q
  obtain ⟨k, ek, e⟩ := bd_some e
  refine ⟨_, hi, hk k ek H1 f1 d _ fun w H2 s2 hw => ?_⟩
  obtain ⟨kvs, hv, ha, hn⟩ := (o.fr f1 ts nt).same s2
  obtain ⟨rfl, hok⟩ := KeyT.to hw
  rcases val_get (k := k) ha with ⟨g1, _⟩ | ⟨x, v, g1, g2, g3⟩
  · rw [g1] at e; cases e
  · rw [g1] at e
    cases e
    exact ⟨p, v, rfl, .inl ⟨kvs, kk k, .inl hv, rfl, g2.symm⟩, q v H2 s2 g3⟩
theorem ev_ownDIn {ck : Ty K κ} [KeyT ck] {p : Addr} {xs : List (κ × β)} {i : Nat} {rk : Option κ} (o : OwnD b' S H p xs) (nt : p ∉ T) (ts : Sub T S) (hi : σ[i]? = some (some (.ref p))) (hk : Ev S T ty σ H (of ck S) rk) :
    Ev S T (tDIn ty (tVar i)) σ H (of (K := K) tBool S) (bd rk fun k => some (getK xs k).isSome) := by
  intro z e H1 f1 d Q q
  obtain ⟨k, ek, e⟩ := bd_some e
  cases e
  refine hk k ek H1 f1 d _ fun w H2 s2 hw => ⟨_, hi, ?_⟩
  obtain ⟨kvs, hv, ha, hn⟩ := (o.fr f1 ts nt).same s2
  obtain ⟨rfl, hok⟩ := KeyT.to hw
  refine ⟨p, _, rfl, .inl ⟨kvs, kk k, .inl hv, rfl, rfl⟩, q _ H2 s2 ?_⟩
  rcases val_get (k := k) ha with ⟨g1, g2⟩ | ⟨x, v, g1, g2, g3⟩
  · rw [g1, g2]; rfl
  · rw [g1, g2]; rfl
theorem ev_ownDNotIn {ck : Ty K κ} [KeyT ck] {p : Addr} {xs : List (κ × β)} {i : Nat} {rk : Option κ} (o : OwnD b' S H p xs) (nt : p ∉ T) (ts : Sub T S) (hi : σ[i]? = some (some (.ref p))) (hk : Ev S T ty σ H (of ck S) rk) :
    Ev S T (tDNotIn ty (tVar i)) σ H (of (K := K) tBool S) (bd rk fun k => some (!(getK xs k).isSome)) := by
  intro z e H1 f1 d Q q
  obtain ⟨k, ek, e⟩ := bd_some e
  cases e
  refine hk k ek H1 f1 d _ fun w H2 s2 hw => ⟨_, hi, ?_⟩
  obtain ⟨kvs, hv, ha, hn⟩ := (o.fr f1 ts nt).same s2
  obtain ⟨rfl, hok⟩ := KeyT.to hw
  refine ⟨p, _, rfl, .inl ⟨kvs, kk k, .inl hv, rfl, rfl⟩, q _ H2 s2 ?_⟩
  rcases val_get (k := k) ha with ⟨g1, g2⟩ | ⟨x, v, g1, g2, g3⟩
  · rw [g1, g2]; rfl
  · rw [g1, g2]; rfl
/-! d[k] = e -/
theorem l_dput {ck : Ty K κ} [KeyT ck] {p : Addr} {xs ys : List (κ × β)} {i : Nat} {r : Option β} {rk : Option κ} {x : β} {k : κ} (d : Dom S H) (o : OwnD b' S H p xs) (im : p ∈ S) (nt : p ∉ T) (ts : Sub T S) (hi : σ[i]? = some (some (.ref p))) (h : Ev S T tv σ H (of b' S) r) (e : r = some x) (hk : Ev S T ty σ H (of ck S) rk) (ek : rk = some k) (f : putL? xs k x = some ys)
    (q : ∀ H1, Mut1 p H H1 → Fr S H H1 → OwnD b' S H1 p ys → D.nx σ H1) : sDPut (tVar i) ty tv D σ H := by
  obtain ⟨kvs, hv, ha, hn⟩ := o
  unfold putL? at f
  split at f
  · rename_i hl
    cases f
    refine h x e H (Fr.refl _) d _ fun v H1 s1 hx => ⟨_, hi, hk k ek H1 (Fr.same s1) (d.same s1) _ fun w H2 s2 hw => ?_⟩
    obtain ⟨rfl, hok⟩ := KeyT.to hw
    have f1 : Fr S H2 (upd H2 p (.dK (putK kvs (kk k) v))) := fr_upd im
    refine ⟨p, _, rfl, .inl ⟨kvs, kk k, s2 _ _ (s1 _ _ hv), rfl, Nat.lt_of_lt_of_le (by rw [ha.len]; exact hl) (by decide), rfl⟩, ?_⟩
    refine q _ ⟨fun b ob e n => by rw [upd_ne n]; exact s2 _ _ (s1 _ _ e), by rw [upd_same]; intro z; cases z⟩ ((Fr.same (s1.trans s2)).trans f1) ⟨_, upd_same, ?_, put_nd hn⟩
    exact (put_all hok (b'.mono (Fr.same s2) hx) (ha.imp fun _ _ => KvP.mono (Fr.same (s1.trans s2)))).imp fun _ _ => KvP.mono f1
  · cases f
theorem q_dput {ck : Ty K κ} [KeyT ck] {p : Addr} {xs ys : List (κ × β)} {i : Nat} {r : Option β} {rk : Option κ} {x : β} {k : κ} (d : Dom S H) (o : OwnD b' S H p xs) (im : p ∈ S) (nt : p ∉ T) (ts : Sub T S) (hi : σ[i]? = some (some (.ref p))) (h : Ev S T tv σ H (of b' S) r) (e : r = some x) (hk : Ev S T ty σ H (of ck S) rk) (ek : rk = some k) (f : putL? xs k x = some ys)
    (q : ∀ H1, Mut1 p H H1 → Fr S H H1 → OwnD b' S H1 p ys → u D σ H1) : tSeq (sDPut (tVar i) ty tv) u D σ H := l_dput (D := { D with nx := u D }) d o im nt ts hi h e hk ek f q
theorem lw_dput {ck : Ty K κ} [KeyT ck] {p : Addr} {xs : List (κ × β)} {i : Nat} {w : Wp β} {rk : Option κ} {R : List (κ × β) → Prop} (d : Dom S H) (hB : Bag H b c) (ts : Sub [b, c] S) (o : OwnD b' S H p xs) (im : p ∈ S) (nt : p ∉ [b, c]) (hi : σ[i]? = some (some (.ref p))) (h : EvW b c S tv σ H (of b' S) w) (hk : Ev S [b, c] ty σ H (of ck S) rk)
    (e : w fun x => lf rk fun k => lf (putL? xs k x) R)
    (q : ∀ ys H1 H2, R ys → Fr [b, c] H H1 → Dom S H1 → Bag H1 b c → Mut1 p H1 H2 → Fr S H1 H2 → OwnD b' S H2 p ys → D.nx σ H2) : sDPut (tVar i) ty tv D σ H := by
  refine h ts _ e H (Fr.refl _) d hB _ fun v H1 x ⟨k, ek, ys, ey, hR⟩ f1 d1 hB1 hx => ⟨_, hi, hk k ek H1 f1 d1 _ fun z H2 s2 hw => ?_⟩
  obtain ⟨kvs, hv, ha, hn⟩ := (o.fr f1 ts nt).same s2
  obtain ⟨rfl, hok⟩ := KeyT.to hw
  unfold putL? at ey
  split at ey
  · rename_i hl
    cases ey
    have g1 : Fr S H2 (upd H2 p (.dK (putK kvs (kk k) v))) := fr_upd im
    refine ⟨p, _, rfl, .inl ⟨kvs, kk k, hv, rfl, Nat.lt_of_lt_of_le (by rw [ha.len]; exact hl) (by decide), rfl⟩, ?_⟩
    refine q _ H1 _ hR f1 d1 hB1 ⟨fun b ob e n => by rw [upd_ne n]; exact s2 _ _ e, by rw [upd_same]; intro z; cases z⟩ ((Fr.same s2).trans g1) ⟨_, upd_same, ?_, put_nd hn⟩
    exact (put_all hok (b'.mono (Fr.same s2) hx) ha).imp fun _ _ => KvP.mono g1
  · cases ey
theorem qw_dput {ck : Ty K κ} [KeyT ck] {p : Addr} {xs : List (κ × β)} {i : Nat} {w : Wp β} {rk : Option κ} {R : List (κ × β) → Prop} (d : Dom S H) (hB : Bag H b c) (ts : Sub [b, c] S) (o : OwnD b' S H p xs) (im : p ∈ S) (nt : p ∉ [b, c]) (hi : σ[i]? = some (some (.ref p))) (h : EvW b c S tv σ H (of b' S) w) (hk : Ev S [b, c] ty σ H (of ck S) rk)
    (e : w fun x => lf rk fun k => lf (putL? xs k x) R)
    (q : ∀ ys H1 H2, R ys → Fr [b, c] H H1 → Dom S H1 → Bag H1 b c → Mut1 p H1 H2 → Fr S H1 H2 → OwnD b' S H2 p ys → u D σ H2) : tSeq (sDPut (tVar i) ty tv) u D σ H := lw_dput (D := { D with nx := u D }) d hB ts o im nt hi h hk e q
/-! len, dict(d), list(d) -/
theorem ev_lenD {r : Option (List (κ × β))} (h : Ev S T te σ H (of (tD κ b') S) r) : Ev S T (tCB (fun xs H Q => ∃ a kvs, xs = [V.ref a] ∧ H a = some (.dK kvs) ∧ Q (.int kvs.length) H) (tCons te tNil)) σ H (of (K := K) tInt S) (bd r fun x => some (x.length : Int)) := by
  intro z e H1 f1 d Q q
  obtain ⟨x, ex, e⟩ := bd_some e
  cases e
  refine h x ex H1 f1 d _ fun v H2 s ⟨p, kvs, ev, hp, ha, hn⟩ => ?_
  subst ev
  exact ⟨p, kvs, rfl, hp.1, q _ H2 s (by rw [ha.len]; rfl)⟩
theorem ev_dictD {r : Option (List (κ × β))} (h : Ev S T te σ H (of (tD κ b') S) r) : Ev S T (tCB (fun xs H Q => ∃ (a : Addr) (kvs : List (Key × V)), xs = [.ref a] ∧ Rd H a (.dK kvs) ∧ ∀ p, H p = none → Q (.ref p) (upd H p (.dK kvs))) (tCons te tNil)) σ H (nwd b' S) r := by
  intro x ex H1 f1 d Q q
  refine h x ex H1 f1 d _ fun v H2 s ⟨p, kvs, ev, hp, ha, hn⟩ => ?_
  subst ev
  refine ⟨p, kvs, rfl, .inl hp.1, fun p' hp' => q _ _ (s.trans (same_new hp')) ⟨p', rfl, s.free hp', kvs, upd_same, ?_, hn⟩⟩
  exact ha.imp fun _ _ h => KvP.mono (Fr.same (same_new hp')) (KvP.ext hp' h)
end
/-! sorted(d): the keys, rising -/
section
variable {K : PySem.W.Frag} {β : Type} {S T : AS} {σ : St} {H : Hp} {te : TE} {b' : Ty K β}
theorem keys_S {S : AS} {H : Hp} : ∀ {kvs : List (Key × V)} {xs : List (Str × β)}, All2 (KvP b' S H) kvs xs → kvs.map (·.1) = (xs.map Prod.fst).map Sum.inr ∧ ∀ z ∈ xs.map Prod.fst, PyData.strOk z = true
  | _, _, .nil => ⟨rfl, fun z hz => by simp at hz⟩
  | kv :: kvs, x :: xs, .cons h r => by
    obtain ⟨e1, e2⟩ := keys_S r
    refine ⟨by rw [List.map_cons, List.map_cons, List.map_cons, e1, h.1]; rfl, fun z hz => ?_⟩
    rw [List.map_cons] at hz
    rcases List.mem_cons.mp hz with rfl | hz
    · exact h.2.1
    · exact e2 z hz
end
end M

namespace M
open PySem L2 G
section
variable {K : PySem.W.Frag} {α β γ δ ε ρ : Type} {S T : AS} {σ : St} {H : Hp} {ta tb te : TE} {tt tu : TT} {a : Ty K α} {b : Ty K β} {c : Ty K γ}
/-! ### a list of two things of two kinds -/
def tL2 (c : Ty K α) (d : Ty K β) : Ty K (α × β) where
  rp S H v x := ∃ a u w, v = .ref a ∧ nL K S H a [u, w] ∧ c.rp S H u x.1 ∧ d.rp S H w x.2
  mono f := fun ⟨a, u, w, e, h, h1, h2⟩ => ⟨a, u, w, e, h.mono f, c.mono f h1, d.mono f h2⟩
  ext f := fun ⟨a, u, w, e, h, h1, h2⟩ => ⟨a, u, w, e, h.ext f, c.ext f h1, d.ext f h2⟩
  sub f := fun ⟨a, u, w, e, h, h1, h2⟩ => ⟨a, u, w, e, h.sub f, c.sub f h1, d.sub f h2⟩
theorem ev_lst2 {ra : Option α} {rb : Option β} (ha : Ev S T ta σ H (of a S) ra) (hb : Ev S T tb σ H (of b S) rb) : Ev S T (tLst (tCons ta (tCons tb tNil))) σ H (of (tL2 a b) S) (bd ra fun x => bd rb fun y => some (x, y)) := by
  intro z e H1 f1 d Q q
  obtain ⟨x, ex, e⟩ := bd_some e
  obtain ⟨y, ey, e⟩ := bd_some e
  cases e
  refine ha x ex H1 f1 d _ fun v H2 s2 hv => hb y ey H2 (f1.trans (Fr.same s2)) (d.same s2) _ fun w H3 s3 hw => ⟨(by show 2 ≤ sizeLine; decide), fun p hp => ?_⟩
  have s4 := same_new (o := .lst [v, w]) hp
  exact q _ _ (s2.trans (s3.trans s4)) ⟨p, v, w, rfl, ⟨upd_same, ((d.same s2).same s3).not_mem hp⟩, a.mono (Fr.same (s3.trans s4)) hv, b.mono (Fr.same s4) hw⟩
theorem ev_ixL_ {R : Rl γ} {i : Int} {ra : Option α} {g : α → γ} (ha : Ev S T ta σ H (of a S) ra) (h : ∀ x H v, a.rp S H v x → ∃ p vs u, v = .ref p ∧ SqL K H p vs ∧ atI vs i = some u ∧ R.r H H u (g x)) :
    Ev S T (tOp (rIxL K) ta (tC (.int i))) σ H R (bd ra fun x => some (g x)) := by
  intro z e H1 f1 d Q q
  obtain ⟨x, ex, e⟩ := bd_some e
  cases e
  refine ha x ex H1 f1 d _ fun v H2 s2 hv => ?_
  obtain ⟨p, vs, u, rfl, hp, hu, hz⟩ := h x H2 v hv
  exact ⟨p, vs, i, u, rfl, rfl, hp, hu, q u H2 s2 (R.same s2 hz)⟩
theorem ev_ixL20 {ra : Option (α × β)} (ha : Ev S T ta σ H (of (tL2 a b) S) ra) : Ev S T (tOp (rIxL K) ta (tC (.int 0))) σ H (of a S) (bd ra fun x => some x.1) :=
  ev_ixL_ ha fun x H v ⟨p, u, w, e, h, h1, h2⟩ => ⟨p, _, u, e, h.sq, rfl, h1⟩
theorem ev_ixL21 {ra : Option (α × β)} (ha : Ev S T ta σ H (of (tL2 a b) S) ra) : Ev S T (tOp (rIxL K) ta (tC (.int 1))) σ H (of b S) (bd ra fun x => some x.2) :=
  ev_ixL_ ha fun x H v ⟨p, u, w, e, h, h1, h2⟩ => ⟨p, _, w, e, h.sq, rfl, h2⟩
def dL2 {a : Ty K α} {b : Ty K β} (d : TyD a) (e : TyD b) : TyD (tL2 a b) := ⟨fun x => .list [d.dt x.1, e.dt x.2], max d.dep e.dep + 1, fun ⟨p, u, w, z, hp, h1, h2⟩ => by subst z; exact .lst hp.sq (.cons (d.dp h1) (.cons (e.dp h2) .nil)),
  fun {S H v x} ⟨p, u, w, z, hp, h1, h2⟩ => by
    show (PyData.canLay0 (d.dt x.1) && (PyData.canLay0 (e.dt x.2) && true)) = true
    rw [d.shp h1, e.shp h2]
    rfl,
  fun x => by
    show max (PyData.depth (d.dt x.1)) (max (PyData.depth (e.dt x.2)) 0) + 1 ≤ _
    have h1 := d.hd x.1
    have h2 := e.hd x.2
    omega,
  fun x y => by
    show (PyData.eqv (d.dt x.1) (d.dt y.1) && (PyData.eqv (e.dt x.2) (e.dt y.2) && true)) = true ↔ _
    rw [Bool.and_true, Bool.and_eq_true, d.eqv, e.eqv]
    exact ⟨fun h => Prod.ext h.1 h.2, fun h => by subst h; exact ⟨rfl, rfl⟩⟩⟩
/-! ### // and % -/
theorem od_fdiv : OpD (K := K) tInt tInt S (of (K := K) tInt S) (rI CDivZ fun i j => .int (i.fdiv j)) fdiv? := od_I (p := fun _ j => fdivP j) (fun i j h => show j ≠ 0 ∧ j.natAbs.log2 < 9000 from of_decide_eq_true h) fun _ _ _ => rfl
def fmod? (i j : Int) : Option Int := if decide (j ≠ 0) then some (i.fmod j) else none
theorem od_fmod : OpD (K := K) tInt tInt S (of (K := K) tInt S) (rI (fun _ j => j ≠ 0) fun i j => .int (i.fmod j)) fmod? := od_I (p := fun _ j => decide (j ≠ 0)) (fun i j h => of_decide_eq_true h) fun _ _ _ => rfl
/-! ### is not True -/
theorem od_isB : OpD (K := K) tBool tBool S (of (K := K) tBool S) rIsB (fun i j => some (decide (i = j))) := by
  intro x y z e H1 v w d hv hw Q q
  cases e; cases hv; cases hw
  exact ⟨x, y, rfl, rfl, q _ H1 (Same.refl _) rfl⟩
theorem od_notB : OpD (K := K) tBool tBool S (of (K := K) tBool S) rNotB (fun i j => some (!decide (i = j))) := by
  intro x y z e H1 v w d hv hw Q q
  cases e; cases hv; cases hw
  exact ⟨x, y, rfl, rfl, q _ H1 (Same.refl _) rfl⟩
/-! ### a test over fewer owned lists -/
theorem eb_shr {S' : AS} {r : Option Bool} (hs : Sub S' S) (h : EvB S' T tt σ H r) : EvB S T tt σ H r := fun x ex H1 f d Q q => h x ex H1 f (d.sub hs) Q q
/-! ### [te for x, y in zip(xs, ys)] -/
theorem ev_lcZ {tl tm : TE} {j j2 : Nat} {ws : List Nat} {r : Option (List α)} {r' : Option (List β)} {f : α × β → Option γ} (h : Ev S T tl σ H (of (tL a) S) r) (h' : Ev S T tm σ H (of (tL b) S) r') (hw : ∀ x y, wipe (((wipe σ ws).set j (some x)).set j2 (some y)) ws = wipe σ ws)
    (he : ∀ (x : α × β) (v w : V) (H2 H' : Hp) (p : Addr), Fr T H H2 → H2 p = none → Same H2 H' → a.rp (p :: S) H' v x.1 → b.rp (p :: S) H' w x.2 → Ev (p :: S) [] te (((wipe σ ws).set j (some v)).set j2 (some w)) H' (of c (p :: S)) (f x)) :
    Ev S T (tLc (iZip K (tCons tl (tCons tm tNil))) (gTup K 2 (gCons (gName j) (gCons (gName j2) gNil))) tYes te ws) σ H (nw c S) (bd r fun xs => bd r' fun ys => mapL? f (xs.zip ys)) := by
  intro z e H1 f1 d Q q
  obtain ⟨xs, ex, e⟩ := bd_some e
  obtain ⟨ys, ey, e⟩ := bd_some e
  unfold mapL? at e
  split at e
  rotate_left
  · cases e
  rename_i hlen
  refine h xs ex H1 f1 d _ fun v H2 s2 ⟨p, vs, ev, hp, ha⟩ => h' ys ey H2 (f1.trans (Fr.same s2)) (d.same s2) _ fun v' H3 s3 ⟨p', vs', ev', hp', ha'⟩ => ?_
  subst ev
  subst ev'
  have hp := hp.mono (Fr.same s3)
  have ha := ha.imp fun _ _ => a.mono (Fr.same s3)
  have la := ha.len
  have la' := ha'.len
  refine ⟨p, p', vs, vs', rfl, hp.sq, hp'.sq, fun Dl hD => ?_⟩
  have d3 := (d.same s2).same s3
  have sD : Same H3 (upd H3 Dl (.lst [])) := same_new hD
  refine ⟨fun i m H' => m = (xs.zip ys).length - i ∧ i ≤ (xs.zip ys).length ∧ ∃ acc pre, H' Dl = some (.lst acc) ∧ Same H3 H' ∧ acc.length ≤ i ∧ All2 (c.rp (Dl :: S) H') acc pre ∧ ∃ suf, mapO f ((xs.zip ys).drop i) = some suf ∧ z = pre ++ suf, ⟨_, rfl, Nat.zero_le _, [], [], upd_same, sD, Nat.zero_le _, .nil, z, e, rfl⟩, ?_⟩
  rintro i m H' ⟨rfl, hi, acc, pre, h1, h2, h3, h4, suf, h5, h6⟩
  by_cases k : i < (xs.zip ys).length
  · right
    have k' := k
    rw [List.length_zip] at k'
    rw [List.drop_eq_getElem_cons k] at h5
    obtain ⟨o, ho, h5⟩ := bd_some h5
    obtain ⟨suf', hs', h5⟩ := bd_some h5
    cases h5
    obtain ⟨u, hu, ru⟩ := ha.get i (List.getElem?_eq_getElem (show i < xs.length by omega))
    obtain ⟨u', hu', ru'⟩ := ha'.get i (List.getElem?_eq_getElem (show i < ys.length by omega))
    have q1 : SqL K H' p vs := (hp.mono (Fr.same h2)).sq
    have q2 : SqL K H' p' vs' := (hp'.mono (Fr.same h2)).sq
    refine ⟨⟨vs, vs', u, u', q1, q2, hu, hu'⟩, fun H4 => ∃ acc pre, H4 Dl = some (.lst acc) ∧ Same H3 H4 ∧ acc.length ≤ i + 1 ∧ All2 (c.rp (Dl :: S) H4) acc pre ∧ ∃ suf, mapO f ((xs.zip ys).drop (i + 1)) = some suf ∧ z = pre ++ suf, ?_, ?_⟩
    · rintro H4 ⟨acc, pre, g1, g2, g3, g4, suf, g5, g6⟩
      exact ⟨(xs.zip ys).length - (i + 1), by omega, rfl, by omega, acc, pre, g1, g2, g3, g4, suf, g5, g6⟩
    · intro v H4 hy
      obtain ⟨T', x', y', rfl, hT, rfl, e1, e2⟩ := hy
      have := e1 vs q1
      rw [hu] at this
      cases this
      have := e2 vs' q2
      rw [hu'] at this
      cases this
      have sT : Same H' (upd H' T' (.tup [u, u'])) := same_new hT
      refine ⟨T', [u, u'], rfl, .inl (.inl upd_same), rfl, u, _, rfl, u', _, rfl, rfl, hw _ _, G.yes_ ?_⟩
      have hs4 := h2.trans sT
      have gz : (xs.zip ys)[i] = (xs[i]'(by omega), ys[i]'(by omega)) := by rw [List.getElem_zip]
      refine he (xs.zip ys)[i] u u' H3 _ Dl (f1.trans (Fr.same (s2.trans s3))) hD hs4 (by rw [gz]; exact a.mono (Fr.same hs4) (a.ext hD ru)) (by rw [gz]; exact b.mono (Fr.same hs4) (b.ext hD ru')) o ho _ (Fr.refl _) ((d3.same hs4).cons (sT _ _ h1)) _ fun w H5 s5 hw5 => ?_
      have s6 := sT.trans s5
      refine ⟨acc, s6 _ _ h1, Nat.lt_of_lt_of_le (by omega : acc.length < 100000) (by decide), acc ++ [w], pre ++ [o], upd_same, fun p ob eb => ?_, by simp; omega, ?_, suf', hs', by rw [h6]; simp⟩
      · rw [upd_ne (ne_of_none eb hD)]
        exact s6 _ _ (h2 _ _ eb)
      · have fD : Fr (Dl :: S) H5 (upd H5 Dl (.lst (acc ++ [w]))) := fr_upd (List.mem_cons_self ..)
        exact ((h4.imp fun _ _ h => c.mono (Fr.same s6) h).snoc hw5).imp fun _ _ h => c.mono fD h
  · left
    rw [List.drop_eq_nil_of_le (by omega)] at h5
    cases h5
    rw [List.append_nil] at h6
    subst h6
    refine ⟨⟨vs, vs', (hp.mono (Fr.same h2)).sq, (hp'.mono (Fr.same h2)).sq, ?_⟩, q _ _ ((s2.trans s3).trans h2) ⟨Dl, rfl, (s2.trans s3).free hD, acc, h1, h4⟩⟩
    rw [List.length_zip] at k
    omega
end
end M

namespace M
open PySem L2 G
section
variable {K : PySem.W.Frag} {α β γ δ ε ρ : Type} {S T : AS} {σ : St} {H : Hp} {b c : Addr} {ta tb te : TE} {tt tu : TT} {a : Ty K α} {b' : Ty K β} {c' : Ty K γ} {D : Ends} {u : TS}
/-! ### a list that was made behind the heap Hs: it may be owned later -/
theorem Own.sub2 {p : Addr} {xs : List α} {S' : AS} (o : Own a S H p xs) (h : ∀ q ∈ S', q ∈ S) : Own a S' H p xs := by
  obtain ⟨vs, hv, ha⟩ := o
  exact ⟨vs, hv, ha.imp fun _ _ => a.sub h⟩
def tFL (Hs : Hp) (a : Ty K α) : Ty K (List α) where
  rp S H v xs := ∃ p, v = .ref p ∧ Hs p = none ∧ p ∉ S ∧ Own a (p :: S) H p xs
  mono {S H H' v x} f := fun ⟨p, e, n, ns, vs, hv, ha⟩ => ⟨p, e, n, ns, vs, f _ _ hv ns, ha.imp fun _ _ => a.mono (Fr.sub (fun q m => List.mem_cons_of_mem _ m) f)⟩
  ext {S H q v x} hq := fun ⟨p, e, n, ns, vs, hv, ha⟩ => ⟨p, e, n, not_cons hq (by rw [hv]; intro z; cases z) ns, vs, hv, ha.imp fun _ _ h => a.sub (fun r m => by simp only [List.mem_cons] at m ⊢; grind) (a.ext hq h)⟩
  sub {S S' H v x} hs := fun ⟨p, e, n, ns, vs, hv, ha⟩ => ⟨p, e, n, fun m => ns (hs _ m), vs, hv, ha.imp fun _ _ => a.sub fun r m => by
    rcases List.mem_cons.mp m with e | m
    · rw [e]; exact List.mem_cons_self ..
    · exact List.mem_cons_of_mem _ (hs _ m)⟩
theorem ev_FL {Hs : Hp} {r : Option (List α)} (ts : Sub T S) (fs : Fr T Hs H) (h : Ev S T te σ H (nw a S) r) : Ev S T te σ H (of (tFL Hs a) S) r := by
  intro x ex H1 f d Q q
  exact h x ex H1 f d Q fun v H2 s ⟨p, e, n, o⟩ => q v H2 s ⟨p, e, fr_back (fs.trans f) (d.sub ts) n, d.not_mem n, o⟩
theorem ew_FL {Hs : Hp} {w : Wp (List α)} (fs : Fr [b, c] Hs H) (h : EvW b c S te σ H (nw a S) w) : EvW b c S te σ H (of (tFL Hs a) S) w := fun ts P hP H1 f d hB Q q =>
  h ts P hP H1 f d hB Q fun v H2 x hx f2 d2 hB2 ⟨p, e, n, o⟩ => q v H2 x hx f2 d2 hB2 ⟨p, e, fr_back (fs.trans f) hB.dom n, d.not_mem n, o⟩
theorem ev_FL2L {Hs : Hp} {r : Option (List α)} (h : Ev S T te σ H (of (tFL Hs a) S) r) : Ev S T te σ H (of (tL a) S) r := by
  intro x ex H1 f d Q q
  exact h x ex H1 f d Q fun v H2 s ⟨p, e, n, ns, vs, hv, ha⟩ => q v H2 s ⟨p, vs, e, ⟨hv, ns⟩, ha.imp fun _ _ => a.sub fun r m => List.mem_cons_of_mem _ m⟩
theorem Fr.reflOf {H0 : Hp} (f : Fr T H0 H) : Fr T H H := Fr.refl _
/-! ### a value that is not None -/
theorem ev_unopt {r : Option (Option α)} (h : Ev S T te σ H (of (tOpt a) S) r) : Ev S T te σ H (of a S) (bd r fun x => x) := by
  intro y ey H1 f d Q q
  obtain ⟨x, ex, ey⟩ := bd_some ey
  exact h x ex H1 f d Q fun v H2 s hv => q v H2 s (by subst ey; exact hv.2)
/-! ### walks over what a draw tells; list(xs) of an owned list -/
theorem srw_list {tl : TE} {w : Wp (List α)} (h : EvW b c S tl σ H (of (tL a) S) w) : SrW b c S (iList K tl) σ H a w := fun ts P hP H1 f d hB R q =>
  h ts P hP H1 f d hB _ fun v H2 x hx f2 d2 hB2 ⟨p, vs, ev, hp, ha⟩ => ⟨p, ev, ⟨vs, hp.sq⟩, q _ H2 x hx f2 d2 hB2 (wk_list hp ha)⟩
theorem ev_listO {p : Addr} {xs : List α} {i : Nat} (o : Own a S H p xs) (nt : p ∉ T) (ts : Sub T S) (hi : σ[i]? = some (some (.ref p))) : Ev S T (tCB (fun xs H Q => ∃ p ys, xs = [.ref p] ∧ (SqL K H p ys ∨ SqT K H p ys) ∧ ∀ l, H l = none → Q (.ref l) (upd H l (.lst ys))) (tCons (tVar i) tNil)) σ H (nw a S) (some xs) := by
  intro z e H1 f1 d Q q
  cases e
  obtain ⟨vs, hv, ha⟩ := o.fr f1 ts nt
  exact ⟨_, hi, p, vs, rfl, .inl (.inl (.inl hv)), fun l hl => q _ _ (same_new hl) ⟨l, rfl, hl, vs, upd_same, ha.imp fun _ _ h => a.mono (Fr.same (same_new hl)) (a.ext hl h)⟩⟩
/-! ### two new lists at once -/
theorem q_par0 {i j : Nat} (a : Ty K α) (b' : Ty K β) (k : ∀ v w Hm H1, Same H Hm → nwL a S H Hm v [] → Same Hm H1 → (∀ p, v = .ref p → nwL b' (p :: S) Hm H1 w []) → u D ((σ.set i (some v)).set j (some w)) H1) : tSeq (tPar i j (tCons (tLst tNil) (tCons (tLst tNil) tNil))) u D σ H :=
  ⟨Nat.zero_le _, fun p hp => ⟨Nat.zero_le _, fun q hq => ⟨.ref p, .ref q, rfl, k _ _ _ _ (same_new hp) ⟨p, rfl, hp, [], upd_same, .nil⟩ (same_new hq) fun p' e => ⟨q, rfl, hq, [], upd_same, .nil⟩⟩⟩⟩
theorem ev_lenT2 {r : Option (α × β)} (h : Ev S T te σ H (of (tT2 a b') S) r) : Ev S T (tCB (fun xs H Q => ∃ p ys, xs = [.ref p] ∧ (SqL K H p ys ∨ SqT K H p ys) ∧ Q (.int ys.length) H) (tCons te tNil)) σ H (of (K := K) tInt S) (bd r fun _ => some (2 : Int)) := by
  intro z e H1 f1 d Q q
  obtain ⟨x, ex, e⟩ := bd_some e
  cases e
  refine h x ex H1 f1 d _ fun v H2 s hv => ?_
  obtain ⟨p, u, w, rfl, hp, _, _⟩ := hv
  exact ⟨p, _, rfl, .inr hp.sq, q _ H2 s rfl⟩
end
end M

namespace PySem
namespace SupX
open PySem.W PySem.Calls PyProof.Rows PySem.HandSPX
def sS (f : Str) : Scope := { kind := .function, names := [(PySem.Str.ofString "self", .local), (f, .local), (PySem.Str.ofString "__class__", .free), (PySem.Str.ofString "super", .globalImplicit)], isGenerator := false, isCoroutine := false, more := [] }
/-- the body: super().__init__(msg); self.f = f -/
def sB (f : Str) (ws : List Expr) (pj p0 p1 p2 p3 p4 q1 q2 q3 q4 : Pos) : List Stmt :=
  [.Expr (.Call (.Attribute (.Call (.Name "super" p0) [] [] p1) "__init__" p2) [.JoinedStr ws pj] [] p3) p4, .Assign [.Attribute (.Name "self" q1) f q2] (.Name f q3) q4]
structure SupTxt (prog : Program) (K : Frag) (mg : Str → Option Value) (B newId i : String) (bmB : List Value) (C fI : Addr) (f : Str) (qual : Str) (params : Arguments) (ws : List Expr) : Prop where
  FB : ExcBaseFacts B newId i bmB
  KF : KxsFacts B i
  SF : StoreFacts B bmB "object.__setattr__" "object"
  ini : excInitIn K C bmB newId = true
  over : excOver K C bmB = true
  sa : findIn K (.ref C) "__setattr__" = some (some (.builtin "object.__setattr__"))
  tk : takerIn K C f = some none
  hd : hasDictIn K C = true
  iC : findIn K (.ref C) "__init__" = some (some (.ref fI))
  tC : typeIn K (.ref fI) = some (.type "function")
  sub : subIn K (.ref C) (.type B) = some true
  mro : mroIn K C (.ref C) = some true
  sup : ks_superIn K C C "__init__" = some (some (.builtin i))
  opq : nsIn K cStatics "thirdparty.any" = some none
  nos : mg "super" = none
  top : (prog.main.scope.names.lookup ("super" : Str)).isSome = false
  hd1 : (params.posonlyargs ++ params.args).head?.map (·.arg) = some "self"
  dbg : (f == ("__debug__" : Str)) = false
  nself : f ≠ "self"
  ncls : f ≠ "__class__"
  nsup : f ≠ "super"
  fn : ∃ (oc : Value) (od : Option Addr) (doc pm : Value) (an : Option Addr) (cda : Addr) (ct : Value) (osl : Array (Option Value)) (cc : Addr) (cl : Value) (cld : Option Addr) (csl : Array (Option Value)) (ccl : Value) (cdd : Option Addr) (vs : Array Value) (ccs : Array (Option Value)) (file : Str) (tf : Tok) (pj p0 p1 p2 p3 p4 q1 q2 q3 q4 : Pos),
    K.lookup fI = some ⟨oc, od, .func (ksFn "__init__" qual params (sB f ws pj p0 p1 p2 p3 p4 q1 q2 q3 q4) (sS f) .none .none doc pm an (.ref cda) ct cc), osl⟩ ∧ codeIn K (.ref cda) qual = true ∧
    K.lookup cc = some ⟨cl, cld, .cell (some (.ref C)), csl⟩ ∧ K.lookup cda = some ⟨ccl, cdd, .fields vs, ccs⟩ ∧ vs[2]? = some (.str file tf) ∧ ((prog.main.file : Str) == file) = true ∧
    (p2.endLine == p3.line) = true ∧ ∀ (s : Shared) (x v : Value), BindsTo s (ksFn "__init__" qual params (sB f ws pj p0 p1 p2 p3 p4 q1 q2 q3 q4) (sS f) .none .none doc pm an (.ref cda) ct cc) ⟨[x, v], []⟩ [("self", x), (f, v)]
/-- the message is told, and nothing else is done -/
def Tells (prog : Program) (w : World) (ws : List Expr) (f : Str) (qual : Str) (v : Value) : Prop :=
  ∀ (A : Around) (E : Value → Shared → Prop) (s : Shared) (pj : Pos) (L a : Addr) (cd : Value) (cc : Addr) (m : Str → Option Value) (Q : Value → Shared → Prop), s.heap.Ns L m → m f = some v → (∀ y tk tk', Q (.str y tk) { s with toks := tk' }) →
    wpAny (model prog w) A (eval (.JoinedStr ws pj) (ksEnv qual (sS f) L a cd cc)) Q E s
structure Made (h h' : Heap) (e C d : Addr) (f : Str) (v : Value) : Prop where
  keep : ∀ b o, h.get? b = some o → h'.get? b = some o
  new : h.objs.size ≤ e
  obj : ∃ oe vs, h'.get? e = some oe ∧ oe.cls = .ref C ∧ oe.dict = some d ∧ oe.data = .fields vs ∧ vs[1]? = some .none
  dbig : h.objs.size ≤ d
  dne : d ≠ e
  ns : h'.Ns1 d (fun y => if y = f then some v else none)
theorem one_size (v : Value) : [v].length ≤ sizeLine := by
  rw [sizeLine_eq]
  exact (by decide : 1 ≤ 16777216)
theorem ns1_one {h : Heap} {d : Addr} {f : Str} {v : Value} {hsh : Int} {tk : Tok} {n : Nat} (e : h.get? d = some (dictOf [⟨hsh, .str f tk, v⟩] n)) : h.Ns1 d (fun y => if y = f then some v else none) := by
  refine ⟨_, _, _, e, rfl, ?_, ?_, fun y => ?_⟩
  · intro b hb
    simp at hb
    subst hb
    exact ⟨_, _, rfl⟩
  · unfold UniqKeys
    simp
  · by_cases hy : y = f
    · subst hy
      simp [nsFind, findBy, Value.isStr]
    · have : ¬ f = y := fun z => hy z.symm
      simp [nsFind, findBy, Value.isStr, hy, this]
section
variable {prog : Program} {w : World} {A : Around} {E : Value → Shared → Prop} {R : Result → Shared → Prop} {s : Shared} {K : Frag} {mg : Str → Option Value} {B newId i : String} {bmB : List Value} {C fI : Addr} {f qual : Str} {params : Arguments} {ws : List Expr}
theorem cls_at {D : Addr} {cd : ClassData} {g : Heap} (X : K.In g) (e : clsIn K D = some cd) : ∃ o, g.get? D = some o ∧ o.data = .cls cd := by
  unfold clsIn at e
  split at e
  case h_1 c d cd' sl z => exact ⟨⟨c, d, .cls cd', sl⟩, X _ _ z, by cases e; rfl⟩
  case h_2 => cases e
theorem inst_no {x : Addr} {ox : Obj} {odx : Option Obj} {g : Heap} (I : InstAt g x ox C odx) (c : ClassData) : ox.data ≠ .cls c := fun e => by
  have no := I.no
  simp [notCls, e] at no
/-- what super() looks at: the def's own file, its cell of the class, its first parameter -/
structure SupAt (prog : Program) (K : Frag) (mg m : Str → Option Value) (sc : Scope) (fd : FuncData) (fu cda cc C D x : Addr) : Prop where
  fn : ∃ c d sl, K.lookup fu = some ⟨c, d, .func fd, sl⟩
  first : ∃ ar, (fd.params.posonlyargs ++ fd.params.args).head? = some ar ∧ m ar.arg = some (.ref x) ∧ sc.names.lookup ar.arg = some .local
  code : ∃ c d vs sl file tf, K.lookup cda = some ⟨c, d, .fields vs, sl⟩ ∧ vs[2]? = some (.str file tf) ∧ ((prog.main.file : Str) == file) = true
  cell : ∃ c d sl, K.lookup cc = some ⟨c, d, .cell (some (.ref D)), sl⟩
  cls : ∃ cd, clsIn K D = some cd
  below : mroIn K C (.ref D) = some true
  nos : mg "super" = none
  names : sc.names.lookup ("super" : Str) = some .globalImplicit ∧ sc.names.lookup ("__class__" : Str) = some .free
  kind : sc.kind = .function
  top : (prog.main.scope.names.lookup ("super" : Str)).isSome = false
theorem sup_node {sc : Scope} {base h₀ : Heap} {L : Addr} {m : Str → Option Value} {news : List (Addr × Obj)} {body : List Stmt} {q : Str} {p0 p1 : Pos} {attr : Str} {whole : Sem Value} {fd : FuncData} {Q : Value → Shared → Prop} {x D fu cc cda : Addr} {ox : Obj} {odx : Option Obj}
    (F : Fr h₀ L s.heap m) (Mb : L2.Mod K mg base) (kb : ∀ b o, base.get? b = some o → h₀.get? b = some o) (N : News h₀ L s.heap news) (S : SupAt prog K mg m sc fd fu cda cc C D x) (I : InstAt s.heap x ox C odx) (hat : (attr == ("__class__" : Str)) = false)
    (h : ∀ so g, Fr h₀ L g m → News h₀ L g ((so, ks_superObj D x C) :: news) → (∀ p ∈ news, p.1 < so) → Q (.ref so) { s with heap := g }) :
    _root_.PySem.wpAt (model prog w) A (.func body (ksEnv q sc L fu (.ref cda) cc)) (attributeBase (.Call (.Name "super" p0) [] [] p1) attr (ksEnv q sc L fu (.ref cda) cc) whole) Q E s := by
  have all : ∀ b o, base.get? b = some o → s.heap.get? b = some o := fun b o e => F.keep b o (kb b o e)
  have X : K.In s.heap := (Mb.kin.keeps kb).keeps F.keep
  obtain ⟨⟨_, _, _, e1⟩, ⟨ar, e2, e3, e4⟩, ⟨_, _, _, _, _, _, e5, e6, e7⟩, ⟨_, _, _, e8⟩, ⟨cd, e9⟩, sub, nos, ⟨ns, nc⟩, kd, tp⟩ := S
  have ⟨mb, hmb, std⟩ := Mb.blt
  have sup : mb "super" = some (.type "super") := (std _ (by decide +kernel)).trans (by kernel_rfl)
  have ⟨oD, d1, d2⟩ := cls_at X e9
  obtain ⟨hp, gs, dr, tk, os⟩ := s
  apply ks_wpAt_super_base (env := ksEnv q sc L fu (.ref cda) cc) ns nc hat rfl (X _ _ e1) rfl e2 rfl (X _ _ e5) rfl e6 e7 tp
  refine ks_loadName_global kd ns (loadGlobal_builtin (env := ksEnv q sc L fu (.ref cda) cc) (Mb.glob.keeps all) nos (hmb.keeps all) sup ⟨rfl, ?_⟩)
  refine wpAny_loadName_free kd nc rfl ⟨_, X _ _ e8, rfl⟩ (wpAny_loadName_local kd e4 F.ns e3 ?_)
  refine ks_wpAny_isType_cls d1 d2 ⟨rfl, ?_⟩
  apply ks_wpAny_call_super d1 d2 I.at_ I.cls (fun c => inst_no I c) (looks_mroIn X sub)
  intro g e k
  have ⟨F', N', l'⟩ := ks_newsPush (s := ⟨hp, gs, dr, tk, os⟩) F N rfl e k
  exact h _ g F' N' l'
theorem spl_one {M : Model} {pos : Pos} {env : Env} {e : Expr} {Q : List Value → Shared → Prop} (h : wpAny M A (eval e env) (fun v s' => Q [v] s') E s) (he : starEach [e] env = [(false, eval e env)] := by rfl) : wpAny M A (spliced (backTo pos (starEach [e] env))) Q E s := by
  rw [he]
  show wpAny M A (spliced ((false, eval e env) :: backTo pos [])) Q E s
  refine Calls.spliced_cons (wpAny_mono h (fun v s₁ h₁ => ?_) fun _ _ z => z)
  exact wpAny_pure h₁
theorem sup_init {base : Heap} (T : SupTxt prog K mg B newId i bmB C fI f qual params ws) {x t0 : Addr} {v : Value} (hT : Tells prog w ws f qual v) (hp : Heap) (Mb : L2.Mod K mg base) (kb : ∀ b o, base.get? b = some o → hp.get? b = some o)
    (k0 : ∀ b o, hp.get? b = some o → s.heap.get? b = some o) (hz : hp.objs.size ≤ s.heap.objs.size) (hx : s.heap.get? x = some (excO C t0)) (hx0 : hp.get? x = none) (hroom : A.depth < recursionLimit)
    (hq : ∀ h' tk dx t1, (∀ b o, hp.get? b = some o → h'.get? b = some o) → h'.get? x = some (excObj C t1 (some dx) .none) → x < dx → h'.Ns1 dx (fun y => if y = f then some v else none) → R (.ok (.ret .none)) { s with heap := h', toks := tk }) :
    codeAny (model prog w) A (.call (.ref fI) ⟨[.ref x, v], []⟩) R s := by
  obtain ⟨oc, od, doc, pm, an, cda, ct, osl, cc, cl, cld, csl, ccl, cdd, vs, ccs, file, tf, pj, p0, p1, p2, p3, p4, q1, q2, q3, q4, ho, hcd, hcc, hcda, hvs, hfile, hl, hb⟩ := T.fn
  have X₀ : K.In hp := Mb.kin.keeps kb
  have Xs : K.In s.heap := X₀.keeps k0
  refine ks_codeAny_call_defAt (fd := ksFn "__init__" qual params (sB f ws pj p0 p1 p2 p3 p4 q1 q2 q3 q4) (sS f) .none .none doc pm an (.ref cda) ct cc) (body := sB f ws pj p0 p1 p2 p3 p4 q1 q2 q3 q4) (binds := [("self", .ref x), (f, v)]) hroom (Xs _ _ ho) rfl
    ((Mb.nolimit.keeps kb).keeps k0) (codeRec_of Xs hcd) rfl (hb s (.ref x) v) ?_ ?_ (fun h₁ hns hk₁ => ?_) rfl rfl rfl
  · intro y hy
    simp only [sS, List.mem_cons, List.not_mem_nil, or_false] at hy
    rcases hy with rfl | rfl | rfl | rfl <;> exact fun z => by cases z
  · intro y hy
    simp only [List.mem_cons, List.not_mem_nil, or_false] at hy
    rcases hy with rfl | rfl
    · rfl
    · have e : (f == ("self" : Str)) = false := by simpa using T.nself
      show List.lookup f [(("self" : Str), NameKind.local), (f, .local), ("__class__", .free), ("super", .globalImplicit)] = some .local
      simp [List.lookup, e]
  have FR : Fr hp s.heap.objs.size h₁ _ := ⟨hns, fun b o e => hk₁ b o (k0 b o e), hz⟩
  have N0 : News hp s.heap.objs.size h₁ [(x, excObj C t0 none .none)] := fun p hp' => by
    simp only [List.mem_cons, List.not_mem_nil, or_false] at hp'
    subst hp'
    exact ⟨hk₁ _ _ hx, Nat.ne_of_lt (Heap.lt_size hx), hx0⟩
  have ms : (fun y => List.lookup y ([("self", Value.ref x), (f, v)] : List (Str × Value)).reverse) "self" = some (.ref x) := by
    have e : (("self" : Str) == f) = false := by simpa using fun z => T.nself z.symm
    simp [List.lookup, e]
  have mf : (fun y => List.lookup y ([("self", Value.ref x), (f, v)] : List (Str × Value)).reverse) f = some v := by
    simp [List.lookup]
  revert ms mf FR
  generalize (fun y => List.lookup y ([("self", Value.ref x), (f, v)] : List (Str × Value)).reverse) = m
  intro FR ms mf
  obtain ⟨ar, har, hara⟩ : ∃ ar, (params.posonlyargs ++ params.args).head? = some ar ∧ ar.arg = "self" := by
    have := T.hd1
    cases z : (params.posonlyargs ++ params.args).head? with
    | none => rw [z] at this; cases this
    | some ar => rw [z] at this; exact ⟨ar, rfl, Option.some.inj this⟩
  obtain ⟨cdD, hD⟩ : ∃ cd, clsIn K C = some cd := by
    have := T.sup
    unfold ks_superIn at this
    cases z : clsIn K C with
    | none => rw [z] at this; cases this
    | some cd => exact ⟨cd, rfl⟩
  generalize s.heap.objs.size = L at *
  have hed : callEnv (ksFn "__init__" qual params (sB f ws pj p0 p1 p2 p3 p4 q1 q2 q3 q4) (sS f) .none .none doc pm an (.ref cda) ct cc) L fI = ksEnv qual (sS f) L fI (.ref cda) cc := rfl
  rw [hed]
  have lc : (sS f).names.lookup ("__class__" : Str) = some .free := by
    have e : (("__class__" : Str) == f) = false := by simpa using fun z => T.ncls z.symm
    show List.lookup ("__class__" : Str) [(("self" : Str), NameKind.local), (f, .local), ("__class__", .free), ("super", .globalImplicit)] = some .free
    rw [List.lookup_cons, show (("__class__" : Str) == "self") = false by decide]
    simp only [List.lookup_cons, e]
    rfl
  have lp : (sS f).names.lookup ("super" : Str) = some .globalImplicit := by
    have e : (("super" : Str) == f) = false := by simpa using fun z => T.nsup z.symm
    show List.lookup ("super" : Str) [(("self" : Str), NameKind.local), (f, .local), ("__class__", .free), ("super", .globalImplicit)] = some .globalImplicit
    rw [List.lookup_cons, show (("super" : Str) == "self") = false by decide]
    simp only [List.lookup_cons, e]
    rfl
  have lf : (sS f).names.lookup f = some .local := by
    have e : (f == ("self" : Str)) = false := by simpa using T.nself
    show List.lookup f [(("self" : Str), NameKind.local), (f, .local), ("__class__", .free), ("super", .globalImplicit)] = some .local
    simp [List.lookup, e]
  have X1 : ∀ {h : Heap}, Fr hp L h m → K.In h := fun F => X₀.keeps F.keep
  refine ks_wpAt_execs_cons (ks_wpAt_Expr_any ?_ rfl rfl)
  refine ks_wpAt_MethodCall (pl := L2.plainOf (.Call (.Name "super" p0) [] [] p1) (ksEnv qual (sS f) L fI (.ref cda) cc)) ?_ ?_
  · refine sup_node (D := C) FR Mb kb N0 ⟨⟨_, _, _, ho⟩, ⟨ar, har, by rw [hara]; exact ms, by rw [hara]; rfl⟩, ⟨_, _, _, _, _, _, hcda, hvs, hfile⟩, ⟨_, _, _, hcc⟩, ⟨_, hD⟩, T.mro, T.nos, ⟨lp, lc⟩, rfl, T.top⟩ (InstAt.of_exc0 N0 (List.mem_cons_self ..)) (by decide) fun so h₂ F2 N2 l2 => ?_
    refine kxs_method T.KF F2 X₀ N2 (List.mem_cons_self ..) (InstAt.of_exc0 N2 (List.mem_cons_of_mem _ (List.mem_cons_self ..))) T.opq T.sup T.sub (by decide) fun u h₃ F3 N3 l3 => ?_
    refine kxs_callWith1 N3 (List.mem_cons_self ..) ?_ rfl rfl
    refine spl_one ?_
    refine hT _ _ _ pj L fI _ cc m _ F3.ns mf fun y tk tk' => ⟨kxs_at N3 (List.mem_cons_self ..), ?_⟩
    refine kxs_call (t := t0) (dv := none) (c2 := .none) (nw := fun o => [(u, kxs_mw i x), (so, ks_superObj C x C), (x, o)]) F3 X₀ N3 T.FB T.ini (List.mem_cons_self ..) ?_ (one_size _) fun t1 h₄ F4 N4 l4 => ?_
    · exact .tail (Nat.ne_of_gt (l3 (x, _) (List.mem_cons_of_mem _ (List.mem_cons_self ..)))) (.tail (Nat.ne_of_gt (l2 (x, _) (List.mem_cons_self ..))) (.head fun p z => by cases z))
    (try dsimp only at N4)
    have l4x : x < t1 := l4 (x, _) (List.mem_cons_of_mem _ (List.mem_cons_of_mem _ (List.mem_cons_self ..)))
    refine ks_wpAt_execs_cons (ks_wpAt_Assign_Attr (wpAt_of_wpAny ?_) rfl)
    refine wpAny_Name (wpAny_loadName_local rfl lf F4.ns mf ?_) T.dbg
    refine wpAny_Name (wpAny_loadName_local rfl rfl F4.ns ms ?_) (by decide)
    refine set_exc0 (t := t1) (c2 := .none) (nw := fun o => [(t1, excTup [.str y tk]), (u, kxs_mw i x), (so, ks_superObj C x C), (x, o)]) T.SF F4 X₀ N4 (List.mem_cons_of_mem _ (List.mem_cons_of_mem _ (List.mem_cons_of_mem _ (List.mem_cons_self ..)))) T.sa T.over T.tk T.hd rfl ?_ (by show 1 ≤ 1000; decide) fun dx h₅ F5 N5 l5 => ?_
    · exact .tail (Nat.ne_of_gt l4x) (.tail (Nat.ne_of_gt (l3 (x, _) (List.mem_cons_of_mem _ (List.mem_cons_self ..)))) (.tail (Nat.ne_of_gt (l2 (x, _) (List.mem_cons_self ..))) (.head fun p z => by cases z)))
    (try dsimp only at N5)
    have l5x : x < dx := l5 (x, _) (List.mem_cons_of_mem _ (List.mem_cons_of_mem _ (List.mem_cons_of_mem _ (List.mem_cons_self ..))))
    refine wpAt_of_wpAny (wpAny_execs_nil ?_)
    exact hq h₅ _ dx t1 F5.keep (N5 (x, _) (List.mem_cons_of_mem _ (List.mem_cons_of_mem _ (List.mem_cons_of_mem _ (List.mem_cons_of_mem _ (List.mem_cons_self ..)))))).1 l5x (ns1_one (N5 (dx, _) (List.mem_cons_self ..)).1)
  · rw [arm_eval_Call]
    refine congrArg _ (funext fun ov => congrArg _ (funext fun _ => ?_))
    rw [L2.mcall_line rfl hl]
    rfl
theorem sup_made {base : Heap} (T : SupTxt prog K mg B newId i bmB C fI f qual params ws) {v : Value} (hT : Tells prog w ws f qual v) (Mb : L2.Mod K mg base) (kb : ∀ b o, base.get? b = some o → s.heap.get? b = some o) (hroom : A.depth + 1 < recursionLimit)
    (hq : ∀ h' tk e d, Made s.heap h' e C d f v → R (.ok (.ret (.ref e))) { s with heap := h', toks := tk }) :
    codeAny (model prog w) A (.call (.ref C) ⟨[v], []⟩) R s := by
  have X : K.In s.heap := Mb.kin.keeps kb
  obtain ⟨nm, N', qn, bs, bm, hdct, sn, sub, ab, col, dd, k0, k1, k2, k3, k5, hC, hbm⟩ := excInit_of X T.ini
  obtain ⟨hp, g, dr, tk, os⟩ := s
  have k : ∀ b o, hp.get? b = some o → ((hp.push (kdv_tup [v])).push (excO C hp.objs.size)).get? b = some o := fun b o e => Heap.get?_push_of_some _ (Heap.get?_push_of_some _ e)
  have hget : ((hp.push (kdv_tup [v])).push (excO C hp.objs.size)).get? (hp.objs.size + 1) = some (excO C hp.objs.size) := by heap_get
  have hnx : hp.get? (hp.objs.size + 1) = none := by
    cases e : hp.get? (hp.objs.size + 1) with
    | none => rfl
    | some o => exact absurd (Nat.lt_of_succ_lt (Heap.lt_size e)) (Nat.lt_irrefl _)
  refine call_own T.FB hbm hC (looks_findIn X T.iC) (fun self => bind_fn X self T.tC) (one_size v) ?_
  refine sup_init (s := ⟨(hp.push (kdv_tup [v])).push (excO C hp.objs.size), g, dr, tk, os⟩) (t0 := hp.objs.size) T hT hp Mb kb k ?_ hget hnx ?_ fun h' tk' dx t1 kk hx hlt hns => ?_
  · show hp.objs.size ≤ ((hp.push (kdv_tup [v])).push (excO C hp.objs.size)).objs.size
    rw [Heap.size_push, Heap.size_push]
    omega
  · show A.depth + 1 < recursionLimit
    exact hroom
  · exact ⟨rfl, hq h' tk' (hp.objs.size + 1) dx ⟨kk, Nat.le_succ _, ⟨_, _, hx, rfl, rfl, rfl, rfl⟩, Nat.le_of_lt (Nat.lt_of_succ_lt hlt), Nat.ne_of_gt hlt, hns⟩⟩
end
end SupX
end PySem
namespace L2
open PySem PySem.Spec PyProof.Rows
theorem relO_one {v : V} {v' : Value} (n : Str) (r : RelV v v') (f : Str) : RelO (List.lookup f [(n, v)]) (if f = n then some v' else none) := by
  by_cases hw : f = n
  · subst hw
    rw [if_pos rfl]
    have q : List.lookup f [(f, v)] = some v := by simp [List.lookup]
    rw [q]
    exact r
  · rw [if_neg hw]
    have qw : (f == n) = false := by simpa using hw
    have q2 : List.lookup f [(n, v)] = none := by simp [List.lookup, qw]
    rw [q2]
    trivial
/-- C(e), an own error whose __init__ says super().__init__(f"..") and keeps e as the field f -/
def tMkSup (C : Addr) (f : Str) (ok : V → Prop) (ta : TA) : St → Hp → XK → Prop := fun σ H Q => ta σ H fun vs H1 => ∃ v, vs = [v] ∧ ok v ∧ ∀ d, H1 d = none → Q (.ref C) (some d) (upd H1 d (.xd [(f, v)]))
/-- what is read of the class beside its __init__ -/
structure SupC (K : PySem.W.Frag) (mg : Str → Option Value) (n : Str) (C : Addr) : Prop where
  gC : mg n = some (.ref C)
  kC : PySem.W.keepIn K (.ref C) = true
  exC : PySem.W.subIn K (.ref C) (.type "BaseException") = some true
  tyC : PySem.W.typeIn K (.ref C) = some (.type "type")
section
variable {X : Cx} {C fI : Addr} {B newId i : String} {bmB : List Value} {f qual n : Str} {params : Arguments} {ws : List Expr} {ok : V → Prop}
theorem pmk_sup {a : Expr} {ta : TA} {p pos : Pos} {k : Nat} (T : PySem.SupX.SupTxt X.prog X.K X.mg B newId i bmB C fI f qual params ws) (S : SupC X.K X.mg n C) (hT : ∀ v v', ok v → RelV v v' → PySem.SupX.Tells X.prog X.w ws f qual v') (hr : Room k X.A) (ha : PA X [a] ta) (hg : Gl X n)
    (hdb : (n == ("__debug__" : Str)) = false := by decide) (he : starEach (a :: []) X.env = (false, eval a X.env) :: starEach [] X.env := by rfl) (hpl : (backTo pos (starEach [] X.env)).any (·.1) = false := by rfl) :
    PMk X (.Call (.Name n p) [a] [] pos) (tMkSup C f ok ta) := by
  intro pins s σ H Q I h
  refine wpAny_Call_Name_kw (ld_glob I hg S.gC ?_ hdb)
  refine PySem.W.callWith_K (h₀ := X.base) I.ok.mod.kin S.kC (thn (ha.run pos pins s σ H _ I h) fun us s1 hh => ?_) he hpl
  obtain ⟨vs, H1, I1, r1, v, ev, okv, q1⟩ := hh
  subst ev
  refine ⟨I1.kIn, ?_⟩
  cases r1 with
  | cons rv rn =>
    rename_i v' us'
    cases rn
    show wpAny _ _ (call (.ref C) [v']) _ _ _
    have kb := I1.bk
    obtain ⟨hp, g, dr, tk, os⟩ := s1
    refine wpAny_call (PySem.SupX.sup_made T (hT v v' okv rv) I1.mod kb (by have := hr.dp; omega) fun h' tk' e d M => ?_)
    show MkP X pins σ Q (.ref e) ⟨h', g, dr, tk', os⟩
    obtain ⟨oe, fv, hoe, hc, hd, hdat, h1⟩ := M.obj
    have hns := M.ns
    obtain ⟨G', g1, g2⟩ := restrict h' fun b => decide (b ≠ e)
    have gk : ∀ b, b ≠ e → G'.get? b = h'.get? b := fun b hb => g1 b (decide_eq_true hb)
    have ge : G'.get? e = none := g2 e (by simp)
    have old : ∀ b o, hp.get? b = some o → G'.get? b = some o := fun b o q => (gk b (Nat.ne_of_lt (Nat.lt_of_lt_of_le (Heap.lt_size q) M.new))).trans (M.keep b o q)
    have ob : ObjOk X.prog X.w (upd H1 d (.xd [(f, v)])) G' d (.xd [(f, v)]) := ⟨_, hns.at (fun o q => (gk d M.dne).trans q), fun y => relO_one f rv y⟩
    have J : Inv X pins σ (upd H1 d (.xd [(f, v)])) ⟨G', g, dr, tk', os⟩ := I1.laid (t' := tk') old M.dbig ob
    refine ⟨e, oe, fv, ⟨G', g, dr, tk', os⟩, _, .ref C, some d, rfl, J, fun b o q => ?_, ge, hoe, ⟨hc, hd⟩, hdat, h1, ?_, rfl, I1.bare, raises_own S.exC S.tyC, q1 d (I1.hok.fresh M.dbig)⟩
    · by_cases hb : b = e
      · have q' : G'.get? b = some o := q
        rw [hb, ge] at q'; cases q'
      · exact (gk b hb).symm.trans q
    · rw [upd_ne (Ne.symm M.dne)]
      exact I1.hok.fresh M.new
/-- raise C(e) -/
def tRaiseSup (C : Addr) (f : Str) (ok : V → Prop) (W : WX) (ta : TA) : TS := fun _ σ H => tMkSup C f ok ta σ H fun cls d H' => W cls d σ H'
theorem ps_raiseSup {a : Expr} {ta : TA} {W : WX} {p pos pos2 : Pos} {k : Nat} (hc : X.calm = true) (T : PySem.SupX.SupTxt X.prog X.K X.mg B newId i bmB C fI f qual params ws) (S : SupC X.K X.mg n C) (hT : ∀ v v', ok v → RelV v v' → PySem.SupX.Tells X.prog X.w ws f qual v') (hr : Room k X.A) (tk : Takes X W) (ha : PA X [a] ta) (hg : Gl X n)
    (hdb : (n == ("__debug__" : Str)) = false := by decide) (he : starEach (a :: []) X.env = (false, eval a X.env) :: starEach [] X.env := by rfl) (hpl : (backTo pos (starEach [] X.env)).any (·.1) = false := by rfl) :
    PS X (.Raise (some (.Call (.Name n p) [a] [] pos)) none pos2) (tRaiseSup C f ok W ta) := ps_raise hc tk (pmk_sup T S hT hr ha hg hdb he hpl)
end
end L2
namespace PySem
namespace SupX
open PySem.W PySem.Calls PyProof.Rows PySem.HandSPX
/-- what repr tells of plain things, and how long it is at most -/
def Shows (v : Value) : Prop := (∃ x t, v = .str x t ∧ (reprText x).length ≤ 1000000) ∨ (∃ i t, v = .int i t ∧ i.natAbs.log2 < 1920) ∨ (∃ b, v = .bool b) ∨ v = .none
section
variable {prog : Program} {w : World} {A : Around} {E : Value → Shared → Prop} {s : Shared}
theorem shown_repr {v : Value} {Q : Value → Shared → Prop} (hv : Shows v) (h : ∀ y t tk, y.length ≤ 1000000 → Q (.str y t) { s with toks := tk }) : wpAny (model prog w) A (pyReprObj v) (fun r s₂ => wpAny (model prog w) A (formatField r Str.empty) Q E s₂) E s := by
  rcases hv with ⟨x, t, rfl, hx⟩ | ⟨i, t, rfl, hi⟩ | ⟨b, rfl⟩ | rfl
  · have hz : (reprText x).length ≤ sizeLine := by rw [sizeLine_eq]; omega
    exact pyReprObj_str (wpAny_formatField_str (h _ _ _ hx) (h _ _ _ hx) hz) hz
  · have hx : (Str.ofString (toString i)).length ≤ 1000000 := by
      have e := int_text_length_le (k := 1920) (by decide) hi
      rw [ofString_length]
      omega
    exact pyReprObj_int hi (wpAny_formatField_str (h _ _ _ hx) (h _ _ _ hx) (int_text_fits hi))
  · have hx : (if b = true then Str.ofString "True" else Str.ofString "False").length ≤ 1000000 := by cases b <;> decide
    exact pyReprObj_bool (wpAny_formatField_str (h _ _ _ hx) (h _ _ _ hx) (by rw [sizeLine_eq]; exact Nat.le_trans hx (by decide)))
  · have hx : (Str.ofString "None").length ≤ 1000000 := by decide
    exact pyReprObj_none (wpAny_formatField_str (h _ _ _ hx) (h _ _ _ hx) (by rw [sizeLine_eq]; exact Nat.le_trans hx (by decide)))
/-- f"pre{x!r}" -/
theorem tells_r {pre f qual : Str} {j : Nat} {p1 p2 p3 : Pos} {v : Value} (hv : Shows v) (hl : (sS f).names.lookup f = some .local) (hd : (f == ("__debug__" : Str)) = false) (hz : pre.length ≤ 1000) : Tells prog w [.Constant (.str pre) j p1, .FormattedValue (.Name f p2) 114 none p3] f qual v := by
  intro A E s pj L a cd cc m Q hn hm hq
  have e0 : Str.empty.length = 0 := rfl
  refine wpAny_JoinedStr ?_
  show wpAny _ _ _ _ _ _
  refine Calls.Constant_str ⟨pre, _, rfl, ?_, ?_⟩
  · simp only [Str.length_append, sizeLine_eq, e0]; omega
  refine wpAny_FormattedValue_repr (wpAny_Name (wpAny_loadName_local rfl hl hn hm ?_) hd)
  refine shown_repr hv fun y t tk hy => ⟨y, t, rfl, ?_, ?_⟩
  · simp only [Str.length_append, sizeLine_eq, e0]; omega
  · exact ⟨by simp only [Str.length_append, sizeLine_eq, e0]; omega, hq _ _ _⟩
/-- f"pre{x!r}post" -/
theorem tells_rp {pre post f qual : Str} {j j2 : Nat} {p1 p2 p3 p4 : Pos} {v : Value} (hv : Shows v) (hl : (sS f).names.lookup f = some .local) (hd : (f == ("__debug__" : Str)) = false) (hz : pre.length ≤ 1000) (hz2 : post.length ≤ 1000) : Tells prog w [.Constant (.str pre) j p1, .FormattedValue (.Name f p2) 114 none p3, .Constant (.str post) j2 p4] f qual v := by
  intro A E s pj L a cd cc m Q hn hm hq
  have e0 : Str.empty.length = 0 := rfl
  refine wpAny_JoinedStr ?_
  show wpAny _ _ _ _ _ _
  refine Calls.Constant_str ⟨pre, _, rfl, ?_, ?_⟩
  · simp only [Str.length_append, sizeLine_eq, e0]; omega
  refine wpAny_FormattedValue_repr (wpAny_Name (wpAny_loadName_local rfl hl hn hm ?_) hd)
  refine shown_repr hv fun y t tk hy => ⟨y, t, rfl, ?_, ?_⟩
  · simp only [Str.length_append, sizeLine_eq, e0]; omega
  refine Calls.Constant_str ⟨post, _, rfl, ?_, ?_⟩
  · simp only [Str.length_append, sizeLine_eq, e0]; omega
  · exact ⟨by simp only [Str.length_append, sizeLine_eq, e0]; omega, hq _ _ _⟩
end
end SupX
end PySem

namespace L2
open PySem PySem.Spec PyProof.Rows
section
variable {X : Cx} {CX : CXT} {pins : List (Addr × Obj)} {σ : L2.St} {H : Hp} {s : Shared} {a C dx p g : Addr} {f : Str} {n : Nat} {sp : Sp} {E : XK} {v : V} {u : Value}
/-- str(x) of an own instance -/
def rStrI (C : Addr) (sp : Sp) (E : XK) : List V → Hp → VK → Prop := fun xs H Q => ∃ a dx fs, xs = [V.ref a] ∧ H a = some (.ins C dx fs) ∧ sp [.ref a] H (fun z H' => ∃ i, z = .str i ∧ Q z H') E
theorem call_strI (hs : PySem.W.findIn X.K (.ref C) "__str__" = some (some (.ref g))) (hf : PySem.W.isFn X.K (.ref g) = true) (F : FnR X.prog X.w X.K X.mg X.base CX n g sp) (hr : Room (n + 2) X.A) (hx : Passes CX X E) : CallR X (.type "str") (rStrI C sp E) := by
  intro pins s σ H xs us Q I r h
  obtain ⟨a, dx, fs, rfl, hsl, q⟩ := h
  obtain ⟨u, rfl, ru⟩ := r.one
  cases (show u = Value.ref a from ru)
  obtain ⟨mA, J, _⟩ := ins_get I.hok hsl
  obtain ⟨od, J, _⟩ := J.look
  have hr1 : Room (n + 1) X.A.in1 := Room.in1 hr
  have hr2 := Room.in1 hr1
  refine PySem.W.kso_call hr2.units0 I.kIn J hs hf (wpAny_mono (wpAny_call (SlX.run_at (us := [.ref a]) (ws := [.ref a]) F hr2 I.env0.in1.in1 hx I (.cons rfl .nil) q)) (fun w s' z => ?_) fun _ _ x => x)
  obtain ⟨z', H', I', rz, i, ei, qz⟩ := z
  subst ei
  obtain ⟨t, e⟩ := (show ∃ t, w = Value.str i t from rz)
  cases e
  exact ⟨.str i, H', I', ⟨t, rfl⟩, qz⟩
/-- repr(x) of an own instance -/
theorem call_reprI (hs : PySem.W.findIn X.K (.ref C) "__repr__" = some (some (.ref g))) (hf : PySem.W.isFn X.K (.ref g) = true) (F : FnR X.prog X.w X.K X.mg X.base CX n g sp) (hr : Room (n + 1) X.A) (hx : Passes CX X E) : CallR X (.builtin "repr") (rStrI C sp E) := by
  intro pins s σ H xs us Q I r h
  obtain ⟨a, dx, fs, rfl, hsl, q⟩ := h
  obtain ⟨u, rfl, ru⟩ := r.one
  cases (show u = Value.ref a from ru)
  obtain ⟨mA, J, _⟩ := ins_get I.hok hsl
  obtain ⟨od, J, _⟩ := J.look
  have hr2 : Room n X.A.in1 := Room.in1 hr
  obtain ⟨m, hF⟩ := I.fr
  refine PySem.W.repr_K hr2.units0 hF I.ok.mod.kin J hs hf (wpAny_mono (wpAny_call (SlX.run_at (us := [.ref a]) (ws := [.ref a]) F hr2 I.env0.in1 hx I (.cons rfl .nil) q)) (fun w s' z => ?_) fun _ _ x => x)
  obtain ⟨z', H', I', rz, i, ei, qz⟩ := z
  subst ei
  obtain ⟨t, e⟩ := (show ∃ t, w = Value.str i t from rz)
  cases e
  exact ⟨.str i, H', I', ⟨t, rfl⟩, qz⟩
/-- x op y, x an own instance whose def for op is at g; y an instance of the same class or a number -/
def rOwnI (C : Addr) (sp : Sp) (E : XK) : R2 := fun x y H Q => ∃ a dx fs, x = .ref a ∧ H a = some (.ins C dx fs) ∧ ((∃ b dy gs, y = .ref b ∧ H b = some (.ins C dy gs)) ∨ ∃ i, y = .int i) ∧ sp [x, y] H Q E
theorem op_ownI {op : CmpOp} (hop : ∀ a b, compareOp op a b = richCompare op a b) (hs : PySem.W.findIn X.K (.ref C) (cmpInfo op).2.1 = some (some (.ref g))) (hf : PySem.W.isFn X.K (.ref g) = true) (hi : PySem.W.notFirst X.K C (.type "int") = true) (F : FnR X.prog X.w X.K X.mg X.base CX n g sp)
    (hr : Room n X.A) (hx : Passes CX X E) : OpR X (compareOp op) (rOwnI C sp E) := by
  intro pins s σ H x y v u Q I rx ry h
  obtain ⟨a, dx, fs, rfl, ha, hy, q⟩ := h
  cases (show v = Value.ref a from rx)
  obtain ⟨mA, J, _⟩ := ins_get I.hok ha
  obtain ⟨od, J, _⟩ := J.look
  obtain ⟨m, hF⟩ := I.fr
  rw [hop]
  rcases hy with ⟨b, dy, gs, rfl, hb⟩ | ⟨i, rfl⟩
  · cases (show u = Value.ref b from ry)
    obtain ⟨mB, J', _⟩ := ins_get I.hok hb
    obtain ⟨od', J', _⟩ := J'.look
    refine PySem.W.cmp_K (op := op) (tb := .ref C) hr.units0 hF I.ok.mod.kin J J'.type (by simp [PySem.W.notFirst]) hs hf ?_
    have go := run_fnR (us := [.ref a, .ref b]) (vs := [.ref a, .ref b]) F hr hx I (.cons rfl (.cons rfl .nil)) q
    exact wpAny_mono (wpAny_call go) (fun _ _ ⟨z', G, J2, rz, qz⟩ => SlX.cmpback rz ⟨z', G, J2, rz, qz⟩) fun _ _ x => x
  · obtain ⟨t, e⟩ := (show ∃ t, u = Value.int i t from ry)
    subst e
    refine PySem.W.cmp_K (op := op) (tb := .type "int") hr.units0 hF I.ok.mod.kin J (fun _ _ _ _ _ q => by first | exact wpAny_pure q | exact (typeIs_int _ _ _).here q | (show wpAny _ _ (pure _) _ _ _; exact wpAny_pure q)) hi hs hf ?_
    refine wpAny_mono (wpAny_call (run_fnR (us := [.ref a, .int i t]) (vs := [.ref a, .int i]) F hr hx I (.cons rfl (.cons ⟨t, rfl⟩ .nil)) q)) (fun w s' z => ?_) fun _ _ x => x
    obtain ⟨z', H', I', rz, qz⟩ := z
    exact SlX.cmpback rz ⟨z', H', I', rz, qz⟩
end
end L2

namespace OwY
open PySem PySem.Spec PyProof.Rows PySem.SeqAt
section
variable {M : Model} {prog : Program} {w : World} {A : Around} {E : Value → Shared → Prop} {s : Shared} {K : PySem.W.Frag} {x C f : Addr} {ox : Obj} {od : Option Obj} {b : Value}
theorem ifBound_objNe {args : List Value} {Q : Option Value → Shared → Prop} (X : K.In s.heap) (I : PySem.W.InstAt s.heap x ox C od) (hs : PySem.W.findIn K (.ref C) "__ne__" = some (some (.builtin "object.__ne__")))
    (h : wpAny M A (call (.builtin "object.__ne__") (.ref x :: args)) (fun v => Q (some v)) E s) : wpAny M A (callSpecialIfBound? (.ref x) "__ne__" args) Q E s := by
  simp only [callSpecialIfBound?, bindSpecialIfBound?]
  refine wpAny_holding (wpAny_bind (wpAny_bind (wpAny_bind (I.type.here ((PySem.W.looks_findIn X hs).here ?_)))))
  refine wpAny_bind (wpAny_askSetting (wpAny_ite ?_))
  have fin : wpAny M A (call (.builtin "object.__ne__") ([.ref x] ++ args) >>= fun v => pure (some v)) Q E s := wpAny_bind (wpAny_mono h (fun v s' h' => wpAny_pure h') fun _ _ h' => h')
  split
  · exact wpAny_bind (wpAny_of_eq (F.cmp_object.ne.bind _) (wpAny_pure (by exact fin)))
  · exact wpAny_tryCatch (wpAny_bind (wpAny_of_eq (F.cmp_object.ne.bind _) (wpAny_pure (by exact fin))))
theorem entry_ne {Q : Fin → Shared → Prop} (hu : A.units < cLine) (X : K.In s.heap) (I : PySem.W.InstAt s.heap x ox C od) (hs : PySem.W.findIn K (.ref C) "__eq__" = some (some (.ref f))) (hf : PySem.W.isFn K (.ref f) = true)
    (h : wpAny (model prog w) A (call (.ref f) [.ref x, b]) (fun v s' => ∃ k, v = .bool k ∧ Q (.done (.ret (.bool (!k)))) s') E s) : wpAny (model prog w) A (Builtin.«object.__ne__» ⟨[.ref x, b], []⟩) Q E s := by
  unfold Builtin.«object.__ne__»
  repeat (first
    | with_reducible refine wpAny_cRoomFor hu ?_
    | (refine wpAny_bind (m := callSpecialIfBound? (.ref x) (Str.ofString "__eq__") [b])
        (PySem.W.ifBound_K X I hs hf (wpAny_mono h (fun r s' hr => by
          obtain ⟨k, rfl, hq⟩ := hr
          repeat (first | exact hq | exact wpAny_pure hq | exact wpAny_truthy_bool hq | (refine wpAny_bind (m := truthy (.bool _)) (wpAny_truthy_bool ?_)) | wp_step)) fun _ _ e => e)))
    | wp_step)
theorem call_objNe {Q : Value → Shared → Prop} (hu : A.in1.units < cLine) (X : K.In s.heap) (I : PySem.W.InstAt s.heap x ox C od) (hm : PySem.W.mroIn K C (.type "object") = some true) (hs : PySem.W.findIn K (.ref C) "__eq__" = some (some (.ref f))) (hf : PySem.W.isFn K (.ref f) = true)
    (h : wpAny (model prog w) A.in1 (call (.ref f) [.ref x, b]) (fun v s' => ∃ k, v = .bool k ∧ Q (.bool (!k)) s') E s) :
    wpAny (model prog w) A (call (.builtin "object.__ne__") [.ref x, b]) Q E s :=
  wpAny_call (codeAny_call_builtin F.cmp_object.ne.plain F.cmpEntry_ne (PySem.W.check_slot F.cmpKind_ne F.cmpSplit_ne (I.type.andThen (PySem.W.looks_mroIn X hm)) (F.cmpArgs_ne _ _) (entry_ne hu X I hs hf h)))
theorem ne_K {tb : Value} {Q : Value → Shared → Prop} (hu : A.units < cLine) (hu1 : A.in1.units < cLine) (X : K.In s.heap) (I : PySem.W.InstAt s.heap x ox C od) (hb : PySem.W.Looks (model prog w) s.heap (typeOf b) tb) (hn : PySem.W.notFirst K C tb = true) (hm : PySem.W.mroIn K C (.type "object") = some true)
    (hne : PySem.W.findIn K (.ref C) "__ne__" = some (some (.builtin "object.__ne__"))) (hs : PySem.W.findIn K (.ref C) "__eq__" = some (some (.ref f))) (hf : PySem.W.isFn K (.ref f) = true)
    (h : wpAny (model prog w) A.in1 (call (.ref f) [.ref x, b]) (fun v s' => ∃ k, v = .bool k ∧ Q (.bool (!k)) s') E s) : wpAny (model prog w) A (richCompare .NotEq (.ref x) b) Q E s := by
  have asked : wpAny (model prog w) A (tryCompare (.ref x) "__ne__" b) (fun r t => ∃ v, r = some v ∧ Q v t) E s := by
    unfold tryCompare
    apply wpAny_bind
    exact ifBound_objNe X I hne (call_objNe hu1 X I hm hs hf (wpAny_mono h (fun _ _ ⟨k, e, q⟩ => ⟨k, e, wpAny_pure ⟨_, rfl, q⟩⟩) fun _ _ e => e))
  have first : ∀ {T : Option Value → Sem Value}, (∀ v, T (some v) = pure v) → wpAny (model prog w) A (tryCompare (.ref x) "__ne__" b >>= T) Q E s := fun hT =>
    wpAny_bind (wpAny_mono asked (fun _ _ ⟨v, e, q⟩ => by rw [e, hT]; exact wpAny_pure q) fun _ _ e => e)
  unfold richCompare
  simp only [oneThing_ref, cmpInfo_NotEq]
  apply wpAny_holding
  apply wpAny_bind
  apply wpAny_cRoomFor hu
  apply wpAny_bind
  apply I.type.here
  apply wpAny_bind
  apply hb.here
  split
  case isTrue q =>
    have e : PySem.W.subIn K tb (.ref C) = some false := by
      rcases Bool.or_eq_true_iff.mp hn with e | e
      · simp [beq_iff_eq.mp e] at q
      · exact beq_iff_eq.mp e
    apply wpAny_bind
    apply (PySem.W.looks_subIn X e).here
    simp only [Bool.false_eq_true, if_false]
    exact first fun _ => rfl
  case isFalse =>
    apply wpAny_bind
    apply wpAny_pure
    simp only [Bool.false_eq_true, if_false]
    exact first fun _ => rfl
end
end OwY
namespace L2
open PySem PySem.Spec PyProof.Rows
section
variable {X : Cx} {CX : CXT} {pins : List (Addr × Obj)} {σ : L2.St} {H : Hp} {s : Shared} {a C dx p g : Addr} {f : Str} {n : Nat} {sp : Sp} {E : XK} {v : V} {u : Value}
/-- x != y by an own __eq__ -/
def rNeI (C : Addr) (sp : Sp) (E : XK) : R2 := fun x y H Q => ∃ a dx fs b dy gs, x = .ref a ∧ H a = some (.ins C dx fs) ∧ y = .ref b ∧ H b = some (.ins C dy gs) ∧ sp [x, y] H (fun z H' => ∃ k, z = .bl k ∧ Q (.bl (!k)) H') E
theorem op_neI (hm : PySem.W.mroIn X.K C (.type "object") = some true) (hne : PySem.W.findIn X.K (.ref C) "__ne__" = some (some (.builtin "object.__ne__"))) (hs : PySem.W.findIn X.K (.ref C) "__eq__" = some (some (.ref g))) (hf : PySem.W.isFn X.K (.ref g) = true) (F : FnR X.prog X.w X.K X.mg X.base CX n g sp)
    (hr : Room (n + 1) X.A) (hx : Passes CX X E) : OpR X (compareOp .NotEq) (rNeI C sp E) := by
  intro pins s σ H x y v u Q I rx ry h
  obtain ⟨a, dx, fs, b, dy, gs, rfl, ha, rfl, hb, q⟩ := h
  cases (show v = Value.ref a from rx)
  cases (show u = Value.ref b from ry)
  obtain ⟨mA, J, _⟩ := ins_get I.hok ha
  obtain ⟨od, J, _⟩ := J.look
  obtain ⟨mB, J', _⟩ := ins_get I.hok hb
  obtain ⟨od', J', _⟩ := J'.look
  have hr2 : Room n X.A.in1 := Room.in1 hr
  show wpAny _ _ (richCompare .NotEq _ _) _ _ _
  refine OwY.ne_K (tb := .ref C) hr.units0 hr2.units0 I.kIn J J'.type (by simp [PySem.W.notFirst]) hm hne hs hf (wpAny_mono (wpAny_call (SlX.run_at (us := [.ref a, .ref b]) (ws := [.ref a, .ref b]) F hr2 I.env0.in1 hx I (.cons rfl (.cons rfl .nil)) q)) (fun w s' z => ?_) fun _ _ x => x)
  obtain ⟨z', H', I', rz, k, ek, qz⟩ := z
  subst ek
  cases (show w = Value.bool k from rz)
  exact ⟨k, rfl, .bl (!k), H', I', rfl, qz⟩
end
end L2

namespace M
open PySem L2 G
section
variable {K : PySem.W.Frag} {α β γ δ ε ρ : Type} {S T : AS} {σ : St} {H : Hp} {b c : Addr} {ta tb te : TE} {tt tu : TT} {a : Ty K α} {b' : Ty K β} {c' : Ty K γ} {D : Ends} {u : TS}
/-! ### one of two kinds -/
def tU (c : Ty K α) (d : Ty K β) : Ty K (α ⊕ β) where
  rp S H v x := match x with | .inl y => c.rp S H v y | .inr y => d.rp S H v y
  mono {S H H' v x} f h := by cases x with | inl y => exact c.mono f h | inr y => exact d.mono f h
  ext {S H p v x} f h := by cases x with | inl y => exact c.ext f h | inr y => exact d.ext f h
  sub {S S' H v x} f h := by cases x with | inl y => exact c.sub f h | inr y => exact d.sub f h
theorem ev_inl {r : Option α} (h : Ev S T te σ H (of a S) r) : Ev S T te σ H (of (tU a b') S) (bd r fun x => some (.inl x)) := ev_as h fun x y e H1 H2 v d hv => by cases e; exact hv
theorem ev_inr {r : Option β} (h : Ev S T te σ H (of b' S) r) : Ev S T te σ H (of (tU a b') S) (bd r fun x => some (.inr x)) := ev_as h fun x y e H1 H2 v d hv => by cases e; exact hv
def getL? : α ⊕ β → Option α
  | .inl x => some x
  | .inr _ => none
def getR? : α ⊕ β → Option β
  | .inr x => some x
  | .inl _ => none
theorem ev_getL {r : Option (α ⊕ β)} (h : Ev S T te σ H (of (tU a b') S) r) : Ev S T te σ H (of a S) (bd r getL?) := ev_as h fun x y e H1 H2 v d hv => by cases x with | inl z => cases e; exact hv | inr z => cases e
theorem ev_getR {r : Option (α ⊕ β)} (h : Ev S T te σ H (of (tU a b') S) r) : Ev S T te σ H (of b' S) (bd r getR?) := ev_as h fun x y e H1 H2 v d hv => by cases x with | inr z => cases e; exact hv | inl z => cases e
theorem all_getL {S : AS} {H : Hp} : ∀ {vs : List V} {xs : List (α ⊕ β)} {ys : List α}, All2 ((tU a b').rp S H) vs xs → mapO getL? xs = some ys → All2 (a.rp S H) vs ys
  | _, _, _, .nil, e => by cases e; exact .nil
  | _, x :: xs, ys, .cons h r, e => by
    obtain ⟨y, hy, e⟩ := bd_some e
    obtain ⟨zs, hz, e⟩ := bd_some e
    cases e
    cases x with
    | inl z => cases hy; exact .cons h (all_getL r hz)
    | inr z => cases hy
theorem ev_mapGL {r : Option (List (α ⊕ β))} (h : Ev S T te σ H (of (tL (tU a b')) S) r) : Ev S T te σ H (of (tL a) S) (bd r (mapO getL?)) := ev_as h fun x y e H1 H2 v d ⟨p, vs, ev, hp, ha⟩ => ⟨p, vs, ev, hp, all_getL ha e⟩
/-- a number or a truth -/
theorem ev_isiUB {r : Option (Int ⊕ Bool)} (h : Ev S T te σ H (of (K := K) (tU tInt tBool) S) r) : Ev S T (tCB (rIsi K) (tCons te (tCons (tC (.ty "bool")) tNil))) σ H (of (K := K) tBool S) (bd r fun x => some x.isRight) := by
  intro z e H1 f1 d Q q
  obtain ⟨x, ex, e⟩ := bd_some e
  cases e
  refine h x ex H1 f1 d _ fun v H2 s hv => ?_
  cases x with
  | inl i => cases hv; exact ⟨_, _, _, _, false, rfl, .ty _, .base (.int i), kit_ty (by decide +kernel), q _ H2 s rfl⟩
  | inr k => cases hv; exact ⟨_, _, _, _, true, rfl, .ty _, .base (.bl k), kit_ty (by decide +kernel), q _ H2 s rfl⟩
theorem ev_isiUI {r : Option (Int ⊕ Bool)} (h : Ev S T te σ H (of (K := K) (tU tInt tBool) S) r) : Ev S T (tCB (rIsi K) (tCons te (tCons (tC (.ty "int")) tNil))) σ H (of (K := K) tBool S) (bd r fun _ => some true) := by
  intro z e H1 f1 d Q q
  obtain ⟨x, ex, e⟩ := bd_some e
  cases e
  refine h x ex H1 f1 d _ fun v H2 s hv => ?_
  cases x with
  | inl i => cases hv; exact ⟨_, _, _, _, true, rfl, .ty _, .base (.int i), kit_ty (by decide +kernel), q _ H2 s rfl⟩
  | inr k => cases hv; exact ⟨_, _, _, _, true, rfl, .ty _, .base (.bl k), kit_ty (by decide +kernel), q _ H2 s rfl⟩
/-! ### texts, however they were made -/
def tTx : Ty K Str := ⟨fun _ _ v i => v = .str i, fun _ h => h, fun _ h => h, fun _ h => h⟩
theorem ev_s2x {r : Option Str} (h : Ev S T te σ H (of (K := K) tStr S) r) : Ev S T te σ H (of (K := K) tTx S) r := fun x ex H1 f d Q q => h x ex H1 f d Q fun v H2 s hv => q v H2 s hv.1
theorem ev_tx {z : Str} : Ev S T (tC (.str z)) σ H (of (K := K) tTx S) (some z) := fun x e H1 f d Q q => by cases e; exact q _ H1 (Same.refl _) rfl
theorem od_eqX : OpD (K := K) tTx tTx S (of (K := K) tBool S) rEq (fun i j => some (decide (i = j))) := by
  intro x y z e H1 v w d hv hw Q q
  cases hv; cases hw; cases e
  refine ⟨rfl, ?_⟩
  rw [show decide (V.str x = V.str y) = decide (x = y) by simp]
  exact q _ H1 (Same.refl _) rfl
def shw? (i : Int) : Option Str := if i.natAbs.log2 < 1920 then some (toString i) else none
theorem ev_strI {r : Option Int} (h : Ev S T te σ H (of (K := K) tInt S) r) : Ev S T (tCB (fun xs H Q => ∃ i, xs = [.int i] ∧ i.natAbs.log2 < 1920 ∧ Q (.str (toString i)) H) (tCons te tNil)) σ H (of (K := K) tTx S) (bd r shw?) := by
  intro z e H1 f1 d Q q
  obtain ⟨x, ex, e⟩ := bd_some e
  unfold shw? at e
  split at e
  · rename_i hx
    cases e
    refine h x ex H1 f1 d _ fun v H2 s hv => ?_
    cases hv
    exact ⟨x, rfl, hx, q _ H2 s rfl⟩
  · cases e
/-! f-strings of numbers and texts -/
theorem ev_fmtI {r : Option Int} (h : Ev S T te σ H (of (K := K) tInt S) r) : Ev S T (tFmt te) σ H (of (K := K) tTx S) (bd r shw?) := by
  intro z e H1 f1 d Q q
  obtain ⟨x, ex, e⟩ := bd_some e
  unfold shw? at e
  split at e
  · rename_i hx
    cases e
    refine h x ex H1 f1 d _ fun v H2 s hv => ?_
    cases hv
    exact .inr ⟨x, rfl, hx, q _ H2 s rfl⟩
  · cases e
def catX? (x y : Str) : Option Str := if (x ++ y).length ≤ sizeLine then some (x ++ y) else none
/-- the parts of an f-string -/
def EvJ (S T : AS) (ts : List TE) (σ : St) (H : Hp) (r : Str → Option Str) : Prop :=
  ∀ acc x, r acc = some x → ∀ H1, Fr T H H1 → Dom S H1 → ∀ Q : Str → Hp → Prop, (∀ H2, Same H1 H2 → Q x H2) → tJs ts acc σ H1 Q
theorem ej_nil : EvJ S T [] σ H some := fun acc x e H1 f d Q q => by cases e; exact q H1 (Same.refl _)
theorem ej_cons {ts : List TE} {ra : Option Str} {rr : Str → Option Str} (h : Ev S T te σ H (of (K := K) tTx S) ra) (hr : EvJ S T ts σ H rr) : EvJ S T (te :: ts) σ H (fun acc => bd ra fun y => bd (catX? acc y) rr) := by
  intro acc x e H1 f1 d Q q
  obtain ⟨y, ey, e⟩ := bd_some e
  obtain ⟨z, ez, e⟩ := bd_some e
  unfold catX? at ez
  split at ez
  · rename_i hz
    cases ez
    refine h y ey H1 f1 d _ fun v H2 s hv => ⟨y, hv, hz, ?_⟩
    exact hr _ x e H2 (f1.trans (Fr.same s)) (d.same s) Q fun H3 s3 => q H3 (s.trans s3)
  · cases ez
theorem ev_joined {ts : List TE} {rr : Str → Option Str} (h : EvJ S T ts σ H rr) : Ev S T (fun σ H Q => tJs ts Str.empty σ H fun out H1 => Q (.str out) H1) σ H (of (K := K) tTx S) (rr Str.empty) := fun x e H1 f d Q q => h _ x e H1 f d _ fun H2 s => q _ H2 s rfl
/-! ### instances of an own class by their fields -/
/-- an instance of the class at C, its fields by F -/
def tIn (C : Addr) (F : α → List (Str × V)) : Ty K α where
  rp S H v x := ∃ p dx, v = .ref p ∧ H p = some (.ins C dx (F x)) ∧ p ∉ S
  mono f := fun ⟨p, dx, e, h, n⟩ => ⟨p, dx, e, f _ _ h n, n⟩
  ext f := fun ⟨p, dx, e, h, n⟩ => ⟨p, dx, e, h, not_cons f (by rw [h]; intro z; cases z) n⟩
  sub f := fun ⟨p, dx, e, h, n⟩ => ⟨p, dx, e, h, fun m => n (f _ m)⟩
theorem ev_fld {C : Addr} {F : α → List (Str × V)} {f : Str} {r : Option α} {g : α → β} (c : Cls K C) (na : NoAttr K C f) (hf : ∀ x, ∃ v, (F x).lookup f = some v ∧ ∀ S H, b'.rp S H v (g x)) (h : Ev S T te σ H (of (tIn (K := K) C F) S) r) : Ev S T (tFld K te f) σ H (of b' S) (bd r fun x => some (g x)) := by
  intro z e H1 f1 d Q q
  obtain ⟨x, ex, e⟩ := bd_some e
  cases e
  refine h x ex H1 f1 d _ fun v H2 s ⟨p, dx, ev, hp, n⟩ => ?_
  obtain ⟨v, hv, hr⟩ := hf x
  exact ⟨p, C, dx, F x, v, ev, hp, c, na, hv, q v H2 s (hr S H2)⟩
/-- x.m() -/
theorem ev_meth0 {C : Addr} {F : α → List (Str × V)} {m : Str} {r : Option α} {R : AS → Rl γ} {f : α × Unit → Option γ} {E : XK} (hf : ∀ x, (F x).lookup m = none) (h : Ev S T te σ H (of (tIn (K := K) C F) S) r) : Ev S T (tMeth C m (spF (aCons (tIn (K := K) C F) aNil) R f) [] E te tNil) σ H (R S) (bd r fun x => f (x, ())) := by
  intro z e H1 f1 d Q q
  obtain ⟨x, ex, e⟩ := bd_some e
  refine h x ex H1 f1 d _ fun v H2 s ⟨p, dx, ev, hp, n⟩ => ⟨p, dx, F x, ev, hp, hf x, ?_⟩
  exact ⟨S, (x, ()), z, d.same s, ⟨v, [], by simp, ⟨p, dx, ev, hp, n⟩, rfl⟩, e, fun u H' s' hu => q u H' (s.trans s') ((R S).same s hu)⟩
/-- str(x), repr(x) -/
theorem ev_strOf {C : Addr} {F : α → List (Str × V)} {r : Option α} {f : α × Unit → Option Str} {E : XK} (h : Ev S T te σ H (of (tIn (K := K) C F) S) r) : Ev S T (tCB (rStrI C (spF (aCons (tIn (K := K) C F) aNil) (fun S => of (K := K) tTx S) f) E) (tCons te tNil)) σ H (of (K := K) tTx S) (bd r fun x => f (x, ())) := by
  intro z e H1 f1 d Q q
  obtain ⟨x, ex, e⟩ := bd_some e
  refine h x ex H1 f1 d _ fun v H2 s ⟨p, dx, ev, hp, n⟩ => ⟨p, dx, F x, by rw [ev], hp, ?_⟩
  exact ⟨S, (x, ()), z, d.same s, ⟨.ref p, [], rfl, ⟨p, dx, rfl, hp, n⟩, rfl⟩, e, fun u H' s' hu => ⟨z, hu, q u H' (s.trans s') hu⟩⟩
/-- x == y, x != y, x == a number, by the own __eq__ -/
theorem od_eqI2 {C : Addr} {F : α → List (Str × V)} {f : α × α × Unit → Option Bool} {E : XK} : OpD (tIn (K := K) C F) (tIn (K := K) C F) S (of (K := K) tBool S) (rOwnI C (spF (aCons (tIn (K := K) C F) (aCons (tIn (K := K) C F) aNil)) (fun S => of (K := K) tBool S) f) E) (fun x y => f (x, y, ())) := by
  intro x y z e H1 v w d ⟨p, dx, ev, hp, n⟩ ⟨p', dx', ev', hp', n'⟩ Q q
  exact ⟨p, dx, F x, ev, hp, .inl ⟨p', dx', F y, ev', hp'⟩, S, (x, y, ()), z, d, ⟨v, [w], rfl, ⟨p, dx, ev, hp, n⟩, w, [], rfl, ⟨p', dx', ev', hp', n'⟩, rfl⟩, e, fun u H' s hu => q u H' s hu⟩
theorem od_neI2 {C : Addr} {F : α → List (Str × V)} {f : α × α × Unit → Option Bool} {E : XK} : OpD (tIn (K := K) C F) (tIn (K := K) C F) S (of (K := K) tBool S) (rNeI C (spF (aCons (tIn (K := K) C F) (aCons (tIn (K := K) C F) aNil)) (fun S => of (K := K) tBool S) f) E) (fun x y => bd (f (x, y, ())) fun k => some (!k)) := by
  intro x y z e H1 v w d ⟨p, dx, ev, hp, n⟩ ⟨p', dx', ev', hp', n'⟩ Q q
  obtain ⟨k, ek, e⟩ := bd_some e
  cases e
  exact ⟨p, dx, F x, p', dx', F y, ev, hp, ev', hp', S, (x, y, ()), k, d, ⟨v, [w], rfl, ⟨p, dx, ev, hp, n⟩, w, [], rfl, ⟨p', dx', ev', hp', n'⟩, rfl⟩, ek, fun u H' s hu => ⟨k, hu, q _ H' s rfl⟩⟩
theorem od_eqIi {C : Addr} {F : α → List (Str × V)} {f : α × Int × Unit → Option Bool} {E : XK} : OpD (tIn (K := K) C F) (K := K) tInt S (of (K := K) tBool S) (rOwnI C (spF (aCons (tIn (K := K) C F) (aCons (K := K) tInt aNil)) (fun S => of (K := K) tBool S) f) E) (fun x y => f (x, y, ())) := by
  intro x y z e H1 v w d ⟨p, dx, ev, hp, n⟩ hw Q q
  exact ⟨p, dx, F x, ev, hp, .inr ⟨y, hw⟩, S, (x, y, ()), z, d, ⟨v, [w], rfl, ⟨p, dx, ev, hp, n⟩, w, [], rfl, hw, rfl⟩, e, fun u H' s hu => q u H' s hu⟩
/-- isinstance(x, C) of an instance, of a number -/
theorem ev_isiC {C C' : Addr} {F : α → List (Str × V)} {r : Option α} {k : Bool} (hk : PySem.W.kitOne K (.ref C) (.ref C') = some k) (hc : ∀ H p dx fs, H p = some (.ins C dx fs) → TyX K H (.ref p) (.ref C)) (h : Ev S T te σ H (of (tIn (K := K) C F) S) r) (hv : ClsV (V.ref C') (.ref C')) :
    Ev S T (tCB (rIsi K) (tCons te (tCons (tC (.ref C')) tNil))) σ H (of (K := K) tBool S) (bd r fun _ => some k) := by
  intro z e H1 f1 d Q q
  obtain ⟨x, ex, e⟩ := bd_some e
  cases e
  exact h x ex H1 f1 d _ fun v H2 s ⟨p, dx, ev, hp, n⟩ => ⟨v, _, _, _, k, rfl, hv, by rw [ev]; exact hc H2 p dx _ hp, hk, q _ H2 s rfl⟩
end
end M
namespace M
open PySem L2 G
section
variable {K : PySem.W.Frag} {α β γ δ ε ρ : Type} {S T : AS} {σ : St} {H : Hp} {b c : Addr} {ta tb te : TE} {a : Ty K α} {b' : Ty K β}
theorem ew_inl {w : Wp α} (h : EvW b c S te σ H (of a S) w) : EvW b c S te σ H (of (tU a b') S) (unW (fun x => some (Sum.inl x)) w) := fun ts P hP H1 f d hB Q q => h ts _ hP H1 f d hB Q fun v H2 x ⟨y, e, hy⟩ f2 d2 hB2 hv => q v H2 y hy f2 d2 hB2 (by cases e; exact hv)
theorem ew_inr {w : Wp β} (h : EvW b c S te σ H (of b' S) w) : EvW b c S te σ H (of (tU a b') S) (unW (fun x => some (Sum.inr x)) w) := fun ts P hP H1 f d hB Q q => h ts _ hP H1 f d hB Q fun v H2 x ⟨y, e, hy⟩ f2 d2 hB2 hv => q v H2 y hy f2 d2 hB2 (by cases e; exact hv)
theorem ev_isiIC {C : Addr} {r : Option Int} (hk : PySem.W.kitOne K (.type "int") (.ref C) = some false) (h : Ev S T te σ H (of (K := K) tInt S) r) : Ev S T (tCB (rIsi K) (tCons te (tCons (tC (.ref C)) tNil))) σ H (of (K := K) tBool S) (bd r fun _ => some false) := by
  intro z e H1 f1 d Q q
  obtain ⟨x, ex, e⟩ := bd_some e
  cases e
  exact h x ex H1 f1 d _ fun v H2 s hv => by cases hv; exact ⟨_, _, _, _, false, rfl, .own _, .base (.int x), hk, q _ H2 s rfl⟩
end
end M
namespace M
open PySem L2 G
section
variable {K : PySem.W.Frag} {S T : AS} {σ : St} {H : Hp} {ta tb te : TE}
def catY? (x y : Str) : Option Str := if x.length + y.length ≤ sizeLine then some (x ++ y) else none
theorem od_catY : OpD (K := K) tTx tTx S (of (K := K) tTx S) (fun x y H Q => ∃ i j, x = .str i ∧ y = .str j ∧ i.length + j.length ≤ sizeLine ∧ Q (.str (i ++ j)) H) catY? := by
  intro x y z e H1 v w d hv hw Q q
  unfold catY? at e
  split at e
  · rename_i hz
    cases e; cases hv; cases hw
    exact ⟨x, y, rfl, rfl, hz, q _ H1 (Same.refl _) rfl⟩
  · cases e
def join? (x : Str) (ys : List Str) : Option Str := if (ys.map (·.length)).sum + ys.length * x.length ≤ 16777216 then some (Txt.join x ys) else none
theorem All2.txs {S : AS} {H : Hp} : ∀ {vs : List V} {xs : List Str}, All2 ((tTx (K := K)).rp S H) vs xs → vs = xs.map V.str
  | _, _, .nil => rfl
  | _, _, .cons h r => by rw [List.map_cons, ← All2.txs r, show _ = _ from h]
theorem ev_join {rx : Option Str} {ry : Option (List Str)} (hx : Ev S T ta σ H (of (K := K) tTx S) rx) (hy : Ev S T tb σ H (of (K := K) (tL tTx) S) ry) : Ev S T (tM1 (fun x xs H Q => ∃ a p, ∃ ys : List Str, x = .str a ∧ xs = [.ref p] ∧ (SqL K H p (ys.map V.str) ∨ SqT K H p (ys.map V.str)) ∧
      (ys.map (·.length)).sum + ys.length * a.length ≤ 16777216 ∧ Q (.str (Txt.join a ys)) H) ta tb) σ H (of (K := K) tTx S) (bd rx fun x => bd ry fun y => join? x y) := by
  intro z e H1 f1 d Q q
  obtain ⟨x, ex, e⟩ := bd_some e
  obtain ⟨ys, ey, e⟩ := bd_some e
  unfold join? at e
  split at e
  · rename_i hz
    cases e
    refine hx x ex H1 f1 d _ fun v H2 s hv => ⟨⟨x, hv⟩, hy ys ey H2 (f1.trans (Fr.same s)) (d.same s) _ fun w H3 s3 ⟨p, vs, ew, hp, ha⟩ => ?_⟩
    refine ⟨x, p, ys, hv, by rw [ew], .inl ?_, hz, q _ H3 (s.trans s3) rfl⟩
    rw [← ha.txs]
    exact hp.sq
  · cases e
end
end M
namespace M
open PySem L2 G
theorem pe_neverE {X : Cx} {e : Expr} : PE X e (fun _ _ _ => False) := ⟨fun _ _ _ _ _ _ h => h.elim⟩
theorem ev_never {S T : AS} {σ : St} {H : Hp} {α : Type} {R : Rl α} : Ev S T (fun _ _ _ => False) σ H R none := fun x e => by cases e
end M

namespace M
open PySem L2 G
/-! ### sorted(d): keys that are texts -/
section
variable {K : PySem.W.Frag} {α β : Type} {S T : AS} {σ : St} {H : Hp} {te : TE} {a : Ty K α} {b' : Ty K β}
def leT (a b : Str) : Prop := a.cps.toList ≤ b.cps.toList
theorem leT_trans {a b c : Str} (h : leT a b) (h' : leT b c) : leT a c := List.le_trans h h'
theorem leT_anti {a b : Str} (h : leT a b) (h' : leT b a) : a = b := by
  have e : a.cps.toList = b.cps.toList := List.le_antisymm h h'
  cases a
  cases b
  exact congrArg Str.mk (Array.toList_inj.mp e)
theorem ris_allT : ∀ (l : List Str) (p : Str), PyProof.Rows.risingS p l = true → (∀ x ∈ l, leT p x) ∧ l.Pairwise leT
  | [], _, _ => ⟨(fun _ h => nomatch h), .nil⟩
  | x :: r, p, h => by
    unfold PyProof.Rows.risingS at h
    rw [Bool.and_eq_true, Bool.not_eq_true'] at h
    rw [PyProof.Rows.ltCps_eq] at h
    have hx : leT p x := of_decide_eq_false h.1
    obtain ⟨i1, i2⟩ := ris_allT r x h.2
    refine ⟨fun y hy => ?_, List.pairwise_cons.mpr ⟨i1, i2⟩⟩
    rcases List.mem_cons.mp hy with rfl | hy
    · exact hx
    · exact leT_trans hx (i1 y hy)
theorem srt_pwT : ∀ {l : List Str}, PyProof.Rows.sortedS l = true → l.Pairwise leT
  | [], _ => .nil
  | x :: r, h => List.pairwise_cons.mpr (ris_allT r x h)
theorem ltS_le {x y : Str} : (!ltS y x) = true ↔ leT x y := by
  unfold ltS leT
  rw [Bool.not_eq_true', decide_eq_false_iff_not]
  exact Iff.rfl
theorem sortS_pw (l : List Str) : (sortBy ltS l).Pairwise leT := by
  unfold sortBy
  have := List.pairwise_mergeSort (le := fun x y : Str => !ltS y x) (fun a b c h1 h2 => ltS_le.mpr (leT_trans (ltS_le.mp h1) (ltS_le.mp h2))) (fun a b => by
    rw [Bool.or_eq_true]
    rcases List.le_total a.cps.toList b.cps.toList with h | h
    · exact .inl (ltS_le.mpr h)
    · exact .inr (ltS_le.mpr h)) l
  exact this.imp fun h => ltS_le.mp h
theorem sortS_perm (l : List Str) : (sortBy ltS l).Perm l := List.mergeSort_perm ..
theorem sortS_eq {ys l : List Str} (hp : ys.Perm l) (hs : PyProof.Rows.sortedS ys = true) : ys = sortBy ltS l :=
  (hp.trans (sortS_perm l).symm).eq_of_pairwise (fun _ _ _ _ h1 h2 => leT_anti h1 h2) (srt_pwT hs) (sortS_pw l)
def ksS? (xs : List (Str × β)) : Option (List Str) := if xs.length < 64 then some (sortBy ltS (xs.map Prod.fst)) else none
def rSrtD : List V → Hp → VK → Prop := fun xs H Q => ∃ (a : Addr) (kvs : List (Key × V)) (ks : List Str), xs = [.ref a] ∧ Rd H a (.dK kvs) ∧ kvs.map (·.1) = ks.map Sum.inr ∧ ks.length < 64 ∧
    ∀ ys p, ys.Perm ks → PyProof.Rows.sortedS ys = true → H p = none → Q (.ref p) (upd H p (.lst (ys.map V.str)))
theorem cr_srtD {X : Cx} (hc : X.calm = true) : CallR X (.builtin "sorted") rSrtD := call_sortedD hc
theorem all_strs {S : AS} {H : Hp} : ∀ {ys : List Str}, (∀ z ∈ ys, PyData.strOk z = true) → All2 ((tStr (K := K)).rp S H) (ys.map V.str) ys
  | [], _ => .nil
  | y :: ys, h => .cons ⟨rfl, h y (List.mem_cons_self ..)⟩ (all_strs fun z hz => h z (List.mem_cons_of_mem _ hz))
theorem srt_core {p : Addr} {kvs : List (Key × V)} {xs : List (Str × β)} {ys : List Str} {Q : VK} (hp : Rd H p (.dK kvs)) (ha : All2 (KvP b' S H) kvs xs) (d : Dom S H) (e : ksS? xs = some ys) (q : ∀ v H2, Same H H2 → nwL (tStr (K := K)) S H H2 v ys → Q v H2) : rSrtD [.ref p] H Q := by
  unfold ksS? at e
  split at e
  · rename_i hl
    cases e
    obtain ⟨k1, k2⟩ := keys_S ha
    refine ⟨p, kvs, xs.map Prod.fst, rfl, hp, k1, by rw [List.length_map]; exact hl, fun ys a hy hs na => ?_⟩
    rw [sortS_eq hy hs]
    refine q _ _ (same_new na) ⟨a, rfl, na, _, upd_same, all_strs fun z hz => k2 z ((sortS_perm _).mem_iff.mp hz)⟩
  · cases e
theorem ev_srtD {r : Option (List (Str × β))} (h : Ev S T te σ H (of (tD Str b') S) r) : Ev S T (tCB rSrtD (tCons te tNil)) σ H (nw (tStr (K := K)) S) (bd r ksS?) := by
  intro z e H1 f1 d Q q
  obtain ⟨xs, ex, e⟩ := bd_some e
  refine h xs ex H1 f1 d _ fun v H2 s ⟨p, kvs, ev, hp, ha, hn⟩ => ?_
  subst ev
  exact srt_core (.inl hp.1) ha (d.same s) e fun v H3 s3 ⟨p, e1, e2, e3⟩ => q v H3 (s.trans s3) ⟨p, e1, s.free e2, e3⟩
theorem ev_ownSrtD {p : Addr} {xs : List (Str × β)} {i : Nat} (o : OwnD b' S H p xs) (nt : p ∉ T) (ts : Sub T S) (hi : σ[i]? = some (some (.ref p))) : Ev S T (tCB rSrtD (tCons (tVar i) tNil)) σ H (nw (tStr (K := K)) S) (ksS? xs) := by
  intro z e H1 f1 d Q q
  refine ⟨_, hi, ?_⟩
  obtain ⟨kvs, hv, ha, hn⟩ := o.fr f1 ts nt
  exact srt_core (.inl hv) ha d e q
end
/-! ### {k: v for x in xs} -/
section
variable {K : PySem.W.Frag} {α β γ κ : Type} [KeyC κ] [DecidableEq κ] {S T : AS} {σ : St} {H : Hp} {te tv tk : TE} {a : Ty K α} {b' : Ty K β} {b c : Addr} {D : Ends} {u : TS}
open KeyC
def dcO (fk : α → Option κ) (fv : α → Option β) : List (κ × β) → List α → Option (List (κ × β))
  | acc, [] => some acc
  | acc, x :: xs => bd (fk x) fun k => bd (fv x) fun y => dcO fk fv (putL acc k y) xs
def dcL? (fk : α → Option κ) (fv : α → Option β) (xs : List α) : Option (List (κ × β)) := if xs.length < 100000 then dcO fk fv [] xs else none
theorem putL_len {xs : List (κ × β)} {k : κ} {x : β} : (putL xs k x).length ≤ xs.length + 1 := by
  unfold putL
  split
  · rw [List.length_map]; omega
  · rw [List.length_append, List.length_singleton]; exact Nat.le_refl _
theorem ev_dc {ck : Ty K κ} [KeyT ck] {wi : TI} {j : Nat} {ws : List Nat} {r : Option (List α)} {fk : α → Option κ} {fv : α → Option β} (h : Sr S T wi σ H a r) (hw : ∀ x, wipe ((wipe σ ws).set j (some x)) ws = wipe σ ws)
    (hk : ∀ (x : α) (v : V) (H2 H' : Hp) (p : Addr), Fr T H H2 → H2 p = none → Same H2 H' → a.rp (p :: S) H' v x → Ev (p :: S) [] tk ((wipe σ ws).set j (some v)) H' (of ck (p :: S)) (fk x))
    (he : ∀ (x : α) (v : V) (H2 H' : Hp) (p : Addr), Fr T H H2 → H2 p = none → Same H2 H' → a.rp (p :: S) H' v x → Ev (p :: S) [] tv ((wipe σ ws).set j (some v)) H' (of b' (p :: S)) (fv x)) :
    Ev S T (tDc wi (gName j) tYes tk tv ws) σ H (nwd b' S) (bd r fun xs => dcL? fk fv xs) := by
  intro z e H1 f1 d Q q
  obtain ⟨xs, ex, e⟩ := bd_some e
  unfold dcL? at e
  split at e
  rotate_left
  · cases e
  rename_i hlen
  refine h xs ex H1 f1 d _ fun J H2 s2 wk => fun Dl hD => ?_
  have d2 := d.same s2
  have sD : Same H2 (upd H2 Dl (.dK [])) := same_new hD
  refine ⟨fun i m H' => m = xs.length - i ∧ i ≤ xs.length ∧ ∃ kvs acc, H' Dl = some (.dK kvs) ∧ Same H2 H' ∧ acc.length ≤ i ∧ All2 (KvP b' (Dl :: S) H') kvs acc ∧ (acc.map Prod.fst).Nodup ∧ dcO fk fv acc (xs.drop i) = some z, ⟨_, rfl, Nat.zero_le _, [], [], upd_same, sD, Nat.zero_le _, .nil, by simp, e⟩, ?_⟩
  rintro i m H' ⟨rfl, hi, kvs, acc, h1, h2, h3, h4, hn, h5⟩
  by_cases cc : i < xs.length
  · right
    rw [List.drop_eq_getElem_cons cc] at h5
    obtain ⟨k, ek, h5⟩ := bd_some h5
    obtain ⟨y, ey, h5⟩ := bd_some h5
    refine ⟨wk.go H' i (Fr.same h2) cc, fun H3 => ∃ kvs acc, H3 Dl = some (.dK kvs) ∧ Same H2 H3 ∧ acc.length ≤ i + 1 ∧ All2 (KvP b' (Dl :: S) H3) kvs acc ∧ (acc.map Prod.fst).Nodup ∧ dcO fk fv acc (xs.drop (i + 1)) = some z, ?_, ?_⟩
    · rintro H3 ⟨kvs, acc, g1, g2, g3, g4, g5, g6⟩
      exact ⟨xs.length - (i + 1), by omega, rfl, by omega, kvs, acc, g1, g2, g3, g4, g5, g6⟩
    · intro v H3 hy
      obtain ⟨rfl, hv⟩ := wk.yl H' i v H3 (Fr.same h2) hy _ (List.getElem?_eq_getElem cc)
      refine ⟨hw v, ?_⟩
      have hx := a.mono (Fr.same h2) (a.ext hD hv)
      have dD := (d2.same h2).cons h1
      refine G.yes_ ?_
      refine hk xs[i] v H2 _ Dl (f1.trans (Fr.same s2)) hD h2 hx k ek _ (Fr.refl _) dD _ fun w H4 s4 hw4 => ?_
      refine he xs[i] v H2 _ Dl (f1.trans (Fr.same s2)) hD h2 hx y ey H4 (Fr.same s4) (dD.same s4) _ fun w2 H5 s5 hw5 => ?_
      obtain ⟨rfl, hok⟩ := KeyT.to hw4
      have t5 := s4.trans s5
      refine ⟨kvs, kk k, rfl, t5 _ _ h1, Nat.lt_of_lt_of_le (by rw [h4.len]; omega : kvs.length < 100000) (by decide), putK kvs (kk k) w2, putL acc k y, upd_same, fun p ob eb => ?_, ?_, ?_, put_nd hn, h5⟩
      · rw [upd_ne (ne_of_none eb hD)]
        exact t5 _ _ (h2 _ _ eb)
      · exact Nat.le_trans putL_len (by omega)
      · have fD : Fr (Dl :: S) H5 (upd H5 Dl (.dK (putK kvs (kk k) w2))) := fr_upd (List.mem_cons_self ..)
        exact (put_all hok hw5 (h4.imp fun _ _ => KvP.mono (Fr.same t5))).imp fun _ _ => KvP.mono fD
  · left
    rw [List.drop_eq_nil_of_le (by omega)] at h5
    cases h5
    exact ⟨wk.st H' i (Fr.same h2) (by omega), q _ _ (s2.trans h2) ⟨Dl, rfl, s2.free hD, kvs, h1, h4, hn⟩⟩
/-! drawn keys -/
theorem ew_ownDGet {ck : Ty K κ} [KeyT ck] {p : Addr} {xs : List (κ × β)} {i : Nat} {w : Wp κ} (o : OwnD b' S H p xs) (nt : p ∉ [b, c]) (hi : σ[i]? = some (some (.ref p))) (hk : EvW b c S tk σ H (of ck S) w) :
    EvW b c S (tDGet (tVar i) tk) σ H (of b' S) (unW (fun k => getK xs k) w) := by
  intro ts P hP H1 f1 d hB Q q
  refine ⟨_, hi, hk ts _ hP H1 f1 d hB _ fun v H2 k hk2 f2 d2 hB2 hv => ?_⟩
  obtain ⟨x, ex, hx⟩ := hk2
  dsimp only at ex
  obtain ⟨kvs, hkv, ha, hn⟩ := o.fr (f1.trans f2) ts nt
  obtain ⟨rfl, hok⟩ := KeyT.to hv
  rcases val_get (k := k) ha with ⟨g1, _⟩ | ⟨y, u, g1, g2, g3⟩
  · rw [g1] at ex; cases ex
  · rw [g1] at ex
    cases ex
    exact ⟨p, u, rfl, .inl ⟨kvs, kk k, .inl hkv, rfl, g2.symm⟩, q u H2 _ hx f2 d2 hB2 g3⟩
theorem ew_dget {ck : Ty K κ} [KeyT ck] {td : TE} {rd : Option (List (κ × β))} {w : Wp κ} (hd : Ev S [b, c] td σ H (of (tD κ b') S) rd) (hk : EvW b c S tk σ H (of ck S) w) :
    EvW b c S (tDGet td tk) σ H (of b' S) (fun P => lf rd fun d => w fun k => lf (getK d k) P) := by
  intro ts P hP H1 f1 d hB Q q
  obtain ⟨xs, ex, hP⟩ := hP
  refine hd xs ex H1 f1 d _ fun v0 H2 s2 hv0 => hk ts _ hP H2 (f1.trans (Fr.same s2)) (d.same s2) (hB.same s2) _ fun v H3 k hk2 f3 d3 hB3 hv => ?_
  obtain ⟨x, ex, hx⟩ := hk2
  obtain ⟨p, kvs, rfl, hp, ha, hn⟩ := (tD κ b').mono (f3.sub ts) hv0
  obtain ⟨rfl, hok⟩ := KeyT.to hv
  rcases val_get (k := k) ha with ⟨g1, _⟩ | ⟨y, u, g1, g2, g3⟩
  · rw [g1] at ex; cases ex
  · rw [g1] at ex
    cases ex
    exact ⟨p, u, rfl, .inl ⟨kvs, kk k, .inl hp.1, rfl, g2.symm⟩, q u H3 _ hx ((Fr.same s2).trans f3) d3 hB3 g3⟩
/-- d[k] = e, both drawn: the value first -/
theorem lw_dputK {ck : Ty K κ} [KeyT ck] {p : Addr} {xs : List (κ × β)} {i : Nat} {w : Wp β} {wk : Wp κ} {R : List (κ × β) → Prop} (d : Dom S H) (hB : Bag H b c) (ts : Sub [b, c] S) (o : OwnD b' S H p xs) (im : p ∈ S) (nt : p ∉ [b, c]) (hi : σ[i]? = some (some (.ref p))) (h : EvW b c S tv σ H (of b' S) w)
    (hk : EvW b c S tk σ H (of ck S) wk) (e : w fun x => wk fun k => lf (putL? xs k x) R)
    (q : ∀ ys H1 H2, R ys → Fr [b, c] H H1 → Dom S H1 → Bag H1 b c → Mut1 p H1 H2 → Fr S H1 H2 → OwnD b' S H2 p ys → D.nx σ H2) : sDPut (tVar i) tk tv D σ H := by
  refine h ts _ e H (Fr.refl _) d hB _ fun v H1 x hx f1 d1 hB1 hv => ⟨_, hi, ?_⟩
  refine hk ts _ hx H1 f1 d1 hB1 _ fun z H2 k hk2 f2 d2 hB2 hw => ?_
  obtain ⟨ys, ey, hR⟩ := hk2
  obtain ⟨kvs, hkv, ha, hn⟩ := o.fr (f1.trans f2) ts nt
  obtain ⟨rfl, hok⟩ := KeyT.to hw
  unfold putL? at ey
  split at ey
  · rename_i hl
    cases ey
    have g1 : Fr S H2 (upd H2 p (.dK (putK kvs (kk k) v))) := fr_upd im
    refine ⟨p, _, rfl, .inl ⟨kvs, kk k, hkv, rfl, Nat.lt_of_lt_of_le (by rw [ha.len]; exact hl) (by decide), rfl⟩, ?_⟩
    refine q _ H2 _ hR (f1.trans f2) d2 hB2 ⟨fun b ob e n => by rw [upd_ne n]; exact e, by rw [upd_same]; intro z; cases z⟩ g1 ⟨_, upd_same, ?_, put_nd hn⟩
    exact (put_all hok (b'.mono (f2.sub ts) hv) ha).imp fun _ _ => KvP.mono g1
  · cases ey
theorem qw_dputK {ck : Ty K κ} [KeyT ck] {p : Addr} {xs : List (κ × β)} {i : Nat} {w : Wp β} {wk : Wp κ} {R : List (κ × β) → Prop} (d : Dom S H) (hB : Bag H b c) (ts : Sub [b, c] S) (o : OwnD b' S H p xs) (im : p ∈ S) (nt : p ∉ [b, c]) (hi : σ[i]? = some (some (.ref p))) (h : EvW b c S tv σ H (of b' S) w)
    (hk : EvW b c S tk σ H (of ck S) wk) (e : w fun x => wk fun k => lf (putL? xs k x) R)
    (q : ∀ ys H1 H2, R ys → Fr [b, c] H H1 → Dom S H1 → Bag H1 b c → Mut1 p H1 H2 → Fr S H1 H2 → OwnD b' S H2 p ys → u D σ H2) : tSeq (sDPut (tVar i) tk tv) u D σ H := lw_dputK (D := { D with nx := u D }) d hB ts o im nt hi h hk e q
end
end M

namespace M
open PySem L2 G
/-! ### instances whose fields have codes -/
structure FT (K : PySem.W.Frag) (α : Type) where
  rp : AS → Hp → List (Str × V) → α → Prop
  mono : ∀ {S H H' fs x}, Fr S H H' → rp S H fs x → rp S H' fs x
  ext : ∀ {S H q fs x}, H q = none → rp S H fs x → rp (q :: S) H fs x
  sub : ∀ {S S' H fs x}, Sub S' S → rp S H fs x → rp S' H fs x
section
variable {K : PySem.W.Frag} {α β γ δ : Type} {S T : AS} {σ : St} {H : Hp} {te tv : TE} {a : Ty K α} {b' : Ty K β} {ft : FT K α}
def fNil : FT K Unit := ⟨fun _ _ fs _ => fs = [], fun _ h => h, fun _ h => h, fun _ h => h⟩
def fCons (f : Str) (a : Ty K α) (r : FT K β) : FT K (α × β) where
  rp S H fs x := ∃ v fs', fs = (f, v) :: fs' ∧ a.rp S H v x.1 ∧ r.rp S H fs' x.2
  mono g := fun ⟨v, fs', e, h1, h2⟩ => ⟨v, fs', e, a.mono g h1, r.mono g h2⟩
  ext g := fun ⟨v, fs', e, h1, h2⟩ => ⟨v, fs', e, a.ext g h1, r.ext g h2⟩
  sub g := fun ⟨v, fs', e, h1, h2⟩ => ⟨v, fs', e, a.sub g h1, r.sub g h2⟩
def tO (C : Addr) (ft : FT K α) : Ty K α where
  rp S H v x := ∃ p dx fs, v = .ref p ∧ H p = some (.ins C dx fs) ∧ p ∉ S ∧ ft.rp S H fs x
  mono f := fun ⟨p, dx, fs, e, h, n, r⟩ => ⟨p, dx, fs, e, f _ _ h n, n, ft.mono f r⟩
  ext f := fun ⟨p, dx, fs, e, h, n, r⟩ => ⟨p, dx, fs, e, h, not_cons f (by rw [h]; intro z; cases z) n, ft.ext f r⟩
  sub f := fun ⟨p, dx, fs, e, h, n, r⟩ => ⟨p, dx, fs, e, h, fun m => n (f _ m), ft.sub f r⟩
/-- a field of it -/
def Fget (ft : FT K α) (f : Str) (b' : Ty K β) (g : α → β) : Prop := ∀ S H fs x, ft.rp S H fs x → ∃ v, fs.lookup f = some v ∧ b'.rp S H v (g x)
def Fno (ft : FT K α) (f : Str) : Prop := ∀ S H fs x, ft.rp S H fs x → fs.lookup f = none
theorem fget_here {f : Str} {a : Ty K α} {r : FT K β} : Fget (fCons f a r) f a (fun x => x.1) := by
  rintro S H fs x ⟨v, fs', rfl, h1, h2⟩
  exact ⟨v, by simp [List.lookup], h1⟩
theorem fget_there {f f' : Str} {a : Ty K α} {r : FT K β} {c : Ty K γ} {g : β → γ} (n : (f == f') = false) (h : Fget r f c g) : Fget (fCons f' a r) f c (fun x => g x.2) := by
  rintro S H fs x ⟨v, fs', rfl, h1, h2⟩
  obtain ⟨w, e, hw⟩ := h S H fs' x.2 h2
  exact ⟨w, by rw [List.lookup_cons, n]; exact e, hw⟩
theorem fno_nil {f : Str} : Fno (K := K) fNil f := fun S H fs x h => by cases h; rfl
theorem fno_cons {f f' : Str} {a : Ty K α} {r : FT K β} (n : (f == f') = false) (h : Fno r f) : Fno (fCons f' a r) f := by
  rintro S H fs x ⟨v, fs', rfl, h1, h2⟩
  rw [List.lookup_cons, n]
  exact h S H fs' x.2 h2
theorem ev_fldO {C : Addr} {f : Str} {r : Option α} {g : α → β} (c : Cls K C) (na : NoAttr K C f) (hf : Fget ft f b' g) (h : Ev S T te σ H (of (tO C ft) S) r) : Ev S T (tFld K te f) σ H (of b' S) (bd r fun x => some (g x)) := by
  intro z e H1 f1 d Q q
  obtain ⟨x, ex, e⟩ := bd_some e
  cases e
  refine h x ex H1 f1 d _ fun v H2 s ⟨p, dx, fs, ev, hp, n, hr⟩ => ?_
  obtain ⟨w, hw, hr⟩ := hf S H2 fs x hr
  exact ⟨p, C, dx, fs, w, ev, hp, c, na, hw, q w H2 s hr⟩
/-- x.m() -/
theorem ev_methO0 {C : Addr} {m : Str} {r : Option α} {R : AS → Rl γ} {f : α × Unit → Option γ} {E : XK} (hf : Fno ft m) (h : Ev S T te σ H (of (tO C ft) S) r) : Ev S T (tMeth C m (spF (aCons (tO C ft) aNil) R f) [] E te tNil) σ H (R S) (bd r fun x => f (x, ())) := by
  intro z e H1 f1 d Q q
  obtain ⟨x, ex, e⟩ := bd_some e
  refine h x ex H1 f1 d _ fun v H2 s ⟨p, dx, fs, ev, hp, n, hr⟩ => ⟨p, dx, fs, ev, hp, hf S H2 fs x hr, ?_⟩
  exact ⟨S, (x, ()), z, d.same s, ⟨v, [], by simp, ⟨p, dx, fs, ev, hp, n, hr⟩, rfl⟩, e, fun u H' s' hu => q u H' (s.trans s') ((R S).same s hu)⟩
/-- x.m(y) -/
theorem ev_methO1 {C : Addr} {m : Str} {r : Option α} {ry : Option β} {R : AS → Rl γ} {f : α × β × Unit → Option γ} {E : XK} (hf : Fno ft m) (h : Ev S T te σ H (of (tO C ft) S) r) (hy : Ev S T tv σ H (of b' S) ry) : Ev S T (tMeth C m (spF (aCons (tO C ft) (aCons b' aNil)) R f) [] E te (tCons tv tNil)) σ H (R S) (bd r fun x => bd ry fun y => f (x, y, ())) := by
  intro z e H1 f1 d Q q
  obtain ⟨x, ex, e⟩ := bd_some e
  obtain ⟨y, ey, e⟩ := bd_some e
  refine h x ex H1 f1 d _ fun v H2 s ⟨p, dx, fs, ev, hp, n, hr⟩ => ⟨p, dx, fs, ev, hp, hf S H2 fs x hr, ?_⟩
  refine hy y ey H2 (f1.trans (Fr.same s)) (d.same s) _ fun w H3 s3 hw => ?_
  have hv := (tO C ft).mono (Fr.same s3) (⟨p, dx, fs, ev, hp, n, hr⟩ : (tO C ft).rp S H2 v x)
  exact ⟨S, (x, y, ()), z, (d.same s).same s3, ⟨v, [w], by simp, hv, w, [], rfl, hw, rfl⟩, e, fun u H' s' hu => q u H' ((s.trans s3).trans s') ((R S).same (s.trans s3) hu)⟩
end
end M

namespace M
open PySem L2 G
section
variable {K : PySem.W.Frag} {α β γ δ ε ρ : Type} {S T : AS} {σ : St} {H : Hp} {ta tb tc te : TE} {a : Ty K α} {b : Ty K β} {c : Ty K γ} {D : Ends} {u : TS}
/-! ### a list of three things of three kinds -/
def tL3 (c : Ty K α) (d : Ty K β) (e : Ty K γ) : Ty K (α × β × γ) where
  rp S H v x := ∃ a u w y, v = .ref a ∧ nL K S H a [u, w, y] ∧ c.rp S H u x.1 ∧ d.rp S H w x.2.1 ∧ e.rp S H y x.2.2
  mono f := fun ⟨a, u, w, y, ev, h, h1, h2, h3⟩ => ⟨a, u, w, y, ev, h.mono f, c.mono f h1, d.mono f h2, e.mono f h3⟩
  ext f := fun ⟨a, u, w, y, ev, h, h1, h2, h3⟩ => ⟨a, u, w, y, ev, h.ext f, c.ext f h1, d.ext f h2, e.ext f h3⟩
  sub f := fun ⟨a, u, w, y, ev, h, h1, h2, h3⟩ => ⟨a, u, w, y, ev, h.sub f, c.sub f h1, d.sub f h2, e.sub f h3⟩
theorem ev_lst3 {ra : Option α} {rb : Option β} {rc : Option γ} (ha : Ev S T ta σ H (of a S) ra) (hb : Ev S T tb σ H (of b S) rb) (hc : Ev S T tc σ H (of c S) rc) : Ev S T (tLst (tCons ta (tCons tb (tCons tc tNil)))) σ H (of (tL3 a b c) S) (bd ra fun x => bd rb fun y => bd rc fun z => some (x, y, z)) := by
  intro z e H1 f1 d Q q
  obtain ⟨x, ex, e⟩ := bd_some e
  obtain ⟨y, ey, e⟩ := bd_some e
  obtain ⟨t, et, e⟩ := bd_some e
  cases e
  refine ha x ex H1 f1 d _ fun v H2 s2 hv => hb y ey H2 (f1.trans (Fr.same s2)) (d.same s2) _ fun w H3 s3 hw => hc t et H3 (f1.trans (Fr.same (s2.trans s3))) (d.same (s2.trans s3)) _ fun r H4 s4 hr => ⟨(by show 3 ≤ sizeLine; decide), fun p hp => ?_⟩
  have s5 := same_new (o := .lst [v, w, r]) hp
  exact q _ _ (s2.trans (s3.trans (s4.trans s5))) ⟨p, v, w, r, rfl, ⟨upd_same, (d.same (s2.trans (s3.trans s4))).not_mem hp⟩, a.mono (Fr.same (s3.trans (s4.trans s5))) hv, b.mono (Fr.same (s4.trans s5)) hw, c.mono (Fr.same s5) hr⟩
theorem ev_ixL30 {ra : Option (α × β × γ)} (ha : Ev S T ta σ H (of (tL3 a b c) S) ra) : Ev S T (tOp (rIxL K) ta (tC (.int 0))) σ H (of a S) (bd ra fun x => some x.1) :=
  ev_ixL_ ha fun x H v ⟨p, u, w, y, e, h, h1, h2, h3⟩ => ⟨p, _, u, e, h.sq, rfl, h1⟩
theorem ev_ixL31 {ra : Option (α × β × γ)} (ha : Ev S T ta σ H (of (tL3 a b c) S) ra) : Ev S T (tOp (rIxL K) ta (tC (.int 1))) σ H (of b S) (bd ra fun x => some x.2.1) :=
  ev_ixL_ ha fun x H v ⟨p, u, w, y, e, h, h1, h2, h3⟩ => ⟨p, _, w, e, h.sq, rfl, h2⟩
theorem ev_ixL32 {ra : Option (α × β × γ)} (ha : Ev S T ta σ H (of (tL3 a b c) S) ra) : Ev S T (tOp (rIxL K) ta (tC (.int 2))) σ H (of c S) (bd ra fun x => some x.2.2) :=
  ev_ixL_ ha fun x H v ⟨p, u, w, y, e, h, h1, h2, h3⟩ => ⟨p, _, y, e, h.sq, rfl, h3⟩
theorem q_unpL3 {i j l : Nat} {r : Option (α × β × γ)} {x : α × β × γ} (d : Dom S H) (h : Ev S T te σ H (of (tL3 a b c) S) r) (e : r = some x) (k : ∀ v w y H1, Same H H1 → a.rp S H1 v x.1 → b.rp S H1 w x.2.1 → c.rp S H1 y x.2.2 → u D (((σ.set i (some v)).set j (some w)).set l (some y)) H1) :
    tSeq (tAsg te (gLst K 3 (gCons (gName i) (gCons (gName j) (gCons (gName l) gNil))))) u D σ H := h x e H (Fr.refl _) d _ fun v H1 s1 ⟨p, u1, u2, u3, ev, hp, h1, h2, h3⟩ => ⟨p, _, ev, hp.sq, rfl, u1, _, rfl, u2, _, rfl, u3, _, rfl, rfl, k u1 u2 u3 H1 s1 h1 h2 h3⟩
theorem ew_as {b1 c1 : Addr} {w : Wp α} {f : α → Option β} (h : EvW b1 c1 S te σ H (of a S) w) (k : ∀ x y, f x = some y → ∀ H1 v, a.rp S H1 v x → b.rp S H1 v y) : EvW b1 c1 S te σ H (of b S) (unW f w) :=
  fun ts P hP H1 f1 d hB Q q => h ts _ hP H1 f1 d hB Q fun v H2 x ⟨y, e, hy⟩ f2 d2 hB2 hv => q v H2 y hy f2 d2 hB2 (k x y e H2 v hv)
theorem ew_p2r {b1 c1 : Addr} {w : Wp (Int × Int)} (h : EvW b1 c1 S te σ H (of (K := K) (tT2 tInt tInt) S) w) : EvW b1 c1 S te σ H (of (K := K) tRat S) (unW p2r w) := ew_as h fun x y e H2 v ⟨p, u, w, ev, hp, h1, h2⟩ => by
  unfold p2r at e
  split at e
  · rename_i hc
    cases e
    refine ⟨p, ev, ?_⟩
    rw [hc.1, hc.2, ← h1, ← h2]
    exact hp
  · cases e

/-! ### texts -/
def ixS? (z : Str) (i : Int) : Option Str := if z.length ≤ 100000 then (atI z.cps.toList i).map fun c => ⟨#[c]⟩ else none
theorem strOk_all {z : Str} (h : PyData.strOk z = true) : ∀ c ∈ z.cps.toList, c < 1114112 := by
  unfold PyData.strOk at h
  rw [← Array.all_toList, List.all_eq_true] at h
  exact fun c hc => of_decide_eq_true (h c hc)
theorem strOk_of {z : Str} (h : ∀ c ∈ z.cps.toList, c < 1114112) : PyData.strOk z = true := by
  unfold PyData.strOk
  rw [← Array.all_toList, List.all_eq_true]
  exact fun c hc => decide_eq_true (h c hc)
theorem atI_mem' {α : Type} {xs : List α} {i : Int} {x : α} (h : atI xs i = some x) : x ∈ xs := by
  unfold atI at h
  cases e : ixN xs.length i with
  | none => rw [e] at h; cases h
  | some j => rw [e] at h; exact List.mem_of_getElem? h
theorem od_ixS : OpD (K := K) tStr tInt S (of (K := K) tStr S) rIxS ixS? := by
  intro x y z e H1 v w d hv hw Q q
  obtain ⟨rfl, ok⟩ := hv
  cases hw
  unfold ixS? at e
  split at e
  · rename_i hl
    cases ha : atI x.cps.toList y with
    | none => rw [ha] at e; cases e
    | some ch =>
      rw [ha] at e
      cases e
      refine ⟨x, y, ch, rfl, rfl, Nat.le_trans hl (by decide), ha, q _ H1 (Same.refl _) ⟨rfl, strOk_of fun c hc => ?_⟩⟩
      have : c = ch := by simpa using hc
      rw [this]
      exact strOk_all ok ch (atI_mem' ha)
  · cases e
def rMulS : R2 := fun x y H Q => ∃ z i, x = .str z ∧ y = .int i ∧ z.length ≤ 16 ∧ 0 ≤ i ∧ i ≤ 1000 ∧ Q (.str (Txt.mul z i)) H
theorem op_mulS {X : Cx} : OpR X (binaryOp .Mult) rMulS := by
  intro pins s σ H x y v u Q I rx ry h
  obtain ⟨z, i, rfl, rfl, h1, h2, h3, q⟩ := h
  obtain ⟨t, rfl⟩ := rx
  obtain ⟨t', rfl⟩ := ry
  exact PySem.W.KXi.mul rfl h1 (by omega) (by omega) fun t' k _ _ => ⟨.str (Txt.mul z i), H, I.tok _, ⟨_, rfl⟩, q⟩
def mulS? (z : Str) (i : Int) : Option Str := if z.length ≤ 16 ∧ 0 ≤ i ∧ i ≤ 1000 then some (Txt.mul z i) else none
theorem strOk_mul {z : Str} {i : Int} (h : PyData.strOk z = true) : PyData.strOk (Txt.mul z i) = true := by
  unfold Txt.mul
  split
  · decide +kernel
  split
  · exact h
  · refine strOk_of fun c hc => ?_
    have key : ∀ (n : Nat) (acc : Array Nat), (∀ c ∈ acc.toList, c < 1114112) → ∀ c ∈ ((List.replicate n z.cps).foldl (· ++ ·) acc).toList, c < 1114112 := by
      intro n
      induction n with
      | zero => exact fun acc ha => ha
      | succ n ih =>
        intro acc ha
        rw [List.replicate_succ, List.foldl_cons]
        refine ih _ fun c hc => ?_
        rw [Array.toList_append] at hc
        rcases List.mem_append.mp hc with hc | hc
        · exact ha c hc
        · exact strOk_all h c hc
    exact key _ #[] (by simp) c hc
theorem od_mulS : OpD (K := K) tStr tInt S (of (K := K) tStr S) rMulS mulS? := by
  intro x y z e H1 v w d hv hw Q q
  obtain ⟨rfl, ok⟩ := hv
  cases hw
  unfold mulS? at e
  split at e
  · rename_i hl
    cases e
    exact ⟨x, y, rfl, rfl, hl.1, hl.2.1, hl.2.2, q _ H1 (Same.refl _) ⟨rfl, strOk_mul ok⟩⟩
  · cases e
end
end M

namespace M
open PySem L2 G
section
variable {K : PySem.W.Frag} {α β γ δ ε ρ : Type} {S T : AS} {σ : St} {H : Hp} {ta tv te : TE} {a : Ty K α} {b' : Ty K β} {D : Ends} {u : TS} {ft : FT K α}
/-! ### fields of an instance that is being made -/
theorem putF_ne {f g : Str} {v x : V} {r : List (Str × V)} (h : (g == f) = false) : putF f v ((g, x) :: r) = (g, x) :: putF f v r := by
  have : ¬ g = f := fun e => by subst e; simp at h
  show (if g = f then _ else _) = _
  rw [if_neg this]
theorem putF_lt {f : Str} {v : V} : ∀ {fs : List (Str × V)} {n : Nat}, fs.length < n → (putF f v fs).length < n + 1
  | [], n, h => by show 1 < n + 1; simp at h; omega
  | (g, x) :: r, n, h => by
    show (if g = f then (g, v) :: r else (g, x) :: putF f v r).length < n + 1
    simp only [List.length_cons] at h
    split
    · simp only [List.length_cons]; omega
    · obtain ⟨k, rfl⟩ : ∃ k, n = k + 1 := ⟨n - 1, by omega⟩
      have := putF_lt (f := f) (v := v) (fs := r) (n := k) (by omega)
      simp only [List.length_cons]
      omega
theorem putF_nil {f : Str} {v : V} : putF f v [] = [(f, v)] := rfl
theorem l_fldO {p dx C : Addr} {fs : List (Str × V)} {i : Nat} {f : Str} {r : Option β} {y : β} (d : Dom S H) (im : p ∈ S) (hp : H p = some (.ins C dx fs)) (hi : σ[i]? = some (some (.ref p))) (cl : Cls K C) (na : NoAttr K C f) (hl : fs.length < 1000) (h : Ev S [] tv σ H (of b' S) r) (e : r = some y)
    (q : ∀ H1 v, Fr S H H1 → (∀ q o, H q = some o → q ≠ p → H1 q = some o) → Dom S H1 → H1 p = some (.ins C dx (putF f v fs)) → b'.rp S H1 v y → D.nx σ H1) : sFld K (tVar i) tv f D σ H := by
  refine h y e H (Fr.refl _) d _ fun v H1 s1 hv => ⟨_, hi, p, C, dx, fs, rfl, s1 _ _ hp, cl, na, hl, ?_⟩
  have f1 : Fr S H1 (upd H1 p (.ins C dx (putF f v fs))) := fr_upd im
  refine q _ v ((Fr.same s1).trans f1) (fun q o eq n => by rw [upd_ne n]; exact s1 _ _ eq) (fun x hx ex => ?_) upd_same (b'.mono f1 hv)
  by_cases c : x = p
  · subst c; rw [upd_same] at ex; cases ex
  · rw [upd_ne c] at ex; exact d.same s1 x hx ex
theorem q_fldO {p dx C : Addr} {fs : List (Str × V)} {i : Nat} {f : Str} {r : Option β} {y : β} (d : Dom S H) (im : p ∈ S) (hp : H p = some (.ins C dx fs)) (hi : σ[i]? = some (some (.ref p))) (cl : Cls K C) (na : NoAttr K C f) (hl : fs.length < 1000) (h : Ev S [] tv σ H (of b' S) r) (e : r = some y)
    (q : ∀ H1 v, Fr S H H1 → (∀ q o, H q = some o → q ≠ p → H1 q = some o) → Dom S H1 → H1 p = some (.ins C dx (putF f v fs)) → b'.rp S H1 v y → u D σ H1) : tSeq (sFld K (tVar i) tv f) u D σ H := l_fldO (D := { D with nx := u D }) d im hp hi cl na hl h e q
/-- C(..): the fields are told by the arguments -/
def spInitO (C : Addr) (ar : TyA K β) (ft : FT K α) (m : β → Option α) : Sp := fun vs H Q _ => ∃ (S : AS) (p dx : Addr) (ws : List V) (x : β) (y : α), vs = .ref p :: ws ∧ H p = some (.ins C dx []) ∧ Dom (p :: S) H ∧ ar.rp (p :: S) H ws x ∧ m x = some y ∧
  ∀ H' fs, (∀ q o, H q = some o → q ≠ p → H' q = some o) → H' p = some (.ins C dx fs) → ft.rp S H' fs y → Q .non H'
theorem ev_makeO {ta : TA} {C : Addr} {ar : TyA K β} {m : β → Option α} {r : Option β} {E : XK} (ext : ∀ {S H q vs x}, H q = none → ar.rp S H vs x → ar.rp (q :: S) H vs x) (h : EvA S T ta σ H ar r) : Ev S T (tMake C (spInitO C ar ft m) [] E ta) σ H (of (tO C ft) S) (bd r m) := by
  intro z e H1 f1 d Q q
  obtain ⟨x, ex, e⟩ := bd_some e
  refine h x ex H1 f1 d _ fun vs H2 s2 hvs => fun p dx np ndx ne => ?_
  have sM : Same H2 (upd (upd H2 dx (.own p)) p (.ins C dx [])) := (same_upd ndx).trans (same_upd (by rw [upd_ne (Ne.symm ne)]; exact np))
  have d2 := d.same s2
  refine ⟨S, p, dx, vs, x, z, by simp, upd_same, ((d2.same sM).cons upd_same), ar.mono (Fr.same sM) (ext np hvs), e, fun H' fs fr hp hf => ⟨rfl, q _ H' (fun a o ea => fr a o (sM _ _ (s2 _ _ ea)) (ne_of_none (s2 _ _ ea) np)) ⟨p, dx, fs, rfl, hp, d2.not_mem np, hf⟩⟩⟩
theorem ax_nil {S : AS} {H : Hp} {q : Addr} {vs : List V} {x : Unit} (n : H q = none) (h : (aNil (K := K)).rp S H vs x) : (aNil (K := K)).rp (q :: S) H vs x := h
theorem ax_cons {ar : TyA K β} (hx : ∀ {S H q vs x}, H q = none → ar.rp S H vs x → ar.rp (q :: S) H vs x) {S : AS} {H : Hp} {q : Addr} {vs : List V} {x : α × β} (n : H q = none) (h : (aCons a ar).rp S H vs x) : (aCons a ar).rp (q :: S) H vs x := by
  obtain ⟨v, r, e, h1, h2⟩ := h
  exact ⟨v, r, e, a.ext n h1, hx n h2⟩
end
end M

namespace M
open PySem L2 G
/-- o.m(e) -/
def tMethX (C : Addr) (m : Str) (sp : Sp) (E : St → XK) (ta : TE) (t : TA) : TE := fun σ H Q => ta σ H fun x H1 => ∃ a dx fs, x = .ref a ∧ H1 a = some (.ins C dx fs) ∧ fs.lookup m = none ∧ t σ H1 fun vs H2 => sp (x :: vs) H2 Q (E σ)
section
variable {K : PySem.W.Frag} {α β γ δ ε ρ : Type} {S T : AS} {σ : St} {H : Hp} {ta tb tv te : TE} {a : Ty K α} {b' : Ty K β} {D : Ends} {u : TS} {ft : FT K α}
/-! ### defs that may refuse: what is told is one of two: which refusal and its text, or a value -/
abbrev Rf : Type := Nat × Str
/-- an exception of the class (cl k).1, with the one field (cl k).2 -/
def Xq (cl : Nat → Addr × Str) (E : XK) (H : Hp) (e : Rf) : Prop := ∀ H' d, Same H H' → H' d = none → E (.ref (cl e.1).1) (some d) (upd H' d (.xd [((cl e.1).2, .str e.2)]))
def spX (ar : TyA K α) (R : AS → Rl γ) (cl : Nat → Addr × Str) (f : α → Option (Rf ⊕ γ)) : Sp := fun vs H Q E => ∃ (S : AS) (x : α) (y : Rf ⊕ γ), Dom S H ∧ ar.rp S H vs x ∧ f x = some y ∧ (∀ z, y = .inr z → ∀ v H', Same H H' → (R S).r H H' v z → Q v H') ∧ (∀ e, y = .inl e → Xq cl E H e)
def rfs? (z : Str) : Option Str := if (PySem.reprText z).length ≤ 1000000 then some z else none
/-- raise C(z) -/
theorem l_raiseE {r : Option Str} {z : Str} {C : Addr} {f : Str} {W : WX} {ok : V → Prop} (hok : ∀ z, (PySem.reprText z).length ≤ 1000000 → ok (.str z)) (d : Dom S H) (h : Ev S T te σ H (of (K := K) tStr S) r) (e : bd r rfs? = some z) (q : ∀ H1 d, Same H H1 → H1 d = none → W (.ref C) (some d) σ (upd H1 d (.xd [(f, .str z)]))) : tRaiseSup C f ok W (tCons te tNil) D σ H := by
  obtain ⟨z', ez, e⟩ := bd_some e
  unfold rfs? at e
  split at e
  · rename_i hl
    cases e
    refine h z ez H (Fr.refl _) d _ fun v H1 s hv => ?_
    obtain ⟨rfl, _⟩ := hv
    exact ⟨_, rfl, hok z hl, fun dd hd => q H1 dd s hd⟩
  · cases e
/-- what a call that may refuse tells -/
def EvX (S T : AS) (te : TE) (σ : St) (H : Hp) (R : Rl γ) (cl : Nat → Addr × Str) (E : XK) (r : Option (Rf ⊕ γ)) : Prop :=
  ∀ y, r = some y → ∀ H1, Fr T H H1 → Dom S H1 → ∀ Q : VK, (∀ z, y = .inr z → ∀ v H2, Same H1 H2 → R.r H1 H2 v z → Q v H2) → (∀ e, y = .inl e → Xq cl E H1 e) → te σ H1 Q
theorem Xq.same {cl : Nat → Addr × Str} {E : XK} {H H1 : Hp} {e : Rf} (s : Same H H1) (h : Xq cl E H e) : Xq cl E H1 e := fun H' d s' nd => h H' d (s.trans s') nd
theorem ev_fnX1 {C : Addr} {m : Str} {r : Option α} {ry : Option β} {R : AS → Rl γ} {cl : Nat → Addr × Str} {f : α × β × Unit → Option (Rf ⊕ γ)} {E : St → XK} (hf : Fno ft m) (h : Ev S T te σ H (of (tO C ft) S) r) (hy : Ev S T tv σ H (of b' S) ry) :
    EvX S T (tMethX C m (spX (aCons (tO C ft) (aCons b' aNil)) R cl f) E te (tCons tv tNil)) σ H (R S) cl (E σ) (bd r fun x => bd ry fun y => f (x, y, ())) := by
  intro z e H1 f1 d Q q qx
  obtain ⟨x, ex, e⟩ := bd_some e
  obtain ⟨y, ey, e⟩ := bd_some e
  refine h x ex H1 f1 d _ fun v H2 s ⟨p, dx, fs, ev, hp, n, hr⟩ => ⟨p, dx, fs, ev, hp, hf S H2 fs x hr, ?_⟩
  refine hy y ey H2 (f1.trans (Fr.same s)) (d.same s) _ fun w H3 s3 hw => ?_
  have hv := (tO C ft).mono (Fr.same s3) (⟨p, dx, fs, ev, hp, n, hr⟩ : (tO C ft).rp S H2 v x)
  exact ⟨S, (x, y, ()), z, (d.same s).same s3, ⟨v, [w], rfl, hv, w, [], rfl, hw, rfl⟩, e, fun z' e' u H' s' hu => q z' e' u H' ((s.trans s3).trans s') ((R S).same (s.trans s3) hu), fun e' ee => (qx e' ee).same (s.trans s3)⟩
theorem q_asgX {i : Nat} {R : Rl γ} {cl : Nat → Addr × Str} {E : XK} {r : Option (Rf ⊕ γ)} {y : Rf ⊕ γ} (d : Dom S H) (h : EvX S T te σ H R cl E r) (e : r = some y) (k : ∀ z, y = .inr z → ∀ v H1, Same H H1 → R.r H H1 v z → u D (σ.set i (some v)) H1) (kx : ∀ e, y = .inl e → Xq cl E H e) : tSeq (tAsg te (gName i)) u D σ H :=
  h y e H (Fr.refl _) d _ (fun z ez v H1 s hv => k z ez v H1 s hv) kx
end
/-- o.m(e): it may refuse -/
theorem pe_methX {X : Cx} {CX : CXT} {k : Nat} {f C : Addr} {fd : FuncData} {ps : List Str} {sp : Sp} {E : St → XK} {m : Str} {pos apos : Pos} {e o : Expr} {es : List Expr} {ta : TE} {t : TA} {pl : Sem Bool} (he : PE X o ta) (c : Cls X.K C) (hm : Meth X.K C m f) (F : FnOk X.prog X.w X.K X.mg X.base CX k f fd ps sp) (hr : Room k X.A) (hb : Binds X.K fd ps []) (hx : ∀ σ, PassesAt CX X σ (E σ)) (ha : PA X (e :: es) t)
    (hst : starEach (e :: es) X.env = (false, eval e X.env) :: starEach es X.env := by rfl) (hpl : (backTo pos (starEach es X.env)).any (·.1) = false := by rfl)
    (ht : eval (.Call (.Attribute o m apos) (e :: es) [] pos) X.env = (do
      let ov ← eval o X.env
      standAt apos.atName
      let (f, first) ← holding [ov] (getMethod ov m pl)
      callWith pos f first (backTo pos (starEach (e :: es) X.env)) (backToKw pos (keywordEach [] X.env))) := by rfl) :
    PE X (.Call (.Attribute o m apos) (e :: es) [] pos) (tMethX C m sp E ta t) := by
  refine ⟨fun pins s σ H Q I h => ?_⟩
  refine PySem.W.methodCall_KW (pl := pl) (thn (he.run pins s σ H _ I h) fun u s1 ⟨x, H1, I1, rx, a, dx, fs, ex, ea, l, q⟩ => ?_) ht
  subst ex
  obtain rfl : u = Value.ref a := rx
  refine getmeth_ok I1 ea c hm l ?_
  refine PySem.W.callWith_K (first := [.ref a]) (h₀ := X.base) I.ok.mod.kin hm.kp (thn (ha.run pos pins s1 σ H1 _ I1 q) fun us s2 ⟨vs, H2, I2, r, q2⟩ => ⟨I2.kIn, ?_⟩) hst hpl
  exact run_fnS (us := .ref a :: us) (vs := .ref a :: vs) F hr hb (hx σ) I2 (.cons rfl r) q2
end M

namespace M
open PySem L2 G
section
variable {K : PySem.W.Frag} {α β γ : Type} {S T : AS} {σ : St} {H : Hp} {a : Ty K α} {b' : Ty K β}
/-- a written tuple of things of one kind -/
theorem ev_tupTs {tr : TA} {n : Nat} {rr : Option (List α)} (h : EvE S T tr σ H a n rr) (hn : n ≤ sizeLine) : Ev S T (tTup tr) σ H (of (tTs a) S) rr := fun x e H1 f d Q q =>
  h x e H1 f d _ fun vs H2 hl s2 ha => ⟨by rw [hl]; exact hn, fun p hp => q _ _ (s2.trans (same_new hp)) ⟨p, vs, rfl, .inl ⟨.inl upd_same, (d.same s2).not_mem hp⟩, ha.imp fun _ _ h => a.mono (Fr.same (same_new hp)) h⟩⟩
end
end M

namespace GQ
open PySem PySem.SeqAt
open AutoSeq1 (wpAny_loadPart')
open MeetsSeq MeetsSeq2 MeetsSeq3 SeqRoads2
section
variable {prog : Program} {w : World} {A : Around} {R : Result → Shared → Prop}
theorem in_loop0 {l : Addr} {x : Value} {items : Array Value} {n : Nat} {s : Shared} (hl1 : s.heap.get? l = some { cls := .type "list", data := .seq items n }) (hz : items.size = 1) (hR : R (.ok (.ret (.bool false))) s) :
    wpAny (model prog w) A.in1 (Builtin.«list.__contains__.loop» ⟨[.ref l, x, rawInt 1], []⟩) (FinOf prog w A R) (fun e s' => R (.error e) s') s := by
  obtain ⟨hp, g, d, tk, os⟩ := s
  wp_walk using wpAny_loadPart' hl1
  have hi : items[(1 : Int).toNat]? = none := by simp [hz]
  rw [hi]
  wp_walk
  exact hR
theorem in_loop1 {l : Addr} {x y : Value} {items : Array Value} {n : Nat} {s : Shared} (hl1 : s.heap.get? l = some { cls := .type "list", data := .seq items n }) (hi : items[(0 : Int).toNat]? = some y)
    (ht : wpAny (model prog w) A.in1 (eqBool y x) (fun r s' => (r = true ∧ R (.ok (.ret (.bool true))) s') ∨ (r = false ∧ (∃ n items, s'.heap.get? l = some { cls := .type "list", data := .seq items n } ∧ items.size = 1) ∧ R (.ok (.ret (.bool false))) s')) (fun e s' => R (.error e) s') s) :
    wpAny (model prog w) A.in1 (Builtin.«list.__contains__» ⟨[.ref l, x], []⟩) (FinOf prog w A R) (fun e s' => R (.error e) s') s := by
  obtain ⟨hp, g, d, tk, os⟩ := s
  wp_walk using wpAny_loadPart' hl1
  refine ⟨plainId_quiet plain_contains_loop _, codeAny_builtin entry_contains_loop (by
    rw [Around.under_plainId plain_contains_loop _]
    show wpAny (model prog w) A.in1 (Builtin.«list.__contains__.loop» ⟨[.ref l, x, rawInt 0], []⟩) (FinOf prog w A R) (fun e s' => R (.error e) s') _
    wp_walk using wpAny_loadPart' hl1
    rw [hi]
    refine wpAny_bind (wpAny_mono ht (fun r s2 h2 => ?_) fun _ _ x => x)
    rcases h2 with ⟨rfl, h2⟩ | ⟨rfl, ⟨n2, it2, hl2, hz2⟩, h2⟩
    · obtain ⟨hp2, g2, d2, tk2, os2⟩ := s2
      wp_walk
      exact h2
    · have k := in_loop0 (prog := prog) (w := w) (A := A) (R := R) (x := x) hl2 hz2 h2
      obtain ⟨hp2, g2, d2, tk2, os2⟩ := s2
      wp_walk
      exact ⟨plainId_quiet plain_contains_loop _, codeAny_builtin entry_contains_loop (by
        rw [Around.under_plainId plain_contains_loop _]
        exact k)⟩)⟩
end
end GQ
theorem L2.getD_mem {l : List Int} {i : Nat} (h : i < l.length) : l.getD i 0 ∈ l := by
  have e : l.getD i 0 = l[i] := by simp [List.getD, h]
  exact e ▸ List.getElem_mem h
/-! ### == and != of dicts whose values are data; len, in, == of own instances; max of a dict -/
namespace L2
open PySem PySem.Spec PyProof.Rows
inductive HitsD (K : PySem.W.Frag) (H : Hp) (ls : List (Key × V)) : List (Key × V) → Bool → Prop
  | nil : HitsD K H ls [] true
  | miss {k : Key} {v : V} {r : List (Key × V)} : valV ls k = none → HitsD K H ls ((k, v) :: r) false
  | hit {k : Key} {v u : V} {r : List (Key × V)} {d e : PyData} {b : Bool} : valV ls k = some u → Dp K H v d → Dp K H u e → SeqAt.shaped d = true → SeqAt.shaped e = true → HitsD K H ls r b → HitsD K H ls ((k, v) :: r) (PyData.eqv d e && b)
section
variable {X : Cx} {pins : List (Addr × Obj)} {σ : St} {H : Hp} {s : Shared}
theorem HitsD.run (I : Inv X pins σ H s) {A : Around} (hu : A.units + 64 < cLine) {ls : List (Key × V)} {vb : List (Key × Value)} (rb : KV ls vb) {ks : List (Key × V)} {r : Bool} (h : HitsD X.K H ls ks r) : ∀ {va : List (Key × Value)}, KV ks va → PySem.W.KeqHits A s vb va r := by
  induction h with
  | nil =>
    intro va ra
    unfold KV at ra
    cases ra
    exact .nil
  | @miss k v r hn =>
    intro va ra
    unfold KV at ra
    cases ra with
    | @cons _ q _ qs h t =>
      obtain ⟨h1, h2⟩ := h
      obtain ⟨key, w⟩ := q
      have h1' : k = key := h1
      have rr := rb.val k
      rw [hn] at rr
      subst h1'
      refine .miss ?_
      cases e : valueAt vb k with
      | none => rfl
      | some y => rw [e] at rr; exact absurd rr (by simp [RelO])
  | @hit k v u r d e b hv hd he sd se hr ih =>
    intro va ra
    unfold KV at ra
    cases ra with
    | @cons _ q _ qs h t =>
      obtain ⟨h1, h2⟩ := h
      obtain ⟨key, w⟩ := q
      have h1' : k = key := h1
      have rr : RelO (some u) (valueAt vb k) := by rw [← hv]; exact rb.val k
      obtain ⟨y, hy, ry⟩ := rr.some_of
      subst h1'
      obtain ⟨as, r1⟩ := Dp.reads I d v w hd h2
      obtain ⟨bs, r2⟩ := Dp.reads I e u y he ry
      exact .hit hy (SeqAt.eqAt_reads d e A s w y as bs r1 r2 (SeqAt.canLay_of_shaped sd) (SeqAt.canLay_of_shaped se) (SeqAt.room_of_shaped sd hu)) (ih t)
end
section
variable {X : Cx} {CX : CXT} {C g : Addr} {n : Nat} {sp : Sp} {E : XK}
def rEqDD (K : PySem.W.Frag) : R2 := fun x y H Q => ∃ a b ks ls r, x = .ref a ∧ y = .ref b ∧ Rd H a (.dK ks) ∧ Rd H b (.dK ls) ∧ HitsD K H ls ks r ∧ Q (.bl (ks.length == ls.length && r)) H
def rNeDD (K : PySem.W.Frag) : R2 := fun x y H Q => ∃ a b ks ls r, x = .ref a ∧ y = .ref b ∧ Rd H a (.dK ks) ∧ Rd H b (.dK ls) ∧ HitsD K H ls ks r ∧ Q (.bl (!(ks.length == ls.length && r))) H
theorem op_eqDD (hu : X.A.units + 65 < cLine) : OpR X (compareOp .Eq) (rEqDD X.K) := by
  intro pins s σ H x y v u Q I rx ry h
  obtain ⟨a, b, ks, ls, r, rfl, rfl, ea, eb, hh, q⟩ := h
  obtain rfl : v = Value.ref a := rx
  obtain rfl : u = Value.ref b := ry
  obtain ⟨_, ya, va, ra, da⟩ := dk_rd I.hok ea
  obtain ⟨_, yb, vb, rb, db⟩ := dk_rd I.hok eb
  have hl : (va.length == vb.length) = (ks.length == ls.length) := by rw [← ra.length, ← rb.length]
  refine PySem.W.keq_eq (knd := mixKind X.prog X.w) (r := r) ya yb da db (by omega) (fun _ => hh.run I (A := X.A.in1) (by show X.A.units + 1 + 64 < cLine; omega) rb ra) ?_
  rw [hl]
  exact ⟨.bl _, H, I, rfl, q⟩
theorem op_neDD (hu : X.A.units + 65 < cLine) : OpR X (compareOp .NotEq) (rNeDD X.K) := by
  intro pins s σ H x y v u Q I rx ry h
  obtain ⟨a, b, ks, ls, r, rfl, rfl, ea, eb, hh, q⟩ := h
  obtain rfl : v = Value.ref a := rx
  obtain rfl : u = Value.ref b := ry
  obtain ⟨_, ya, va, ra, da⟩ := dk_rd I.hok ea
  obtain ⟨_, yb, vb, rb, db⟩ := dk_rd I.hok eb
  have hl : (va.length == vb.length) = (ks.length == ls.length) := by rw [← ra.length, ← rb.length]
  refine PySem.W.keq_ne (knd := mixKind X.prog X.w) (r := r) ya yb da db (by omega) (fun _ => hh.run I (A := X.A.in1) (by show X.A.units + 1 + 64 < cLine; omega) rb ra) ?_
  rw [hl]
  exact ⟨.bl _, H, I, rfl, q⟩
/-- len(x) of an own instance -/
def rLenI (C : Addr) (sp : Sp) (E : XK) : List V → Hp → VK → Prop := fun xs H Q => ∃ a dx fs, xs = [V.ref a] ∧ H a = some (.ins C dx fs) ∧ sp [.ref a] H (fun z H' => ∃ i : Int, z = .int i ∧ 0 ≤ i ∧ i < 2 ^ 63 ∧ Q z H') E
theorem call_lenI (hs : PySem.W.findIn X.K (.ref C) "__len__" = some (some (.ref g))) (hf : PySem.W.isFn X.K (.ref g) = true) (F : FnR X.prog X.w X.K X.mg X.base CX n g sp) (hr : Room (n + 1) X.A) (hx : Passes CX X E) : CallR X (.builtin "len") (rLenI C sp E) := by
  intro pins s σ H xs us Q I r h
  obtain ⟨a, dx, fs, rfl, hsl, q⟩ := h
  obtain ⟨u, rfl, ru⟩ := r.one
  cases (show u = Value.ref a from ru)
  obtain ⟨mA, J, _⟩ := ins_get I.hok hsl
  obtain ⟨od, J, _⟩ := J.look
  have hr2 : Room n X.A.in1 := Room.in1 hr
  obtain ⟨m, hF⟩ := I.fr
  refine PySem.W.len_K hF I.ok.mod.kin J hs hf (wpAny_mono (wpAny_call (SlX.run_at (us := [.ref a]) (ws := [.ref a]) F hr2 I.env0.in1 hx I (.cons rfl .nil) q)) (fun w s' z => ?_) fun _ _ x => x)
  obtain ⟨z', H', I', rz, i, ei, i0, i1, qz⟩ := z
  subst ei
  obtain ⟨t, e⟩ := (show ∃ t, w = Value.int i t from rz)
  cases e
  exact ⟨⟨i0, i1⟩, .int i, H', I'.tok _, ⟨_, rfl⟩, qz⟩
/-- what else may stand behind == -/
def YTy (H : Hp) (y : V) (T : String) : Prop := (T = "str" ∧ ∃ z, y = .str z) ∨ (T = "dict" ∧ ∃ b kvs, y = .ref b ∧ Rd H b (.dK kvs)) ∨ (T = "int" ∧ ∃ i, y = .int i) ∨ (T = "list" ∧ ∃ b xs, y = .ref b ∧ Rd H b (.lst xs))
theorem YTy.typeIs {pins : List (Addr × Obj)} {σ : St} {H : Hp} {s : Shared} {y : V} {T : String} {u : Value} (I : Inv X pins σ H s) (h : YTy H y T) (r : RelV y u) : s.TypeIs u T := by
  rcases h with ⟨rfl, z, rfl⟩ | ⟨rfl, b, kvs, rfl, hb⟩ | ⟨rfl, i, rfl⟩ | ⟨rfl, b, xs, rfl, hb⟩
  · obtain ⟨t, e⟩ := (show ∃ t, u = Value.str z t from r)
    subst e
    exact typeIs_str _ _ _
  · cases (show u = Value.ref b from r)
    obtain ⟨_, _, vs, _, d⟩ := dk_rd I.hok hb
    exact d.typeIs
  · obtain ⟨t, e⟩ := (show ∃ t, u = Value.int i t from r)
    subst e
    exact typeIs_int _ _ _
  · cases (show u = Value.ref b from r)
    obtain ⟨us, r1, p1, _⟩ := I.list (.inl hb)
    exact p1.isList.typeIs
theorem typeIs_keep {s s2 : Shared} {u : Value} {T : String} (h : s.TypeIs u T) (k : ∀ b o, s.heap.get? b = some o → s2.heap.get? b = some o) : s2.TypeIs u T := by
  cases u with
  | ref a => obtain ⟨o, ho, e⟩ := h; exact ⟨o, k _ _ ho, e⟩
  | _ => exact h
def rOwnT (C : Addr) (T : String) (sp : Sp) (E : XK) : R2 := fun x y H Q => ∃ a dx fs, x = .ref a ∧ H a = some (.ins C dx fs) ∧ YTy H y T ∧ sp [x, y] H Q E
theorem op_ownT {op : CmpOp} {T : String} (hop : ∀ a b, compareOp op a b = richCompare op a b) (hs : PySem.W.findIn X.K (.ref C) (cmpInfo op).2.1 = some (some (.ref g))) (hf : PySem.W.isFn X.K (.ref g) = true) (hi : PySem.W.notFirst X.K C (.type T) = true) (F : FnR X.prog X.w X.K X.mg X.base CX n g sp)
    (hr : Room n X.A) (hx : Passes CX X E) : OpR X (compareOp op) (rOwnT C T sp E) := by
  intro pins s σ H x y v u Q I rx ry h
  obtain ⟨a, dx, fs, rfl, ha, hy, q⟩ := h
  cases (show v = Value.ref a from rx)
  obtain ⟨mA, J, _⟩ := ins_get I.hok ha
  obtain ⟨od, J, _⟩ := J.look
  obtain ⟨m, hF⟩ := I.fr
  rw [hop]
  have hT := hy.typeIs I ry
  refine PySem.W.cmp_K (op := op) (tb := .type T) hr.units0 hF I.ok.mod.kin J (fun _ _ _ s2 k q => wpAny_typeOf (s := s2) (typeIs_keep hT k) q) hi hs hf ?_
  refine wpAny_mono (wpAny_call (run_fnR (us := [.ref a, u]) (vs := [.ref a, y]) F hr hx I (.cons rfl (.cons ry .nil)) q)) (fun w s' z => ?_) fun _ _ x => x
  obtain ⟨z', H', I', rz, qz⟩ := z
  exact SlX.cmpback rz ⟨z', H', I', rz, qz⟩
/-- x in [y], both own instances of one class -/
def rInI (C : Addr) (sp : Sp) (E : XK) : R2 := fun x y H Q => ∃ a dx fs p b dy gs, x = .ref a ∧ H a = some (.ins C dx fs) ∧ y = .ref p ∧ H p = some (.lst [.ref b]) ∧ H b = some (.ins C dy gs) ∧ a ≠ b ∧ sp [.ref b, .ref a] H (fun z H' => ∃ k, z = .bl k ∧ Ext H H' ∧ Q (.bl k) H') E
theorem op_inI (hs : PySem.W.findIn X.K (.ref C) "__eq__" = some (some (.ref g))) (hf : PySem.W.isFn X.K (.ref g) = true) (F : FnR X.prog X.w X.K X.mg X.base CX n g sp)
    (hr : Room (n + 1) X.A) (hx : Passes CX X E) : OpR X (compareOp .In) (rInI C sp E) := by
  intro pins s σ H x y v u Q I rx ry h
  obtain ⟨a, dx, fs, p, b, dy, gs, rfl, ha, rfl, hp, hb, nab, q⟩ := h
  cases (show v = Value.ref a from rx)
  cases (show u = Value.ref p from ry)
  obtain ⟨mA, J, _⟩ := ins_get I.hok ha
  obtain ⟨od, J, _⟩ := J.look
  obtain ⟨mB, J', _⟩ := ins_get I.hok hb
  obtain ⟨od', J', _⟩ := J'.look
  have hr2 : Room n X.A.in1 := Room.in1 hr
  obtain ⟨m, hF⟩ := I.fr
  obtain ⟨us, r1, p1, _⟩ := I.list (.inl (.inl hp))
  obtain ⟨u1, rfl, ru⟩ := vals1 r1
  cases (show u1 = Value.ref b from ru)
  have hT : s.TypeIs (.ref p) "list" := p1.isList.typeIs
  have fin : wpAny (model X.prog X.w) X.A (call (.builtin "list.__contains__") [.ref p, .ref a]) (fun v s' => ∃ k, v = .bool k ∧ EP X pins σ Q (.bool k) s') X.xe s := by
    obtain ⟨z, its, kk, r, e⟩ := I.hok p _ hp
    obtain ⟨u2, rfl, ru2⟩ := vals1 r
    cases (show u2 = Value.ref b from ru2)
    refine GQ.call_here PySem.F.slot_list_contains hT PySem.F.entry_list_contains (PySem.F.args_list_contains_2 _ _) (GQ.in_loop1 (n := kk) (y := .ref b) e (by rfl) (GQ.eqBool_refG (Ne.symm nab) ?_))
    refine PySem.W.cmp_K (op := .Eq) (tb := .ref C) hr2.units0 hF I.ok.mod.kin J' J.type (by simp [PySem.W.notFirst]) hs hf ?_
    refine wpAny_mono (wpAny_call (SlX.run_at (us := [.ref b, .ref a]) (ws := [.ref b, .ref a]) F hr2 I.env0.in1 hx I (.cons rfl (.cons rfl .nil)) q)) (fun w s' z => ?_) fun _ _ x => x
    obtain ⟨z', H', I', rz, k, ek, ext, qz⟩ := z
    subst ek
    refine SlX.cmpback rz ?_
    cases (show w = Value.bool k from rz)
    refine ⟨k, rfl, ?_⟩
    cases k with
    | true => exact .inl ⟨rfl, true, rfl, .bl true, H', I', rfl, qz⟩
    | false =>
      obtain ⟨z, its, kk, r, e⟩ := I'.hok p _ (ext _ _ hp)
      obtain ⟨u2, rfl, ru2⟩ := vals1 r
      cases (show u2 = Value.ref b from ru2)
      exact .inr ⟨rfl, ⟨kk, _, e, rfl⟩, false, rfl, .bl false, H', I', rfl, qz⟩
  show wpAny _ _ (contains (.ref p) (.ref a) >>= fun b => pure (Value.bool b)) _ _ s
  refine wpAny_bind (wpAny_contains_slot hT PySem.F.slot_list_contains (wpAny_mono fin (fun v s' hv => ?_) fun _ _ x => x))
  obtain ⟨k, rfl, hk⟩ := hv
  exact wpAny_truthy_bool (wpAny_pure hk)
/-- max(d), a dict with numbers for keys -/
def rMaxDI : List V → Hp → VK → Prop := fun xs H Q => ∃ (a : Addr) (kvs : List (Key × V)) (ks : List Int), xs = [.ref a] ∧ Rd H a (.dK kvs) ∧ kvs.map (·.1) = ks.map Sum.inl ∧ ks ≠ [] ∧ ∀ m, m ∈ ks → (∀ j ∈ ks, j ≤ m) → Q (.int m) H
theorem call_maxDI (hc : X.calm = true) : CallR X (.builtin "max") rMaxDI := by
  intro pins s σ H xs us Q I r h
  obtain ⟨a, kvs, ks, rfl, ha, hk, hne, q⟩ := h
  obtain ⟨u, rfl, ru⟩ := vals1 r
  cases (show u = Value.ref a from ru)
  obtain ⟨_, hsys, vs, rel, dof⟩ := dk_rd I.hok ha
  obtain ⟨ep, dat⟩ := dof.dictAt
  have hkeys : vs.map (·.1) = ks.map Sum.inl := rel.keys.symm.trans hk
  have hl : vs.length = ks.length := by
    have e := congrArg List.length hkeys
    rw [List.length_map, List.length_map] at e
    exact e
  have hlen : 0 < vs.length := by rw [hl]; exact List.length_pos_iff.mpr hne
  have hval : ∀ (i : Nat) (v : Value), (∃ k x, vs[i]? = some (k, x) ∧ (mixKind X.prog X.w).is k v = true) → ∃ t, v = Value.int (ks.getD i 0) t := fun i v ⟨k, x, h1, h2⟩ => by
    have e1 : (vs.map (·.1))[i]? = some k := by rw [List.getElem?_map, h1]; rfl
    rw [hkeys, List.getElem?_map] at e1
    obtain ⟨j, hj, e2⟩ := Option.map_eq_some_iff.mp e1
    subst e2
    rw [List.getD_eq_getElem?_getD, hj]
    rcases keyIs_shape (show keyIs (Sum.inl j) v = true from h2) with ⟨i, t, ek, ev⟩ | ⟨z, t, ek, ev⟩
    · cases ek
      exact ⟨t, ev⟩
    · cases ek
  have hlt : a < s.heap.objs.size := by
    obtain ⟨ob, es, ho, _⟩ := dat
    exact Heap.lt_size ho
  refine call_max_walk (wpAny_pyIter_dict hsys dat ?_)
  refine ⟨_, _, _, _, _, _, _, rfl, Walks.dictKeys (knd := mixKind X.prog X.w) (A := X.A.in1) (I.ok.hd hc) s.heap.objs.size a (Nat.ne_of_lt hlt) vs ep, ?_, fun b hb => ?_, hlen, CmpOf.ints_gt (fun i => ks.getD i 0) hval, fun v h' tk hP hk => ?_⟩
  · exact ⟨⟨_, Heap.get?_push_size _ rfl, rfl, rfl⟩, dat.keep fun b u e => Heap.get?_push_of_some _ e⟩
  · show b < (s.heap.push _).objs.size
    rw [Heap.size_push]
    rcases List.mem_cons.mp hb with e | hb
    · rw [e]
      exact Nat.lt_succ_self _
    · have e : b = a := List.mem_singleton.mp hb
      rw [e]
      exact Nat.lt_succ_of_lt hlt
  · obtain ⟨t, rfl⟩ := hval _ v hP
    obtain ⟨b1, b2⟩ := argBest_gt (fun i => ks.getD i 0) (vs.length - 1)
    have lt : argBest (fun i j => decide (ks.getD i 0 > ks.getD j 0)) (vs.length - 1) < ks.length := by omega
    have apart : ∀ b u, s.heap.get? b = some u → b ∉ [s.heap.objs.size] := fun b u e z => by
      have c := Heap.lt_size e
      rw [List.mem_singleton.mp z] at c
      exact Nat.lt_irrefl _ c
    refine ⟨.int _, H, I.kept (t' := tk) fun b u e => hk b u (apart b u e) (Heap.get?_push_of_some _ e), ⟨t, rfl⟩, q _ ?_ fun j hj => ?_⟩
    · exact getD_mem lt
    · obtain ⟨i, hi, e⟩ := List.mem_iff_getElem.mp hj
      have e2 : ks.getD i 0 = j := by rw [List.getD_eq_getElem?_getD, List.getElem?_eq_getElem hi, ← e] <;> rfl
      rw [← e2]
      exact b2 i (by omega)
end
end L2

namespace M
open PySem L2 G
/-! ### tuples of several kinds, told by a row of codes -/
section
variable {K : PySem.W.Frag} {α β γ δ ε ρ : Type} {S T : AS} {σ : St} {H : Hp} {ta tb te : TE} {a : Ty K α} {b' : Ty K β} {D : Ends} {u : TS} {b c : Addr}
class XA (t : TyA K α) : Prop where
  ext : ∀ {S H p vs x}, H p = none → t.rp S H vs x → t.rp (p :: S) H vs x
  sub : ∀ {S S' H vs x}, (∀ a ∈ S', a ∈ S) → t.rp S H vs x → t.rp S' H vs x
instance : XA (K := K) aNil := ⟨fun _ h => h, fun _ h => h⟩
instance {t : TyA K β} [XA t] : XA (aCons a t) := ⟨fun n ⟨v, r, e, h, h'⟩ => ⟨v, r, e, a.ext n h, XA.ext n h'⟩, fun n ⟨v, r, e, h, h'⟩ => ⟨v, r, e, a.sub n h, XA.sub n h'⟩⟩
def tTu (t : TyA K α) [XA t] : Ty K α where
  rp S H v x := ∃ a vs, v = .ref a ∧ nT K S H a vs ∧ t.rp S H vs x
  mono f := fun ⟨a, vs, e, h, h1⟩ => ⟨a, vs, e, h.mono f, t.mono f h1⟩
  ext f := fun ⟨a, vs, e, h, h1⟩ => ⟨a, vs, e, h.ext f, XA.ext f h1⟩
  sub f := fun ⟨a, vs, e, h, h1⟩ => ⟨a, vs, e, h.sub f, XA.sub f h1⟩
instance {t : TyA K α} [XA t] : NN (tTu t) := ⟨fun ⟨p, u, e, _⟩ => by rw [e]; intro z; cases z⟩
/-- how many -/
class LA (t : TyA K α) (n : outParam Nat) : Prop where
  len : ∀ {S H vs x}, t.rp S H vs x → vs.length = n
instance : LA (K := K) aNil 0 := ⟨fun h => by rw [show _ = _ from h]; rfl⟩
instance {t : TyA K β} {n : Nat} [LA t n] : LA (aCons a t) (n + 1) := ⟨fun ⟨v, r, e, h, h'⟩ => by rw [e, List.length_cons, LA.len h']⟩
theorem ev_tu {tr : TA} {t : TyA K α} [XA t] {n : Nat} [LA t n] {r : Option α} (hn : n ≤ 1000) (h : EvA S T tr σ H t r) : Ev S T (tTup tr) σ H (of (tTu t) S) r := fun x e H1 f d Q q =>
  h x e H1 f d _ fun vs H2 s hv => ⟨by rw [LA.len hv]; exact Nat.le_trans hn (by decide), fun p hp => q _ _ (s.trans (same_new hp)) ⟨p, vs, rfl, .inl ⟨.inl upd_same, (d.same s).not_mem hp⟩, t.mono (Fr.same (same_new hp)) hv⟩⟩
theorem ew_tu {tr : TA} {t : TyA K α} [XA t] {n : Nat} [LA t n] {w : Wp α} (hn : n ≤ 1000) (h : EvWA b c S tr σ H t w) : EvW b c S (tTup tr) σ H (of (tTu t) S) w := fun ts P hP H1 f d hB Q q =>
  h ts P hP H1 f d hB _ fun vs H2 x hx f2 d2 hB2 hv => ⟨by rw [LA.len hv]; exact Nat.le_trans hn (by decide), fun p hp => q _ _ x hx (f2.trans (Fr.same (same_new hp))) (d2.same (same_new hp)) (hB2.same (same_new hp)) ⟨p, vs, rfl, .inl ⟨.inl upd_same, d2.not_mem hp⟩, t.mono (Fr.same (same_new hp)) hv⟩⟩
/-- the k-th of them -/
def Nth (t : TyA K α) (k : Nat) (b' : Ty K β) (g : α → β) : Prop := ∀ S H vs x, t.rp S H vs x → ∃ v, vs[k]? = some v ∧ b'.rp S H v (g x)
theorem nth_here {t : TyA K β} : Nth (aCons a t) 0 a (fun x => x.1) := by
  rintro S H vs x ⟨v, r, rfl, h, _⟩
  exact ⟨v, rfl, h⟩
theorem nth_there {t : TyA K β} {c : Ty K γ} {k : Nat} {g : β → γ} (h : Nth t k c g) : Nth (aCons a t) (k + 1) c (fun x => g x.2) := by
  rintro S H vs x ⟨v, r, rfl, _, hr⟩
  obtain ⟨w, e, hw⟩ := h S H r x.2 hr
  exact ⟨w, by simpa using e, hw⟩
theorem ev_ixTu {t : TyA K α} [XA t] {k : Nat} {g : α → β} {r : Option α} (hn : Nth t k b' g) (h : Ev S T te σ H (of (tTu t) S) r) : Ev S T (tOp (rIxT K) te (tC (.int (k : Int)))) σ H (of b' S) (bd r fun x => some (g x)) := by
  intro z e H1 f1 d Q q
  obtain ⟨x, ex, e⟩ := bd_some e
  cases e
  refine h x ex H1 f1 d _ fun v H2 s ⟨p, vs, ev, hp, hv⟩ => ?_
  obtain ⟨w, hw, hr⟩ := hn S H2 vs x hv
  exact ⟨p, vs, (k : Int), w, ev, rfl, hp.sq, atI_nat hw, q w H2 s hr⟩
/-- the first n of them -/
def Tk (t : TyA K α) (n : Nat) (t' : TyA K β) (g : α → β) : Prop := ∀ S H vs x, t.rp S H vs x → n < vs.length ∧ t'.rp S H (vs.take n) (g x)
theorem tk_0 {t : TyA K β} : Tk (aCons a t) 0 (aNil (K := K)) (fun _ => ()) := by
  rintro S H vs x ⟨v, r, rfl, h, _⟩
  exact ⟨by simp, rfl⟩
theorem tk_s {t : TyA K β} {t' : TyA K γ} {n : Nat} {g : β → γ} (h : Tk t n t' g) : Tk (aCons a t) (n + 1) (aCons a t') (fun x => (x.1, g x.2)) := by
  rintro S H vs x ⟨v, r, rfl, h1, hr⟩
  obtain ⟨l, hw⟩ := h S H r x.2 hr
  exact ⟨by simp; omega, v, _, rfl, h1, hw⟩
theorem cutV_take {vs : List V} {n : Nat} (h : n < vs.length) : cutV vs none (some (n : Int)) = vs.take n := by
  unfold cutV
  rw [HT.sIx_none, HT.sIx_nat, List.drop_zero, Nat.sub_zero, Nat.min_eq_left (by omega)]
theorem ev_slTu {t : TyA K α} [XA t] {t' : TyA K β} [XA t'] {n : Nat} {g : α → β} {r : Option α} (hn : Tk t n t' g) (h : Ev S T te σ H (of (tTu t) S) r) : Ev S T (tSl (rSlT K) te tNoPart (tPart (tC (.int (n : Int))))) σ H (of (tTu t') S) (bd r fun x => some (g x)) := by
  intro z e H1 f1 d Q q
  obtain ⟨x, ex, e⟩ := bd_some e
  cases e
  refine h x ex H1 f1 d _ fun v H2 s ⟨p, vs, ev, hp, hv⟩ => ?_
  obtain ⟨hl, hv'⟩ := hn S H2 vs x hv
  subst ev
  refine ⟨(n : Int), rfl, p, vs, rfl, hp.sq, fun z => ?_, fun p' hp' => q _ _ (s.trans (same_new hp')) ⟨p', _, rfl, .inl ⟨.inl upd_same, (d.same s).not_mem hp'⟩, ?_⟩⟩
  · rw [HT.sIx_nat] at z
    have := z.2
    omega
  · rw [cutV_take hl]
    exact t'.mono (Fr.same (same_new hp')) hv'
/-- one row behind another -/
def Cc (t : TyA K α) (t' : TyA K β) (t2 : TyA K γ) (g : α → β → γ) : Prop := ∀ S H vs ws x y, t.rp S H vs x → t'.rp S H ws y → t2.rp S H (vs ++ ws) (g x y)
theorem cc_nil {t' : TyA K β} : Cc (aNil (K := K)) t' t' (fun _ y => y) := fun S H vs ws x y h h' => by
  rw [show vs = [] from h]
  exact h'
theorem cc_cons {t : TyA K β} {t' : TyA K γ} {t2 : TyA K δ} {g : β → γ → δ} (h : Cc t t' t2 g) : Cc (aCons a t) t' (aCons a t2) (fun x y => (x.1, g x.2 y)) := by
  rintro S H vs ws x y ⟨v, r, rfl, h1, hr⟩ h'
  exact ⟨v, _, rfl, h1, h S H r ws x.2 y hr h'⟩
theorem od_catTu {t : TyA K α} [XA t] {t' : TyA K β} [XA t'] {t2 : TyA K γ} [XA t2] {n m : Nat} [LA t (n + 1)] [LA t' (m + 1)] {g : α → β → γ} (hn : n + m ≤ 1000) (h : Cc t t' t2 g) : OpD (tTu t) (tTu t') S (of (tTu t2) S) (rCatT K) (fun x y => some (g x y)) := by
  rintro x y z e H1 v w d ⟨p, vs, rfl, hp, hv⟩ ⟨p', ws, rfl, hp', hw⟩ Q q
  cases e
  have l1 := LA.len hv
  have l2 := LA.len hw
  refine ⟨p, p', vs, ws, rfl, rfl, hp.sq, hp'.sq, fun z => (by rw [z] at l1; simp at l1), by rw [l1, l2]; exact Nat.le_trans (show n + 1 + (m + 1) ≤ 1002 by omega) (by decide), fun z => (by rw [z] at l2; simp at l2), fun _ r hr => q _ _ (same_new hr) ⟨r, _, rfl, .inl ⟨.inl upd_same, d.not_mem hr⟩, t2.mono (Fr.same (same_new hr)) (h S H1 vs ws x y hv hw)⟩⟩
/-- data of rows -/
structure TyAD (t : TyA K α) where
  dt : α → List PyData
  dep : Nat
  dp : ∀ {S H vs x}, t.rp S H vs x → DpAll K H vs (dt x)
  shp : ∀ {S H vs x}, t.rp S H vs x → PyData.canLayAll0 (dt x) = true
  hd : ∀ x, PyData.depthAll (dt x) ≤ dep
  eqv : ∀ x y, PyData.eqvAll (dt x) (dt y) = true ↔ x = y
def daNil : TyAD (K := K) aNil := ⟨fun _ => [], 0, fun h => by rw [show _ = _ from h]; exact .nil, fun _ => rfl, fun _ => Nat.zero_le _, fun x y => by simp [PyData.eqvAll]⟩
def daCons {a : Ty K α} {t : TyA K β} (d : TyD a) (e : TyAD t) : TyAD (aCons a t) := ⟨fun x => d.dt x.1 :: e.dt x.2, max d.dep e.dep, fun ⟨v, r, z, h1, h2⟩ => by subst z; exact .cons (d.dp h1) (e.dp h2),
  fun {S H vs x} ⟨v, r, z, h1, h2⟩ => by
    show (PyData.canLay0 (d.dt x.1) && PyData.canLayAll0 (e.dt x.2)) = true
    rw [d.shp h1, e.shp h2]
    rfl,
  fun x => by
    show max (PyData.depth (d.dt x.1)) (PyData.depthAll (e.dt x.2)) ≤ _
    have h1 := d.hd x.1
    have h2 := e.hd x.2
    omega,
  fun x y => by
    show (PyData.eqv (d.dt x.1) (d.dt y.1) && PyData.eqvAll (e.dt x.2) (e.dt y.2)) = true ↔ _
    rw [Bool.and_eq_true, d.eqv, e.eqv]
    exact ⟨fun h => Prod.ext h.1 h.2, fun h => by subst h; exact ⟨rfl, rfl⟩⟩⟩
def dTu {t : TyA K α} [XA t] (d : TyAD t) : TyD (tTu t) := ⟨fun x => .tuple (d.dt x), d.dep + 1, fun ⟨p, vs, e, hp, h⟩ => by subst e; exact .tup hp.sq (d.dp h), fun ⟨p, vs, e, hp, h⟩ => d.shp h, fun x => Nat.succ_le_succ (d.hd x), fun x y => d.eqv x y⟩
/-- None or another thing that is never None -/
def dOpt {a : Ty K α} (d : TyD a) (hn : ∀ x, PyData.eqv .none (d.dt x) = false ∧ PyData.eqv (d.dt x) .none = false) : TyD (tOpt a) := ⟨fun o => match o with | none => .none | some x => d.dt x, d.dep,
  fun {S H v x} h => by cases x with | none => rw [show v = _ from h]; exact .non | some x => exact d.dp h.2,
  fun {S H v x} h => by cases x with | none => rfl | some x => exact d.shp h.2,
  fun x => by cases x with | none => exact Nat.zero_le _ | some x => exact d.hd x,
  fun x y => by
    cases x with
    | none => cases y with
      | none => simp [PyData.eqv]
      | some y => simp [(hn y).1]
    | some x => cases y with
      | none => simp [(hn x).2]
      | some y => simp [d.eqv]⟩
theorem opt_tu {t : TyA K α} [XA t] (d : TyAD t) (x : α) : PyData.eqv .none ((dTu d).dt x) = false ∧ PyData.eqv ((dTu d).dt x) .none = false := by
  show PyData.eqv .none (.tuple _) = false ∧ PyData.eqv (.tuple _) .none = false
  constructor <;> simp [PyData.eqv]
theorem opt_t2 {a : Ty K α} {b' : Ty K β} (d : TyD a) (e : TyD b') (x : α × β) : PyData.eqv .none ((dT2 d e).dt x) = false ∧ PyData.eqv ((dT2 d e).dt x) .none = false := by
  show PyData.eqv .none (.tuple _) = false ∧ PyData.eqv (.tuple _) .none = false
  constructor <;> simp [PyData.eqv]
/-- drawn things that may be None -/
theorem ew_oN {w : Wp Unit} (h : EvW b c S te σ H (of (K := K) tNone S) w) : EvW b c S te σ H (of (tOpt a) S) (unW (fun _ => some none) w) := ew_as h fun x y e H1 v hv => by cases e; exact hv
theorem ew_oS [NN a] {w : Wp α} (h : EvW b c S te σ H (of a S) w) : EvW b c S te σ H (of (tOpt a) S) (unW (fun x => some (some x)) w) := ew_as h fun x y e H1 v hv => by cases e; exact ⟨NN.h hv, hv⟩
/-- a statement that is an expression -/
theorem l_drop {R : Rl α} {r : Option α} {x : α} (d : Dom S H) (h : Ev S T te σ H R r) (e : r = some x) (k : ∀ v H1, Same H H1 → R.r H H1 v x → D.nx σ H1) : tDrop te D σ H := h x e H (Fr.refl _) d _ k
theorem q_drop {R : Rl α} {r : Option α} {x : α} (d : Dom S H) (h : Ev S T te σ H R r) (e : r = some x) (k : ∀ v H1, Same H H1 → R.r H H1 v x → u D σ H1) : tSeq (tDrop te) u D σ H := h x e H (Fr.refl _) d _ k
/-- two names at once, both new things -/
theorem q_parS {i j : Nat} {Ra : Rl α} {ra : Option α} {x : α} (d : Dom S H) (ha : Ev S T ta σ H Ra ra) (ea : ra = some x) (k : ∀ v H1, Same H H1 → Ra.r H H1 v x → ∃ (β : Type) (S2 : AS) (Rb : Rl β) (rb : Option β) (y : β), Dom S2 H1 ∧ Ev S2 T tb σ H1 Rb rb ∧ rb = some y ∧ ∀ w H2, Same H1 H2 → Rb.r H1 H2 w y → u D ((σ.set i (some v)).set j (some w)) H2) :
    tSeq (tPar i j (tCons ta (tCons tb tNil))) u D σ H := ha x ea H (Fr.refl _) d _ fun v H1 s1 hv => by
  obtain ⟨β, S2, Rb, rb, y, d2, hb, eb, kk⟩ := k v H1 s1 hv
  exact hb y eb H1 (Fr.refl _) d2 _ fun w H2 s2 hw => ⟨v, w, rfl, kk w H2 s2 hw⟩
end
end M

namespace M
open PySem L2 G
section
variable {K : PySem.W.Frag} {α β γ δ ε ρ κ : Type} [KeyC κ] [DecidableEq κ] {S T : AS} {σ : St} {H : Hp} {ta tb te tc td ty tv : TE} {a : Ty K α} {b' : Ty K β} {D : Ends} {u : TS} {b c : Addr}
open KeyC
/-! ### == of dicts -/
def hitB [DecidableEq β] (ys : List (κ × β)) (p : κ × β) : Bool := match getK ys p.1 with
  | none => false
  | some z => decide (p.2 = z)
def dEq [DecidableEq β] (xs ys : List (κ × β)) : Bool := xs.length == ys.length && xs.all (hitB ys)
theorem hits_of [DecidableEq β] {S S' : AS} {H : Hp} (d : TyD b') (hd : d.dep ≤ 64) {ls : List (Key × V)} {ys : List (κ × β)} (hl : All2 (KvP b' S' H) ls ys) : ∀ {ks : List (Key × V)} {xs : List (κ × β)}, All2 (KvP b' S H) ks xs → HitsD K H ls ks (xs.all (hitB ys))
  | _, _, .nil => .nil
  | kv :: ks, x :: xs, .cons h r => by
    obtain ⟨k, v⟩ := kv
    have ih := hits_of d hd hl r
    have e1 : k = kk x.1 := h.1
    subst e1
    rcases val_get (k := x.1) hl with ⟨g1, g2⟩ | ⟨z, w, g1, g2, g3⟩
    · rw [show ((x :: xs).all (hitB ys)) = false by simp [hitB, g1]]
      exact .miss g2
    · rw [show ((x :: xs).all (hitB ys)) = (PyData.eqv (d.dt x.2) (d.dt z) && xs.all (hitB ys)) by rw [List.all_cons, d.dec]; simp [hitB, g1]]
      exact .hit g2 (d.dp h.2.2) (d.dp g3) (d.shaped hd h.2.2) (d.shaped hd g3) ih
theorem od_eqDict [DecidableEq β] (d : TyD b') (hd : d.dep ≤ 64) : OpD (tD κ b') (tD κ b') S (of (K := K) tBool S) (rEqDD K) (fun x y => some (dEq x y)) := by
  rintro x y z e H1 v w dm ⟨p, ks, rfl, hp, ha, hn⟩ ⟨p', ls, rfl, hp', ha', hn'⟩ Q q
  cases e
  refine ⟨p, p', ks, ls, _, rfl, rfl, .inl hp.1, .inl hp'.1, hits_of d hd ha' ha, q _ H1 (Same.refl _) ?_⟩
  rw [ha.len, ha'.len]
  rfl
theorem od_neDict [DecidableEq β] (d : TyD b') (hd : d.dep ≤ 64) : OpD (tD κ b') (tD κ b') S (of (K := K) tBool S) (rNeDD K) (fun x y => some (!dEq x y)) := by
  rintro x y z e H1 v w dm ⟨p, ks, rfl, hp, ha, hn⟩ ⟨p', ls, rfl, hp', ha', hn'⟩ Q q
  cases e
  refine ⟨p, p', ks, ls, _, rfl, rfl, .inl hp.1, .inl hp'.1, hits_of d hd ha' ha, q _ H1 (Same.refl _) ?_⟩
  rw [ha.len, ha'.len]
  rfl
/-! ### dict([(k, v), ..]) -/
def mergeL (acc : List (κ × β)) : List (κ × β) → List (κ × β)
  | [] => acc
  | p :: r => mergeL (putL acc p.1 p.2) r
end
section
variable {K : PySem.W.Frag} {β : Type} {S T : AS} {σ : St} {H : Hp} {te : TE} {b' : Ty K β}
/-! ### sorted(d), max(d): keys that are numbers -/
theorem keys_I {S : AS} {H : Hp} : ∀ {kvs : List (Key × V)} {xs : List (Int × β)}, All2 (KvP b' S H) kvs xs → kvs.map (·.1) = (xs.map Prod.fst).map Sum.inl
  | _, _, .nil => rfl
  | kv :: kvs, x :: xs, .cons h r => by rw [List.map_cons, List.map_cons, List.map_cons, keys_I r, h.1]; rfl
def leI (a b : Int) : Bool := decide (a ≤ b)
def sortI (l : List Int) : List Int := l.mergeSort leI
theorem sortI_pw (l : List Int) : (sortI l).Pairwise (· ≤ ·) := by
  have := List.pairwise_mergeSort (le := leI) (fun a b c h1 h2 => by simp [leI] at *; omega) (fun a b => by simp [leI]; omega) l
  exact this.imp fun h => by simpa [leI] using h
theorem sortI_perm (l : List Int) : (sortI l).Perm l := List.mergeSort_perm ..
theorem sortI_eq {ys l : List Int} (hp : ys.Perm l) (hs : ys.Pairwise (· ≤ ·)) : ys = sortI l :=
  (hp.trans (sortI_perm l).symm).eq_of_pairwise (fun _ _ _ _ h1 h2 => Int.le_antisymm h1 h2) hs (sortI_pw l)
def ksI? (xs : List (Int × β)) : Option (List Int) := if xs.length < 64 then some (sortI (xs.map Prod.fst)) else none
def rSrtDI : List V → Hp → VK → Prop := fun xs H Q => ∃ (a : Addr) (kvs : List (Key × V)) (ks : List Int), xs = [.ref a] ∧ Rd H a (.dK kvs) ∧ kvs.map (·.1) = ks.map Sum.inl ∧ ks.length < 64 ∧
    ∀ (ys : List Int) (p : Addr), ys.Perm ks → ys.Pairwise (· ≤ ·) → H p = none → Q (.ref p) (upd H p (.lst (ys.map V.int)))
theorem cr_srtDI {X : Cx} (hc : X.calm = true) : CallR X (.builtin "sorted") rSrtDI := call_sortedDI hc
theorem all_ints {S : AS} {H : Hp} : ∀ {ys : List Int}, All2 ((tInt (K := K)).rp S H) (ys.map V.int) ys
  | [] => .nil
  | y :: ys => .cons rfl all_ints
theorem srtI_core {p : Addr} {kvs : List (Key × V)} {xs : List (Int × β)} {ys : List Int} {Q : VK} (hp : Rd H p (.dK kvs)) (ha : All2 (KvP b' S H) kvs xs) (d : Dom S H) (e : ksI? xs = some ys) (q : ∀ v H2, Same H H2 → nwL (tInt (K := K)) S H H2 v ys → Q v H2) : rSrtDI [.ref p] H Q := by
  unfold ksI? at e
  split at e
  · rename_i hl
    cases e
    refine ⟨p, kvs, xs.map Prod.fst, rfl, hp, keys_I ha, by rw [List.length_map]; exact hl, fun ys a hy hs na => ?_⟩
    rw [sortI_eq hy hs]
    exact q _ _ (same_new na) ⟨a, rfl, na, _, upd_same, all_ints⟩
  · cases e
theorem ev_srtDI {r : Option (List (Int × β))} (h : Ev S T te σ H (of (tD Int b') S) r) : Ev S T (tCB rSrtDI (tCons te tNil)) σ H (nw (tInt (K := K)) S) (bd r ksI?) := by
  intro z e H1 f1 d Q q
  obtain ⟨xs, ex, e⟩ := bd_some e
  refine h xs ex H1 f1 d _ fun v H2 s ⟨p, kvs, ev, hp, ha, hn⟩ => ?_
  subst ev
  exact srtI_core (.inl hp.1) ha (d.same s) e fun v H3 s3 ⟨p, e1, e2, e3⟩ => q v H3 (s.trans s3) ⟨p, e1, s.free e2, e3⟩
theorem ev_ownSrtDI {p : Addr} {xs : List (Int × β)} {i : Nat} (o : OwnD b' S H p xs) (nt : p ∉ T) (ts : Sub T S) (hi : σ[i]? = some (some (.ref p))) : Ev S T (tCB rSrtDI (tCons (tVar i) tNil)) σ H (nw (tInt (K := K)) S) (ksI? xs) := by
  intro z e H1 f1 d Q q
  refine ⟨_, hi, ?_⟩
  obtain ⟨kvs, hv, ha, hn⟩ := o.fr f1 ts nt
  exact srtI_core (.inl hv) ha d e q
def maxK? (xs : List (Int × β)) : Option Int := (xs.map Prod.fst).max?
theorem ev_ownMaxD {p : Addr} {xs : List (Int × β)} {i : Nat} (o : OwnD b' S H p xs) (nt : p ∉ T) (ts : Sub T S) (hi : σ[i]? = some (some (.ref p))) : Ev S T (tCB rMaxDI (tCons (tVar i) tNil)) σ H (of (K := K) tInt S) (maxK? xs) := by
  intro z e H1 f1 d Q q
  refine ⟨_, hi, ?_⟩
  obtain ⟨kvs, hv, ha, hn⟩ := o.fr f1 ts nt
  unfold maxK? at e
  obtain ⟨m1, m2⟩ := List.max?_eq_some_iff.mp e
  refine ⟨p, kvs, _, rfl, .inl hv, keys_I ha, fun z => (by rw [z] at m1; simp at m1), fun m hm hj => ?_⟩
  have : m = z := Int.le_antisymm (m2 m hm) (hj z m1)
  subst this
  exact q _ H1 (Same.refl _) rfl
end
section
variable {K : PySem.W.Frag} {α β γ δ ε ρ κ : Type} [KeyC κ] [DecidableEq κ] {S T : AS} {σ : St} {H : Hp} {ta tb te tc td ty tv : TE} {a : Ty K α} {b' : Ty K β} {D : Ends} {u : TS} {b c : Addr}
open KeyC
def rDictP (K : PySem.W.Frag) : List V → Hp → VK → Prop := fun xs H Q => ∃ (a : Addr) (ps : List Addr) (kvs : List (Key × V)), xs = [.ref a] ∧ SqL K H a (ps.map V.ref) ∧ Paired (fun p kv => SqT K H p [kV kv.1, kv.2]) ps kvs ∧ ∀ p, H p = none → Q (.ref p) (upd H p (.dK (mergeK [] kvs)))
theorem cr_dictP {X : Cx} (hc : X.calm = true) : CallR X (.type "dict") (rDictP X.K) := call_dictP hc
theorem pairs_of {ck : Ty K κ} [KeyT ck] {S : AS} {H : Hp} : ∀ {vs : List V} {xs : List (κ × β)}, All2 ((tT2 ck b').rp S H) vs xs → ∃ (ps : List Addr) (kvs : List (Key × V)), vs = ps.map V.ref ∧ Paired (fun p (kv : Key × V) => SqT K H p [kV kv.1, kv.2]) ps kvs ∧ All2 (KvP b' S H) kvs xs
  | _, _, .nil => ⟨[], [], rfl, .nil, .nil⟩
  | v :: vs, x :: xs, .cons h r => by
    obtain ⟨p, u, w, rfl, hp, h1, h2⟩ := h
    obtain ⟨ps, kvs, rfl, h3, h4⟩ := pairs_of r
    obtain ⟨rfl, hok⟩ := KeyT.to h1
    exact ⟨p :: ps, (kk x.1, w) :: kvs, rfl, .cons hp.sq h3, .cons ⟨rfl, hok, h2⟩ h4⟩
theorem merge_all {S : AS} {H : Hp} : ∀ {kvs : List (Key × V)} {xs : List (κ × β)}, All2 (KvP b' S H) kvs xs → ∀ {ac : List (Key × V)} {acc : List (κ × β)}, All2 (KvP b' S H) ac acc → (acc.map Prod.fst).Nodup → All2 (KvP b' S H) (mergeK ac kvs) (mergeL acc xs) ∧ ((mergeL acc xs).map Prod.fst).Nodup
  | _, _, .nil, ac, acc, h, n => ⟨h, n⟩
  | kv :: kvs, x :: xs, .cons h r, ac, acc, h', n => by
    have e : mergeK ac (kv :: kvs) = mergeK (putK ac kv.1 kv.2) kvs := rfl
    rw [e, h.1]
    exact merge_all r (put_all h.2.1 h.2.2 h') (put_nd n)
theorem ev_dictP {ck : Ty K κ} [KeyT ck] {r : Option (List (κ × β))} (h : Ev S T te σ H (of (tL (tT2 ck b')) S) r) : Ev S T (tCB (rDictP K) (tCons te tNil)) σ H (nwd (κ := κ) b' S) (bd r fun x => some (mergeL [] x)) := by
  intro z e H1 f1 d Q q
  obtain ⟨xs, ex, e⟩ := bd_some e
  cases e
  refine h xs ex H1 f1 d _ fun v H2 s ⟨p, vs, ev, hp, ha⟩ => ?_
  subst ev
  obtain ⟨ps, kvs, rfl, h3, h4⟩ := pairs_of ha
  obtain ⟨m1, m2⟩ := merge_all h4 (ac := []) (acc := []) .nil (by simp)
  refine ⟨p, ps, kvs, rfl, hp.sq, h3, fun p' hp' => q _ _ (s.trans (same_new hp')) ⟨p', rfl, s.free hp', _, upd_same, m1.imp fun _ _ h => KvP.mono (Fr.same (same_new hp')) (KvP.ext hp' h), m2⟩⟩
/-! ### d.pop(k), a statement -/
def popL? (xs : List (κ × β)) (k : κ) : Option (List (κ × β)) := if (getK xs k).isSome then some (xs.filter fun p => !decide (p.1 = k)) else none
theorem drop_all {S : AS} {H : Hp} {k : κ} : ∀ {kvs : List (Key × V)} {xs : List (κ × β)}, All2 (KvP b' S H) kvs xs → All2 (KvP b' S H) (dropK kvs (kk k)) (xs.filter fun p => !decide (p.1 = k))
  | _, _, .nil => .nil
  | kv :: kvs, x :: xs, .cons h r => by
    have ih := drop_all (k := k) r
    unfold dropK at ih ⊢
    by_cases e : x.1 = k
    · have e' : kv.1 = kk k := by rw [h.1, e]
      rw [List.filter_cons, List.filter_cons, if_neg (by simp [e']), if_neg (by simp [e])]
      exact ih
    · have e' : ¬ kv.1 = kk k := fun z => e (inj (h.1.symm.trans z))
      rw [List.filter_cons, List.filter_cons, if_pos (by simp [e']), if_pos (by simp [e])]
      exact .cons h ih
theorem l_dpop {ck : Ty K κ} [KeyT ck] {p : Addr} {xs ys : List (κ × β)} {i : Nat} {rk : Option κ} {k : κ} (d : Dom S H) (o : OwnD b' S H p xs) (im : p ∈ S) (nt : p ∉ T) (ts : Sub T S) (hi : σ[i]? = some (some (.ref p))) (hk : Ev S T ty σ H (of ck S) rk) (ek : rk = some k) (f : popL? xs k = some ys)
    (q : ∀ H1, Mut1 p H H1 → Fr S H H1 → OwnD b' S H1 p ys → D.nx σ H1) : tDrop (tDPop1 (tVar i) ty) D σ H := by
  obtain ⟨kvs, hv, ha, hn⟩ := o
  unfold popL? at f
  split at f
  · rename_i hs
    cases f
    refine ⟨_, hi, p, rfl, .inl ⟨kvs, .inl hv⟩, hk k ek H (Fr.refl _) d _ fun w H1 s1 hw => ?_⟩
    obtain ⟨rfl, hok⟩ := KeyT.to hw
    have ha1 := ha.imp fun _ _ => KvP.mono (Fr.same s1)
    rcases val_get (k := k) ha1 with ⟨g1, _⟩ | ⟨x, v, g1, g2, g3⟩
    · rw [g1] at hs; cases hs
    · have f1 : Fr S H1 (upd H1 p (.dK (dropK kvs (kk k)))) := fr_upd im
      refine ⟨kvs, kk k, v, s1 _ _ hv, rfl, g2, ?_⟩
      refine q _ ⟨fun b ob e n => by rw [upd_ne n]; exact s1 _ _ e, by rw [upd_same]; intro z; cases z⟩ ((Fr.same s1).trans f1) ⟨_, upd_same, (drop_all ha1).imp fun _ _ => KvP.mono f1, ?_⟩
      exact hn.sublist ((List.filter_sublist (l := xs)).map Prod.fst)
  · cases f
theorem q_dpop {ck : Ty K κ} [KeyT ck] {p : Addr} {xs ys : List (κ × β)} {i : Nat} {rk : Option κ} {k : κ} (d : Dom S H) (o : OwnD b' S H p xs) (im : p ∈ S) (nt : p ∉ T) (ts : Sub T S) (hi : σ[i]? = some (some (.ref p))) (hk : Ev S T ty σ H (of ck S) rk) (ek : rk = some k) (f : popL? xs k = some ys)
    (q : ∀ H1, Mut1 p H H1 → Fr S H H1 → OwnD b' S H1 p ys → u D σ H1) : tSeq (tDrop (tDPop1 (tVar i) ty)) u D σ H := l_dpop (D := { D with nx := u D }) d o im nt ts hi hk ek f q
end
end M

namespace M
open PySem L2 G
theorem tyD' {K : PySem.W.Frag} {H : Hp} {a : Addr} {xs : List (Key × V)} (h : Rd H a (.dK xs)) : TyX K H (.ref a) (.type "dict") := by
  rcases h with h | ⟨o, h⟩
  · exact .base (.dK h)
  · exact .fDict h
theorem tyL' {K : PySem.W.Frag} {H : Hp} {a : Addr} {xs : List V} (h : Rd H a (.lst xs)) : TyX K H (.ref a) (.type "list") := by
  rcases h with h | ⟨o, h⟩
  · exact .base (.lst h)
  · exact .base (.frz h)
section
variable {K : PySem.W.Frag} {α β γ δ ε ρ : Type} {S T : AS} {σ : St} {H : Hp} {ta tb te tv : TE} {a : Ty K α} {b' : Ty K β} {ft : FT K α} {D : Ends} {u : TS} {b c : Addr}
/-! ### own instances: repr, len, ==, != -/
theorem ev_strO {C : Addr} {r : Option α} {f : α × Unit → Option Str} {E : XK} (h : Ev S T te σ H (of (tO C ft) S) r) : Ev S T (tCB (rStrI C (spF (aCons (tO C ft) aNil) (fun S => of (K := K) tTx S) f) E) (tCons te tNil)) σ H (of (K := K) tTx S) (bd r fun x => f (x, ())) := by
  intro z e H1 f1 d Q q
  obtain ⟨x, ex, e⟩ := bd_some e
  refine h x ex H1 f1 d _ fun v H2 s ⟨p, dx, fs, ev, hp, n, hr⟩ => ⟨p, dx, fs, by rw [ev], hp, ?_⟩
  exact ⟨S, (x, ()), z, d.same s, ⟨.ref p, [], rfl, ⟨p, dx, fs, rfl, hp, n, hr⟩, rfl⟩, e, fun u H' s' hu => ⟨z, hu, q u H' (s.trans s') hu⟩⟩
def len? (i : Int) : Option Int := if 0 ≤ i ∧ i < 2 ^ 63 then some i else none
theorem ev_lenO {C : Addr} {r : Option α} {f : α × Unit → Option Int} {E : XK} (h : Ev S T te σ H (of (tO C ft) S) r) : Ev S T (tCB (rLenI C (spF (aCons (tO C ft) aNil) (fun S => of (K := K) tInt S) f) E) (tCons te tNil)) σ H (of (K := K) tInt S) (bd r fun x => bd (f (x, ())) len?) := by
  intro z e H1 f1 d Q q
  obtain ⟨x, ex, e⟩ := bd_some e
  obtain ⟨i, ei, e⟩ := bd_some e
  unfold len? at e
  split at e
  · rename_i hi
    cases e
    refine h x ex H1 f1 d _ fun v H2 s ⟨p, dx, fs, ev, hp, n, hr⟩ => ⟨p, dx, fs, by rw [ev], hp, ?_⟩
    exact ⟨S, (x, ()), z, d.same s, ⟨.ref p, [], rfl, ⟨p, dx, fs, rfl, hp, n, hr⟩, rfl⟩, ei, fun u H' s' hu => ⟨z, hu, hi.1, hi.2, q u H' (s.trans s') hu⟩⟩
  · cases e
theorem od_eqO {C : Addr} {f : α × α × Unit → Option Bool} {E : XK} : OpD (tO C ft) (tO C ft) S (of (K := K) tBool S) (rOwnI C (spF (aCons (tO C ft) (aCons (tO C ft) aNil)) (fun S => of (K := K) tBool S) f) E) (fun x y => f (x, y, ())) := by
  rintro x y z e H1 v w d ⟨p, dx, fs, rfl, hp, n, hr⟩ ⟨p', dx', fs', rfl, hp', n', hr'⟩ Q q
  exact ⟨p, dx, fs, rfl, hp, .inl ⟨p', dx', fs', rfl, hp'⟩, S, (x, y, ()), z, d, ⟨_, _, rfl, ⟨p, dx, fs, rfl, hp, n, hr⟩, _, [], rfl, ⟨p', dx', fs', rfl, hp', n', hr'⟩, rfl⟩, e, fun u H' s hu => q u H' s hu⟩
theorem od_neO {C : Addr} {f : α × α × Unit → Option Bool} {E : XK} : OpD (tO C ft) (tO C ft) S (of (K := K) tBool S) (rNeI C (spF (aCons (tO C ft) (aCons (tO C ft) aNil)) (fun S => of (K := K) tBool S) f) E) (fun x y => bd (f (x, y, ())) fun k => some (!k)) := by
  rintro x y z e H1 v w d ⟨p, dx, fs, rfl, hp, n, hr⟩ ⟨p', dx', fs', rfl, hp', n', hr'⟩ Q q
  obtain ⟨k, ek, e⟩ := bd_some e
  cases e
  exact ⟨p, dx, fs, p', dx', fs', rfl, hp, rfl, hp', S, (x, y, ()), k, d, ⟨_, _, rfl, ⟨p, dx, fs, rfl, hp, n, hr⟩, _, [], rfl, ⟨p', dx', fs', rfl, hp', n', hr'⟩, rfl⟩, ek, fun u H' s hu => ⟨k, hu, q _ H' s rfl⟩⟩
/-- what a code's values are, for Python -/
class YT (b' : Ty K β) (T : outParam String) : Prop where
  h : ∀ {S H v x}, b'.rp S H v x → YTy H v T
instance : YT (K := K) tInt "int" := ⟨fun h => .inr (.inr (.inl ⟨rfl, _, h⟩))⟩
instance : YT (K := K) tStr "str" := ⟨fun h => .inl ⟨rfl, _, h.1⟩⟩
instance : YT (K := K) tTx "str" := ⟨fun h => .inl ⟨rfl, _, h⟩⟩
instance : YT (tL b') "list" := ⟨fun ⟨p, vs, e, hp, _⟩ => .inr (.inr (.inr ⟨rfl, p, vs, e, .inl hp.1⟩))⟩
instance {κ : Type} [KeyC κ] [DecidableEq κ] : YT (tD κ b') "dict" := ⟨fun ⟨p, kvs, e, hp, _⟩ => .inr (.inl ⟨rfl, p, kvs, e, .inl hp.1⟩)⟩
instance {c1 : Ty K γ} {d1 : Ty K δ} : YT (tL3 b' c1 d1) "list" := ⟨fun ⟨p, u, w, y, e, hp, _⟩ => .inr (.inr (.inr ⟨rfl, p, _, e, .inl hp.1⟩))⟩
theorem od_eqOT {C : Addr} {t : String} [YT b' t] {f : α × β × Unit → Option Bool} {E : XK} : OpD (tO C ft) b' S (of (K := K) tBool S) (rOwnT C t (spF (aCons (tO C ft) (aCons b' aNil)) (fun S => of (K := K) tBool S) f) E) (fun x y => f (x, y, ())) := by
  rintro x y z e H1 v w d ⟨p, dx, fs, rfl, hp, n, hr⟩ hw Q q
  exact ⟨p, dx, fs, rfl, hp, YT.h hw, S, (x, y, ()), z, d, ⟨_, _, rfl, ⟨p, dx, fs, rfl, hp, n, hr⟩, _, [], rfl, hw, rfl⟩, e, fun u H' s hu => q u H' s hu⟩
theorem ev_isiOC {C C' : Addr} {r : Option α} {k : Bool} (hk : PySem.W.kitOne K (.ref C) (.ref C') = some k) (hc : ∀ H p dx fs, H p = some (.ins C dx fs) → TyX K H (.ref p) (.ref C)) (h : Ev S T te σ H (of (tO C ft) S) r) (hv : ClsV (V.ref C') (.ref C')) :
    Ev S T (tCB (rIsi K) (tCons te (tCons (tC (.ref C')) tNil))) σ H (of (K := K) tBool S) (bd r fun _ => some k) := by
  intro z e H1 f1 d Q q
  obtain ⟨x, ex, e⟩ := bd_some e
  cases e
  exact h x ex H1 f1 d _ fun v H2 s ⟨p, dx, fs, ev, hp, n, _⟩ => ⟨v, _, _, _, k, rfl, hv, by rw [ev]; exact hc H2 p dx _ hp, hk, q _ H2 s rfl⟩
theorem ev_isiTC {C : Addr} {r : Option β} {t : String} [YT b' t] (hk : PySem.W.kitOne K (.type t) (.ref C) = some false) (h : Ev S T te σ H (of b' S) r) : Ev S T (tCB (rIsi K) (tCons te (tCons (tC (.ref C)) tNil))) σ H (of (K := K) tBool S) (bd r fun _ => some false) := by
  intro z e H1 f1 d Q q
  obtain ⟨x, ex, e⟩ := bd_some e
  cases e
  refine h x ex H1 f1 d _ fun v H2 s hv => ⟨v, _, _, _, false, rfl, .own _, ?_, hk, q _ H2 s rfl⟩
  rcases YT.h hv with ⟨rfl, z, rfl⟩ | ⟨rfl, b, kvs, rfl, hb⟩ | ⟨rfl, i, rfl⟩ | ⟨rfl, b, xs, rfl, hb⟩
  · exact .base (.str z)
  · exact tyD' hb
  · exact .base (.int i)
  · exact tyL' hb
/-- x in [y]: two instances that are two -/
theorem ev_inO {C : Addr} {f : α × α × Unit → Option Bool} {E : XK} {i j : Nat} {v w : V} {x y : α} (ts : Sub T S) (hx : (tO C ft).rp S H v x) (hy : (tO C ft).rp S H w y) (hi : σ[i]? = some (some v)) (hj : σ[j]? = some (some w)) (ne : v ≠ w) :
    Ev S T (tOp (rInI C (spF (aCons (tO C ft) (aCons (tO C ft) aNil)) (fun S => of (K := K) tBool S) f) E) (tVar i) (tLst (tCons (tVar j) tNil))) σ H (of (K := K) tBool S) (f (y, x, ())) := by
  intro z e H1 f1 d Q q
  have hx := (tO C ft).mono (f1.sub ts) hx
  have hy := (tO C ft).mono (f1.sub ts) hy
  refine ⟨_, hi, _, hj, (by show 1 ≤ sizeLine; decide), fun p0 np => ?_⟩
  have s4 := same_new (o := .lst [w]) np
  obtain ⟨p, dx, fs, rfl, hp, n, hr⟩ := (tO C ft).mono (Fr.same s4) hx
  obtain ⟨p', dx', fs', rfl, hp', n', hr'⟩ := (tO C ft).mono (Fr.same s4) hy
  exact ⟨p, dx, fs, p0, p', dx', fs', rfl, hp, rfl, upd_same, hp', fun z => ne (by rw [z]), S, (y, x, ()), z, d.same s4, ⟨_, _, rfl, ⟨p', dx', fs', rfl, hp', n', hr'⟩, _, [], rfl, ⟨p, dx, fs, rfl, hp, n, hr⟩, rfl⟩, e, fun u H' s hu => ⟨z, hu, s, q _ H' (s4.trans s) rfl⟩⟩
/-! ### what stays when a dict is changed: data -/
class DK (a : Ty K α) : Prop where
  h : ∀ {S H p kvs o v x}, H p = some (.dK kvs) → a.rp S H v x → a.rp S (upd H p o) v x
theorem nT.dk {S : AS} {H : Hp} {p q : Addr} {kvs : List (Key × V)} {o : HO} {xs : List V} (hp : H p = some (.dK kvs)) (h : nT K S H q xs) : nT K S (upd H p o) q xs := by
  rcases h with ⟨h, n⟩ | h
  · refine .inl ⟨?_, n⟩
    rcases h with h | ⟨w, h⟩
    · exact .inl (by rw [upd_ne (fun z => by subst z; rw [hp] at h; cases h)]; exact h)
    · exact .inr ⟨w, by rw [upd_ne (fun z => by subst z; rw [hp] at h; cases h)]; exact h⟩
  · exact .inr h
instance : DK (K := K) tInt := ⟨fun _ h => h⟩
instance : DK (K := K) tBool := ⟨fun _ h => h⟩
instance : DK (K := K) tStr := ⟨fun _ h => h⟩
instance : DK (K := K) tNone := ⟨fun _ h => h⟩
instance : DK (K := K) tRat := ⟨fun hp ⟨q, e, h⟩ => ⟨q, e, h.dk hp⟩⟩
instance [DK a] : DK (tOpt a) := ⟨fun {S H p kvs o v x} hp h => by cases x with | none => exact h | some x => exact ⟨h.1, DK.h hp h.2⟩⟩
instance [DK a] [DK b'] : DK (tT2 a b') := ⟨fun hp ⟨q, u, w, e, h, h1, h2⟩ => ⟨q, u, w, e, h.dk hp, DK.h hp h1, DK.h hp h2⟩⟩
instance [DK a] : DK (tTs a) := ⟨fun hp ⟨q, vs, e, h, h1⟩ => ⟨q, vs, e, h.dk hp, h1.imp fun _ _ => DK.h hp⟩⟩
class DKA (t : TyA K α) : Prop where
  h : ∀ {S H p kvs o vs x}, H p = some (.dK kvs) → t.rp S H vs x → t.rp S (upd H p o) vs x
instance : DKA (K := K) aNil := ⟨fun _ h => h⟩
instance {t : TyA K β} [DK a] [DKA t] : DKA (aCons a t) := ⟨fun hp ⟨v, r, e, h, h'⟩ => ⟨v, r, e, DK.h hp h, DKA.h hp h'⟩⟩
instance {t : TyA K α} [XA t] [DKA t] : DK (tTu t) := ⟨fun hp ⟨q, vs, e, h, h1⟩ => ⟨q, vs, e, h.dk hp, DKA.h hp h1⟩⟩
/-! ### instances whose fields are new dicts -/
structure FR (K : PySem.W.Frag) (ft : FT K α) where
  r : AS → Hp → Hp → List (Str × V) → α → Prop
  back : ∀ {S T H0 H1 H2 fs x}, Fr T H0 H1 → Dom T H1 → r S H1 H2 fs x → r S H0 H2 fs x
  sub : ∀ {S S' H0 H fs x}, Sub S' S → r S H0 H fs x → r S' H0 H fs x
  rp : ∀ {S H0 H fs x}, Dom S H0 → r S H0 H fs x → ft.rp S H fs x
  mono : ∀ {S H0 H H' fs x}, (∀ q o, H0 q = none → H q = some o → H' q = some o) → Fr S H H' → r S H0 H fs x → r S H0 H' fs x
  keep : ∀ {S H0 H fs x p kvs o}, H0 p ≠ none → H p = some (.dK kvs) → r S H0 H fs x → r S H0 (upd H p o) fs x
def frNil : FR K (fNil (K := K)) := ⟨fun _ _ _ fs _ => fs = [], fun _ _ h => h, fun _ h => h, fun _ h => h, fun _ _ h => h, fun _ _ h => h⟩
theorem OwnD.dk {κ : Type} [KeyC κ] [DecidableEq κ] [DK b'] {S : AS} {H : Hp} {p q : Addr} {kvs : List (Key × V)} {o : HO} {xs : List (κ × β)} (hp : H p = some (.dK kvs)) (n : q ≠ p) (h : OwnD b' S H q xs) : OwnD b' S (upd H p o) q xs := by
  obtain ⟨ks, hk, ha, hn⟩ := h
  exact ⟨ks, by rw [upd_ne n]; exact hk, ha.imp fun _ _ ⟨h1, h2, h3⟩ => ⟨h1, h2, DK.h hp h3⟩, hn⟩
def frD (f : Str) {κ : Type} [KeyC κ] [DecidableEq κ] (b' : Ty K β) [DK b'] {ft : FT K γ} (r : FR K ft) : FR K (fCons f (tD κ b') ft) where
  r S H0 H fs x := ∃ q fs', fs = (f, .ref q) :: fs' ∧ H0 q = none ∧ OwnD b' (q :: S) H q x.1 ∧ r.r S H0 H fs' x.2
  back g d := fun ⟨q, fs', e, n, o, h⟩ => ⟨q, fs', e, fr_back g d n, o, r.back g d h⟩
  sub g := fun ⟨q, fs', e, n, o, h⟩ => ⟨q, fs', e, n, o.sub (sub_keep g), r.sub g h⟩
  rp d := fun ⟨q, fs', e, n, o, h⟩ => ⟨.ref q, fs', e, nwD.rp ⟨q, rfl, n, o⟩ d, r.rp d h⟩
  mono g f := fun ⟨q, fs', e, n, o, h⟩ => ⟨q, fs', e, n, by
    obtain ⟨ks, hk, ha, hn⟩ := o
    exact ⟨ks, g _ _ n hk, ha.imp fun _ _ => KvP.mono (f.sub fun _ m => List.mem_cons_of_mem _ m), hn⟩, r.mono g f h⟩
  keep hn hp := fun ⟨q, fs', e, n, o, h⟩ => ⟨q, fs', e, n, o.dk hp (fun z => hn (z ▸ n)), r.keep hn hp h⟩
def spInitN (C : Addr) (ar : TyA K β) {ft : FT K α} (fr : FR K ft) (m : β → Option α) : Sp := fun vs H Q _ => ∃ (S : AS) (p dx : Addr) (ws : List V) (x : β) (y : α), vs = .ref p :: ws ∧ H p = some (.ins C dx []) ∧ Dom (p :: S) H ∧ ar.rp (p :: S) H ws x ∧ m x = some y ∧
  ∀ H' fs, (∀ q o, H q = some o → q ≠ p → H' q = some o) → H' p = some (.ins C dx fs) → fr.r S H H' fs y → Q .non H'
/-- a new instance -/
def nwO (C : Addr) {ft : FT K α} (fr : FR K ft) (S : AS) (H0 H : Hp) (v : V) (x : α) : Prop := ∃ p dx fs, v = .ref p ∧ H0 p = none ∧ H p = some (.ins C dx fs) ∧ fr.r S H0 H fs x
def nwo (C : Addr) {ft : FT K α} (fr : FR K ft) (S : AS) : Rl α := ⟨nwO C fr S, fun f d ⟨p, dx, fs, e, n, h, hf⟩ => ⟨p, dx, fs, e, fr_back f d n, h, fr.back f d hf⟩⟩
theorem nwO.rp {C : Addr} {fr : FR K ft} {S : AS} {H0 H : Hp} {v : V} {x : α} (h : nwO C fr S H0 H v x) (d : Dom S H0) : (tO C ft).rp S H v x := by
  obtain ⟨p, dx, fs, e, n, h, hf⟩ := h
  exact ⟨p, dx, fs, e, h, d.not_mem n, fr.rp d hf⟩
theorem ev_newO {C : Addr} {fr : FR K ft} {r : Option α} (h : Ev S T te σ H (nwo C fr S) r) : Ev S T te σ H (of (tO C ft) S) r := by
  intro x ex H1 f d Q q
  exact h x ex H1 f d Q fun v H2 s hv => q v H2 s (nwO.rp hv d)
theorem ev_makeN {ta : TA} {C : Addr} {ar : TyA K β} {fr : FR K ft} {m : β → Option α} {r : Option β} {E : XK} [XA ar] (h : EvA S T ta σ H ar r) : Ev S T (tMake C (spInitN C ar fr m) [] E ta) σ H (nwo C fr S) (bd r m) := by
  intro z e H1 f1 d Q q
  obtain ⟨x, ex, e⟩ := bd_some e
  refine h x ex H1 f1 d _ fun vs H2 s2 hvs => fun p dx np ndx ne => ?_
  have sM : Same H2 (upd (upd H2 dx (.own p)) p (.ins C dx [])) := (same_upd ndx).trans (same_upd (by rw [upd_ne (Ne.symm ne)]; exact np))
  have d2 := d.same s2
  refine ⟨S, p, dx, vs, x, z, by simp, upd_same, ((d2.same sM).cons upd_same), ar.mono (Fr.same sM) (XA.ext np hvs), e, fun H' fs fr' hp hf => ⟨rfl, q _ H' (fun a o ea => fr' a o (sM _ _ (s2 _ _ ea)) (ne_of_none (s2 _ _ ea) np)) ⟨p, dx, fs, rfl, s2.free np, hp, fr.back (Fr.same (T := []) (s2.trans sM)) Dom.nil hf⟩⟩⟩
/-- self.f = e, e a new dict -/
theorem l_fldD {κ : Type} [KeyC κ] [DecidableEq κ] {p dx C : Addr} {fs : List (Str × V)} {i : Nat} {f : Str} {r : Option (List (κ × β))} {y : List (κ × β)} (d : Dom S H) (im : p ∈ S) (hp : H p = some (.ins C dx fs)) (hi : σ[i]? = some (some (.ref p))) (cl : Cls K C) (na : NoAttr K C f) (hl : fs.length < 1000) (h : Ev S [] tv σ H (nwd b' S) r) (e : r = some y)
    (q : ∀ H1 w, Fr S H H1 → (∀ q o, H q = some o → q ≠ p → H1 q = some o) → Dom S H1 → H1 p = some (.ins C dx (putF f (.ref w) fs)) → H w = none → w ≠ p → OwnD b' (w :: S) H1 w y → D.nx σ H1) : sFld K (tVar i) tv f D σ H := by
  refine h y e H (Fr.refl _) d _ fun v H1 s1 ⟨w, ev, nw, o⟩ => ⟨_, hi, p, C, dx, fs, rfl, s1 _ _ hp, cl, na, hl, ?_⟩
  subst ev
  have f1 : Fr S H1 (upd H1 p (.ins C dx (putF f (.ref w) fs))) := fr_upd im
  have nwp : w ≠ p := fun z => by subst z; rw [hp] at nw; cases nw
  refine q _ w ((Fr.same s1).trans f1) (fun q o eq n => by rw [upd_ne n]; exact s1 _ _ eq) (fun x hx ex => ?_) upd_same nw nwp ?_
  · by_cases c : x = p
    · subst c; rw [upd_same] at ex; cases ex
    · rw [upd_ne c] at ex; exact d.same s1 x hx ex
  · obtain ⟨ks, hk, ha, hn⟩ := o
    exact ⟨ks, by rw [upd_ne nwp]; exact hk, ha.imp fun _ _ => KvP.mono (f1.sub fun _ m => List.mem_cons_of_mem _ m), hn⟩
theorem q_fldD {κ : Type} [KeyC κ] [DecidableEq κ] {p dx C : Addr} {fs : List (Str × V)} {i : Nat} {f : Str} {r : Option (List (κ × β))} {y : List (κ × β)} (d : Dom S H) (im : p ∈ S) (hp : H p = some (.ins C dx fs)) (hi : σ[i]? = some (some (.ref p))) (cl : Cls K C) (na : NoAttr K C f) (hl : fs.length < 1000) (h : Ev S [] tv σ H (nwd b' S) r) (e : r = some y)
    (q : ∀ H1 w, Fr S H H1 → (∀ q o, H q = some o → q ≠ p → H1 q = some o) → Dom S H1 → H1 p = some (.ins C dx (putF f (.ref w) fs)) → H w = none → w ≠ p → OwnD b' (w :: S) H1 w y → u D σ H1) : tSeq (sFld K (tVar i) tv f) u D σ H := l_fldD (D := { D with nx := u D }) d im hp hi cl na hl h e q
end
end M

namespace M
open PySem L2 G
section
variable {K : PySem.W.Frag} {α β γ δ ε ρ : Type} {S T : AS} {σ : St} {H : Hp} {ta tb te tv : TE} {a : Ty K α} {b' : Ty K β} {c' : Ty K γ} {d' : Ty K δ} {e' : Ty K ε} {ft : FT K α} {D : Ends} {u : TS} {b c : Addr}
theorem q_unpTu2 {i j : Nat} {r : Option (α × β × Unit)} {x : α × β × Unit} (d : Dom S H) (h : Ev S T te σ H (of (tTu (aCons a (aCons b' aNil))) S) r) (e : r = some x) (k : ∀ v w H1, Same H H1 → a.rp S H1 v x.1 → b'.rp S H1 w x.2.1 → u D ((σ.set i (some v)).set j (some w)) H1) :
    tSeq (tAsg te (gTup K 2 (gCons (gName i) (gCons (gName j) gNil)))) u D σ H := h x e H (Fr.refl _) d _ fun v H1 s1 ⟨p, vs, ev, hp, u1, r1, e1, h1, u2, r2, e2, h2, e3⟩ => by
  subst e3; subst e2; subst e1
  exact ⟨p, _, ev, hp.sq, rfl, u1, _, rfl, u2, _, rfl, rfl, k u1 u2 H1 s1 h1 h2⟩
theorem q_unpTu5 {i j l m n : Nat} {r : Option (α × β × γ × δ × ε × Unit)} {x : α × β × γ × δ × ε × Unit} (d : Dom S H) (h : Ev S T te σ H (of (tTu (aCons a (aCons b' (aCons c' (aCons d' (aCons e' aNil)))))) S) r) (e : r = some x) (k : ∀ v1 v2 v3 v4 v5 H1, Same H H1 → a.rp S H1 v1 x.1 → b'.rp S H1 v2 x.2.1 → c'.rp S H1 v3 x.2.2.1 → d'.rp S H1 v4 x.2.2.2.1 → e'.rp S H1 v5 x.2.2.2.2.1 → u D (((((σ.set i (some v1)).set j (some v2)).set l (some v3)).set m (some v4)).set n (some v5)) H1) :
    tSeq (tAsg te (gTup K 5 (gCons (gName i) (gCons (gName j) (gCons (gName l) (gCons (gName m) (gCons (gName n) gNil))))))) u D σ H := h x e H (Fr.refl _) d _ fun v H1 s1 ⟨p, vs, ev, hp, u1, r1, e1, h1, u2, r2, e2, h2, u3, r3, e3, h3, u4, r4, e4, h4, u5, r5, e5, h5, e6⟩ => by
  subst e6; subst e5; subst e4; subst e3; subst e2; subst e1
  exact ⟨p, _, ev, hp.sq, rfl, u1, _, rfl, u2, _, rfl, u3, _, rfl, u4, _, rfl, u5, _, rfl, rfl, k u1 u2 u3 u4 u5 H1 s1 h1 h2 h3 h4 h5⟩
/-! ### what is new is spoilt: all else stays -/
theorem tyV_D {H : Hp} {p : Addr} {kvs : List (Key × V)} (h : H p = some (.dK kvs)) : tyV K "dict" (.ref p) H := .inr (.inr (.inl ⟨rfl, .inl ⟨_, h⟩⟩))
theorem q_clearN {κ : Type} [KeyC κ] [DecidableEq κ] {r : Option (List (κ × β))} {y : List (κ × β)} (d : Dom S H) (h : Ev S T te σ H (nwd b' S) r) (e : r = some y) (k : ∀ H1, Same H H1 → u D σ H1) : tSeq (tDrop (tBM0 K "dict" rDClear te)) u D σ H :=
  h y e H (Fr.refl _) d _ fun v H1 s1 ⟨p, ev, np, ks, hk, _⟩ => by
    subst ev
    exact ⟨tyV_D hk, p, ks, rfl, rfl, hk, k _ fun q o eq => by rw [upd_ne (ne_of_none eq np)]; exact s1 _ _ eq⟩
def rm? {α : Type} (y : List α) : Option Unit := if y.length < 100000 then some () else none
theorem rm_lt {α : Type} {y : List α} (h : rm? y = some ()) : y.length < 100000 := by
  unfold rm? at h
  split at h
  · assumption
  · cases h
theorem q_putN {κ : Type} [KeyC κ] [DecidableEq κ] {i : Nat} {n : Int} {r : Option (List (κ × β))} {y : List (κ × β)} (d : Dom S H) (h : Ev S T te σ H (nwd b' S) r) (e : r = some y) (el : rm? y = some ()) (hi : ∀ v, (σ.set i (some v))[i]? = some (some v)) (k : ∀ v H1, Same H H1 → u D (σ.set i (some v)) H1) : tSeq (tAsg te (gName i)) (tSeq (sDPut (tVar i) (tC (.int n)) (tC .non)) u) D σ H :=
  h y e H (Fr.refl _) d _ fun v H1 s1 ⟨p, ev, np, ks, hk, ha, _⟩ => by
    subst ev
    refine ⟨_, hi _, p, _, rfl, .inl ⟨ks, Sum.inl n, hk, rfl, Nat.lt_of_lt_of_le (by rw [ha.len]; exact rm_lt el) (by decide), rfl⟩, k _ _ fun q o eq => by rw [upd_ne (ne_of_none eq np)]; exact s1 _ _ eq⟩
abbrev rDictD : List V → Hp → VK → Prop := fun xs H Q => ∃ (a : Addr) (kvs : List (Key × V)), xs = [.ref a] ∧ Rd H a (.dK kvs) ∧ ∀ p, H p = none → Q (.ref p) (upd H p (.dK kvs))
/-- hs = [dict(x), dict(y)]; o = C(hs[0], hs[1]); hs[0]['q'] = None; hs[1].clear() -/
theorem q_handed2 {κ κ2 : Type} [KeyC κ] [DecidableEq κ] [KeyC κ2] [DecidableEq κ2] {b1 : Ty K β} {b2 : Ty K γ} {C : Addr} {fr : FR K ft} {m : List (κ × β) × List (κ2 × γ) × Unit → Option α} {E : XK} {i1 i2 ih is : Nat} {z : Str} {v1 v2 : V} {x1 : List (κ × β)} {x2 : List (κ2 × γ)} {y : α}
    (d : Dom S H) (h1 : (tD κ b1).rp S H v1 x1) (h2 : (tD κ2 b2).rp S H v2 x2) (e1 : σ[i1]? = some (some v1)) (e2 : σ[i2]? = some (some v2)) (hih : ∀ v, (σ.set ih (some v))[ih]? = some (some v)) (his : ∀ v w, ((σ.set ih (some v)).set is (some w))[ih]? = some (some v)) (em : m (x1, x2, ()) = some y) (el : rm? x1 = some ())
    (k : ∀ v w H1, Same H H1 → (tO C ft).rp S H1 w y → (∀ p, w = .ref p → H p = none) → u D ((σ.set ih (some v)).set is (some w)) H1) :
    tSeq (tAsg (tLst (tCons (tCB rDictD (tCons (tVar i1) tNil)) (tCons (tCB rDictD (tCons (tVar i2) tNil)) tNil))) (gName ih))
      (tSeq (tAsg (tMake C (spInitN C (aCons (tD κ b1) (aCons (tD κ2 b2) aNil)) fr m) [] E (tCons (tOp (rIxL K) (tVar ih) (tC (.int 0))) (tCons (tOp (rIxL K) (tVar ih) (tC (.int 1))) tNil))) (gName is))
        (tSeq (sDPut (tOp (rIxL K) (tVar ih) (tC (.int 0))) (tC (.str z)) (tC .non))
          (tSeq (tDrop (tBM0 K "dict" rDClear (tOp (rIxL K) (tVar ih) (tC (.int 1))))) u))) D σ H := by
  obtain ⟨a1, k1, rfl, hp1, ha1, hn1⟩ := h1
  obtain ⟨a2, k2, rfl, hp2, ha2, hn2⟩ := h2
  refine ⟨_, e1, a1, k1, rfl, .inl hp1.1, fun p np => ⟨_, e2, a2, k2, rfl, .inl (same_new np _ _ hp2.1), fun q nq => ⟨(by show 2 ≤ sizeLine; decide), fun l nl => ?_⟩⟩⟩
  have s1 : Same H (upd H p (.dK k1)) := same_new np
  have s2 : Same (upd H p (.dK k1)) (upd (upd H p (.dK k1)) q (.dK k2)) := same_new nq
  have s3 : Same (upd (upd H p (.dK k1)) q (.dK k2)) (upd (upd (upd H p (.dK k1)) q (.dK k2)) l (.lst [.ref p, .ref q])) := same_new nl
  have hpP := s3 _ _ (s2 _ _ (upd_same (H := H) (a := p) (o := .dK k1)))
  have hpQ := s3 _ _ (upd_same (H := upd H p (.dK k1)) (a := q) (o := .dK k2))
  have hpL := upd_same (H := upd (upd H p (.dK k1)) q (.dK k2)) (a := l) (o := .lst [.ref p, .ref q])
  have sA := (s1.trans s2).trans s3
  generalize upd (upd (upd H p (.dK k1)) q (.dK k2)) l (.lst [.ref p, .ref q]) = HA at hpP hpQ hpL sA
  have dA := d.same sA
  have nqp : q ≠ p := fun z => by subst z; rw [upd_same] at nq; cases nq
  have nq0 : H q = none := by rw [upd_ne nqp] at nq; exact nq
  have pS : p ∉ S := d.not_mem np
  have qS : q ∉ S := d.not_mem nq0
  have sq : SqL K HA l [.ref p, .ref q] := .inl (.inl hpL)
  refine ⟨_, hih _, l, _, 0, .ref p, rfl, rfl, sq, rfl, _, hih _, l, _, 1, .ref q, rfl, rfl, sq, rfl, fun o dx no ndx ne => ?_⟩
  have sM : Same HA (upd (upd HA dx (.own o)) o (.ins C dx [])) := (same_upd ndx).trans (same_upd (by rw [upd_ne (Ne.symm ne)]; exact no))
  have hx1 : (tD κ b1).rp (o :: S) HA (.ref p) x1 := (tD κ b1).ext no ⟨p, k1, rfl, ⟨hpP, pS⟩, ha1.imp fun _ _ => KvP.mono (Fr.same sA), hn1⟩
  have hx2 : (tD κ2 b2).rp (o :: S) HA (.ref q) x2 := (tD κ2 b2).ext no ⟨q, k2, rfl, ⟨hpQ, qS⟩, ha2.imp fun _ _ => KvP.mono (Fr.same sA), hn2⟩
  refine ⟨S, o, dx, _, (x1, x2, ()), y, rfl, upd_same, (dA.same sM).cons upd_same, ⟨_, _, rfl, (tD κ b1).mono (Fr.same sM) hx1, _, _, rfl, (tD κ2 b2).mono (Fr.same sM) hx2, rfl⟩, em, fun H' fs fr' ho hf => ⟨rfl, ?_⟩⟩
  have keep : ∀ q' o', HA q' = some o' → H' q' = some o' := fun q' o' e' => fr' _ _ (sM _ _ e') (ne_of_none e' no)
  have hf := fr.back (Fr.same (T := []) sM) Dom.nil hf
  have sq' : SqL K H' l [.ref p, .ref q] := .inl (.inl (keep _ _ hpL))
  have hP' := keep _ _ hpP
  have hQ' := keep _ _ hpQ
  refine ⟨_, his _ _, l, _, 0, .ref p, rfl, rfl, sq', rfl, p, _, rfl, .inl ⟨k1, Sum.inr z, hP', rfl, Nat.lt_of_lt_of_le (by rw [ha1.len]; exact rm_lt el) (by decide), rfl⟩, ?_⟩
  have nlp : l ≠ p := fun z => by subst z; rw [hpL] at hpP; cases hpP
  have nop : o ≠ p := fun z => by subst z; rw [hpP] at no; cases no
  have noq : o ≠ q := fun z => by subst z; rw [hpQ] at no; cases no
  have hQ2 : upd H' p (.dK (putK k1 (Sum.inr z) .non)) q = some (.dK k2) := by rw [upd_ne nqp]; exact hQ'
  refine ⟨_, his _ _, l, _, 1, .ref q, rfl, rfl, .inl (.inl (by rw [upd_ne nlp]; exact keep _ _ hpL)), rfl, tyV_D hQ2, q, k2, rfl, rfl, hQ2, ?_⟩
  have hf2 := fr.keep (o := .dK (putK k1 (Sum.inr z) .non)) (by rw [hpP]; intro w; cases w) hP' hf
  have hf3 := fr.keep (o := .dK []) (by rw [hpQ]; intro w; cases w) hQ2 hf2
  refine k _ _ _ (fun q' o' e' => ?_) ⟨o, dx, fs, rfl, ?_, dA.not_mem no, fr.rp dA hf3⟩ (fun p' e' => by cases e'; exact sA.free no)
  · have np' : q' ≠ p := ne_of_none e' np
    have nq' : q' ≠ q := ne_of_none e' nq0
    rw [upd_ne nq', upd_ne np']
    exact keep _ _ (sA _ _ e')
  · rw [upd_ne noq, upd_ne nop]
    exact ho
end
end M
namespace M
open PySem L2 G
section
variable {K : PySem.W.Frag} {β : Type} {b' : Ty K β}
/-- a thing that stands at p -/
def tRef (p : Addr) : Ty K Unit := ⟨fun _ _ v x => v = .ref p ∧ x = (), fun _ h => h, fun _ h => h, fun _ h => h⟩
theorem OwnD.kp {κ : Type} [KeyC κ] [DecidableEq κ] {S : AS} {H H' : Hp} {p q : Addr} {xs : List (κ × β)} (f : Fr S H H') (k : ∀ a o, H a = some o → a ≠ p → H' a = some o) (n : q ≠ p) (h : OwnD b' (q :: S) H q xs) : OwnD b' (q :: S) H' q xs := by
  obtain ⟨ks, hk, ha, hn⟩ := h
  exact ⟨ks, k _ _ hk n, ha.imp fun _ _ => KvP.mono (f.sub fun _ m => List.mem_cons_of_mem _ m), hn⟩
theorem nwD.sub {κ : Type} [KeyC κ] [DecidableEq κ] {S S' T : AS} {H0 H H1 : Hp} {v : V} {xs : List (κ × β)} (h : nwD b' S H H1 v xs) (hs : Sub S' S) (f : Fr T H0 H) (d : Dom T H) : nwD b' S' H0 H1 v xs := by
  obtain ⟨p, e, n, o⟩ := h
  exact ⟨p, e, fr_back f d n, o.sub (sub_keep hs)⟩
theorem q_parS2 {α : Type} {S T : AS} {σ : St} {H : Hp} {ta tb : TE} {D : Ends} {u : TS} {i j : Nat} {Ra : Rl α} {ra : Option α} {x : α} (d : Dom S H) (ha : Ev S T ta σ H Ra ra) (ea : ra = some x) (k : ∀ v H1, Same H H1 → Ra.r H H1 v x → ∃ (β : Type) (S2 : AS) (Rb : Rl β) (rb : Option β) (y : β), Dom S2 H1 ∧ Ev S2 T tb σ H1 Rb rb ∧ rb = some y ∧ ∀ w H2, Same H1 H2 → (∃ Hm, Same H1 Hm ∧ Rb.r H1 Hm w y ∧ Same Hm H2) → u D ((σ.set i (some v)).set j (some w)) H2) :
    tSeq (tAsg (tTup (tCons ta (tCons tb tNil))) (gTup K 2 (gCons (gName i) (gCons (gName j) gNil)))) u D σ H := ha x ea H (Fr.refl _) d _ fun v H1 s1 hv => by
  obtain ⟨β, S2, Rb, rb, y, d2, hb, eb, kk⟩ := k v H1 s1 hv
  exact hb y eb H1 (Fr.refl _) d2 _ fun w H2 s2 hw => ⟨(by show 2 ≤ sizeLine; decide), fun p hp => ⟨p, _, rfl, .inl (.inl upd_same), rfl, v, _, rfl, w, _, rfl, rfl, kk w _ (s2.trans (same_new hp)) ⟨H2, s2, hw, same_new hp⟩⟩⟩
theorem nwD.later {κ : Type} [KeyC κ] [DecidableEq κ] {S : AS} {H0 H1 : Hp} {v : V} {xs : List (κ × β)} (h : ∃ Hm, Same H0 Hm ∧ nwD b' S H0 Hm v xs ∧ Same Hm H1) : nwD b' S H0 H1 v xs := by
  obtain ⟨Hm, _, ⟨p, e, n, o⟩, s⟩ := h
  exact ⟨p, e, n, o.same s⟩
theorem nwO.ne {α : Type} {C C' : Addr} {γ : Type} {ft : FT K α} {fr : FR K ft} {ft' : FT K γ} {S S' : AS} {H0 H : Hp} {v w : V} {x : α} {y : γ} (h : nwO C fr S H0 H v x) (h' : (tO C' ft').rp S' H0 w y) : w ≠ v := by
  obtain ⟨p, dx, fs, rfl, n, _⟩ := h
  obtain ⟨p', dx', fs', rfl, hp', _⟩ := h'
  intro z
  cases z
  rw [hp'] at n
  cases n
theorem ew_newD {κ : Type} [KeyC κ] [DecidableEq κ] {b c : Addr} {S : AS} {σ : St} {H : Hp} {te : TE} {w : Wp (List (κ × β))} (h : EvW b c S te σ H (nwd b' S) w) : EvW b c S te σ H (of (tD κ b') S) w := fun ts P hP H1 f d hB Q q =>
  h ts P hP H1 f d hB Q fun v H2 x hx f2 d2 hB2 hv => q v H2 x hx f2 d2 hB2 (nwD.rp hv d)
theorem fresh_b {H0 H H1 : Hp} {p w : Addr} (f : Fr [] H0 H) (k : ∀ q o, H q = some o → q ≠ p → H1 q = some o) (n : H1 w = none) (np : w ≠ p) : H0 w = none := by
  cases e : H0 w with
  | none => rfl
  | some o =>
    have := k w o (f w o e (by simp)) np
    rw [this] at n
    cases n
end
end M

namespace M
open PySem L2 G
/-! ### the mathematics of dicts, any keys -/
section
variable {κ β : Type} [DecidableEq κ]
theorem dgetK_iff {k : κ} {v : β} : ∀ {xs : List (κ × β)}, (xs.map Prod.fst).Nodup → (getK xs k = some v ↔ (k, v) ∈ xs)
  | [], _ => by simp [getK]
  | x :: r, n => by
    rw [List.map_cons, List.nodup_cons] at n
    have ih := dgetK_iff (k := k) (v := v) n.2
    by_cases e : x.1 = k
    · have e1 : getK (x :: r) k = some x.2 := by simp [getK, List.find?_cons, e]
      rw [e1]
      constructor
      · intro h
        cases h
        subst e
        exact List.mem_cons_self ..
      · intro h
        rcases List.mem_cons.mp h with h | h
        · rw [← h]
        · exact absurd (List.mem_map.mpr ⟨_, h, rfl⟩) (e ▸ n.1)
    · have e1 : getK (x :: r) k = getK r k := by simp [getK, List.find?_cons, e]
      rw [e1, ih]
      constructor
      · exact List.mem_cons_of_mem _
      · intro h
        rcases List.mem_cons.mp h with h | h
        · exact absurd (by rw [← h]) e
        · exact h
theorem dget_none {r : List (κ × β)} {k : κ} : getK r k = none ↔ k ∉ r.map Prod.fst := by
  unfold getK
  rw [Option.map_eq_none_iff, List.find?_eq_none]
  constructor
  · intro h c
    obtain ⟨p, hp, e⟩ := List.mem_map.mp c
    exact h p hp (decide_eq_true e)
  · intro h p hp c
    exact h (List.mem_map.mpr ⟨p, hp, of_decide_eq_true c⟩)
theorem dget_mem {xs : List (κ × β)} {k : κ} {y : β} (h : getK xs k = some y) : (k, y) ∈ xs := by
  unfold getK at h
  obtain ⟨p, hp, e⟩ := Option.map_eq_some_iff.mp h
  have h1 : p.1 = k := of_decide_eq_true (List.find?_some (p := fun (p : κ × β) => decide (p.1 = k)) hp)
  have h2 := List.mem_of_find?_eq_some hp
  subst h1
  subst e
  exact h2
theorem dget_some {r : List (κ × β)} {k : κ} (h : k ∈ r.map Prod.fst) : ∃ y, getK r k = some y ∧ (k, y) ∈ r := by
  cases e : getK r k with
  | none => exact absurd h (dget_none.mp e)
  | some y => exact ⟨y, rfl, dget_mem e⟩
theorem dget_perm {xs ys : List (κ × β)} (h : xs.Perm ys) (n : (xs.map Prod.fst).Nodup) (k : κ) : getK xs k = getK ys k := by
  have n' : (ys.map Prod.fst).Nodup := (h.map Prod.fst).nodup_iff.mp n
  cases e : getK xs k with
  | some v => exact (((dgetK_iff n').mpr (h.mem_iff.mp ((dgetK_iff n).mp e)))).symm
  | none =>
    symm
    rw [dget_none] at e ⊢
    exact fun c => e ((h.map Prod.fst).mem_iff.mpr c)
theorem dput_new {acc : List (κ × β)} {k : κ} {y : β} (h : k ∉ acc.map Prod.fst) : putL acc k y = acc ++ [(k, y)] := by
  unfold putL
  rw [if_neg]
  intro c
  obtain ⟨p, hp, e⟩ := List.any_eq_true.mp c
  exact h (List.mem_map.mpr ⟨p, hp, of_decide_eq_true e⟩)
theorem dput_old {acc : List (κ × β)} {k : κ} {y : β} (h : k ∈ acc.map Prod.fst) : putL acc k y = acc.map fun p => if p.1 = k then (p.1, y) else p := by
  unfold putL
  rw [if_pos]
  obtain ⟨p, hp, e⟩ := List.mem_map.mp h
  exact List.any_eq_true.mpr ⟨p, hp, decide_eq_true e⟩
theorem dput_keys_old {acc : List (κ × β)} {k : κ} {y : β} (h : k ∈ acc.map Prod.fst) : (putL acc k y).map Prod.fst = acc.map Prod.fst := by
  rw [dput_old h, List.map_map]
  refine List.map_congr_left fun p _ => ?_
  simp only [Function.comp_apply]
  split <;> rfl
theorem dput_mem {xs : List (κ × β)} {k : κ} {x : β} {p : κ × β} (h : p ∈ putL xs k x) : p ∈ xs ∨ p = (k, x) := by
  unfold putL at h
  split at h
  · obtain ⟨q, hq, e⟩ := List.mem_map.mp h
    split at e
    · rename_i c; subst e; subst c; exact .inr rfl
    · subst e; exact .inl hq
  · rcases List.mem_append.mp h with h | h
    · exact .inl h
    · rw [List.mem_singleton.mp h]; exact .inr rfl
theorem dput_get {acc : List (κ × β)} {k j : κ} {y : β} : getK (putL acc k y) j = if j = k then some y else getK acc j := by
  by_cases h : k ∈ acc.map Prod.fst
  · have h0 := h
    rw [dput_old h]
    clear h
    have key : ∀ acc : List (κ × β), getK (acc.map fun p => if p.1 = k then (p.1, y) else p) j = if j = k then (getK acc j).map fun _ => y else getK acc j := by
      intro acc
      induction acc with
      | nil => simp [getK]
      | cons p r ih =>
        unfold getK at ih ⊢
        rw [List.map_cons, List.find?_cons, List.find?_cons]
        by_cases c : p.1 = k
        · by_cases d : k = j
          · simp [c, d]
          · have d' : ¬ j = k := fun z => d z.symm
            have d2 : ¬ p.1 = j := fun z => d (c ▸ z)
            simp only [c, if_true, d, decide_false, d', if_false] at ih ⊢
            rw [ih]
        · simp only [c, if_false]
          by_cases d : p.1 = j
          · have d' : ¬ j = k := fun z => c (d.trans z)
            simp [d, d']
          · simp only [d, decide_false]
            exact ih
    rw [key]
    split
    · rename_i h2
      subst h2
      obtain ⟨z, hz, _⟩ := dget_some h0
      rw [hz]
      rfl
    · rfl
  · rw [dput_new h]
    unfold getK
    rw [List.find?_append]
    by_cases c : j = k
    · subst c
      have : acc.find? (fun p => decide (p.1 = j)) = none := by
        rw [List.find?_eq_none]
        intro p hp c
        exact h (List.mem_map.mpr ⟨p, hp, of_decide_eq_true c⟩)
      simp [this]
    · have c' : ¬ k = j := fun z => c z.symm
      simp [c, c']
theorem put_eq? {xs : List (κ × β)} {k : κ} {x : β} (h : xs.length < 100000) : putL? xs k x = some (putL xs k x) := by
  unfold putL?
  rw [if_pos h]
theorem dc_new {f : κ → Option β} : ∀ (xs : List κ) (acc : List (κ × β)), xs.Nodup → (∀ x ∈ xs, x ∉ acc.map Prod.fst) → (∀ x ∈ xs, ∃ y, f x = some y) → ∃ r, dcO (fun n => some n) f acc xs = some (acc ++ r) ∧ r.map Prod.fst = xs ∧ ∀ p ∈ r, f p.1 = some p.2
  | [], acc, _, _, _ => ⟨[], by simp [dcO], rfl, fun p hp => by simp at hp⟩
  | x :: xs, acc, hn, ha, hf => by
    obtain ⟨y, hy⟩ := hf x List.mem_cons_self
    obtain ⟨n1, n2⟩ := List.nodup_cons.mp hn
    obtain ⟨r, e, h1, h2⟩ := dc_new xs (putL acc x y) n2 (fun z hz => by
      rw [dput_new (ha x List.mem_cons_self), List.map_append, List.mem_append]
      rintro (c | c)
      · exact ha z (List.mem_cons_of_mem _ hz) c
      · simp only [List.map_cons, List.map_nil, List.mem_singleton] at c
        subst c
        exact n1 hz) (fun z hz => hf z (List.mem_cons_of_mem _ hz))
    refine ⟨(x, y) :: r, ?_, by rw [List.map_cons, h1], fun p hp => ?_⟩
    · show (bd (some x) fun k => bd (f x) fun y => dcO _ f (putL acc k y) xs) = _
      rw [hy]
      show dcO _ f (putL acc x y) xs = _
      rw [e, dput_new (ha x List.mem_cons_self)]
      simp
    · rcases List.mem_cons.mp hp with rfl | hp
      · exact hy
      · exact h2 p hp
/-- two dicts with the same keys and the same values are the same, but for the order -/
theorem perm_of_get {xs ys : List (κ × β)} (n : (xs.map Prod.fst).Nodup) (n' : (ys.map Prod.fst).Nodup) (h : ∀ k, getK xs k = getK ys k) : xs.Perm ys := by
  have nd : ∀ {l : List (κ × β)}, (l.map Prod.fst).Nodup → l.Nodup := fun {l} hn => by
    induction l with
    | nil => exact List.nodup_nil
    | cons p r ih =>
      rw [List.map_cons, List.nodup_cons] at hn
      exact List.nodup_cons.mpr ⟨fun m => hn.1 (List.mem_map.mpr ⟨p, m, rfl⟩), ih hn.2⟩
  refine (List.perm_ext_iff_of_nodup (nd n) (nd n')).mpr fun p => ?_
  rw [show p = (p.1, p.2) from rfl, ← dgetK_iff n, ← dgetK_iff n', h]
/-- made anew over its keys in another order -/
theorem dc_anew {d : List (κ × β)} {xs : List κ} (hn : (d.map Prod.fst).Nodup) (hp : xs.Perm (d.map Prod.fst)) (hl : d.length < 100000) : ∃ d', dcL? (fun n => some n) (fun n => getK d n) xs = some d' ∧ d'.Perm d ∧ d'.map Prod.fst = xs := by
  have nx : xs.Nodup := hp.nodup_iff.mpr hn
  obtain ⟨r, e, h1, h2⟩ := dc_new (f := fun n => getK d n) xs [] nx (fun x _ => by simp) (fun x hx => by
    obtain ⟨y, hy, _⟩ := dget_some (hp.mem_iff.mp hx)
    exact ⟨y, hy⟩)
  refine ⟨r, ?_, perm_of_get (by rw [h1]; exact nx) hn fun k => ?_, h1⟩
  · unfold dcL?
    rw [if_pos (by rw [hp.length_eq, List.length_map]; exact hl), e]
    rfl
  · by_cases c : k ∈ d.map Prod.fst
    · obtain ⟨y, hy, hm⟩ := dget_some (r := r) (k := k) (by rw [h1]; exact hp.mem_iff.mpr c)
      rw [hy]
      exact (h2 _ hm).symm
    · rw [dget_none.mpr c, dget_none]
      rw [h1]
      exact fun z => c (hp.mem_iff.mp z)
theorem merge_new : ∀ (xs acc : List (κ × β)), (xs.map Prod.fst).Nodup → (∀ x ∈ xs, x.1 ∉ acc.map Prod.fst) → mergeL acc xs = acc ++ xs
  | [], acc, _, _ => by simp [mergeL]
  | x :: xs, acc, hn, ha => by
    rw [List.map_cons, List.nodup_cons] at hn
    show mergeL (putL acc x.1 x.2) xs = _
    rw [dput_new (ha x List.mem_cons_self), merge_new xs _ hn.2 fun z hz => ?_]
    · simp
    · rw [List.map_append, List.mem_append]
      rintro (c | c)
      · exact ha z (List.mem_cons_of_mem _ hz) c
      · simp only [List.map_cons, List.map_nil, List.mem_singleton] at c
        exact hn.1 (List.mem_map.mpr ⟨z, hz, c⟩)
theorem perm_of_sub {γ : Type} [DecidableEq γ] : ∀ {xs ys : List γ}, xs.Nodup → (∀ p ∈ xs, p ∈ ys) → ys.length ≤ xs.length → xs.Perm ys
  | [], ys, _, _, hl => by
    have : ys = [] := List.length_eq_zero_iff.mp (by simpa using hl)
    subst this
    exact .nil
  | x :: r, ys, hn, hs, hl => by
    obtain ⟨n1, n2⟩ := List.nodup_cons.mp hn
    have hx := hs x List.mem_cons_self
    have h1 := List.perm_cons_erase hx
    refine (List.Perm.cons x (perm_of_sub n2 (fun p hp => ?_) ?_)).trans h1.symm
    · exact (List.mem_erase_of_ne (fun z : p = x => n1 (by rw [← z]; exact hp))).mpr (hs p (List.mem_cons_of_mem _ hp))
    · have := h1.length_eq
      simp only [List.length_cons] at this hl
      omega
variable [DecidableEq β]
theorem dEq_iff {xs ys : List (κ × β)} (n : (xs.map Prod.fst).Nodup) (n' : (ys.map Prod.fst).Nodup) : dEq xs ys = true ↔ xs.Perm ys := by
  unfold dEq
  rw [Bool.and_eq_true, beq_iff_eq, List.all_eq_true]
  constructor
  · rintro ⟨hl, h⟩
    have sub : ∀ p ∈ xs, p ∈ ys := fun p hp => by
      have := h p hp
      unfold hitB at this
      cases e : getK ys p.1 with
      | none => rw [e] at this; cases this
      | some z =>
        rw [e] at this
        have e2 : p.2 = z := of_decide_eq_true this
        have := dget_mem e
        rw [← e2] at this
        exact this
    have ndx : xs.Nodup := by
      clear h sub hl n'
      induction xs with
      | nil => exact List.nodup_nil
      | cons p r ih =>
        rw [List.map_cons, List.nodup_cons] at n
        exact List.nodup_cons.mpr ⟨fun m => n.1 (List.mem_map.mpr ⟨p, m, rfl⟩), ih n.2⟩
    exact perm_of_sub ndx sub (by omega)
  · intro h
    refine ⟨h.length_eq, fun p hp => ?_⟩
    unfold hitB
    rw [(dgetK_iff n').mpr (show (p.1, p.2) ∈ ys from h.mem_iff.mp hp)]
    simp
theorem dEq_perm {xs xs' ys ys' : List (κ × β)} (n : (xs.map Prod.fst).Nodup) (n' : (ys.map Prod.fst).Nodup) (h : xs.Perm xs') (h' : ys.Perm ys') : dEq xs ys = dEq xs' ys' := by
  have m := (h.map Prod.fst).nodup_iff.mp n
  have m' := (h'.map Prod.fst).nodup_iff.mp n'
  rw [Bool.eq_iff_iff, dEq_iff n n', dEq_iff m m']
  exact ⟨fun p => h.symm.trans (p.trans h'), fun p => h.trans (p.trans h'.symm)⟩
theorem dEq_comm {xs ys : List (κ × β)} (n : (xs.map Prod.fst).Nodup) (n' : (ys.map Prod.fst).Nodup) : dEq xs ys = dEq ys xs := by
  rw [Bool.eq_iff_iff, dEq_iff n n', dEq_iff n' n]
  exact ⟨fun p => p.symm, fun p => p.symm⟩
end
end M

namespace M
open PySem L2 G
/-! ### while a dict is walked it is locked: what stays -/
def isDk : HO → Bool
  | .dK _ => true
  | .frz _ (.dK _) => true
  | _ => false
section
variable {K : PySem.W.Frag} {α β γ δ ε ρ : Type} {S T : AS} {σ : St} {H : Hp} {ta tb te tv : TE} {a : Ty K α} {b' : Ty K β} {c' : Ty K γ} {D : Ends} {u : TS} {b c : Addr}
class DL (a : Ty K α) : Prop where
  h : ∀ {S H p w o v x}, H p = some w → isDk w = true → a.rp S H v x → a.rp (p :: S) (upd H p o) v x
theorem rd_dl {H : Hp} {p q : Addr} {w o u : HO} (hp : H p = some w) (hw : isDk w = true) (hu : ∀ kvs, u ≠ .dK kvs) (h : Rd H q u) (hu2 : isDk u = false) : q ≠ p ∧ Rd (upd H p o) q u := by
  have ne : q ≠ p := fun z => by
    subst z
    rcases h with h | ⟨w', h⟩
    · rw [hp] at h; cases h; rw [hw] at hu2; cases hu2
    · rw [hp] at h
      cases h
      cases u with
      | dK kvs => exact hu kvs rfl
      | _ => simp [isDk] at hw
  refine ⟨ne, ?_⟩
  rcases h with h | ⟨w', h⟩
  · exact .inl (by rw [upd_ne ne]; exact h)
  · exact .inr ⟨w', by rw [upd_ne ne]; exact h⟩
theorem nT.dl {S : AS} {H : Hp} {p q : Addr} {w o : HO} {xs : List V} (hp : H p = some w) (hw : isDk w = true) (h : nT K S H q xs) : nT K (p :: S) (upd H p o) q xs := by
  rcases h with ⟨h, n⟩ | h
  · obtain ⟨ne, h⟩ := rd_dl (o := o) hp hw (fun _ z => by cases z) h rfl
    exact .inl ⟨h, fun m => by rcases List.mem_cons.mp m with e | m; exact ne e; exact n m⟩
  · exact .inr h
theorem nL.dl {S : AS} {H : Hp} {p q : Addr} {w o : HO} {xs : List V} (hp : H p = some w) (hw : isDk w = true) (h : nL K S H q xs) : nL K (p :: S) (upd H p o) q xs := by
  have ne : q ≠ p := fun z => by
    obtain ⟨h1, _⟩ := h
    subst z
    rw [hp] at h1
    cases h1
    cases hw
  exact ⟨by rw [upd_ne ne]; exact h.1, fun m => by rcases List.mem_cons.mp m with e | m; exact ne e; exact h.2 m⟩
instance : DL (K := K) tInt := ⟨fun _ _ h => h⟩
instance : DL (K := K) tBool := ⟨fun _ _ h => h⟩
instance : DL (K := K) tStr := ⟨fun _ _ h => h⟩
instance : DL (K := K) tTx := ⟨fun _ _ h => h⟩
instance : DL (K := K) tNone := ⟨fun _ _ h => h⟩
instance : DL (K := K) tRat := ⟨fun hp hw ⟨q, e, h⟩ => ⟨q, e, h.dl hp hw⟩⟩
instance [DL a] : DL (tOpt a) := ⟨fun {S H p w o v x} hp hw h => by cases x with | none => exact h | some x => exact ⟨h.1, DL.h hp hw h.2⟩⟩
instance [DL a] [DL b'] : DL (tT2 a b') := ⟨fun hp hw ⟨q, u, w, e, h, h1, h2⟩ => ⟨q, u, w, e, h.dl hp hw, DL.h hp hw h1, DL.h hp hw h2⟩⟩
instance [DL a] : DL (tTs a) := ⟨fun hp hw ⟨q, vs, e, h, h1⟩ => ⟨q, vs, e, h.dl hp hw, h1.imp fun _ _ => DL.h hp hw⟩⟩
instance [DL a] : DL (tL a) := ⟨fun hp hw ⟨q, vs, e, h, h1⟩ => ⟨q, vs, e, h.dl hp hw, h1.imp fun _ _ => DL.h hp hw⟩⟩
class DLA (t : TyA K α) : Prop where
  h : ∀ {S H p w o vs x}, H p = some w → isDk w = true → t.rp S H vs x → t.rp (p :: S) (upd H p o) vs x
instance : DLA (K := K) aNil := ⟨fun _ _ h => h⟩
instance {t : TyA K β} [DL a] [DLA t] : DLA (aCons a t) := ⟨fun hp hw ⟨v, r, e, h, h'⟩ => ⟨v, r, e, DL.h hp hw h, DLA.h hp hw h'⟩⟩
instance {t : TyA K α} [XA t] [DLA t] : DL (tTu t) := ⟨fun hp hw ⟨q, vs, e, h, h1⟩ => ⟨q, vs, e, h.dl hp hw, DLA.h hp hw h1⟩⟩
theorem DL.at [DL a] {S : AS} {H : Hp} {p : Addr} {w o : HO} {v : V} {x : α} (hp : H p = some w) (hw : isDk w = true) (h : a.rp S H v x) : a.rp S (upd H p o) v x := a.sub (fun _ m => List.mem_cons_of_mem _ m) (DL.h hp hw h)
theorem cons_swap {p q : Addr} {S : AS} : Sub (p :: q :: S) (q :: p :: S) := fun a m => by simp only [List.mem_cons] at m ⊢; grind
variable {κ : Type} [KeyC κ] [DecidableEq κ]
open KeyC
theorem KvP.dl [DL b'] {S : AS} {H : Hp} {p : Addr} {w o : HO} {kv : Key × V} {x : κ × β} (hp : H p = some w) (hw : isDk w = true) (h : KvP b' S H kv x) : KvP b' (p :: S) (upd H p o) kv x := ⟨h.1, h.2.1, DL.h hp hw h.2.2⟩
theorem OwnD.dl [DL b'] {S : AS} {H : Hp} {p q : Addr} {w o : HO} {xs : List (κ × β)} (hp : H p = some w) (hw : isDk w = true) (n : q ≠ p) (h : OwnD b' S H q xs) : OwnD b' (p :: S) (upd H p o) q xs := by
  obtain ⟨ks, hk, ha, hn⟩ := h
  exact ⟨ks, by rw [upd_ne n]; exact hk, ha.imp fun _ _ => KvP.dl hp hw, hn⟩
theorem Own.dl [DL a] {S : AS} {H : Hp} {p q : Addr} {w o : HO} {xs : List α} (hp : H p = some w) (hw : isDk w = true) (h : Own a S H q xs) : Own a (p :: S) (upd H p o) q xs := by
  obtain ⟨ks, hk, ha⟩ := h
  have n : q ≠ p := fun z => by subst z; rw [hp] at hk; cases hk; cases hw
  exact ⟨ks, by rw [upd_ne n]; exact hk, ha.imp fun _ _ => DL.h hp hw⟩
/-- a dict that is being walked -/
def LkD (b' : Ty K β) (S : AS) (H : Hp) (p : Addr) (od : Obj) (kvs : List (Key × V)) (xs : List (κ × β)) : Prop := H p = some (.frz od (.dK kvs)) ∧ All2 (KvP b' S H) kvs xs ∧ (xs.map Prod.fst).Nodup
section
variable {p q : Addr} {od : Obj} {kvs : List (Key × V)} {xs : List (κ × β)} {H' : Hp} {S' : AS}
theorem LkD.same (h : LkD b' S H p od kvs xs) (s : Same H H') : LkD b' S H' p od kvs xs := ⟨s _ _ h.1, h.2.1.imp fun _ _ => KvP.mono (Fr.same s), h.2.2⟩
theorem LkD.fr (h : LkD b' S H p od kvs xs) (f : Fr T H H') (ts : Sub T S) (n : p ∉ T) : LkD b' S H' p od kvs xs := ⟨f _ _ h.1 n, h.2.1.imp fun _ _ => KvP.mono (f.sub ts), h.2.2⟩
theorem LkD.ext (h : LkD b' S H p od kvs xs) (n : H q = none) : LkD b' (q :: S) H p od kvs xs := ⟨h.1, h.2.1.imp fun _ _ => KvP.ext n, h.2.2⟩
theorem LkD.ne (h : LkD b' S H p od kvs xs) (n : H q = none) : p ≠ q := ne_of_none h.1 n
theorem LkD.sub (h : LkD b' S H p od kvs xs) (hs : Sub S' S) : LkD b' S' H p od kvs xs := ⟨h.1, h.2.1.imp fun _ _ => KvP.sub hs, h.2.2⟩
theorem LkD.mut (h : LkD b' S H p od kvs xs) (f : Fr S H H') (m : Mut1 q H H') (n : p ≠ q) : LkD b' S H' p od kvs xs := ⟨m.k _ _ h.1 n, h.2.1.imp fun _ _ => KvP.mono f, h.2.2⟩
theorem ev_lkGet {ck : Ty K κ} [KeyT ck] {ty : TE} {i : Nat} {rk : Option κ} (o : LkD b' S H p od kvs xs) (nt : p ∉ T) (ts : Sub T S) (hi : σ[i]? = some (some (.ref p))) (hk : Ev S T ty σ H (of ck S) rk) :
    Ev S T (tDGet (tVar i) ty) σ H (of b' S) (bd rk fun k => getK xs k) := by
  intro z e H1 f1 d Q q
  obtain ⟨k, ek, e⟩ := bd_some e
  refine ⟨_, hi, hk k ek H1 f1 d _ fun w H2 s2 hw => ?_⟩
  obtain ⟨hv, ha, hn⟩ := (o.fr f1 ts nt).same s2
  obtain ⟨rfl, hok⟩ := KeyT.to hw
  rcases val_get (k := k) ha with ⟨g1, _⟩ | ⟨x, v, g1, g2, g3⟩
  · rw [g1] at e; cases e
  · rw [g1] at e
    cases e
    exact ⟨p, v, rfl, .inl ⟨kvs, kk k, .inr ⟨_, hv⟩, rfl, g2.symm⟩, q v H2 s2 g3⟩
theorem ev_lkIn {ck : Ty K κ} [KeyT ck] {ty : TE} {i : Nat} {rk : Option κ} (o : LkD b' S H p od kvs xs) (nt : p ∉ T) (ts : Sub T S) (hi : σ[i]? = some (some (.ref p))) (hk : Ev S T ty σ H (of ck S) rk) :
    Ev S T (tDIn ty (tVar i)) σ H (of (K := K) tBool S) (bd rk fun k => some (getK xs k).isSome) := by
  intro z e H1 f1 d Q q
  obtain ⟨k, ek, e⟩ := bd_some e
  cases e
  refine hk k ek H1 f1 d _ fun w H2 s2 hw => ⟨_, hi, ?_⟩
  obtain ⟨hv, ha, hn⟩ := (o.fr f1 ts nt).same s2
  obtain ⟨rfl, hok⟩ := KeyT.to hw
  refine ⟨p, _, rfl, .inl ⟨kvs, kk k, .inr ⟨_, hv⟩, rfl, rfl⟩, q _ H2 s2 ?_⟩
  rcases val_get (k := k) ha with ⟨g1, g2⟩ | ⟨x, v, g1, g2, g3⟩
  · rw [g1, g2]; rfl
  · rw [g1, g2]; rfl
theorem all2_key {H : Hp} {S : AS} {j : Nat} {k : κ} : ∀ {kvs : List (Key × V)} {xs : List (κ × β)}, All2 (KvP b' S H) kvs xs → ∀ {j : Nat} {x : κ × β}, xs[j]? = some x → ∃ kv, kvs[j]? = some kv ∧ KvP b' S H kv x := fun h j x e => h.get j e
/-- the keys of a locked dict -/
theorem sr_keysK {ck : Ty K κ} [KeyT ck] {i : Nat} (o : LkD b' S H p od kvs xs) (np : p ∉ S) (hi : σ[i]? = some (some (.ref p))) : Sr S [] (iKeys (tVar i)) σ H ck (some (xs.map Prod.fst)) := by
  intro ys e H1 f d R q
  cases e
  have hp := f _ _ o.1 (by simp)
  refine ⟨_, hi, p, od, rfl, .inl ⟨kvs, hp, q _ H1 (Same.refl _) ⟨fun H' j g hj => ?_, fun H' j v H'' g hy y ey => ?_, fun H' j g hj => ?_⟩⟩⟩
  · exact ⟨g _ _ hp np, by rw [o.2.1.len]; simpa using hj⟩
  · obtain ⟨rfl, k, w, ek, rfl⟩ := hy
    rw [List.getElem?_map] at ey
    obtain ⟨x, ex, rfl⟩ := Option.map_eq_some_iff.mp ey
    obtain ⟨kv, ekv, h1, h2, h3⟩ := o.2.1.get j ex
    rw [ek] at ekv
    cases ekv
    have h1' : k = kk x.1 := h1
    subst h1'
    exact ⟨rfl, KeyT.of_ h2⟩
  · exact ⟨g _ _ hp np, by rw [o.2.1.len]; simpa using hj⟩
end
/-- what a new thing is, also when a lock is gone -/
class RU (R : Rl α) (S : outParam AS) : Prop where
  h : ∀ {H1 H2 p od kvs v x}, H1 p = some (.dK kvs) → H2 p = some (.frz od (.dK kvs)) → R.r (upd H1 p (.frz od (.dK kvs))) H2 v x → R.r H1 (upd H2 p (.dK kvs)) v x
theorem upd_none {H : Hp} {p q : Addr} {o : HO} (h : upd H p o q = none) : q ≠ p ∧ H q = none := by
  have n : q ≠ p := fun z => by subst z; rw [upd_same] at h; cases h
  rw [upd_ne n] at h
  exact ⟨n, h⟩
instance [DL a] : RU (nw a S) S := ⟨fun {H1 H2 p od kvs v x} h1 h2 ⟨q, e, n, o⟩ => by
  obtain ⟨nq, n'⟩ := upd_none n
  obtain ⟨vs, hv, ha⟩ := o
  exact ⟨q, e, n', vs, by rw [upd_ne nq]; exact hv, ha.imp fun _ _ h => DL.at h2 rfl h⟩⟩
instance [DL b'] : RU (nwd (κ := κ) b' S) S := ⟨fun {H1 H2 p od kvs v x} h1 h2 ⟨q, e, n, o⟩ => by
  obtain ⟨nq, n'⟩ := upd_none n
  obtain ⟨vs, hv, ha, hn⟩ := o
  exact ⟨q, e, n', vs, by rw [upd_ne nq]; exact hv, ha.imp fun _ _ ⟨p1, p2, p3⟩ => ⟨p1, p2, DL.at h2 rfl p3⟩, hn⟩⟩
theorem ev_lock [DL b'] {R : Rl α} [RU R S] {r : Option α} {v : V} {xs : List (κ × β)} (ts : Sub T S) (h : (tD κ b').rp S H v xs)
    (k : ∀ (p : Addr) (od : Obj) (kvs : List (Key × V)) (H1 Hl : Hp), Fr T H H1 → v = .ref p → H1 p = some (.dK kvs) → Hl = upd H1 p (.frz od (.dK kvs)) → p ∉ S → LkD b' S Hl p od kvs xs → Ev S [] te σ Hl R r) : Ev S T (tLockE te) σ H R r := by
  intro x ex H1 f d Q q
  obtain ⟨p, kvs, rfl, hp, ha, hn⟩ := (tD κ b').mono (f.sub ts) h
  refine ⟨p, .dK kvs, hp.1, trivial, fun od => ?_⟩
  have hl : LkD b' S (upd H1 p (.frz od (.dK kvs))) p od kvs xs := ⟨upd_same, ha.imp fun _ _ ⟨p1, p2, p3⟩ => ⟨p1, p2, DL.at hp.1 rfl p3⟩, hn⟩
  refine k p od kvs H1 _ f rfl hp.1 rfl hp.2 hl x ex _ (Fr.refl _) d.upd _ fun w H2 s hw => ?_
  have h2 : H2 p = some (.frz od (.dK kvs)) := s _ _ upd_same
  refine ⟨h2, q w _ (fun q' o' e' => ?_) (RU.h hp.1 h2 hw)⟩
  by_cases cq : q' = p
  · subst cq
    rw [hp.1] at e'
    cases e'
    exact upd_same
  · rw [upd_ne cq]
    exact s _ _ (by rw [upd_ne cq]; exact e')
/-- behind a lock: what has stayed -/
theorem fr_unl {T : AS} {H0 H H' : Hp} {p : Addr} {kvs : List (Key × V)} (f : Fr T H0 H) (hp : H p = some (.dK kvs)) (np : p ∉ T) (g : Fr (p :: T) H0 H') : Fr T H0 (upd H' p (.dK kvs)) := fun q o e n => by
  by_cases cq : q = p
  · subst cq
    rw [f _ _ e np] at hp
    cases hp
    exact upd_same
  · rw [upd_ne cq]
    exact g _ _ e fun m => by rcases List.mem_cons.mp m with z | m; exact cq z; exact n m
theorem fr_lock {T : AS} {H0 H : Hp} {p : Addr} {o : HO} (f : Fr T H0 H) : Fr (p :: T) H0 (upd H p o) := fun q u e n => by
  rw [upd_ne (fun z => n (by rw [z]; exact List.mem_cons_self ..))]
  exact f _ _ e fun m => n (List.mem_cons_of_mem _ m)
theorem OwnD.unl [DL b'] {S : AS} {H : Hp} {p q : Addr} {od : Obj} {kvs : List (Key × V)} {xs : List (κ × β)} (hp : H p = some (.frz od (.dK kvs))) (n : q ≠ p) (h : OwnD b' (p :: S) H q xs) : OwnD b' S (upd H p (.dK kvs)) q xs := (OwnD.dl hp rfl n h).sub fun _ m => List.mem_cons_of_mem _ (List.mem_cons_of_mem _ m)
theorem Own.unl [DL a] {S : AS} {H : Hp} {p q : Addr} {od : Obj} {kvs : List (Key × V)} {xs : List α} (hp : H p = some (.frz od (.dK kvs))) (h : Own a (p :: S) H q xs) : Own a S (upd H p (.dK kvs)) q xs := (Own.dl hp rfl h).sub fun _ m => List.mem_cons_of_mem _ (List.mem_cons_of_mem _ m)
theorem DL.unl [DL a] {S : AS} {H : Hp} {p : Addr} {od : Obj} {kvs : List (Key × V)} {v : V} {x : α} (hp : H p = some (.frz od (.dK kvs))) (h : a.rp (p :: S) H v x) : a.rp S (upd H p (.dK kvs)) v x := a.sub (fun _ m => List.mem_cons_of_mem _ m) (DL.at hp rfl h)
/-- for k in d, with draws -/
theorem lw_for_k {i j : Nat} {tb : TS} {ck : Ty K κ} [KeyT ck] [DL b'] {v : V} {xs : List (κ × β)} {s0 : δ} {f : δ → κ → Wp (Ct ρ δ)} {P : Ct ρ δ → Prop} (d : Dom S H) (h : (tD κ b').rp S H v xs) (hi : σ[i]? = some (some v)) (hf : loopW f (xs.map Prod.fst) s0 P)
    (I : Addr → Obj → List (Key × V) → δ → St → Hp → Prop)
    (h0 : ∀ p od kvs Hl, v = .ref p → H p = some (.dK kvs) → p ∉ S → Hl = upd H p (.frz od (.dK kvs)) → LkD b' (p :: S) Hl p od kvs xs → I p od kvs s0 σ Hl)
    (iv : ∀ p od kvs s σ' H', I p od kvs s σ' H' → H' p = some (.frz od (.dK kvs)))
    (step : ∀ p od kvs (s : δ) (x : κ) (C : Ct ρ δ → Prop) (w : V) (σ' : St) (H' : Hp), v = .ref p → p ∉ S → I p od kvs s σ' H' → ck.rp (p :: S) H' w x → f s x C →
      tb ⟨fun σ2 H2 => ∃ s', C (.go s') ∧ Fr (p :: S) H' H2 ∧ I p od kvs s' σ2 H2, fun v' H2 => H2 p = some (.frz od (.dK kvs)) ∧ D.rt v' (upd H2 p (.dK kvs)), fun σ2 H2 => H2 p = some (.frz od (.dK kvs)) ∧ D.nx σ2 (upd H2 p (.dK kvs)), fun σ2 H2 => ∃ s', C (.go s') ∧ Fr (p :: S) H' H2 ∧ I p od kvs s' σ2 H2⟩ (σ'.set j (some w)) H')
    (done : ∀ p od kvs s σ' H', v = .ref p → p ∉ S → H p = some (.dK kvs) → Fr S H (upd H' p (.dK kvs)) → H' p = some (.frz od (.dK kvs)) → P (.go s) → I p od kvs s σ' H' → D.nx σ' (upd H' p (.dK kvs))) : tLock (tFor (iKeys (tVar i)) (gName j) tb) D σ H := by
  obtain ⟨p, kvs, rfl, hp, ha, hn⟩ := h
  refine ⟨p, .dK kvs, hp.1, trivial, fun od => ?_⟩
  have hl : LkD b' (p :: S) (upd H p (.frz od (.dK kvs))) p od kvs xs := ⟨upd_same, ha.imp fun _ _ => KvP.dl hp.1 rfl, hn⟩
  refine ⟨_, hi, p, od, rfl, .inl ⟨kvs, upd_same, ?_⟩⟩
  refine ⟨fun i m σ' H' => m = xs.length - i ∧ i ≤ xs.length ∧ Fr (p :: S) (upd H p (.frz od (.dK kvs))) H' ∧ ∃ s, I p od kvs s σ' H' ∧ loopW f ((xs.map Prod.fst).drop i) s P, ⟨_, rfl, Nat.zero_le _, Fr.refl _, s0, h0 p od kvs _ rfl hp.1 hp.2 rfl hl, hf⟩, ?_⟩
  rintro i m σ' H' ⟨rfl, hi', fr, s, hI, hlp⟩
  have hpk := iv p od kvs s σ' H' hI
  have hlen := ha.len
  by_cases cc : i < xs.length
  · right
    have cc' : i < (xs.map Prod.fst).length := by simpa using cc
    rw [List.drop_eq_getElem_cons cc'] at hlp
    simp only [loopW] at hlp
    refine ⟨⟨hpk, by omega⟩, fun σ2 H2 => ∃ s', loopW f ((xs.map Prod.fst).drop (i + 1)) s' P ∧ Fr (p :: S) H' H2 ∧ I p od kvs s' σ2 H2, ?_, ?_⟩
    · rintro σ2 H2 ⟨s', hl', f2, hI'⟩
      exact ⟨xs.length - (i + 1), by omega, rfl, by omega, fr.trans f2, s', hI', hl'⟩
    · intro w H2 hy
      obtain ⟨rfl, k, w', ek, rfl⟩ := hy
      obtain ⟨kv, ekv, h1, h2, h3⟩ := ha.get i (List.getElem?_eq_getElem cc)
      rw [ek] at ekv
      cases ekv
      have h1' : k = kk xs[i].1 := h1
      subst h1'
      exact step p od kvs s xs[i].1 _ (kV (kk xs[i].1)) σ' _ rfl hp.2 hI (KeyT.of_ h2) (by simpa using hlp)
  · left
    refine ⟨⟨hpk, by omega⟩, hpk, ?_⟩
    rw [List.drop_eq_nil_of_le (by simp; omega)] at hlp
    exact done p od kvs s σ' H' rfl hp.2 hp.1 (fr_unl (Fr.refl _) hp.1 hp.2 (fun q o e n => fr _ _ (by rw [upd_ne (fun z => n (by rw [z]; exact List.mem_cons_self ..))]; exact e) n)) hpk hlp hI
theorem qw_for_k {i j : Nat} {tb : TS} {ck : Ty K κ} [KeyT ck] [DL b'] {v : V} {xs : List (κ × β)} {s0 : δ} {f : δ → κ → Wp (Ct ρ δ)} {P : Ct ρ δ → Prop} (d : Dom S H) (h : (tD κ b').rp S H v xs) (hi : σ[i]? = some (some v)) (hf : loopW f (xs.map Prod.fst) s0 P)
    (I : Addr → Obj → List (Key × V) → δ → St → Hp → Prop)
    (h0 : ∀ p od kvs Hl, v = .ref p → H p = some (.dK kvs) → p ∉ S → Hl = upd H p (.frz od (.dK kvs)) → LkD b' (p :: S) Hl p od kvs xs → I p od kvs s0 σ Hl)
    (iv : ∀ p od kvs s σ' H', I p od kvs s σ' H' → H' p = some (.frz od (.dK kvs)))
    (step : ∀ p od kvs (s : δ) (x : κ) (C : Ct ρ δ → Prop) (w : V) (σ' : St) (H' : Hp), v = .ref p → p ∉ S → I p od kvs s σ' H' → ck.rp (p :: S) H' w x → f s x C →
      tb ⟨fun σ2 H2 => ∃ s', C (.go s') ∧ Fr (p :: S) H' H2 ∧ I p od kvs s' σ2 H2, fun v' H2 => H2 p = some (.frz od (.dK kvs)) ∧ D.rt v' (upd H2 p (.dK kvs)), fun σ2 H2 => H2 p = some (.frz od (.dK kvs)) ∧ (u D) σ2 (upd H2 p (.dK kvs)), fun σ2 H2 => ∃ s', C (.go s') ∧ Fr (p :: S) H' H2 ∧ I p od kvs s' σ2 H2⟩ (σ'.set j (some w)) H')
    (done : ∀ p od kvs s σ' H', v = .ref p → p ∉ S → H p = some (.dK kvs) → Fr S H (upd H' p (.dK kvs)) → H' p = some (.frz od (.dK kvs)) → P (.go s) → I p od kvs s σ' H' → u D σ' (upd H' p (.dK kvs))) : tSeq (tLock (tFor (iKeys (tVar i)) (gName j) tb)) u D σ H := lw_for_k (D := { D with nx := u D }) d h hi hf I h0 iv step done
end
end M

namespace M
open PySem L2 G
section
variable {K : PySem.W.Frag} {α α1 α2 β γ δ ε ρ : Type} {S T : AS} {σ : St} {H : Hp} {ta tb te tv : TE} {tt : TT} {a : Ty K α} {a1 : Ty K α1} {a2 : Ty K α2} {b : Ty K β}
/-! ### [te for x, y in xs] over pairs -/
theorem lc_core2P {wi : TI} {j j2 : Nat} {ws : List Nat} {r : Option (List (α1 × α2))} {f : α1 × α2 → Option (Option β)} (h : Sr S T wi σ H (tT2 a1 a2) r) (hw : ∀ x y, wipe (((wipe σ ws).set j (some x)).set j2 (some y)) ws = wipe σ ws)
    (he : ∀ (x : α1 × α2) (v v2 : V) (H2 H' : Hp) (p : Addr) (o : Option β), Fr T H H2 → H2 p = none → Same H2 H' → a1.rp (p :: S) H' v x.1 → a2.rp (p :: S) H' v2 x.2 → Dom (p :: S) H' → f x = some o → ∀ (Q1 : V → Hp → Prop) (Q0 : Hp → Prop), (∀ y w H3, o = some y → Same H' H3 → b.rp (p :: S) H3 w y → Q1 w H3) → (∀ H3, o = none → Same H' H3 → Q0 H3) →
      tt (((wipe σ ws).set j (some v)).set j2 (some v2)) H' fun k H3 => if k = true then te (((wipe σ ws).set j (some v)).set j2 (some v2)) H3 Q1 else Q0 H3) :
    Ev S T (tLc wi (gTup K 2 (gCons (gName j) (gCons (gName j2) gNil))) tt te ws) σ H (nw b S) (bd r fun xs => if xs.length < 100000 then filO f xs else none) := by
  intro z e H1 f1 d Q q
  obtain ⟨xs, ex, e⟩ := bd_some e
  split at e
  rotate_left
  · cases e
  rename_i hlen
  refine h xs ex H1 f1 d _ fun J H2 s2 wk => fun Dl hD => ?_
  have d2 := d.same s2
  have sD : Same H2 (upd H2 Dl (.lst [])) := same_new hD
  refine ⟨fun i m H' => m = xs.length - i ∧ i ≤ xs.length ∧ ∃ acc pre, H' Dl = some (.lst acc) ∧ Same H2 H' ∧ acc.length ≤ i ∧ All2 (b.rp (Dl :: S) H') acc pre ∧ ∃ suf, filO f (xs.drop i) = some suf ∧ z = pre ++ suf, ⟨_, rfl, Nat.zero_le _, [], [], upd_same, sD, Nat.zero_le _, .nil, z, e, rfl⟩, ?_⟩
  rintro i m H' ⟨rfl, hi, acc, pre, h1, h2, h3, h4, suf, h5, h6⟩
  by_cases c : i < xs.length
  · right
    rw [List.drop_eq_getElem_cons c] at h5
    obtain ⟨o, ho, h5⟩ := bd_some h5
    obtain ⟨suf', hs', h5⟩ := bd_some h5
    refine ⟨wk.go H' i (Fr.same h2) c, fun H3 => ∃ acc pre, H3 Dl = some (.lst acc) ∧ Same H2 H3 ∧ acc.length ≤ i + 1 ∧ All2 (b.rp (Dl :: S) H3) acc pre ∧ ∃ suf, filO f (xs.drop (i + 1)) = some suf ∧ z = pre ++ suf, ?_, ?_⟩
    · rintro H3 ⟨acc, pre, g1, g2, g3, g4, suf, g5, g6⟩
      exact ⟨xs.length - (i + 1), by omega, rfl, by omega, acc, pre, g1, g2, g3, g4, suf, g5, g6⟩
    · intro v H3 hy
      obtain ⟨rfl, hv⟩ := wk.yl H' i v H3 (Fr.same h2) hy _ (List.getElem?_eq_getElem c)
      obtain ⟨q0, v1, v2, rfl, hq0, hv1, hv2⟩ := (tT2 a1 a2).mono (Fr.same h2) ((tT2 a1 a2).ext hD hv)
      refine ⟨q0, _, rfl, hq0.sq, rfl, v1, _, rfl, v2, _, rfl, rfl, hw v1 v2, ?_⟩
      refine he xs[i] v1 v2 H2 _ Dl o (f1.trans (Fr.same s2)) hD h2 hv1 hv2 ((d2.same h2).cons h1) ho _ _ (fun y w H4 eo s4 hw4 => ?_) (fun H4 eo s4 => ?_)
      · subst eo
        cases h5
        refine ⟨acc, s4 _ _ h1, Nat.lt_of_lt_of_le (by omega : acc.length < 100000) (by decide), acc ++ [w], pre ++ [y], upd_same, fun p ob eb => ?_, by simp; omega, ?_, suf', hs', by rw [h6]; simp⟩
        · rw [upd_ne (ne_of_none eb hD)]
          exact s4 _ _ (h2 _ _ eb)
        · have fD : Fr (Dl :: S) H4 (upd H4 Dl (.lst (acc ++ [w]))) := fr_upd (List.mem_cons_self ..)
          exact ((h4.imp fun _ _ h => b.mono (Fr.same s4) h).snoc hw4).imp fun _ _ h => b.mono fD h
      · subst eo
        cases h5
        exact ⟨acc, pre, s4 _ _ h1, fun p ob eb => s4 _ _ (h2 _ _ eb), by omega, h4.imp fun _ _ h => b.mono (Fr.same s4) h, _, hs', h6⟩
  · left
    rw [List.drop_eq_nil_of_le (by omega)] at h5
    cases h5
    rw [List.append_nil] at h6
    subst h6
    exact ⟨wk.st H' i (Fr.same h2) (by omega), q _ _ (s2.trans h2) ⟨Dl, rfl, s2.free hD, acc, h1, h4⟩⟩
theorem ev_lcP {wi : TI} {j j2 : Nat} {ws : List Nat} {r : Option (List (α1 × α2))} {f : α1 × α2 → Option β} (h : Sr S T wi σ H (tT2 a1 a2) r) (hw : ∀ x y, wipe (((wipe σ ws).set j (some x)).set j2 (some y)) ws = wipe σ ws)
    (he : ∀ (x : α1 × α2) (v v2 : V) (H2 H' : Hp) (p : Addr), Fr T H H2 → H2 p = none → Same H2 H' → a1.rp (p :: S) H' v x.1 → a2.rp (p :: S) H' v2 x.2 → Ev (p :: S) [] te (((wipe σ ws).set j (some v)).set j2 (some v2)) H' (of b (p :: S)) (f x)) :
    Ev S T (tLc wi (gTup K 2 (gCons (gName j) (gCons (gName j2) gNil))) tYes te ws) σ H (nw b S) (bd r fun xs => mapL? f xs) := by
  have k := lc_core2P (tt := tYes) (te := te) (b := b) (f := fun x => bd (f x) fun y => some (some y)) h hw fun x v v2 H2 H' p o g1 g2 g3 g4 g42 g5 g6 Q1 Q0 g7 g8 => by
    obtain ⟨y, hy, g6⟩ := bd_some g6
    cases g6
    refine G.yes_ ?_
    exact he x v v2 H2 H' p g1 g2 g3 g4 g42 y hy H' (Fr.refl _) g5 _ fun w H3 s3 hw3 => g7 y w H3 rfl s3 hw3
  intro z e
  refine k z ?_
  obtain ⟨xs, ex, e⟩ := bd_some e
  rw [ex]
  unfold mapL? at e
  show (if xs.length < 100000 then filO _ xs else none) = some z
  split at e
  · rename_i hl
    rw [if_pos hl, filO_map]
    exact e
  · cases e
theorem ev_lcPF {wi : TI} {j j2 : Nat} {ws : List Nat} {r : Option (List (α1 × α2))} {g : α1 × α2 → Option Bool} {f : α1 × α2 → Option β} (h : Sr S T wi σ H (tT2 a1 a2) r) (hw : ∀ x y, wipe (((wipe σ ws).set j (some x)).set j2 (some y)) ws = wipe σ ws)
    (ht : ∀ (x : α1 × α2) (v v2 : V) (H2 H' : Hp) (p : Addr), Fr T H H2 → H2 p = none → Same H2 H' → a1.rp (p :: S) H' v x.1 → a2.rp (p :: S) H' v2 x.2 → EvB (p :: S) [] tt (((wipe σ ws).set j (some v)).set j2 (some v2)) H' (g x))
    (he : ∀ (x : α1 × α2) (v v2 : V) (H2 H' : Hp) (p : Addr), Fr T H H2 → H2 p = none → Same H2 H' → a1.rp (p :: S) H' v x.1 → a2.rp (p :: S) H' v2 x.2 → Ev (p :: S) [] te (((wipe σ ws).set j (some v)).set j2 (some v2)) H' (of b (p :: S)) (f x)) :
    Ev S T (tLc wi (gTup K 2 (gCons (gName j) (gCons (gName j2) gNil))) tt te ws) σ H (nw b S) (bd r fun xs => filL? g f xs) :=
  lc_core2P (tt := tt) (te := te) (b := b) (f := fun x => bd (g x) fun k => if k then bd (f x) fun y => some (some y) else some none) h hw fun x v v2 H2 H' p o g1 g2 g3 g4 g42 g5 g6 Q1 Q0 g7 g8 => by
    obtain ⟨k, hk, g6⟩ := bd_some g6
    refine ht x v v2 H2 H' p g1 g2 g3 g4 g42 k hk H' (Fr.refl _) g5 _ fun H3 s3 => ?_
    cases k with
    | true =>
      obtain ⟨y, hy, g6⟩ := bd_some (if_t g6)
      cases g6
      show if true = true then _ else _
      rw [if_pos rfl]
      exact he x v v2 H2 H' p g1 g2 g3 g4 g42 y hy H3 (Fr.same s3) (g5.same s3) _ fun w H4 s4 hw4 => g7 y w H4 rfl (s3.trans s4) hw4
    | false =>
      cases (if_f g6)
      show if false = true then _ else _
      rw [if_neg (by decide)]
      exact g8 H3 rfl s3
end
section
variable {K : PySem.W.Frag} {α β γ δ ε ρ : Type} {S T : AS} {σ : St} {H : Hp} {ta tb te tv : TE} {tt : TT} {a : Ty K α} {b' : Ty K β} {c' : Ty K γ} {D : Ends} {u : TS} {b c : Addr}
/-! ### for x, y, z in xs -/
theorem for_s3 {wi : TI} {j j2 j3 : Nat} {tb : TS} {r : Option (List (α × β × γ × Unit))} {xs : List (α × β × γ × Unit)} {s0 : δ} {f : δ → α × β × γ × Unit → Option (Ct ρ δ)} {res : Ct ρ δ} (d : Dom S H) (h : Sr S T wi σ H (tTu (aCons a (aCons b' (aCons c' aNil)))) r) (e : r = some xs) (hf : loopC f xs s0 = some res)
    (I : δ → St → Hp → Prop) (h0 : ∀ H1, Same H H1 → I s0 σ H1)
    (step : (∀ s σ' H', res = .go s → I s σ' H' → D.nx σ' H') → ∀ (s : δ) (x : α × β × γ × Unit) (cr : Ct ρ δ) (v w w3 : V) (σ' : St) (H' : Hp), I s σ' H' → a.rp S H' v x.1 → b'.rp S H' w x.2.1 → c'.rp S H' w3 x.2.2.1 → x ∈ xs → f s x = some cr → (∀ y, cr = .ret y → res = .ret y) → (∀ s', cr = .brk s' → res = .go s') →
      tb { D with nx := fun σ2 H2 => ∃ s', cr = .go s' ∧ Fr S H' H2 ∧ I s' σ2 H2, ct := fun σ2 H2 => ∃ s', cr = .go s' ∧ Fr S H' H2 ∧ I s' σ2 H2, bk := D.nx } (((σ'.set j (some v)).set j2 (some w)).set j3 (some w3)) H')
    (done : ∀ s σ' H', res = .go s → I s σ' H' → D.nx σ' H') : tFor wi (gTup K 3 (gCons (gName j) (gCons (gName j2) (gCons (gName j3) gNil)))) tb D σ H := by
  refine h xs e H (Fr.refl _) d _ fun J H1 s1 wk => ?_
  refine ⟨fun i m σ' H' => m = xs.length - i ∧ i ≤ xs.length ∧ Fr S H1 H' ∧ ∃ s, I s σ' H' ∧ loopC f (xs.drop i) s = some res, ⟨_, rfl, Nat.zero_le _, Fr.refl _, s0, h0 H1 s1, hf⟩, ?_⟩
  rintro i m σ' H' ⟨rfl, hi, fr, s, hI, hl⟩
  by_cases c : i < xs.length
  · right
    rw [List.drop_eq_getElem_cons c] at hl
    simp only [loopC] at hl
    cases q : f s xs[i] with
    | none => rw [q] at hl; cases hl
    | some cr =>
      rw [q] at hl
      refine ⟨wk.go H' i fr c, fun σ2 H2 => ∃ s', cr = .go s' ∧ Fr S H' H2 ∧ I s' σ2 H2, ?_, ?_⟩
      · rintro σ2 H2 ⟨s', rfl, f2, hI'⟩
        exact ⟨xs.length - (i + 1), by omega, rfl, by omega, fr.trans f2, s', hI', hl⟩
      · intro v H2 hy
        obtain ⟨rfl, hv⟩ := wk.yl H' i v H2 fr hy _ (List.getElem?_eq_getElem c)
        obtain ⟨p, vs, rfl, hp, v1, r1, e1, h1, v2, r2, e2, h2, v3, r3, e3, h3, e4⟩ := (tTu (aCons a (aCons b' (aCons c' aNil)))).mono fr hv
        subst e4; subst e3; subst e2; subst e1
        exact ⟨p, _, rfl, hp.sq, rfl, v1, _, rfl, v2, _, rfl, v3, _, rfl, rfl, step done s xs[i] cr v1 v2 v3 σ' _ hI h1 h2 h3 (List.getElem_mem c) q (fun y ey => by subst ey; cases hl; rfl) (fun s' ey => by subst ey; cases hl; rfl)⟩
  · left
    refine ⟨wk.st H' i fr (by omega), ?_⟩
    rw [List.drop_eq_nil_of_le (by omega)] at hl
    cases hl
    exact done s σ' H' rfl hI
theorem q_for_s3 {wi : TI} {j j2 j3 : Nat} {tb : TS} {r : Option (List (α × β × γ × Unit))} {xs : List (α × β × γ × Unit)} {s0 : δ} {f : δ → α × β × γ × Unit → Option (Ct ρ δ)} {res : Ct ρ δ} (d : Dom S H) (h : Sr S T wi σ H (tTu (aCons a (aCons b' (aCons c' aNil)))) r) (e : r = some xs) (hf : loopC f xs s0 = some res)
    (I : δ → St → Hp → Prop) (h0 : ∀ H1, Same H H1 → I s0 σ H1)
    (step : (∀ s σ' H', res = .go s → I s σ' H' → u D σ' H') → ∀ (s : δ) (x : α × β × γ × Unit) (cr : Ct ρ δ) (v w w3 : V) (σ' : St) (H' : Hp), I s σ' H' → a.rp S H' v x.1 → b'.rp S H' w x.2.1 → c'.rp S H' w3 x.2.2.1 → x ∈ xs → f s x = some cr → (∀ y, cr = .ret y → res = .ret y) → (∀ s', cr = .brk s' → res = .go s') →
      tb { D with nx := fun σ2 H2 => ∃ s', cr = .go s' ∧ Fr S H' H2 ∧ I s' σ2 H2, ct := fun σ2 H2 => ∃ s', cr = .go s' ∧ Fr S H' H2 ∧ I s' σ2 H2, bk := u D } (((σ'.set j (some v)).set j2 (some w)).set j3 (some w3)) H')
    (done : ∀ s σ' H', res = .go s → I s σ' H' → u D σ' H') : tSeq (tFor wi (gTup K 3 (gCons (gName j) (gCons (gName j2) (gCons (gName j3) gNil)))) tb) u D σ H := for_s3 (D := { D with nx := u D }) d h e hf I h0 step done
/-! ### x += e -/
theorem l_aug {i : Nat} {r : Option Int} {x y : Int} (d : Dom S H) (hi : σ[i]? = some (some (.int x))) (h : Ev S T te σ H (of (K := K) tInt S) r) (e : r = some y) (k : ∀ H1, Same H H1 → D.nx (σ.set i (some (.int (x + y)))) H1) : tAug i te (ipI fun i j => i + j) D σ H :=
  ⟨_, hi, h y e H (Fr.refl _) d _ fun v H1 s hv => ⟨x, y, rfl, hv, k H1 s⟩⟩
theorem q_aug {i : Nat} {r : Option Int} {x y : Int} (d : Dom S H) (hi : σ[i]? = some (some (.int x))) (h : Ev S T te σ H (of (K := K) tInt S) r) (e : r = some y) (k : ∀ H1, Same H H1 → u D (σ.set i (some (.int (x + y)))) H1) : tSeq (tAug i te (ipI fun i j => i + j)) u D σ H := l_aug (D := { D with nx := u D }) d hi h e k
/-! ### x = xs.pop() -/
def popB? (xs : List α) : Option (α × List α) := match xs.getLast? with
  | none => none
  | some x => some (x, xs.dropLast)
theorem All2.dropLast {F : V → α → Prop} : ∀ {vs : List V} {xs : List α}, All2 F vs xs → All2 F vs.dropLast xs.dropLast
  | _, _, .nil => .nil
  | _, _, .cons h .nil => .nil
  | _, _, .cons h (.cons h2 r) => .cons h (All2.dropLast (.cons h2 r))
theorem q_popA {p : Addr} {xs ys : List α} {x : α} {i j : Nat} (d : Dom S H) (o : Own a S H p xs) (im : p ∈ S) (hi : σ[i]? = some (some (.ref p))) (e : popB? xs = some (x, ys))
    (k : ∀ v H1, Mut1 p H H1 → Fr S H H1 → Own a S H1 p ys → a.rp S H1 v x → u D (σ.set j (some v)) H1) : tSeq (tAsg (tBM0 K "list" rPop (tVar i)) (gName j)) u D σ H := by
  obtain ⟨vs, hv, ha⟩ := o
  unfold popB? at e
  cases el : xs.getLast? with
  | none => rw [el] at e; cases e
  | some z =>
    rw [el] at e
    cases e
    rw [List.getLast?_eq_getElem?] at el
    obtain ⟨w, ew, hw⟩ := ha.get _ el
    have f1 : Fr S H (upd H p (.lst vs.dropLast)) := fr_upd im
    refine ⟨_, hi, .inl ⟨rfl, vs, .inl (.inl hv)⟩, p, vs, w, rfl, rfl, hv, by rw [ha.len]; exact ew, ?_⟩
    exact k w _ ⟨fun b ob e n => by rw [upd_ne n]; exact e, by rw [upd_same]; intro z; cases z⟩ f1 ⟨_, upd_same, ha.dropLast.imp fun _ _ => a.mono f1⟩ (a.mono f1 hw)
/-! ### {k: v} -/
theorem ev_disp1 {κ : Type} [KeyC κ] [DecidableEq κ] {ck : Ty K κ} [KeyT ck] {tk : TE} {rk : Option κ} {rv : Option β} (hk : ∀ {p : Addr} {H1 : Hp}, Fr T H H1 → H1 p = none → Ev (p :: S) [] tk σ (upd H1 p (.dK [])) (of ck (p :: S)) rk) (hv : ∀ {p : Addr} {H1 : Hp}, Fr T H H1 → H1 p = none → Ev (p :: S) [] tv σ (upd H1 p (.dK [])) (of b' (p :: S)) rv) :
    Ev S T (tDisp [(tk, tv)]) σ H (nwd (κ := κ) b' S) (bd rk fun k => bd rv fun v => some [(k, v)]) := by
  intro z e H1 f1 d Q q
  obtain ⟨k, ek, e⟩ := bd_some e
  obtain ⟨x, ex, e⟩ := bd_some e
  cases e
  intro p hp
  have s0 : Same H1 (upd H1 p (.dK [])) := same_new hp
  have d0 : Dom (p :: S) (upd H1 p (.dK [])) := (d.same s0).cons upd_same
  refine hk f1 hp k ek _ (Fr.refl _) d0 _ fun w H2 s2 hw => ?_
  refine hv f1 hp x ex H2 (Fr.same s2) (d0.same s2) _ fun w2 H3 s3 hw2 => ?_
  obtain ⟨rfl, hok⟩ := KeyT.to hw
  have hp3 : H3 p = some (.dK []) := s3 _ _ (s2 _ _ upd_same)
  refine ⟨hp3, [(KeyC.kk k, w2)], rfl, by simp, q _ _ (fun q' o' e' => ?_) ⟨p, rfl, hp, _, upd_same, ?_, by simp⟩⟩
  · have nq : q' ≠ p := ne_of_none e' hp
    rw [upd_ne nq]
    exact s3 _ _ (s2 _ _ (s0 _ _ e'))
  · have f1 : Fr (p :: S) H3 (upd H3 p (.dK (mergeK [] [(KeyC.kk k, w2)]))) := fr_upd (List.mem_cons_self ..)
    exact .cons ⟨rfl, hok, b'.mono f1 hw2⟩ .nil
/-! ### sum -/
theorem ints_of {S : AS} {H : Hp} : ∀ {vs : List V} {xs : List Int}, All2 ((tInt (K := K)).rp S H) vs xs → vs = xs.map V.int
  | _, _, .nil => rfl
  | _, _, .cons h r => by rw [List.map_cons, ← ints_of r, show _ = _ from h]
theorem ev_sum {r : Option (List Int)} (h : Ev S T te σ H (of (tL (tInt (K := K))) S) r) : Ev S T (tCB (rSum K) (tCons te tNil)) σ H (of (K := K) tInt S) (bd r fun x => some x.sum) := by
  intro z e H1 f1 d Q q
  obtain ⟨x, ex, e⟩ := bd_some e
  cases e
  refine h x ex H1 f1 d _ fun v H2 s ⟨p, vs, ev, hp, ha⟩ => ?_
  subst ev
  have ev := ints_of ha
  subst ev
  exact ⟨p, x, rfl, hp.sq, q _ H2 s rfl⟩
/-! ### refusals with a number -/
def XqI (C : Addr) (f : Str) (E : XK) (H : Hp) (e : Int) : Prop := ∀ H' d, Same H H' → H' d = none → E (.ref C) (some d) (upd H' d (.xd [(f, .int e)]))
theorem XqI.same {C : Addr} {f : Str} {E : XK} {H H1 : Hp} {e : Int} (s : Same H H1) (h : XqI C f E H e) : XqI C f E H1 e := fun H' d s' nd => h H' d (s.trans s') nd
def spXI (ar : TyA K α) (R : AS → Rl γ) (C : Addr) (fl : Str) (f : α → Option (Int ⊕ γ)) : Sp := fun vs H Q E => ∃ (S : AS) (x : α) (y : Int ⊕ γ), Dom S H ∧ ar.rp S H vs x ∧ f x = some y ∧ (∀ z, y = .inr z → ∀ v H', Same H H' → (R S).r H H' v z → Q v H') ∧ (∀ e, y = .inl e → XqI C fl E H e)
def rfi? (i : Int) : Option Int := if i.natAbs.log2 < 1920 then some i else none
theorem l_raiseI {r : Option Int} {z : Int} {C : Addr} {f : Str} {W : WX} {ok : V → Prop} (hok : ∀ z : Int, z.natAbs.log2 < 1920 → ok (.int z)) (d : Dom S H) (h : Ev S T te σ H (of (K := K) tInt S) r) (e : bd r rfi? = some z) (q : ∀ H1 d, Same H H1 → H1 d = none → W (.ref C) (some d) σ (upd H1 d (.xd [(f, .int z)]))) : tRaiseSup C f ok W (tCons te tNil) D σ H := by
  obtain ⟨z', ez, e⟩ := bd_some e
  unfold rfi? at e
  split at e
  · rename_i hl
    cases e
    refine h z ez H (Fr.refl _) d _ fun v H1 s hv => ?_
    cases hv
    exact ⟨_, rfl, hok z hl, fun dd hd => q H1 dd s hd⟩
  · cases e
def EvXI (S T : AS) (te : TE) (σ : St) (H : Hp) (R : Rl γ) (C : Addr) (f : Str) (E : XK) (r : Option (Int ⊕ γ)) : Prop :=
  ∀ y, r = some y → ∀ H1, Fr T H H1 → Dom S H1 → ∀ Q : VK, (∀ z, y = .inr z → ∀ v H2, Same H1 H2 → R.r H1 H2 v z → Q v H2) → (∀ e, y = .inl e → XqI C f E H1 e) → te σ H1 Q
theorem ev_callXI {tr : TA} {ar : TyA K α} {r : Option α} {R : AS → Rl γ} {C : Addr} {fl : Str} {f : α → Option (Int ⊕ γ)} {E : St → XK} (h : EvA S T tr σ H ar r) : EvXI S T (tCallS (spXI ar R C fl f) E tr) σ H (R S) C fl (E σ) (bd r f) := by
  intro z e H1 f1 d Q q qx
  obtain ⟨x, ex, e⟩ := bd_some e
  exact h x ex H1 f1 d _ fun vs H2 s hv => ⟨S, x, z, d.same s, hv, e, fun z' e' u H' s' hu => q z' e' u H' (s.trans s') ((R S).same s hu), fun e' ee => (qx e' ee).same s⟩
theorem q_asgXI {i : Nat} {R : Rl γ} {C : Addr} {f : Str} {E : XK} {r : Option (Int ⊕ γ)} {y : Int ⊕ γ} (d : Dom S H) (h : EvXI S T te σ H R C f E r) (e : r = some y) (k : ∀ z, y = .inr z → ∀ v H1, Same H H1 → R.r H H1 v z → u D (σ.set i (some v)) H1) (kx : ∀ e, y = .inl e → XqI C f E H e) : tSeq (tAsg te (gName i)) u D σ H :=
  h y e H (Fr.refl _) d _ (fun z ez v H1 s hv => k z ez v H1 s hv) kx
end
end M
namespace M
open PySem L2 G
theorem mut_upd {H : Hp} {p : Addr} {o : HO} : Mut1 p H (upd H p o) := ⟨fun b ob e n => by rw [upd_ne n]; exact e, by rw [upd_same]; intro z; cases z⟩
end M

namespace M
open PySem L2 G
/-! ### a dict of lists that are its own: d = {x: [] for x in xs}, d[k].append(e) -/
section
variable {K : PySem.W.Frag} {α β γ δ : Type} {S T : AS} {σ : St} {H : Hp} {ta tb te tv ty : TE} {a : Ty K α} {b' : Ty K β} {D : Ends} {u : TS}
theorem Ty.extN (a : Ty K α) {S : AS} {H : Hp} {v : V} {x : α} (h : a.rp S H v x) : ∀ {qs : List Addr}, (∀ q ∈ qs, H q = none) → a.rp (qs ++ S) H v x
  | [], _ => h
  | q :: qs, hq => a.ext (hq q List.mem_cons_self) (Ty.extN a h fun p hp => hq p (List.mem_cons_of_mem _ hp))
def kvq (xs : List Str) (qs : List Addr) : List (Key × V) := (xs.zip qs).map fun p => (Sum.inr p.1, .ref p.2)
theorem kvq_keys {xs : List Str} {qs : List Addr} (h : xs.length = qs.length) : (kvq xs qs).map (·.1) = xs.map Sum.inr := by
  unfold kvq
  rw [List.map_map]
  have : (xs.zip qs).map (fun p => p.1) = xs := by rw [List.map_fst_zip (by omega)]
  calc (xs.zip qs).map ((fun x : Key × V => x.1) ∘ fun p => (Sum.inr p.1, V.ref p.2)) = ((xs.zip qs).map (fun p => p.1)).map Sum.inr := by rw [List.map_map]; rfl
    _ = _ := by rw [this]
theorem kvq_snoc {xs : List Str} {qs : List Addr} {x : Str} {q : Addr} (h : xs.length = qs.length) : kvq (xs ++ [x]) (qs ++ [q]) = kvq xs qs ++ [(Sum.inr x, .ref q)] := by
  unfold kvq
  rw [List.zip_append h, List.map_append]
  rfl
/-- {x: [] for x in xs} -/
theorem dc_empty {wi : TI} {j : Nat} {ws : List Nat} {r : Option (List Str)} {xs : List Str} {Q : VK} (d : Dom S H) (h : Sr S T wi σ H (tStr (K := K)) r) (e : r = some xs) (hn : xs.Nodup) (hl : xs.length < 100000) (hw : ∀ x, wipe ((wipe σ ws).set j (some x)) ws = wipe σ ws) (hj : ∀ x, ((wipe σ ws).set j (some x))[j]? = some (some x))
    (q : ∀ (p : Addr) (qs : List Addr) (H' : Hp), Same H H' → H p = none → xs.length = qs.length → (p :: qs).Nodup → (∀ q ∈ qs, H q = none ∧ H' q = some (.lst [])) → H' p = some (.dK (kvq xs qs)) → (∀ z ∈ xs, PyData.strOk z = true) → Q (.ref p) H') :
    tDc wi (gName j) tYes (tVar j) (tLst tNil) ws σ H Q := by
  refine h xs e H (Fr.refl _) d _ fun J H2 s2 wk => fun Dl hD => ?_
  refine ⟨fun i m H' => m = xs.length - i ∧ i ≤ xs.length ∧ ∃ qs : List Addr, qs.length = i ∧ (Dl :: qs).Nodup ∧ (∀ q ∈ qs, H2 q = none ∧ H' q = some (.lst [])) ∧ H' Dl = some (.dK (kvq (xs.take i) qs)) ∧ Same H2 H' ∧ ∀ z ∈ xs.take i, PyData.strOk z = true, ⟨_, rfl, Nat.zero_le _, [], rfl, by simp, by simp, upd_same, same_new hD, by simp⟩, ?_⟩
  rintro i m H' ⟨rfl, hi, qs, hql, hqn, hqs, hDl, hs, hok⟩
  by_cases cc : i < xs.length
  · right
    refine ⟨wk.go H' i (Fr.same hs) cc, fun H3 => ∃ qs : List Addr, qs.length = i + 1 ∧ (Dl :: qs).Nodup ∧ (∀ q ∈ qs, H2 q = none ∧ H3 q = some (.lst [])) ∧ H3 Dl = some (.dK (kvq (xs.take (i + 1)) qs)) ∧ Same H2 H3 ∧ ∀ z ∈ xs.take (i + 1), PyData.strOk z = true, ?_, ?_⟩
    · rintro H3 ⟨qs, h1, h2, h3, h4, h5, h6⟩
      exact ⟨xs.length - (i + 1), by omega, rfl, by omega, qs, h1, h2, h3, h4, h5, h6⟩
    · intro v H3 hy
      obtain ⟨rfl, hv⟩ := wk.yl H' i v H3 (Fr.same hs) hy _ (List.getElem?_eq_getElem cc)
      obtain ⟨rfl, okx⟩ := hv
      refine ⟨hw _, G.yes_ ⟨_, hj _, Nat.zero_le _, fun q nq => ?_⟩⟩
      have nqD : q ≠ Dl := fun z => by subst z; rw [hDl] at nq; cases nq
      have nqq : q ∉ qs := fun z => by have := (hqs q z).2; rw [this] at nq; cases nq
      have tl : (xs.take i).length = qs.length := by rw [List.length_take, hql]; omega
      have hD3 : upd H3 q (.lst []) Dl = some (.dK (kvq (xs.take i) qs)) := by rw [upd_ne (Ne.symm nqD)]; exact hDl
      have nk : ¬ ((kvq (xs.take i) qs).any fun kv => decide (kv.1 = Sum.inr xs[i])) = true := fun z => by
        obtain ⟨kv, hkv, ek⟩ := List.any_eq_true.mp z
        have hm : kv.1 ∈ (kvq (xs.take i) qs).map (·.1) := List.mem_map.mpr ⟨kv, hkv, rfl⟩
        rw [kvq_keys tl, of_decide_eq_true ek] at hm
        obtain ⟨z, hz, ez⟩ := List.mem_map.mp hm
        cases ez
        have : xs[i] ∈ xs.take i := hz
        rw [List.mem_take_iff_getElem] at this
        obtain ⟨k, hk, ek2⟩ := this
        have := (List.getElem_inj (h₀ := by omega) (h₁ := cc) hn).mp ek2
        omega
      refine ⟨_, Sum.inr xs[i], rfl, hD3, ?_, qs ++ [q], by simp [hql], ?_, fun q' hq' => ?_, ?_, fun b o eb => ?_, ?_⟩
      · unfold kvq
        rw [List.length_map, List.length_zip]
        exact Nat.lt_of_le_of_lt (Nat.le_trans (Nat.min_le_right _ _) (by omega : qs.length ≤ 100000)) (by decide)
      · rw [List.nodup_cons] at hqn ⊢
        refine ⟨fun m => ?_, List.nodup_append.mpr ⟨hqn.2, by simp, fun y hy w hw ee => ?_⟩⟩
        · rcases List.mem_append.mp m with m | m
          · exact hqn.1 m
          · exact nqD (List.mem_singleton.mp m).symm
        · rw [List.mem_singleton] at hw
          subst hw
          subst ee
          exact nqq hy
      · rcases List.mem_append.mp hq' with hq' | hq'
        · have hne : q' ≠ q := fun z => nqq (z ▸ hq')
          have hnD : q' ≠ Dl := fun z => (List.nodup_cons.mp hqn).1 (z ▸ hq')
          rw [upd_ne hnD, upd_ne hne]
          exact hqs q' hq'
        · rw [List.mem_singleton] at hq'
          subst hq'
          rw [upd_ne nqD, upd_same]
          exact ⟨hs.free nq, rfl⟩
      · rw [upd_same]
        unfold putK
        rw [if_neg nk, List.take_add_one, List.getElem?_eq_getElem cc, Option.toList_some, kvq_snoc tl]
      · have nb : b ≠ q := ne_of_none eb (hs.free nq)
        have nD : b ≠ Dl := ne_of_none eb hD
        rw [upd_ne nD, upd_ne nb]
        exact hs _ _ eb
      · intro z hz
        rw [List.take_add_one, List.getElem?_eq_getElem cc, Option.toList_some] at hz
        rcases List.mem_append.mp hz with hz | hz
        · exact hok z hz
        · rw [List.mem_singleton.mp hz]; exact okx
  · left
    have hix : i = xs.length := by omega
    subst hix
    rw [List.take_length] at hDl hok
    refine ⟨wk.st H' _ (Fr.same hs) (Nat.le_refl _), q Dl qs H' (s2.trans hs) (s2.free hD) hql.symm hqn (fun q hq => ⟨s2.free (hqs q hq).1, (hqs q hq).2⟩) hDl hok⟩
/-- the dict stands at p, its lists at qs -/
structure DLs (a : Ty K α) (S : AS) (H : Hp) (p : Addr) (qs : List Addr) (xs : List (Str × List α)) : Prop where
  at_ : H p = some (.dK (kvq (xs.map Prod.fst) qs))
  len : xs.length = qs.length
  ls : All2 (fun q (x : Str × List α) => ∃ vs, H q = some (.lst vs) ∧ All2 (a.rp S H) vs x.2) qs xs
  nd : (p :: qs).Nodup
  kd : (xs.map Prod.fst).Nodup
  ok : ∀ x ∈ xs, PyData.strOk x.1 = true
end
end M

namespace M
open PySem L2 G
section
variable {K : PySem.W.Frag} {α β γ δ : Type} {S T : AS} {σ : St} {H : Hp} {ta tb te tv ty : TE} {a : Ty K α} {b' : Ty K β} {D : Ends} {u : TS}
def LsR (a : Ty K α) (S : AS) (H : Hp) (q : Addr) (x : Str × List α) : Prop := ∃ vs, H q = some (.lst vs) ∧ All2 (a.rp S H) vs x.2
theorem dls_find {k : Str} {l : List α} {H : Hp} : ∀ {qs : List Addr} {xs : List (Str × List α)}, All2 (LsR a S H) qs xs → (xs.map Prod.fst).Nodup → qs.Nodup → getK xs k = some l →
    ∃ q ∈ qs, valV (kvq (xs.map Prod.fst) qs) (Sum.inr k) = some (.ref q) ∧ LsR a S H q (k, l) ∧
      ∀ H' l', Fr S H H' → (∀ b o, b ≠ q → H b = some o → H' b = some o) → LsR a S H' q (k, l') → All2 (LsR a S H') qs (xs.map fun p => if p.1 = k then (p.1, l') else p)
  | _, _, .nil, _, _, e => by cases e
  | q0 :: qs, x0 :: xs, .cons h r, hn, hq, e => by
    rw [List.map_cons, List.nodup_cons] at hn
    rw [List.nodup_cons] at hq
    by_cases c : x0.1 = k
    · have e1 : getK (x0 :: xs) k = some x0.2 := by simp [getK, c]
      rw [e1] at e
      cases e
      refine ⟨q0, List.mem_cons_self, ?_, h, fun H' l' f m hl => ?_⟩
      · simp [kvq, valV, c]
      · rw [List.map_cons, if_pos c]
        refine .cons hl ?_
        have : xs.map (fun p => if p.1 = k then (p.1, l') else p) = xs := by
          conv => rhs; rw [← List.map_id xs]
          refine List.map_congr_left fun p hp => ?_
          rw [if_neg]
          · rfl
          · exact fun z => hn.1 (c ▸ z ▸ List.mem_map.mpr ⟨p, hp, rfl⟩)
        rw [this]
        clear this e1
        have aux : ∀ {qs : List Addr} {xs : List (Str × List α)}, All2 (LsR a S H) qs xs → q0 ∉ qs → All2 (LsR a S H') qs xs := by
          intro qs xs r
          induction r with
          | nil => exact fun _ => .nil
          | cons h r ih =>
            intro nq
            obtain ⟨vs, hv, ha⟩ := h
            exact .cons ⟨vs, m _ _ (fun z => nq (z ▸ List.mem_cons_self)) hv, ha.imp fun _ _ => a.mono f⟩ (ih fun z => nq (List.mem_cons_of_mem _ z))
        exact aux r hq.1
    · have e1 : getK (x0 :: xs) k = getK xs k := by simp [getK, c]
      rw [e1] at e
      obtain ⟨q, hm, hv, hl, hh⟩ := dls_find r hn.2 hq.2 e
      refine ⟨q, List.mem_cons_of_mem _ hm, ?_, hl, fun H' l' f m hl => ?_⟩
      · rw [← hv]
        simp [kvq, valV, c]
      · rw [List.map_cons, if_neg c]
        obtain ⟨vs, hv, ha⟩ := h
        exact .cons ⟨vs, m _ _ (fun z => hq.1 (z ▸ hm)) hv, ha.imp fun _ _ => a.mono f⟩ (hh H' l' f m hl)
theorem DLs.same {H' : Hp} {p : Addr} {qs : List Addr} {xs : List (Str × List α)} (h : DLs a S H p qs xs) (s : Same H H') : DLs a S H' p qs xs :=
  ⟨s _ _ h.at_, h.len, h.ls.imp fun _ _ ⟨vs, hv, ha⟩ => ⟨vs, s _ _ hv, ha.imp fun _ _ => a.mono (Fr.same s)⟩, h.nd, h.kd, h.ok⟩
/-- d[k].append(x) -/
def appK? (xs : List (Str × List α)) (k : Str) (x : α) : Option (List (Str × List α)) := bd (getK xs k) fun l => bd (app? l x) fun l' => some (putL xs k l')
theorem l_appK {p : Addr} {qs : List Addr} {xs ys : List (Str × List α)} {i : Nat} {rk : Option Str} {k : Str} {r : Option α} {x : α} (d : Dom S H) (o : DLs a S H p qs xs) (iq : ∀ q ∈ qs, q ∈ S) (hi : σ[i]? = some (some (.ref p)))
    (hk : Ev S T ty σ H (of (K := K) tStr S) rk) (ek : rk = some k) (h : Ev S T te σ H (of a S) r) (e : r = some x) (f : appK? xs k x = some ys)
    (kk : ∀ H1, Fr qs H H1 → (∀ q ∈ qs, H1 q ≠ none) → DLs a S H1 p qs ys → D.nx σ H1) : tDrop (tBM K "list" rAppend (tDGet (tVar i) ty) (tCons te tNil)) D σ H := by
  unfold appK? at f
  obtain ⟨l, el, f⟩ := bd_some f
  obtain ⟨l', el', f⟩ := bd_some f
  cases f
  unfold app? at el'
  split at el'
  · rename_i hl
    cases el'
    refine ⟨_, hi, ?_⟩
    refine hk k ek H (Fr.refl _) d _ fun w H2 s2 hw => ?_
    obtain ⟨rfl, hok⟩ : w = .str k ∧ PyData.strOk k = true := hw
    have o2 := o.same s2
    obtain ⟨q, hq, hv, ⟨vs, hvs, ha⟩, hh⟩ := dls_find o2.ls o2.kd (List.nodup_cons.mp o2.nd).2 el
    refine ⟨p, .ref q, rfl, .inl ⟨_, _, .inl o2.at_, rfl, hv.symm⟩, ?_⟩
    refine ⟨Or.inl ⟨rfl, vs, .inl (.inl hvs)⟩, h x e H2 (Fr.same s2) (d.same s2) _ fun v H3 s3 hx => ?_⟩
    refine ⟨q, vs, v, rfl, rfl, s3 _ _ hvs, Nat.lt_of_lt_of_le (by rw [ha.len]; exact hl) (by decide), ?_⟩
    have im := iq q hq
    have f1 : Fr S H3 (upd H3 q (.lst (vs ++ [v]))) := fr_upd im
    have hp : p ≠ q := fun z => (List.nodup_cons.mp o2.nd).1 (z ▸ hq)
    have hmem : k ∈ xs.map Prod.fst := List.mem_map.mpr ⟨(k, l), dget_mem el, rfl⟩
    have fq : Fr qs H3 (upd H3 q (.lst (vs ++ [v]))) := fr_upd hq
    refine kk _ (((Fr.same s2).trans (Fr.same s3)).trans fq) (fun b hb => ?_) ⟨?_, ?_, ?_, o.nd, ?_, ?_⟩
    · by_cases c : b = q
      · subst c; rw [upd_same]; intro z; cases z
      · rw [upd_ne c]
        exact ((d.same s2).same s3) b (iq b hb)
    · rw [dput_keys_old hmem, upd_ne hp]
      exact s3 _ _ o2.at_
    · rw [dput_old hmem, List.length_map]; exact o.len
    · rw [dput_old hmem]
      refine hh _ _ ((Fr.same s3).trans f1) (fun b o nb eb => by rw [upd_ne nb]; exact s3 _ _ eb) ⟨vs ++ [v], upd_same, ?_⟩
      exact ((ha.imp fun _ _ h => a.mono (Fr.same s3) h).snoc hx).imp fun _ _ h => a.mono f1 h
    · rw [dput_keys_old hmem]; exact o.kd
    · intro y hy
      rw [dput_old hmem] at hy
      obtain ⟨z, hz, ez⟩ := List.mem_map.mp hy
      have := o.ok z hz
      split at ez <;> subst ez <;> exact this
  · cases el'
theorem q_appK {p : Addr} {qs : List Addr} {xs ys : List (Str × List α)} {i : Nat} {rk : Option Str} {k : Str} {r : Option α} {x : α} (d : Dom S H) (o : DLs a S H p qs xs) (iq : ∀ q ∈ qs, q ∈ S) (hi : σ[i]? = some (some (.ref p)))
    (hk : Ev S T ty σ H (of (K := K) tStr S) rk) (ek : rk = some k) (h : Ev S T te σ H (of a S) r) (e : r = some x) (f : appK? xs k x = some ys)
    (kk : ∀ H1, Fr qs H H1 → (∀ q ∈ qs, H1 q ≠ none) → DLs a S H1 p qs ys → u D σ H1) : tSeq (tDrop (tBM K "list" rAppend (tDGet (tVar i) ty) (tCons te tNil))) u D σ H := l_appK (D := { D with nx := u D }) d o iq hi hk ek h e f kk
theorem DLs.rp {p : Addr} {qs : List Addr} {S' : AS} {xs : List (Str × List α)} (h : DLs a S H p qs xs) (np : p ∉ S') (nq : ∀ q ∈ qs, q ∉ S') (sb : Sub S' S) : (tD Str (tL a)).rp S' H (.ref p) xs := by
  refine ⟨p, _, rfl, ⟨h.at_, np⟩, ?_, h.kd⟩
  have aux : ∀ {qs : List Addr} {xs : List (Str × List α)}, All2 (LsR a S H) qs xs → (∀ x ∈ xs, PyData.strOk x.1 = true) → (∀ q ∈ qs, q ∉ S') → All2 (KvP (tL a) S' H) (kvq (xs.map Prod.fst) qs) xs := by
    intro qs xs r
    induction r with
    | nil => exact fun _ _ => .nil
    | cons h r ih =>
      intro hk hq
      obtain ⟨vs, hv, ha⟩ := h
      refine .cons ⟨rfl, hk _ List.mem_cons_self, _, vs, rfl, ⟨hv, hq _ List.mem_cons_self⟩, ha.imp fun _ _ => a.sub sb⟩ (ih (fun x hx => hk x (List.mem_cons_of_mem _ hx)) fun q hq' => hq q (List.mem_cons_of_mem _ hq'))
  exact aux h.ls h.ok nq
theorem DLs.empty {p : Addr} {qs : List Addr} {xs : List Str} (hl : xs.length = qs.length) (nd : (p :: qs).Nodup) (hn : xs.Nodup) (hq : ∀ q ∈ qs, H q = some (.lst [])) (hp : H p = some (.dK (kvq xs qs))) (ok : ∀ z ∈ xs, PyData.strOk z = true) : DLs a S H p qs (xs.map fun x => (x, [])) := by
  have em : (xs.map fun x => (x, ([] : List α))).map Prod.fst = xs := by rw [List.map_map]; exact List.map_id _
  refine ⟨by rw [em]; exact hp, by rw [List.length_map]; exact hl, ?_, nd, by rw [em]; exact hn, fun x hx => ?_⟩
  · have aux : ∀ {qs : List Addr} {xs : List Str}, xs.length = qs.length → (∀ q ∈ qs, H q = some (.lst [])) → All2 (LsR a S H) qs (xs.map fun x => (x, [])) := by
      intro qs
      induction qs with
      | nil => intro xs h _; cases xs with | nil => exact .nil | cons => simp at h
      | cons q qs ih =>
        intro xs h hq
        cases xs with
        | nil => simp at h
        | cons x xs => exact .cons ⟨[], hq _ List.mem_cons_self, .nil⟩ (ih (by simpa using h) fun q hq' => hq q (List.mem_cons_of_mem _ hq'))
    exact aux hl hq
  · obtain ⟨z, hz, rfl⟩ := List.mem_map.mp hx
    exact ok z hz
end
section
variable {K : PySem.W.Frag} {S T : AS} {σ : St} {H : Hp} {D : Ends} {u : TS}
theorem q_dcE {wi : TI} {i j : Nat} {ws : List Nat} {r : Option (List Str)} {xs : List Str} (d : Dom S H) (h : Sr S T wi σ H (tStr (K := K)) r) (e : r = some xs) (hn : xs.Nodup) (hl : xs.length < 100000) (hw : ∀ x, wipe ((wipe σ ws).set j (some x)) ws = wipe σ ws) (hj : ∀ x, ((wipe σ ws).set j (some x))[j]? = some (some x))
    (q : ∀ (p : Addr) (qs : List Addr) (H' : Hp), Same H H' → H p = none → xs.length = qs.length → (p :: qs).Nodup → (∀ q ∈ qs, H q = none ∧ H' q = some (.lst [])) → H' p = some (.dK (kvq xs qs)) → (∀ z ∈ xs, PyData.strOk z = true) → u D (σ.set i (some (.ref p))) H') :
    tSeq (tAsg (tDc wi (gName j) tYes (tVar j) (tLst tNil) ws) (gName i)) u D σ H :=
  dc_empty (Q := fun v H1 => gName i v σ H1 (u D)) d h e hn hl hw hj q
end
section
open PySem.Spec PyProof.Rows
variable {X : Cx}
/-- p holds wherever the block of a comprehension may stand -/
def InBlk (X : Cx) (scope : Scope) (p : Cx → Prop) : Prop := ∀ s H C cl fp, p (X.blk s H scope (compEnvC scope cl C X.env) fp)
/-- x = {k: v for t in xs}, x a plain local of the def: the dict goes into its slot while the block ends -/
theorem ps_setDc {i : Nat} {x : Str} {px : Pos} {ke ve t xs : Expr} {fs : List Expr} {scope : Scope} {own : List (Str × Nat)} {q sq : Pos} {ws : TI} {g : TG} {tf : TT} {tk tv : TE} (calm : X.calm = true) (nd : X.N.Nodup) (at_ : X.N[i]? = some x) (loc : X.env.scope.names.lookup x = some .local)
    (sw : swapsWith (.DictComp ke ve [⟨t, xs, fs, 0⟩] scope q) (some (.Name x px)) sq.line X.env = pure true) (src : PI X t xs ws) (blk : BlkOk X.N X.env.scope scope own)
    (pt : InBlk X scope fun Y => PG Y t g) (pf : InBlk X scope fun Y => PTs Y fs tf) (pk : InBlk X scope fun Y => PE Y ke tk) (pv' : InBlk X scope fun Y => PE Y ve tv) (fo : ∀ z, foldedSetIterable xs X.env z = pure z := by intro _; rfl) :
    PS X (.Assign [.Name x px] (.DictComp ke ve [⟨t, xs, fs, 0⟩] scope q) sq) (tAsg (tDc ws g tf tk tv (own.map (·.2))) (gName i)) := by
  constructor
  intro pins s σ H D inv goal
  rw [exec_Assign_Name_used x px _ sq sw]
  apply wpAny_bind
  apply wpAny_standAt
  apply wpAny_bind
  apply wpAny_bind
  refine thn (dc_core (Q := fun v H1 => gName i v σ H1 D.nx) (Qf := fun _ s' => SP X pins D .next s') calm nd inv src blk pt pf pk pv' fo goal ?_) (fun _ _ done => wpAny_pure (wpAny_pure done))
  intro L C s' n H' inv' put ns fp
  apply wpAny_assign_Name
  apply store_ok2 (v := V.ref L) inv' nd at_ (.inl loc) rfl ?_ (.inr loc)
  rintro s2 inv2 ⟨a, sb, ha⟩
  obtain ⟨e0, e1, _, e3, e4, e5⟩ := fp
  have away : C ≠ a := fun e => ha.elim (fun z => e1 (e.trans z)) fun z => e4 x a z e.symm
  refine ⟨n, ns.sameBut sb away, fun s3 sb3 => ⟨_, H', ?_, put⟩⟩
  exact inv2.turned (t' := s2.toks) (fun b o ne eb => (sb3.2 b ne).trans eb) e0 e1 e3 e4 e5
theorem sw_trueD {ke ve : Expr} {cs : List Comprehension} {scope : Scope} {q px : Pos} {x : Str} {l : Nat} {env : PySem.Env} (fn : env.scope.kind = .function) (loc : env.scope.names.lookup x = some .local) (line : (px.line == q.line) = true)
    (free : (scope.names.any fun (n, k) => n == x && (k == .local || k == .cell)) = false) : swapsWith (.DictComp ke ve cs scope q) (some (.Name x px)) l env = pure true := by
  have kx : env.kindOf x = some .local := loc
  have bk : env.blockKind = .function := by simp only [Env.blockKind, fn]; rfl
  simp only [swapsWith, bk, kx, free, Expr.pos, line]
  rfl
end
end M

namespace M
open PySem L2 G
section
variable {K : PySem.W.Frag} {α : Type} {S T : AS} {σ : St} {H : Hp} {te : TE} {a : Ty K α} {D : Ends} {u : TS} {b c : Addr}
/-- xs.append(e), e drawn -/
theorem lw_app {p : Addr} {xs : List α} {i : Nat} {w : Wp α} {R : List α → Prop} (d : Dom S H) (hB : Bag H b c) (ts : Sub [b, c] S) (o : Own a S H p xs) (im : p ∈ S) (nt : p ∉ [b, c]) (hi : σ[i]? = some (some (.ref p))) (h : EvW b c S te σ H (of a S) w)
    (e : w fun x => lf (app? xs x) R)
    (q : ∀ ys H1 H2, R ys → Fr [b, c] H H1 → Dom S H1 → Bag H1 b c → Mut1 p H1 H2 → Fr S H1 H2 → Own a S H2 p ys → D.nx σ H2) : tDrop (tBM K "list" rAppend (tVar i) (tCons te tNil)) D σ H := by
  obtain ⟨vs0, hv0, ha0⟩ := id o
  refine ⟨_, hi, Or.inl ⟨rfl, vs0, .inl (.inl hv0)⟩, h ts _ e H (Fr.refl _) d hB _ fun v H1 x ⟨ys, ey, hR⟩ f1 d1 hB1 hx => ?_⟩
  obtain ⟨vs, hv, ha⟩ := o.fr f1 ts nt
  unfold app? at ey
  split at ey
  · rename_i hl
    cases ey
    have g1 : Fr S H1 (upd H1 p (.lst (vs ++ [v]))) := fr_upd im
    refine ⟨p, vs, v, rfl, rfl, hv, Nat.lt_of_lt_of_le (by rw [ha.len]; exact hl) (by decide), ?_⟩
    refine q _ H1 _ hR f1 d1 hB1 ⟨fun b ob e n => by rw [upd_ne n]; exact e, by rw [upd_same]; intro z; cases z⟩ g1 ⟨_, upd_same, ?_⟩
    exact (ha.snoc hx).imp fun _ _ h => a.mono g1 h
  · cases ey
theorem qw_app {p : Addr} {xs : List α} {i : Nat} {w : Wp α} {R : List α → Prop} (d : Dom S H) (hB : Bag H b c) (ts : Sub [b, c] S) (o : Own a S H p xs) (im : p ∈ S) (nt : p ∉ [b, c]) (hi : σ[i]? = some (some (.ref p))) (h : EvW b c S te σ H (of a S) w)
    (e : w fun x => lf (app? xs x) R)
    (q : ∀ ys H1 H2, R ys → Fr [b, c] H H1 → Dom S H1 → Bag H1 b c → Mut1 p H1 H2 → Fr S H1 H2 → Own a S H2 p ys → u D σ H2) : tSeq (tDrop (tBM K "list" rAppend (tVar i) (tCons te tNil))) u D σ H := lw_app (D := { D with nx := u D }) d hB ts o im nt hi h e q
end
end M

/-! ### defs that refuse with a number, several classes -/
namespace M
open PySem L2 G
abbrev Rf2 : Type := Nat × Int
section
variable {K : PySem.W.Frag} {α β γ : Type} {S T : AS} {σ : L2.St} {H : Hp} {te : TE} {D : Ends} {u : TS}
def Xq2 (cl : Nat → Addr × Str) (E : XK) (H : Hp) (e : Rf2) : Prop := ∀ G d, Same H G → G d = none → E (.ref (cl e.1).1) (some d) (upd G d (.xd [((cl e.1).2, .int e.2)]))
theorem Xq2.same {cl : Nat → Addr × Str} {E : XK} {H G : Hp} {e : Rf2} (s : Same H G) (h : Xq2 cl E H e) : Xq2 cl E G e := fun G' d s' nd => h G' d (s.trans s') nd
def spX2 (ar : TyA K α) (R : AS → Rl γ) (cl : Nat → Addr × Str) (f : α → Option (Rf2 ⊕ γ)) : Sp := fun vs H Q E => ∃ (S : AS) (x : α) (y : Rf2 ⊕ γ), Dom S H ∧ ar.rp S H vs x ∧ f x = some y ∧
  (∀ z, y = .inr z → ∀ v G, Same H G → (R S).r H G v z → Q v G) ∧ (∀ e, y = .inl e → Xq2 cl E H e)
def EvX2 (S T : AS) (te : TE) (σ : L2.St) (H : Hp) (R : Rl γ) (cl : Nat → Addr × Str) (E : XK) (r : Option (Rf2 ⊕ γ)) : Prop :=
  ∀ y, r = some y → ∀ G, Fr T H G → Dom S G → ∀ Q : VK, (∀ z, y = .inr z → ∀ v G', Same G G' → R.r G G' v z → Q v G') → (∀ e, y = .inl e → Xq2 cl E G e) → te σ G Q
theorem ev_callX2 {tr : TA} {ar : TyA K α} {r : Option α} {R : AS → Rl γ} {cl : Nat → Addr × Str} {f : α → Option (Rf2 ⊕ γ)} {E : L2.St → XK} (h : EvA S T tr σ H ar r) : EvX2 S T (tCallS (spX2 ar R cl f) E tr) σ H (R S) cl (E σ) (bd r f) := by
  intro y e G fr d Q q qx
  have ⟨x, ex, ey⟩ := bd_some e
  exact h x ex G fr d _ fun vs G' s hv => ⟨S, x, y, d.same s, hv, ey, fun z ez v G2 s2 hz => q z ez v G2 (s.trans s2) ((R S).same s hz), fun e' ee => (qx e' ee).same s⟩
theorem q_asgX2 {i : Nat} {R : Rl γ} {cl : Nat → Addr × Str} {E : XK} {r : Option (Rf2 ⊕ γ)} {y : Rf2 ⊕ γ} (d : Dom S H) (h : EvX2 S T te σ H R cl E r) (e : r = some y) (k : ∀ z, y = .inr z → ∀ v G, Same H G → R.r H G v z → u D (σ.set i (some v)) G) (kx : ∀ e, y = .inl e → Xq2 cl E H e) :
    tSeq (tAsg te (gName i)) u D σ H := h y e H (Fr.refl _) d _ (fun z ez v G s hv => k z ez v G s hv) kx
end
end M

/-! ### min of two texts; int of a truth; in a written list; a list but for its first -/
namespace M
open PySem L2 G
open PySem.Spec PyProof.Rows in
theorem min_texts {prog : Program} {w : World} {A : Around} {E : Value → Shared → Prop} {s : Shared} {Q : Value → Shared → Prop} {x y : Str} {t u : Tok} (hh : A.handled = none)
    (h : ∀ g k, (∀ c o, s.heap.get? c = some o → g.get? c = some o) → Q (if ltS y x then .str y u else .str x t) { s with heap := g, toks := k }) : wpAny (model prog w) A (call (.builtin "min") [.str x t, .str y u]) Q E s := by
  let its : Array Value := #[.str x t, .str y u]
  let ob : Obj := { cls := .type "tuple", data := .seq its }
  have tup : (s.heap.push ob).IsTuple s.heap.objs.size its := ⟨_, Heap.get?_push_size _ rfl, rfl, 0, rfl⟩
  have n1 : ∀ ob : Obj, (s.heap.push ob).objs.size = s.heap.objs.size + 1 := fun _ => Heap.size_push ..
  let pick : Nat → Str := fun i => if i = 0 then x else y
  have lt : CmpOf prog w A.in1 .Lt (fun i v => its[i]? = some v) (fun i j => ltS (pick i) (pick j)) := by
    intro i j vi vj s' Q' E' hi hj q
    have one : ∀ {i : Nat} {v : Value}, its[i]? = some v → ∃ t, v = .str (pick i) t := by
      intro i v e
      match i, e with
      | 0, e => exact ⟨t, (Option.some.inj e).symm⟩
      | 1, e => exact ⟨u, (Option.some.inj e).symm⟩
      | n + 2, e => simp [its] at e
    obtain ⟨ti, rfl⟩ := one hi
    obtain ⟨tj, rfl⟩ := one hj
    exact P.lt_str q
  apply call_min_two
  apply wpAny_pyIter_tuple tup
  refine ⟨_, [_, s.heap.objs.size], [_], 2, _, _, _, rfl, Walks.tuple (A := A.in1) hh _ s.heap.objs.size (by rw [n1]; exact Nat.ne_of_lt (Nat.lt_succ_self _)) its, ⟨⟨_, Heap.get?_push_size _ rfl, rfl, rfl⟩, tup.push _⟩, ?_, by decide, lt, ?_⟩
  · intro c hc
    show c < ((s.heap.push _).push _).objs.size
    rw [Heap.size_push, n1]
    rcases List.mem_cons.mp hc with e | hc
    · rw [e]
      exact (n1 _).symm ▸ Nat.lt_succ_self _
    · rw [List.mem_singleton.mp hc]
      exact Nat.lt_succ_of_lt (Nat.lt_succ_self _)
  · intro v g k best keep
    have res := h g k fun c o e => keep c o (fun m => by
      have l := Heap.lt_size e
      rw [List.mem_singleton.mp m, n1] at l
      exact Nat.lt_irrefl _ (Nat.lt_of_succ_lt l)) (Heap.get?_push_of_some _ (Heap.get?_push_of_some _ e))
    have ev : v = if ltS y x then .str y u else .str x t := by
      cases c : ltS y x <;> simp [argBest, pick, its, c] at best <;> simp [best]
    exact ev ▸ res
theorem call_minT {X : Cx} (hc : X.calm = true) : CallR X (.builtin "min") (fun xs H Q => ∃ x y : Str, xs = [.str x, .str y] ∧ Q (.str (if ltS y x then y else x)) H) := by
  intro pins s σ H xs us Q I r h
  obtain ⟨x, y, rfl, q⟩ := h
  obtain ⟨_, _, rfl, ⟨t, rfl⟩, u, rfl⟩ := vals2 r
  refine min_texts (I.ok.hd hc) fun g k keep => ⟨_, H, I.kept keep, ?_, q⟩
  split <;> exact ⟨_, rfl⟩
def minS (x y : Str) : Str := if ltS y x then y else x
section
variable {K : PySem.W.Frag} {S T : AS} {σ : L2.St} {H : Hp} {ta tb : TE} {α : Type} {a : Ty K α}
theorem ev_minT {r q : Option Str} (h : Ev S T ta σ H (of (K := K) tStr S) r) (h' : Ev S T tb σ H (of (K := K) tStr S) q) :
    Ev S T (tCB (fun xs H Q => ∃ x y : Str, xs = [.str x, .str y] ∧ Q (.str (if ltS y x then y else x)) H) (tCons ta (tCons tb tNil))) σ H (of (K := K) tStr S) (bd r fun x => bd q fun y => some (minS x y)) := by
  intro z e H1 f1 d Q k
  obtain ⟨x, ex, e⟩ := bd_some e
  obtain ⟨y, ey, e⟩ := bd_some e
  cases e
  refine h x ex H1 f1 d _ fun v H2 s2 hv => h' y ey H2 (f1.trans (Fr.same s2)) (d.same s2) _ fun w H3 s3 hw => ?_
  have e1 := hv.1
  have e2 := hw.1
  subst e1
  subst e2
  refine ⟨x, y, rfl, k _ H3 (s2.trans s3) ⟨rfl, ?_⟩⟩
  unfold minS
  split
  · exact hw.2
  · exact hv.2
/-- len of a pair -/
theorem ev_len2 {β : Type} {b' : Ty K β} {r : Option (α × β)} (h : Ev S T ta σ H (of (tT2 a b') S) r) : Ev S T (tCB (fun xs H Q => ∃ p ys, xs = [.ref p] ∧ (SqL K H p ys ∨ SqT K H p ys) ∧ Q (.int ys.length) H) (tCons ta tNil)) σ H (of (K := K) tInt S) (bd r fun _ => some (2 : Int)) := by
  intro z e H1 f1 d Q k
  obtain ⟨x, ex, e⟩ := bd_some e
  cases e
  refine h x ex H1 f1 d _ fun v H2 s2 hv => ?_
  obtain ⟨p, y, w, rfl, hp, _⟩ := hv
  exact ⟨p, _, rfl, .inr hp.sq, k _ H2 s2 rfl⟩
end
/-! ### list(d) -/
def rListDk : List V → Hp → VK → Prop := fun xs H Q => ∃ (a : Addr) (kvs : List (Key × V)), xs = [.ref a] ∧ Rd H a (.dK kvs) ∧ ∀ p, H p = none → Q (.ref p) (upd H p (.lst (kvs.map fun kv => kV kv.1)))
theorem cr_listDk {X : Cx} (hc : X.calm = true) : CallR X (.type "list") rListDk := call_listD hc
theorem ev_listDS {K : PySem.W.Frag} {β : Type} {b' : Ty K β} {S T : AS} {σ : L2.St} {H : Hp} {te : TE} {r : Option (List (Str × β))} (h : Ev S T te σ H (of (tD Str b') S) r) :
    Ev S T (tCB rListDk (tCons te tNil)) σ H (nw (tStr (K := K)) S) (bd r fun x => some (x.map Prod.fst)) := by
  intro z e H1 f1 d Q q
  obtain ⟨x, ex, e⟩ := bd_some e
  cases e
  refine h x ex H1 f1 d _ fun v H2 s ⟨p, kvs, ev, hp, ha, hn⟩ => ?_
  subst ev
  obtain ⟨k1, k2⟩ := keys_S ha
  refine ⟨p, kvs, rfl, .inl hp.1, fun l nl => q _ _ (s.trans (same_new nl)) ⟨l, rfl, s.free nl, _, upd_same, ?_⟩⟩
  have e1 : (kvs.map fun kv => kV kv.1) = (x.map Prod.fst).map V.str := by
    have := congrArg (List.map kV) k1
    rw [List.map_map, List.map_map] at this
    exact this
  rw [e1]
  exact all_strs fun z hz => k2 z hz
theorem dom_back {S S' : AS} {G : Hp} {p : Addr} {o : HO} (d : Dom S' G) (e : G p = some o) (h : ∀ a ∈ S, a = p ∨ a ∈ S') : Dom S G := fun a m => by
  rcases h a m with rfl | m
  · rw [e]; exact fun z => nomatch z
  · exact d a m
end M

/-! ### sets of texts -/
namespace TxS
open PySem PySem.Spec PyProof.Rows L2
/-- rows that go together, one by one -/
inductive Two {α β : Type} (R : α → β → Prop) : List α → List β → Prop
  | nil : Two R [] []
  | cons {a b l m} : R a b → Two R l m → Two R (a :: l) (b :: m)
section
variable {α β : Type} {R : α → β → Prop}
theorem Two.len {l : List α} {m : List β} (h : Two R l m) : l.length = m.length := by
  induction h with
  | nil => rfl
  | cons _ _ ih => simp [ih]
theorem Two.app {l l' : List α} {m m' : List β} (h : Two R l m) (h' : Two R l' m') : Two R (l ++ l') (m ++ m') := by
  induction h with
  | nil => exact h'
  | cons a _ ih => exact .cons a ih
theorem Two.perm {l l' : List α} (p : l'.Perm l) : ∀ {m : List β}, Two R l m → ∃ m', m'.Perm m ∧ Two R l' m' := by
  induction p with
  | nil => intro m h; exact ⟨m, .refl _, h⟩
  | cons x _ ih =>
    intro m h
    cases h with
    | cons a r =>
      obtain ⟨m', q, t⟩ := ih r
      exact ⟨_, q.cons _, .cons a t⟩
  | swap x y l =>
    intro m h
    cases h with
    | cons a r =>
      cases r with
      | cons b r => exact ⟨_, .swap .., .cons b (.cons a r)⟩
  | trans _ _ ih1 ih2 =>
    intro m h
    obtain ⟨m1, q1, t1⟩ := ih2 h
    obtain ⟨m2, q2, t2⟩ := ih1 t1
    exact ⟨m2, q2.trans q1, t2⟩
theorem Two.left {l : List α} {m : List β} (h : Two R l m) {x : α} (hx : x ∈ l) : ∃ y ∈ m, R x y := by
  induction h with
  | nil => cases hx
  | cons a _ ih =>
    rcases List.mem_cons.mp hx with rfl | hx
    · exact ⟨_, .head _, a⟩
    · obtain ⟨y, hy, r⟩ := ih hx
      exact ⟨y, .tail _ hy, r⟩
theorem Two.right {l : List α} {m : List β} (h : Two R l m) {y : β} (hy : y ∈ m) : ∃ x ∈ l, R x y := by
  induction h with
  | nil => cases hy
  | cons a _ ih =>
    rcases List.mem_cons.mp hy with rfl | hy
    · exact ⟨_, .head _, a⟩
    · obtain ⟨x, hx, r⟩ := ih hy
      exact ⟨x, .tail _ hx, r⟩
end
def Ent (w : World) (e : Int × Value) (k : Str) : Prop := ∃ tk, e = (hashStr w k, .str k tk)
/-- the set at a: its texts one by one in L, its table fit to be walked -/
structure Has (w : World) (h : Heap) (a : Addr) (L : List Str) (o : Obj) (es : Array (Int × Value)) (ep : Nat) (t : SetTable) : Prop where
  at_ : h.get? a = some o
  ex : o.ExactSet
  dat : o.data = .set es ep t
  two : Two (Ent w) es.toList L
  nd : L.Nodup
  few : es.size < scanBound
  fit : t.fits es.size = true
  ris : Ris t.place.toList
  led : w.params.followText "set-order" = true ∨ t.led = true
def Tx (w : World) (h : Heap) (a : Addr) (L : List Str) : Prop := ∃ o es ep t, Has w h a L o es ep t
section
variable {P : Program} {w : World} {A : Around} {E : Value → Shared → Prop} {s : Shared} {a : Addr} {L : List Str}
theorem isIt (k : Str) (t : Tok) : (PySem.strKind P w).is k (.str k t) = true := by simp [PySem.strKind, Value.isStrOf]
theorem elems {l : List (Int × Value)} (h : Two (Ent w) l L) : ElemsOf (PySem.strKind P w) l := fun e he => by
  obtain ⟨k, _, tk, rfl⟩ := h.left he
  exact ⟨⟨k, isIt k tk, rfl⟩, rfl⟩
theorem keyIn {l : List (Int × Value)} (h : Two (Ent w) l L) (k : Str) : k ∈ L ↔ ∃ e ∈ l, (PySem.strKind P w).is k e.2 = true := by
  constructor
  · intro m
    obtain ⟨e, he, tk, rfl⟩ := h.right m
    exact ⟨_, he, isIt k tk⟩
  · rintro ⟨e, he, q⟩
    obtain ⟨k', m, tk, rfl⟩ := h.left he
    exact (PySem.strKind P w).inj _ _ _ q (isIt k' tk) ▸ m
/-- what is laid into the set's object -/
theorem Has.laid {o : Obj} {es : Array (Int × Value)} {ep : Nat} {t : SetTable} (H : Has w s.heap a L o es ep t) {es' : Array (Int × Value)} {t' : SetTable} {L' : List Str} (two : Two (Ent w) es'.toList L') (nd : L'.Nodup) (few : es'.size < scanBound) (fit : t'.fits es'.size = true) (ris : Ris t'.place.toList)
    (led : w.params.followText "set-order" = true ∨ t'.led = true) : Has w (s.heap.update a (Obj.putSet es' t')) a L' { o with data := .set es' (ep + 1) t' } es' (ep + 1) t' :=
  ⟨store_at H.at_ H.dat, H.ex, rfl, two, nd, few, fit, ris, led⟩
theorem few_fits {n : Nat} (h : n < scanBound) : n ≤ sizeLine := fits_of_scanBound h
/-- behind the laying of a new text: the table may have to grow -/
theorem grows {o : Obj} {es : Array (Int × Value)} {ep : Nat} {t : SetTable} (H : Has w s.heap a L o es ep t) {g : Bool → Sem Unit} (hg : ∀ (b : Bool) (s₁ : Shared) (Q' : Unit → Shared → Prop), Q' () s₁ → wpAny (model P w) A (g b) Q' E s₁)
    {es' : Array (Int × Value)} {t' : SetTable} {L' : List Str} (two : Two (Ent w) es'.toList L') (nd : L'.Nodup) (few : es'.size < scanBound) (fit : t'.fits es'.size = true) (ris : Ris t'.place.toList) (led : w.params.followText "set-order" = true ∨ t'.led = true) {dummy : Bool}
    {R : Option Bool → Shared → Prop} (hR : ∀ h' M, Heap.SameBut a s.heap h' → M.Perm L' → Tx w h' a M → R (some true) { s with heap := h' }) :
    wpAny (model P w) A (do
        storeSet a es' t'
        if (!dummy && t'.tooFull) = true then do
            g (relayAll t' es' (SetTable.grown es'.size)).2.2
            storeSet a (relayAll t' es' (SetTable.grown es'.size)).1 (relayAll t' es' (SetTable.grown es'.size)).2.1
            pure (some true)
          else pure (some true)) R E s := by
  have H1 := H.laid two nd few fit ris led
  have sb := Heap.SameBut.update s.heap a (Obj.putSet es' t')
  apply wpAny_bind
  refine wpAny_storeSet_of H.at_ H.dat ?_ (few_fits few)
  by_cases full : (!dummy && t'.tooFull) = true
  · rw [if_pos full]
    have pm := relayAll_perm t' es' (SetTable.grown es'.size)
    obtain ⟨M, pM, tM⟩ := Two.perm pm two
    have sz : (relayAll t' es' (SetTable.grown es'.size)).1.size = es'.size := by
      have := pm.length_eq
      rwa [Array.length_toList, Array.length_toList] at this
    have H2 := Has.laid (s := { s with heap := s.heap.update a (Obj.putSet es' t') }) H1 tM (pM.nodup_iff.mpr nd) (by rw [sz]; exact few) (relayAll_fits t' es' _) (relayAll_ris t' es' _) (led.imp id fun z => (relayAll_led t' es' _).trans z)
    apply wpAny_bind
    apply hg
    apply wpAny_bind
    refine wpAny_storeSet_of H1.at_ H1.dat ?_ (few_fits (by rw [sz]; exact few))
    exact wpAny_pure (hR _ M (sb.trans (Heap.SameBut.update _ a _)) pM ⟨_, _, _, _, H2⟩)
  · rw [if_neg full]
    exact wpAny_pure (hR _ L' sb (.refl _) ⟨_, _, _, _, H1⟩)
/-- a text is added -/
theorem add_tx {k : Str} {tk : Tok} {Q : Bool → Shared → Prop} (H : Tx w s.heap a L) (room : L.length + 1 < scanBound)
    (hQ : ∀ h' M b, Heap.SameBut a s.heap h' → Tx w h' a M → (∀ j, j ∈ M ↔ j = k ∨ j ∈ L) → M.length ≤ L.length + 1 → Q b { s with heap := h' }) :
    wpAny (model P w) A (setAddHashed a (.str k tk) ((PySem.strKind P w).hash k)) Q E s := by
  obtain ⟨o, es, ep, t, H⟩ := H
  have key := isIt (P := P) (w := w) k tk
  have el := elems (P := P) H.two
  have sc : (Value.str k tk).scannable = true := rfl
  unfold setAddHashed setAddHashedIn
  apply wpAny_holding
  apply wpAny_bind
  apply wpAny_setState_of H.at_ H.dat H.fit
  dsimp only
  rw [byScan_of sc H.few el]
  simp only [↓reduceIte]
  unfold setAddByScan
  apply wpAny_bind
  apply wpAny_bind
  apply wpAny_rule
  apply wpAny_bind
  apply wpAny_setScan_of key H.at_ H.dat H.fit el
  cases found : List.findIdx? (fun e => (PySem.strKind P w).is k e.2) es.toList with
  | some j =>
    obtain ⟨lt, yes, _⟩ := List.findIdx?_eq_some_iff_getElem.mp found
    have here : k ∈ L := (keyIn (P := P) H.two k).mpr ⟨_, List.getElem_mem lt, yes⟩
    exact wpAny_pure (wpAny_pure (hQ s.heap L _ (Heap.SameBut.refl a s.heap) ⟨o, es, ep, t, H⟩ (fun i => ⟨.inr, fun z => z.elim (fun e => e ▸ here) id⟩) (Nat.le_succ _)))
  | none =>
    have gone : k ∉ L := fun m => by
      obtain ⟨e, he, yes⟩ := (keyIn (P := P) H.two k).mp m
      have no := List.findIdx?_eq_none_iff.mp found e he
      rw [yes] at no
      cases no
    have says : ∀ (b : Bool) {s₁ : Shared} {Q' : Unit → Shared → Prop}, Q' () s₁ → wpAny (model P w) A (match b with | true => rule "set.scan.the-table-gave-way" | false => pure ()) Q' E s₁ := by
      intro b s₁ Q' q
      cases b
      · exact wpAny_pure q
      · exact wpAny_rule q
    dsimp only
    have pm := layNew_perm t es ((PySem.strKind P w).hash k) (.str k tk)
    have ft := layNew_fits t es ((PySem.strKind P w).hash k) (.str k tk)
    have rs := layNew_ris t es ((PySem.strKind P w).hash k) (.str k tk) H.ris
    have ld := layNew_led t es ((PySem.strKind P w).hash k) (.str k tk)
    generalize layNew t es ((PySem.strKind P w).hash k) (.str k tk) = Z at pm ft rs ld ⊢
    obtain ⟨es1, t1, dummy, gave⟩ := Z
    dsimp only at pm ft rs ld ⊢
    rw [Array.toList_push] at pm
    obtain ⟨M, pM, tM⟩ := Two.perm pm (H.two.app (.cons ⟨tk, rfl⟩ .nil))
    have nM : M.Nodup := pM.nodup_iff.mpr (List.nodup_append.mpr ⟨H.nd, by simp, fun x hx y hy e => gone (by rw [List.mem_singleton.mp hy] at e; exact e ▸ hx)⟩)
    have sz : es1.size = L.length + 1 := by
      rw [← Array.length_toList, tM.len, pM.length_eq]
      simp
    have fw : es1.size < scanBound := by rw [sz]; exact room
    have ldd : w.params.followText "set-order" = true ∨ t1.led = true := H.led.imp id fun z => ld.trans z
    have fin : ∀ h' N, Heap.SameBut a s.heap h' → N.Perm M → Tx w h' a N → Q true { s with heap := h' } := fun h' N sb pN T =>
      hQ h' N _ sb T (fun j => by rw [pN.mem_iff, pM.mem_iff, List.mem_append, List.mem_singleton]; exact Or.comm) (by rw [pN.length_eq, pM.length_eq]; simp)
    apply wpAny_bind
    apply says
    split
    · apply wpAny_bind
      rw [hashByValue_scannable 8 sc]
      apply wpAny_pure
      refine grows H (fun b s₁ Q' q => by cases b <;> first | exact wpAny_pure q | exact wpAny_rule q) tM nM fw ?_ ?_ ?_ fun h' N sb pN T => ?_
      · first | (split <;> first | exact ft | exact SetTable.fits_plain_off ft) | exact ft
      · first | (split <;> exact rs) | exact rs
      · first | (split <;> exact ldd) | exact ldd
      · dsimp only
        exact wpAny_pure (fin h' N sb pN T)
    · apply wpAny_bind
      apply wpAny_pure
      simp only [↓reduceIte]
      refine grows H (fun b s₁ Q' q => by cases b <;> first | exact wpAny_pure q | exact wpAny_rule q) tM nM fw ft rs ldd fun h' N sb pN T => ?_
      dsimp only
      exact wpAny_pure (fin h' N sb pN T)
end
section
variable {P : Program} {w : World} {A : Around} {E : Value → Shared → Prop} {s : Shared} {a : Addr} {L : List Str}
theorem Tx.keep {h h' : Heap} (T : Tx w h a L) (k : ∀ o, h.get? a = some o → h'.get? a = some o) : Tx w h' a L := by
  obtain ⟨o, es, ep, t, H⟩ := T
  exact ⟨o, es, ep, t, { H with at_ := k o H.at_ }⟩
/-- the texts of xs are added, one by one -/
theorem adds_tx {I : Addr} {fp wr : List Addr} {G : Array GenState → Array GenState → Prop} {n : Nat} {Pv : Nat → Value → Prop} {St : Nat → Shared → Prop} {R : Result → Shared → Prop} (W : WalksS P w A.in1 I fp wr G n Pv St) {S : Addr} (nf : S ∉ fp) {xs : List Str} (nx : n = xs.length) (few : xs.length + 1 < scanBound)
    (val : ∀ i v, Pv i v → ∃ k t, xs[i]? = some k ∧ v = .str k t) : ∀ (left i : Nat) (s : Shared), i + left = n → St i s → (∃ L, Tx w s.heap S L ∧ (∀ j, j ∈ L ↔ j ∈ xs.take i) ∧ L.length ≤ i) →
      (∀ s' L, Moved (S :: wr) G s s' → Tx w s'.heap S L → (∀ j, j ∈ L ↔ j ∈ xs) → L.length ≤ n → R (.ok (.ret .none)) s') → codeAny (model P w) A (.builtin "set.update.loop" ⟨[.ref S, .ref I], []⟩) R s := by
  have nw : S ∉ wr := fun m => nf (W.sub _ m)
  have wide : ∀ b ∈ wr, b ∈ S :: wr := fun b m => .tail _ m
  intro left
  induction left with
  | zero =>
    rintro i s e st ⟨L, T, mem, len⟩ fin
    obtain rfl : i = n := e
    apply codeAny_builtin F.entry_set_update_loop
    rw [Around.under_plainId F.plain_set_update_loop _]
    show wpAny _ A.in1 (pyNext (.ref I) >>= _) _ _ s
    apply wpAny_bind
    apply W.done s _ _ st
    intro s' mv
    show wpAny _ A.in1 (ret Value.none) _ _ s'
    exact wpAny_pure (fin s' L (mv.mono wide) (T.keep fun o q => mv.heap S o nw q) (fun j => by rw [mem, nx, List.take_length]) len)
  | succ left ih =>
    rintro i s e st ⟨L, T, mem, len⟩ fin
    apply codeAny_builtin F.entry_set_update_loop
    rw [Around.under_plainId F.plain_set_update_loop _]
    show wpAny _ A.in1 (pyNext (.ref I) >>= _) _ _ s
    apply wpAny_bind
    apply W.item i s _ _ (by omega) st
    intro v s' pv st' mv
    obtain ⟨k, t, hk, rfl⟩ := val i v pv
    have T' : Tx w s'.heap S L := T.keep fun o q => mv.heap S o nw q
    show wpAny _ A.in1 (holding [Value.str k t] (setAdd S (.str k t)) >>= _) _ _ s'
    apply wpAny_bind
    apply wpAny_holding
    unfold setAdd
    apply wpAny_holding
    apply wpAny_bind
    apply (PySem.strKind P w).pyHash (isIt k t)
    refine add_tx (s := { s' with toks := s'.toks + 1 }) T' (by omega) fun h' M b sb T2 mem2 len2 => ?_
    have old : ∀ c, c ≠ S → h'.get? c = s'.heap.get? c := fun c ne => sb.2 c ne
    refine wpAny_pure ⟨plainId_quiet F.plain_set_update_loop _, ih (i + 1) _ (by omega) (W.frame _ s' _ _ st' (Nat.le_succ _) fun c hc o q => (old c fun z => nf (z ▸ hc)).trans q) ⟨M, T2, fun j => ?_, by omega⟩ fun s'' M' mv2 T3 mem3 len3 => ?_⟩
    · rw [mem2, mem, List.take_succ, hk, Option.toList_some, List.mem_append, List.mem_singleton]
      exact Or.comm
    · exact fin s'' M' (Moved.trans W.gtrans ((mv.mono wide).then_heap (Nat.le_succ _) fun c o hc q => (old c fun z => hc (z ▸ .head _)).trans q) mv2) T3 mem3 len3
end
section
variable {s : Shared} {P : Program} {w : World} {A : Around} {E : Value → Shared → Prop}
/-- the empty set as it is made -/
abbrev nil0 (w : World) : Obj := { cls := .type "set", dict := none, data := .set #[] 0 (.fresh 0 0 (!w.params.followText "set-order")) }
theorem nil_tx {h : Heap} {a : Addr} (e : h.get? a = some (nil0 w)) : Tx w h a [] := by
  refine ⟨_, #[], 0, _, e, ⟨rfl, rfl, rfl⟩, rfl, .nil, .nil, (by unfold scanBound; decide), rfl, List.Pairwise.nil, ?_⟩
  show _ ∨ (!w.params.followText "set-order") = true
  cases w.params.followText "set-order" <;> simp
theorem getNone {h : Heap} {b : Addr} (le : h.objs.size ≤ b) : h.get? b = none := by
  cases e : h.get? b with
  | none => rfl
  | some o => exact absurd (Nat.lt_of_lt_of_le (Heap.lt_size e) le) (Nat.lt_irrefl _)
set_option maxHeartbeats 8000000 in
/-- set(xs), xs a list of texts -/
theorem make_tx {l : Addr} {its : Array Value} {xs : List Str} {Q : Value → Shared → Prop} (hh : A.handled = none) (hl : s.heap.IsList l its) (vs : StrsAre its.toList xs) (few : xs.length + 1 < scanBound)
    (q : ∀ h' tk L, Tx w h' s.heap.objs.size L → (∀ j, j ∈ L ↔ j ∈ xs) → L.length ≤ xs.length → (∀ b o, s.heap.get? b = some o → h'.get? b = some o) → Q (.ref s.heap.objs.size) { s with heap := h', toks := tk }) :
    wpAny (model P w) A
      (call (.type "set") [.ref l]) Q E s := by
  have nits : its.size = xs.length := by rw [← StrsAre.len_eq vs, Array.length_toList]
  have S0 : (s.heap.push (nil0 w)).get? s.heap.objs.size = some (nil0 w) := Heap.get?_push_size _ rfl
  have n1 : (s.heap.push (nil0 w)).objs.size = s.heap.objs.size + 1 := Heap.size_push ..
  have ty : Shared.TypeIs { s with heap := s.heap.push (nil0 w) } (.ref s.heap.objs.size) "set" := ⟨_, S0, rfl⟩
  obtain ⟨c, tl, hmro⟩ := F.called_set.mro
  have hmade := F.called_set.made
  have hsub := F.called_set.sub
  apply wpAny_call
  apply codeAny_of_tree
  show wpAny _ _ (callAny (.type "set") _) _ _ _
  apply wpAny_pure
  constructor
  · exact Code.quiet_builtin _ (by decide +kernel)
  apply codeAny_builtin F.entry_type_call
  rw [Around.under_plain (weight_type_call_type "set" [.ref l] []) rfl]
  have h1 := F.called_set.notType
  have h2 := F.called_set.canCreate
  have hct := F.typeCall_set_1 (.ref l)
  repeat (any_goals (first | assumption | wp_step))
  refine codeAny_mono (code_set_led1 (.ref l) (E := E) (Q₁ := fun v t => v = .ref s.heap.objs.size ∧ t = { s with heap := s.heap.push (nil0 w) }) ⟨rfl, rfl⟩) fun r t told => ?_
  rcases r with e | fl
  · exact told
  cases fl
  case ret obj =>
    obtain ⟨rfl, rfl⟩ := told
    have hli := F.called_set.init.lookup
    have hbi := F.called_set.init.bind (.ref s.heap.objs.size)
    repeat (any_goals (first | assumption | wp_step))
    refine codeAny_mono (codeAny_call_builtin (R := wants (fun r t => r = .none ∧ ∃ h' tk L, t = { s with heap := h', toks := tk } ∧ Tx w h' s.heap.objs.size L ∧ (∀ j, j ∈ L ↔ j ∈ xs) ∧ L.length ≤ xs.length ∧ ∀ b o, s.heap.get? b = some o → h'.get? b = some o) E)
      F.called_set.init.plain F.entry_set_init (check_set_init_1 ty ?_)) fun r2 t2 told2 => ?_
    · obtain ⟨⟨ocls, odict, odata, oslots⟩, hol, hcl, nl, hdl⟩ := hl
      simp only at hcl hdl
      subst hcl
      subst hdl
      have hol' : (s.heap.push (nil0 w)).get? l = some { cls := .type "list", dict := odict, data := .seq its nl, slots := oslots } := Heap.get?_push_of_some _ hol
      have isl : (s.heap.push (nil0 w)).IsList l its := ⟨_, hol', rfl, nl, rfl⟩
      have hsls := F.sub_list_set
      have hslf := F.sub_list_frozenset
      have noDict : (Value.type "list" == Value.type "dict") = false := by decide
      unfold Builtin.«set.__init__»
      unfold noKeywords Builtin.Frozenset.updateFrom
      generalize hPI : pyIter = PI
      wp_walk
      subst hPI
      apply wpAny_pyIter_list isl
      apply wpAny_bind
      apply wpAny_runValue
      have below : l < s.heap.objs.size := Heap.lt_size hol
      have hh3 : A.in1.in1.in1.handled = none := by simp [hh]
      refine adds_tx ((Walks.list hh3 _ l (by rw [n1]; exact Nat.ne_of_lt (Nat.lt_succ_of_lt below)) its).toS) (S := s.heap.objs.size) ?_ nits few (fun i v e => ?_) its.size 0 _ (Nat.zero_add _) ⟨⟨_, Heap.get?_push_size _ rfl, rfl, rfl⟩, isl.push _⟩
        ⟨[], nil_tx (Heap.get?_push_of_some _ S0), by simp, Nat.le_refl _⟩ ?_
      · rw [n1]
        intro m
        rcases List.mem_cons.mp m with z | z
        · exact Nat.ne_of_lt (Nat.lt_succ_self _) z
        · exact Nat.ne_of_gt below (List.mem_singleton.mp z)
      · have lt : i < xs.length := nits ▸ (Array.getElem?_eq_some_iff.mp e).1
        obtain ⟨tk, et⟩ := StrsAre.at vs (List.getElem?_eq_getElem lt)
        rw [Array.getElem?_toList, e] at et
        exact ⟨xs[i], tk, List.getElem?_eq_getElem lt, Option.some.inj et⟩
      · rintro ⟨h', g', d', tk', os'⟩ L mv T mem len
        have e1 : g' = s.gens := mv.gens
        have e2 : d' = s.drawn := mv.drawn
        have e3 : os' = s.os := mv.os
        subst e1 e2 e3
        show wpAny _ _ _ _ _ _
        apply wpAny_pure
        show wpAny _ _ (ret Value.none) _ _ _
        refine wpAny_pure ⟨rfl, h', tk', L, rfl, T, mem, by rw [← nits]; exact len, fun b o e => ?_⟩
        have lb := Heap.lt_size e
        refine mv.heap b o (fun m => ?_) (Heap.get?_push_of_some _ (Heap.get?_push_of_some _ e))
        rcases List.mem_cons.mp m with z | z
        · exact Nat.ne_of_lt lb z
        · rw [List.mem_singleton.mp z, n1] at lb
          exact Nat.lt_irrefl _ (Nat.lt_of_succ_lt lb)
    · rcases r2 with e | fl2
      · exact told2
      cases fl2
      case ret r =>
        obtain ⟨rfl, h', tk, L, rfl, T, mem, len, keep⟩ := told2
        repeat (any_goals (first | assumption | wp_step))
        exact q h' tk L T mem len keep
      all_goals exact told2.elim
  all_goals exact told.elim
end
section
variable {P : Program} {w : World} {A : Around} {E : Value → Shared → Prop} {s : Shared} {a : Addr} {L : List Str}
theorem strs_two : ∀ {vs : List Value} {M : List Str}, Two (fun v k => ∃ tk, v = Value.str k tk) vs M → StrsAre vs M
  | _, _, .nil => .nil
  | _, _, .cons ⟨tk, e⟩ r => by
    subst e
    exact .cons _ tk (strs_two r)
theorem vals_two {l : List (Int × Value)} (h : Two (Ent w) l L) : Two (fun v k => ∃ tk, v = Value.str k tk) (l.map (·.2)) L := by
  induction h with
  | nil => exact .nil
  | cons e _ ih =>
    obtain ⟨tk, rfl⟩ := e
    exact .cons ⟨tk, rfl⟩ ih
/-- sorted(S), S a set of texts -/
theorem sort_tx {Q : Value → Shared → Prop} (T : Tx w s.heap a L) (hh : A.handled = none) (few : L.length ≤ 1000)
    (q : ∀ s' p (out : Array Value) (c : Nat) (ys : List Str), (∀ b o, s.heap.get? b = some o → s'.heap.get? b = some o) → s'.gens = s.gens → s'.os = s.os → s.heap.objs.size ≤ p → s'.heap.get? p = some (seqObj "list" out c) → StrsAre out.toList ys → ys.Perm L → sortedS ys = true → Q (.ref p) s') :
    wpAny (model P w) A
      (call (.builtin "sorted") [.ref a]) Q E s := by
  obtain ⟨o, es, ep, t, H⟩ := T
  apply Calls.call_function_entry kind_sorted plain_sorted entry_sorted (args_sorted1 _)
  unfold Builtin.«sorted»
  apply wpAny_bind (m := checkCount "sorted" 1 1 _)
  apply wpAny_pure
  apply wpAny_bind
  refine collect_set (A := A.in1) hh ⟨o, H.at_, H.ex.1, H.dat⟩ H.fit H.few H.ris H.led fun s1 vs keep le g1 o1 pm => ?_
  obtain ⟨M, pM, tM⟩ := Two.perm pm (vals_two H.two)
  have sM := strs_two tM
  have lv : vs.length ≤ sizeLine := by
    rw [tM.len, pM.length_eq, sizeLine_eq]
    omega
  apply wpAny_bind
  refine wpAny_newList ?_ lv
  have oL : (s1.heap.push (seqObj "list" vs.toArray 0)).get? s1.heap.objs.size = some (seqObj "list" vs.toArray 0) := Heap.get?_push_size _ rfl
  apply wpAny_bind
  apply wpAny_holding
  refine wpAny_call_entry slot_list_sort ⟨_, oL, rfl⟩ entry_list_sort (list_sort_treeKAny strKind_oneLt oL sM.keysOf (fun v₁ v₂ rest e => keyKind_strs (by rw [← e]; exact sM)) lv fun st p1 p2 => ⟨_, rfl, ?_⟩) (args_list_sort _)
  obtain ⟨ys, y1, y2, y3⟩ := sorted_out_str sM p1 p2
  obtain ⟨c, hc⟩ := sortedHeap_at (vs := vs) (out := (arrOf st).map (·.2)) oL
  refine wpAny_pure ⟨_, rfl, q _ s1.heap.objs.size _ c ys (fun b u e => ?_) g1 o1 le hc y1 (y2.trans pM) y3⟩
  have e1 := keep b u e
  have lt := Heap.lt_size e1
  show (sortedHeap (s1.heap.push (seqObj "list" vs.toArray 0)) s1.heap.objs.size vs _).get? b = some u
  rw [sortedHeap_old (Nat.ne_of_lt lt) (by rw [size_push']; exact Nat.lt_succ_of_lt lt)]
  exact Heap.get?_push_of_some _ e1
end
/-- the set of texts as a thing of the told heap -/
def TxO (w : World) (a : Addr) (L : List Str) : HO := .ext fun h => Tx w h a L
theorem txO_ok {P : Program} {w : World} {H : Hp} {h : Heap} {a : Addr} {L : List Str} (T : Tx w h a L) : ObjOk P w H h a (TxO w a L) := by
  have ⟨o, es, ep, t, Ha⟩ := T
  exact ⟨T, ⟨o, Ha.at_⟩, fun h1 h2 p k => Tx.keep p k⟩
section
variable {X : Cx}
theorem txO_get {pins : List (Addr × Obj)} {σ : L2.St} {H : Hp} {s : Shared} {a : Addr} {L : List Str} (I : Inv X pins σ H s) (e : H a = some (TxO X.w a L)) : Tx X.w s.heap a L := (I.hok a _ e).1
def rSetTx (K : PySem.W.Frag) (w : World) : List V → Hp → VK → Prop := fun vs H Q => ∃ (l : Addr) (xs : List Str), vs = [.ref l] ∧ SqL K H l (xs.map V.str) ∧ xs.length ≤ 1000 ∧
  ∀ p L, H p = none → (∀ j, j ∈ L ↔ j ∈ xs) → L.Nodup → L.length ≤ xs.length → Q (.ref p) (upd H p (TxO w p L))
theorem cr_setTx (hc : X.calm = true) : CallR X (.type "set") (rSetTx X.K X.w) := by
  intro pins s σ H vs us Q I r h
  obtain ⟨l, xs, rfl, hl, few, q⟩ := h
  rw [Vals.ref1 r]
  obtain ⟨its, rv, pl, hz⟩ := I.list hl
  refine make_tx (P := X.prog) (w := X.w) (I.ok.hd hc) pl.isList (by simpa using strsAre_of rv) (by unfold scanBound; omega) fun h' tk L T mem len keep => ?_
  have nd : L.Nodup := by
    obtain ⟨o, es, ep, t, Ha⟩ := T
    exact Ha.nd
  exact ⟨.ref s.heap.objs.size, upd H s.heap.objs.size (TxO X.w s.heap.objs.size L), I.laid (t' := tk) keep (Nat.le_refl _) (txO_ok T), rfl, q _ L (I.hok.fresh (Nat.le_refl _)) mem nd len⟩
def rSrtTx (w : World) : List V → Hp → VK → Prop := fun vs H Q => ∃ (a : Addr) (L : List Str), vs = [.ref a] ∧ H a = some (TxO w a L) ∧ L.length ≤ 1000 ∧
  ∀ ys p, ys.Perm L → sortedS ys = true → H p = none → Q (.ref p) (upd H p (.lst (ys.map V.str)))
theorem cr_srtTx (hc : X.calm = true) : CallR X (.builtin "sorted") (rSrtTx X.w) := by
  intro pins s σ H vs us Q I r h
  obtain ⟨a, L, rfl, e, few, q⟩ := h
  rw [Vals.ref1 r]
  refine sort_tx (txO_get I e) (I.ok.hd hc) few fun s' p out c ys keep g o le hp st pm so => ?_
  have np : H p = none := I.hok.fresh le
  have lay : (ys.map V.str).length ≤ sizeLine := by rw [List.length_map, pm.length_eq, sizeLine_eq]; omega
  have J : Inv X pins σ (upd H p (.lst (ys.map V.str))) { s with heap := s'.heap, gens := s'.gens, drawn := s'.drawn, toks := s'.toks } :=
    I.call (ch := []) (Un.laid keep le np) (I.hok.laid keep le ⟨lay, out.toList, c, vals_of_strs st, hp⟩) (by rw [g]; exact I.bare) (fun _ z => nomatch z)
  have e' : s' = { s with heap := s'.heap, gens := s'.gens, drawn := s'.drawn, toks := s'.toks } := by
    cases s'
    cases s
    cases o
    rfl
  rw [e']
  exact ⟨.ref p, _, J, rfl, q ys p pm so np⟩
end
end TxS
namespace M
open PySem L2 G TxS
/-- each thing once -/
def once {α : Type} [DecidableEq α] : List α → List α
  | [] => []
  | x :: r => if x ∈ once r then once r else x :: once r
theorem once_mem {α : Type} [DecidableEq α] {x : α} : ∀ {l : List α}, x ∈ once l ↔ x ∈ l
  | [] => Iff.rfl
  | y :: r => by
    have ih := once_mem (x := x) (l := r)
    unfold once
    split
    · rename_i m
      rw [ih, List.mem_cons]
      exact ⟨.inr, fun z => z.elim (fun e => e ▸ once_mem.mp m) id⟩
    · rw [List.mem_cons, List.mem_cons, ih]
theorem once_nd {α : Type} [DecidableEq α] : ∀ l : List α, (once l).Nodup
  | [] => .nil
  | y :: r => by
    unfold once
    split
    · exact once_nd r
    · rename_i m
      exact List.nodup_cons.mpr ⟨m, once_nd r⟩
theorem once_len {α : Type} [DecidableEq α] : ∀ l : List α, (once l).length ≤ l.length
  | [] => Nat.le_refl _
  | y :: r => by
    unfold once
    have := once_len r
    split <;> simp <;> omega
def setS? (xs : List Str) : Option (List Str) := if xs.length ≤ 1000 then some (sortBy ltS (once xs)) else none
section
variable {K : PySem.W.Frag} {S T : AS} {σ : L2.St} {H : Hp} {te : TE} {w : World}
theorem strs_at {vs : List V} {xs : List Str} {S : AS} {H : Hp} (h : All2 ((tStr (K := K)).rp S H) vs xs) : vs = xs.map V.str ∧ ∀ z ∈ xs, PyData.strOk z = true := by
  induction h with
  | nil => exact ⟨rfl, fun z hz => by simp at hz⟩
  | cons a _ ih =>
    refine ⟨by rw [List.map_cons, ← ih.1, a.1], fun z hz => ?_⟩
    rcases List.mem_cons.mp hz with rfl | hz
    · exact a.2
    · exact ih.2 z hz
/-- sorted(set(xs)) -/
theorem ev_srtSet {r : Option (List Str)} (h : Ev S T te σ H (of (K := K) (tL tStr) S) r) : Ev S T (tCB (rSrtTx w) (tCons (tCB (rSetTx K w) (tCons te tNil)) tNil)) σ H (nw (tStr (K := K)) S) (bd r setS?) := by
  intro z e H1 f1 d Q q
  obtain ⟨xs, ex, e⟩ := bd_some e
  unfold setS? at e
  split at e
  case isFalse => cases e
  rename_i few
  cases e
  refine h xs ex H1 f1 d _ fun v H2 s ⟨p, vs, ev, hp, ha⟩ => ?_
  subst ev
  obtain ⟨e1, ok⟩ := strs_at ha
  subst e1
  refine ⟨p, xs, rfl, hp.sq, few, fun l L nl mem nd len => ⟨l, L, rfl, upd_same, by omega, fun ys c pm so nc => ?_⟩⟩
  have pe : ys.Perm (once xs) := pm.trans ((List.perm_ext_iff_of_nodup nd (once_nd xs)).mpr fun j => (mem j).trans once_mem.symm)
  rw [sortS_eq pe so]
  have s2 : Same H2 (upd H2 l (TxO w l L)) := same_new nl
  refine q _ _ (s.trans (s2.trans (same_new nc))) ⟨c, rfl, s.free (s2.free nc), _, upd_same, all_strs fun z hz => ok z (once_mem.mp ((sortS_perm _).mem_iff.mp hz))⟩
end
end M

/-! ### {x: [] for x in d}; for v in d.values(): .. -/
namespace M
open PySem L2 G
section
variable {K : PySem.W.Frag} {α β κ δ ρ : Type} {b' : Ty K β} {S T : AS} {σ : L2.St} {H : Hp} {D : Ends} {u : TS}
theorem q_dcK [DL b'] {v : V} {m : List (Str × β)} {a i j : Nat} {ws : List Nat} (d : Dom S H) (h : (tD Str b').rp S H v m) (ha : σ[a]? = some (some v)) (hl : m.length < 100000) (hw : ∀ x, wipe ((wipe σ ws).set j (some x)) ws = wipe σ ws) (hj : ∀ x, ((wipe σ ws).set j (some x))[j]? = some (some x))
    (q : ∀ (p : Addr) (qs : List Addr) (G : Hp), Same H G → H p = none → m.length = qs.length → (p :: qs).Nodup → (∀ q ∈ qs, H q = none ∧ G q = some (.lst [])) → G p = some (.dK (kvq (m.map Prod.fst) qs)) → (∀ z ∈ m.map Prod.fst, PyData.strOk z = true) → u D (σ.set i (some (.ref p))) G) :
    tSeq (tLock (tAsg (tDc (iKeys (tVar a)) (gName j) tYes (tVar j) (tLst tNil) ws) (gName i))) u D σ H := by
  obtain ⟨pm, kvs, rfl, hp, hk, hn⟩ := h
  have keys := keys_S hk
  refine ⟨pm, .dK kvs, hp.1, trivial, fun od => ?_⟩
  have lk : LkD b' S (upd H pm (.frz od (.dK kvs))) pm od kvs m := ⟨upd_same, hk.imp fun _ _ z => (KvP.dl hp.1 rfl z).sub fun _ x => List.mem_cons_of_mem _ x, hn⟩
  refine dc_empty (K := K) (xs := m.map Prod.fst) (T := []) (Q := fun v G => gName i v σ G (_)) (d.upd) (sr_keysK (ck := (tStr : Ty K Str)) lk hp.2 ha) rfl hn (by rw [List.length_map]; exact hl) hw hj fun p qs G s np hql hqn hqs hG ok => ?_
  obtain ⟨n1, np'⟩ := upd_none np
  have hqs' : ∀ q ∈ qs, q ≠ pm ∧ H q = none := fun q hq => upd_none (hqs q hq).1
  have gm : G pm = some (.frz od (.dK kvs)) := s _ _ upd_same
  refine ⟨gm, q p qs (upd G pm (.dK kvs)) (fun c o e => ?_) np' (by rw [List.length_map] at hql; exact hql) hqn (fun q hq => ⟨(hqs' q hq).2, by rw [upd_ne (hqs' q hq).1]; exact (hqs q hq).2⟩) (by rw [upd_ne n1]; exact hG) ok⟩
  by_cases c' : c = pm
  · subst c'
    rw [upd_same, ← e]
    exact hp.1.symm
  · rw [upd_ne c']
    exact s c o (by rw [upd_ne c']; exact e)
/-- for w in d.values(): turns that only go on -/
theorem q_for_v [KeyC κ] [DecidableEq κ] [DL b'] {i j : Nat} {tb : TS} {v : V} {xs : List (κ × β)} {s0 : δ} {f : δ → β → Option (Ct ρ δ)} {sn : δ} (h : (tD κ b').rp S H v xs) (hi : σ[i]? = some (some v)) (hf : loopC f (xs.map Prod.snd) s0 = some (.go sn)) (nb : ∀ s x c, f s x = some c → ∃ s', c = .go s')
    (I : Addr → Obj → List (Key × V) → δ → L2.St → Hp → Prop)
    (h0 : ∀ p od kvs G, v = .ref p → H p = some (.dK kvs) → p ∉ S → G = upd H p (.frz od (.dK kvs)) → I p od kvs s0 σ G)
    (iv : ∀ p od kvs s σ' G, I p od kvs s σ' G → G p = some (.frz od (.dK kvs)))
    (step : ∀ p od kvs (s s' : δ) (x : β) (w : V) (σ' : L2.St) (G : Hp), v = .ref p → p ∉ S → I p od kvs s σ' G → b'.rp (p :: S) G w x → f s x = some (.go s') → ∀ D' : Ends, (∀ σ2 G2, Fr (p :: S) G G2 → I p od kvs s' σ2 G2 → D'.nx σ2 G2) → tb D' (σ'.set j (some w)) G)
    (done : ∀ p od kvs σ' G, v = .ref p → p ∉ S → H p = some (.dK kvs) → Fr S H (upd G p (.dK kvs)) → G p = some (.frz od (.dK kvs)) → I p od kvs sn σ' G → u D σ' (upd G p (.dK kvs))) : tSeq (tLock (tFor (iVals (tVar i)) (gName j) tb)) u D σ H := by
  obtain ⟨p, kvs, rfl, hp, ha, hn⟩ := h
  refine ⟨p, .dK kvs, hp.1, trivial, fun od => ?_⟩
  have hl : All2 (KvP b' (p :: S) (upd H p (.frz od (.dK kvs)))) kvs xs := ha.imp fun _ _ => KvP.dl hp.1 rfl
  refine ⟨_, hi, p, od, kvs, rfl, upd_same, ?_⟩
  refine ⟨fun k m σ' G => k + m = xs.length ∧ Fr (p :: S) (upd H p (.frz od (.dK kvs))) G ∧ ∃ s, I p od kvs s σ' G ∧ loopC f ((xs.map Prod.snd).drop k) s = some (.go sn), ⟨xs.length, Nat.zero_add _, Fr.refl _, s0, h0 p od kvs _ rfl hp.1 hp.2 rfl, hf⟩, ?_⟩
  rintro k m σ' G ⟨e, fr, s, hI, hlp⟩
  have hpk := iv p od kvs s σ' G hI
  have hlen := ha.len
  cases m with
  | zero =>
    left
    have ek : k = xs.length := e
    rw [List.drop_eq_nil_of_le (by simp; omega)] at hlp
    cases hlp
    exact ⟨⟨hpk, by omega⟩, hpk, done p od kvs σ' G rfl hp.2 hp.1 (fr_unl (Fr.refl _) hp.1 hp.2 (fun q o e n => fr _ _ (by rw [upd_ne (fun z => n (by rw [z]; exact List.mem_cons_self ..))]; exact e) n)) hpk hI⟩
  | succ m =>
    right
    have lt : k < xs.length := by omega
    have lt' : k < (xs.map Prod.snd).length := by simpa using lt
    rw [List.drop_eq_getElem_cons lt'] at hlp
    obtain ⟨c, ec, hc⟩ := Option.bind_eq_some_iff.mp (show (f s (xs.map Prod.snd)[k]).bind _ = some (Ct.go sn) from hlp)
    obtain ⟨s', rfl⟩ := nb _ _ _ ec
    refine ⟨⟨hpk, by omega⟩, fun σ2 G2 => ∃ s', loopC f ((xs.map Prod.snd).drop (k + 1)) s' = some (.go sn) ∧ Fr (p :: S) G G2 ∧ I p od kvs s' σ2 G2, fun σ2 G2 ⟨s', hl', f2, hI'⟩ => ⟨m, Nat.lt_succ_self m, by omega, fr.trans f2, s', hI', hl'⟩, ?_⟩
    intro w G2 hy
    obtain ⟨rfl, kk', ek⟩ := hy
    obtain ⟨kv, ekv, h1, h2, h3⟩ := hl.get k (List.getElem?_eq_getElem lt)
    rw [ek] at ekv
    cases ekv
    have ex : (xs.map Prod.snd)[k] = xs[k].2 := List.getElem_map ..
    exact step p od kvs s s' xs[k].2 w σ' _ rfl hp.2 hI (b'.mono fr h3) (by rw [← ex]; exact ec) _ fun σ2 G2 f2 hI' => ⟨s', hc, f2, hI'⟩
end
end M

/-! ### xs.extend(ys) of an owned list; None or not as a value; list(d.values()) -/
namespace M
open PySem PySem.Spec L2 G
/-- d.values() as a value: a view of the dict -/
def rVw : V → List V → Hp → VK → Prop := fun x vs H Q => ∃ (a : Addr) (kvs : List (Key × V)), x = .ref a ∧ vs = [] ∧ H a = some (.dK kvs) ∧ ∀ p, H p = none → Q (.ref p) (upd H p (viewO "dict_values" p a))
theorem mt_vw {X : Cx} : MtR X "dict.values" rVw := by
  rintro pins s σ H x vs v us Q I rx rv ⟨a, kvs, rfl, rfl, hd, go⟩
  cases rv
  cases (show v = Value.ref a from rx)
  have ⟨_, ns, ws, _, here⟩ := dk_of I.hok hd
  have there : s.TypeIs (.ref a) "dict" := here.typeIs
  refine call_meetsIn PySem.F.slot_dict_values there PySem.F.entry_dict_values (PySem.F.args_dict_values_1 _) (meets_dict_values (mixKind X.prog X.w) a ns) ⟨⟨ws, here⟩, ?_⟩
  have fresh : H s.heap.objs.size = none := I.hok.fresh (Nat.le_refl _)
  have J : Inv X pins σ (upd H s.heap.objs.size (viewO "dict_values" s.heap.objs.size a)) { s with heap := s.heap.push (DSub.viewOb "dict_values" a) } := I.laid (t' := s.toks) (fun b u e => Heap.get?_push_of_some _ e) (Nat.le_refl _) (viewO_ok (Heap.get?_push_size _ rfl))
  exact ⟨.ref s.heap.objs.size, _, J, rfl, go _ fresh⟩
theorem vals_at : ∀ {us : List Value} {ws : List (Key × Value)} {kvs : List (Key × V)}, KV kvs ws → us.length = ws.length → (∀ (j : Nat) (u : Value), us[j]? = some u → ∃ k, ws[j]? = some (k, u)) → Vals (kvs.map Prod.snd) us
  | [], [], _, .nil, _, _ => .nil
  | u :: us, q :: ws, _, .cons r rs, hl, h => by
    obtain ⟨k, e⟩ := h 0 u rfl
    cases (Option.some.inj e : q = (k, u))
    exact .cons r.2 (vals_at rs (Nat.succ.inj hl) fun j w e => h (j + 1) w e)
  | _ :: _, [], _, _, hl, _ => by simp at hl
  | [], _ :: _, _, _, hl, _ => by simp at hl
/-- list(d.values()) -/
def rLv : List V → Hp → VK → Prop := fun xs H Q => ∃ (p a : Addr) (kvs : List (Key × V)), xs = [.ref p] ∧ H p = some (viewO "dict_values" p a) ∧ H a = some (.dK kvs) ∧ ∀ q, H q = none → Q (.ref q) (upd H q (.lst (kvs.map Prod.snd)))
theorem cr_lv {X : Cx} (hc : X.calm = true) : CallR X (.type "list") rLv := by
  rintro pins s σ H xs us Q I rv ⟨p, a, kvs, rfl, hp, hd, go⟩
  rw [Vals.ref1 rv]
  have view : s.heap.get? p = some (DSub.viewOb "dict_values" a) := (show ObjOk X.prog X.w H s.heap p (viewO "dict_values" p a) from I.hok p _ hp).1
  have ⟨few, ns, ws, rel, here⟩ := dk_of I.hok hd
  have ⟨ep, at_⟩ := here.dictAt
  refine PySem.W.kdl_call (PySem.W.kdl_values (r := p) (knd := mixKind X.prog X.w) (kvs := ws) (ep := ep)) (I.ok.hd hc) ⟨⟨_, view, rfl, rfl⟩, at_⟩ (by rw [← rel.length]; exact few) fun h' tk out c' keep new its => ?_
  have same : Vals (kvs.map Prod.snd) out.toList := vals_at rel (by rw [Array.length_toList]; exact its.1) fun j u e => its.2 j u (by rw [← Array.getElem?_toList]; exact e)
  have size : (kvs.map Prod.snd).length ≤ sizeLine := by rw [List.length_map]; exact few
  have J : Inv X pins σ (upd H s.heap.objs.size (.lst (kvs.map Prod.snd))) { s with heap := h', toks := tk } := I.laid (t' := tk) keep (Nat.le_refl _) ⟨size, out.toList, c', same, by rw [Array.toArray_toList]; exact new⟩
  exact ⟨.ref s.heap.objs.size, _, J, rfl, go _ (I.hok.fresh (Nat.le_refl _))⟩
section
variable {K : PySem.W.Frag} {α β γ κ : Type} {a : Ty K α} {b' : Ty K β} {S T : AS} {σ : L2.St} {H : Hp} {te tf : TE} {D : Ends} {u : TS}
theorem ev_lv [KeyC κ] {r : Option (List (κ × β))} (h : Ev S T te σ H (of (tD κ b') S) r) : Ev S T (tCB rLv (tCons (tBM0 K "dict" rVw te) tNil)) σ H (nw b' S) (bd r fun x => some (x.map Prod.snd)) := by
  intro z e H1 f1 d Q q
  obtain ⟨x, ex, e⟩ := bd_some e
  cases e
  refine h x ex H1 f1 d _ fun v H2 s hv => ?_
  obtain ⟨p, kvs, rfl, hp, ha, un⟩ := hv
  refine ⟨.inr (.inr (.inl ⟨rfl, .inl ⟨kvs, hp.1⟩⟩)), p, kvs, rfl, rfl, hp.1, fun l nl => ?_⟩
  have s2 : Same H2 (upd H2 l (viewO "dict_values" l p)) := same_new nl
  refine ⟨l, p, kvs, rfl, upd_same, s2 _ _ hp.1, fun m nm => ?_⟩
  have s3 : Same H2 (upd (upd H2 l (viewO "dict_values" l p)) m (.lst (kvs.map Prod.snd))) := s2.trans (same_new nm)
  refine q _ _ (s.trans s3) ⟨m, rfl, s.free (s2.free nm), _, upd_same, ?_⟩
  have s4 := s2.trans (same_new (o := .lst (kvs.map Prod.snd)) nm)
  generalize upd (upd H2 l (viewO "dict_values" l p)) m (.lst (kvs.map Prod.snd)) = G at s4 ⊢
  clear ex e q s3 hp un
  induction ha with
  | nil => exact .nil
  | cons g _ ih => exact .cons (b'.mono (Fr.same s4) (b'.ext (s2.free nm) g.2.2)) ih
/-! None or not -/
theorem ev_isNe {r : Option (Option α)} (h : Ev S T te σ H (of (tOpt a) S) r) : Ev S T (tOp (fun x y H Q => y = .non ∧ Q (.bl (decide (x = .non))) H) te (tC .non)) σ H (of (K := K) tBool S) (bd r fun x => some x.isNone) := by
  intro z ez H1 f d Q q
  obtain ⟨x, ex, ez⟩ := bd_some ez
  cases ez
  refine h x ex H1 f d _ fun v H2 s hv => ⟨rfl, ?_⟩
  cases x with
  | none => rw [show v = .non from hv]; exact q _ H2 s rfl
  | some y => rw [decide_eq_false hv.1]; exact q _ H2 s rfl
/-! xs.extend(ys) -/
def ext? (xs ys : List α) : Option (List α) := if xs.length + ys.length < 100000 then some (xs ++ ys) else none
theorem l_ext {p : Addr} {xs ys zs : List α} {i : Nat} {r : Option (List α)} (d : Dom S H) (o : Own a S H p xs) (im : p ∈ S) (nt : p ∉ T) (ts : Sub T S) (hi : σ[i]? = some (some (.ref p))) (h : Ev S T te σ H (of (tL a) S) r) (e : r = some ys) (f : ext? xs ys = some zs)
    (k : ∀ H1, Mut1 p H H1 → Fr S H H1 → Own a S H1 p zs → D.nx σ H1) : tDrop (tBM K "list" rExtend (tVar i) (tCons te tNil)) D σ H := by
  obtain ⟨vs, hv, ha⟩ := o
  unfold ext? at f
  split at f
  case isFalse => cases f
  rename_i hl
  cases f
  refine ⟨_, hi, Or.inl ⟨rfl, vs, .inl (.inl hv)⟩, h ys e H (Fr.refl _) d _ fun v H1 s1 hx => ?_⟩
  obtain ⟨b, ws, rfl, hb, hw⟩ := hx
  refine ⟨p, b, vs, ws, rfl, rfl, s1 _ _ hv, hb.1, Nat.le_of_lt (Nat.lt_of_lt_of_le (by rw [ha.len, hw.len]; exact hl) (by decide)), ?_⟩
  have f1 : Fr S H1 (upd H1 p (.lst (vs ++ ws))) := fr_upd im
  refine k _ ⟨fun c ob e n => by rw [upd_ne n]; exact s1 _ _ e, by rw [upd_same]; intro z; cases z⟩ ((Fr.same s1).trans f1) ⟨vs ++ ws, upd_same, ?_⟩
  exact ((ha.imp fun _ _ h => a.mono (Fr.same s1) h).app hw).imp fun _ _ h => a.mono f1 h
theorem q_ext {p : Addr} {xs ys zs : List α} {i : Nat} {r : Option (List α)} (d : Dom S H) (o : Own a S H p xs) (im : p ∈ S) (nt : p ∉ T) (ts : Sub T S) (hi : σ[i]? = some (some (.ref p))) (h : Ev S T te σ H (of (tL a) S) r) (e : r = some ys) (f : ext? xs ys = some zs)
    (k : ∀ H1, Mut1 p H H1 → Fr S H H1 → Own a S H1 p zs → u D σ H1) : tSeq (tDrop (tBM K "list" rExtend (tVar i) (tCons te tNil))) u D σ H := l_ext (D := { D with nx := u D }) d o im nt ts hi h e f k
end
end M

/-! ### a dict that may be locked, read -/
namespace M
open PySem L2 G
section
open KeyC
variable {K : PySem.W.Frag} {α β κ : Type} {b' : Ty K β} {S T : AS} {σ : L2.St} {H : Hp} [KeyC κ] [DecidableEq κ]
variable (κ) in
def tDz (b' : Ty K β) : Ty K (List (κ × β)) where
  rp S H v xs := ∃ a kvs, v = .ref a ∧ (Rd H a (.dK kvs) ∧ a ∉ S) ∧ All2 (KvP b' S H) kvs xs ∧ (xs.map Prod.fst).Nodup
  mono f := fun ⟨a, kvs, e, h, h1, h2⟩ => ⟨a, kvs, e, ⟨Rd.fr h.1 f h.2, h.2⟩, h1.imp fun _ _ ⟨p, q, r⟩ => ⟨p, q, b'.mono f r⟩, h2⟩
  ext f := fun ⟨a, kvs, e, h, h1, h2⟩ => ⟨a, kvs, e, ⟨h.1, not_cons f (Rd.some h.1) h.2⟩, h1.imp fun _ _ ⟨p, q, r⟩ => ⟨p, q, b'.ext f r⟩, h2⟩
  sub f := fun ⟨a, kvs, e, h, h1, h2⟩ => ⟨a, kvs, e, ⟨h.1, fun m => h.2 (f a m)⟩, h1.imp fun _ _ ⟨p, q, r⟩ => ⟨p, q, b'.sub f r⟩, h2⟩
theorem dz_lock [DL b'] {p : Addr} {od : Obj} {kvs : List (Key × V)} {v : V} {x : List (κ × β)} (hp : H p = some (.dK kvs)) (h : (tD κ b').rp S H v x) : (tDz κ b').rp S (upd H p (.frz od (.dK kvs))) v x := by
  obtain ⟨a, kvs', rfl, ⟨h1, h2⟩, h3, h4⟩ := h
  refine ⟨a, kvs', rfl, ⟨?_, h2⟩, h3.imp fun _ _ ⟨g1, g2, g3⟩ => ⟨g1, g2, DL.at hp rfl g3⟩, h4⟩
  by_cases c : a = p
  · subst c
    rw [hp] at h1
    cases h1
    exact .inr ⟨od, upd_same⟩
  · exact .inl (by rw [upd_ne c]; exact h1)
theorem ev_zGet {ck : Ty K κ} [KeyT ck] {td ty : TE} {rd : Option (List (κ × β))} {rk : Option κ} (h : Ev S T td σ H (of (tDz κ b') S) rd) (hk : Ev S T ty σ H (of ck S) rk) :
    Ev S T (tDGet td ty) σ H (of b' S) (bd rd fun d => bd rk fun k => getK d k) := by
  intro z e H1 f1 d Q q
  obtain ⟨xs, ex, e⟩ := bd_some e
  obtain ⟨k, ek, e⟩ := bd_some e
  refine h xs ex H1 f1 d _ fun v H2 s2 hv => hk k ek H2 (f1.trans (Fr.same s2)) (d.same s2) _ fun w H3 s3 hw => ?_
  obtain ⟨p, kvs, rfl, ⟨g1, _⟩, g3, _⟩ := (tDz κ b').mono (Fr.same s3) hv
  obtain ⟨rfl, _⟩ := KeyT.to hw
  rcases val_get (k := k) g3 with ⟨e1, _⟩ | ⟨x, v, e1, e2, e3⟩
  · rw [e1] at e; cases e
  · rw [e1] at e
    cases e
    exact ⟨p, v, rfl, .inl ⟨kvs, kk k, g1, rfl, e2.symm⟩, q v H3 (s2.trans s3) e3⟩
end
end M

/-! ### new lists within a new list -/
namespace M
open PySem L2 G
section
variable {K : PySem.W.Frag} {α β : Type} {a : Ty K α} {S T : AS} {σ : L2.St} {H : Hp} {te : TE}
/-- .. at an address that B hasn't -/
def tNw (B : Hp) (c : Ty K α) : Ty K α where
  rp S H v x := c.rp S H v x ∧ ∃ p, v = .ref p ∧ B p = none
  mono f h := ⟨c.mono f h.1, h.2⟩
  ext f h := ⟨c.ext f h.1, h.2⟩
  sub f h := ⟨c.sub f h.1, h.2⟩
def nwN (a : Ty K α) (S : AS) : Rl (List (List α)) := ⟨fun B H v x => nwL (tNw B (tL a)) S B H v x, fun f d ⟨p, e, n, vs, hv, ha⟩ => ⟨p, e, fr_back f d n, vs, hv, ha.imp fun _ _ ⟨g, q, eq, nq⟩ => ⟨g, q, eq, fr_back f d nq⟩⟩⟩
theorem ev_newNw {B : Hp} {r : Option (List α)} (f0 : Fr [] B H) (h : Ev S [] te σ H (nw a S) r) : Ev S [] te σ H (of (tNw B (tL a)) S) r := by
  intro x ex H1 f d Q q
  refine h x ex H1 f d Q fun v H2 s hv => q v H2 s ⟨nwL.rp hv d, ?_⟩
  obtain ⟨p, e, n, _⟩ := hv
  exact ⟨p, e, fr_back (f0.trans f) Dom.nil n⟩
theorem ev_unNw {B : Hp} {r : Option α} (h : Ev S T te σ H (of (tNw B a) S) r) : Ev S T te σ H (of a S) r := fun x ex H1 f d Q q => h x ex H1 f d Q fun v H2 s hv => q v H2 s hv.1
theorem nwN.rp {B : Hp} {v : V} {x : List (List α)} (h : (nwN a S).r B H v x) (d : Dom S B) : (tL (tL a)).rp S H v x := by
  obtain ⟨p, vs, e, hp, ha⟩ := nwL.rp h d
  exact ⟨p, vs, e, hp, ha.imp fun _ _ g => g.1⟩
def Nest (B H : Hp) (v : V) : Prop := ∃ p vs, v = .ref p ∧ B p = none ∧ H p = some (.lst vs) ∧ vs.length ≤ 1000 ∧ ∀ x ∈ vs, ∃ q ws, x = .ref q ∧ B q = none ∧ q ≠ p ∧ H q = some (.lst ws) ∧ ws.length ≤ 1000
def spo2? (xs : List (List α)) : Option Unit := if xs.length ≤ 1000 ∧ (xs.all fun x => decide (x.length ≤ 1000)) = true then some () else none
theorem nest_of {B : Hp} {v : V} {x : List (List Str)} (h : (nwN (tStr (K := K)) S).r B H v x) (e : spo2? x = some ()) : Nest B H v := by
  unfold spo2? at e
  split at e
  case isFalse => cases e
  rename_i hl
  obtain ⟨p, rfl, n, vs, hv, ha⟩ := h
  refine ⟨p, vs, rfl, n, hv, by rw [ha.len]; exact hl.1, fun y hy => ?_⟩
  have key : ∃ z ∈ x, (tNw B (tL (tStr (K := K)))).rp (p :: S) H y z := by
    clear hv hl e n
    induction ha with
    | nil => cases hy
    | cons g _ ih =>
      rcases List.mem_cons.mp hy with rfl | hy
      · exact ⟨_, List.mem_cons_self, g⟩
      · obtain ⟨z, hz, g⟩ := ih hy
        exact ⟨z, List.mem_cons_of_mem _ hz, g⟩
  obtain ⟨z, hz, ⟨q, ws, rfl, ⟨hq, nq⟩, hw⟩, q', eq, nb⟩ := key
  cases eq
  refine ⟨q, ws, rfl, nb, fun z => nq (by rw [z]; exact List.mem_cons_self), hq, ?_⟩
  have := List.all_eq_true.mp hl.2 z hz
  rw [hw.len]
  exact of_decide_eq_true this
theorem Nest.fr {B H' : Hp} {v : V} (h : Nest B H v) (f : Fr T H H') (d : Dom T B) : Nest B H' v := by
  obtain ⟨p, vs, e, n, hp, hl, hx⟩ := h
  have k : ∀ {q : Addr} {o : HO}, B q = none → H q = some o → H' q = some o := fun nb e => f _ _ e (d.not_mem nb)
  refine ⟨p, vs, e, n, k n hp, hl, fun x m => ?_⟩
  obtain ⟨q, ws, e, nq, ne, hq, hw⟩ := hx x m
  exact ⟨q, ws, e, nq, ne, k nq hq, hw⟩
end
end M

/-! ### xs.extend(t), t a tuple; xs.count(text) -/
namespace TxS
open PySem PySem.Spec PySem.MeetsSeq PyProof.Rows L2
theorem ext_tup (l b : Addr) (its ts : Array Value) (n m : Nat) (dd : Option Addr) (sl : Array (Option Value)) (room : ¬ (!its.isEmpty && Builtin.List.listTooLong (its.size + ts.size)) = true) (few : its.size ≤ sizeLine) (all : its.size + ts.size ≤ sizeLine + 1) :
    Meets (Builtin.«list.extend» ⟨[.ref l, .ref b], []⟩) (fun _ R s => s.heap.get? l = some { cls := .type "list", dict := none, data := .seq its n, slots := #[] } ∧ s.heap.get? b = some { cls := .type "tuple", dict := dd, data := .seq ts m, slots := sl } ∧
      R (.ok (.ret Value.none)) { s with heap := s.heap.update l (Obj.mapSeq fun x => x ++ ts), toks := s.toks }) := by
  refine .of_wp fun prog w A R s h => ?_
  obtain ⟨hp, g, d, tk, os⟩ := s
  obtain ⟨at1, at2, go⟩ := h
  have size : (its ++ ts).size ≤ sizeLine + 1 := by rw [Array.size_append]; exact all
  wp_walk using (wpAny_updateSeq at1 rfl (hz := few) (_hz' := size)), wpAny_loadPart' at1, wpAny_loadPart' at2
  exact ⟨_, rfl, go⟩
def rExtT (K : PySem.W.Frag) : V → List V → Hp → VK → Prop := fun x vs H Q => ∃ (l b : Addr) (xs zs : List V), x = .ref l ∧ vs = [.ref b] ∧ H l = some (.lst xs) ∧ SqT K H b zs ∧ xs.length + zs.length ≤ sizeLine ∧ Q .non (upd H l (.lst (xs ++ zs)))
theorem mt_extT {X : Cx} : MtM X "list.extend" (rExtT X.K) := by
  rintro pins s σ H x vs v us Q I rx rv ⟨l, b, xs, zs, rfl, rfl, hl, hb, few, go⟩
  cases rx
  obtain ⟨u, rfl, ru⟩ := rv.one
  cases ru
  obtain ⟨_, its, n, r, len, at1⟩ := I.lstM hl
  obtain ⟨ts, r2, ⟨⟨cls, dd, data, sl⟩, at2, hc, m, hd⟩, _⟩ := I.tuple hb
  dsimp only at hc hd
  subst hc
  subst hd
  have len2 := r2.length
  have size : its.toArray.size + ts.toArray.size ≤ sizeLine := by rw [List.size_toArray, List.size_toArray]; omega
  have room : ¬ (!its.toArray.isEmpty && Builtin.List.listTooLong (its.toArray.size + ts.toArray.size)) = true := by
    rw [notLongL size, Bool.and_false]
    decide
  refine call_meets PySem.F.slot_list_extend ⟨_, at1, rfl⟩ PySem.F.entry_list_extend (PySem.F.args_list_extend_2 _ _) (ext_tup l b its.toArray ts.toArray n m dd sl room (by omega) (by omega)) ⟨at1, at2, ?_⟩
  refine ⟨.non, _, I.lset (its' := its ++ ts) hl at1 ?_ (r.append r2) ?_, rfl, go⟩
  · simp
  · rw [List.length_append]
    exact few
/-- which text it is -/
def isTx (k : Str) : Value → Bool
  | .str z _ => decide (z = k)
  | _ => false
theorem isTx_eq {k : Str} {t : Tok} {us : List Value} {zs : List Str} (h : StrsAre us zs) : (∀ y ∈ us, EqGives y (.str k t) (isTx k y)) ∧ us.countP (isTx k) = zs.count k := by
  induction h with
  | nil => exact ⟨(fun _ m => by cases m), rfl⟩
  | cons z t' _ ih =>
    refine ⟨fun y m => ?_, ?_⟩
    · rcases List.mem_cons.mp m with rfl | m
      · exact fun prog w A E s Q q => wpAny_eqBool_str q
      · exact ih.1 y m
    · rw [List.countP_cons, List.count_cons, ih.2]
      rfl
def rCntTx (K : PySem.W.Frag) : V → List V → Hp → VK → Prop := fun x vs H Q => ∃ (p : Addr) (zs : List Str) (k : Str), x = .ref p ∧ vs = [.str k] ∧ SqL K H p (zs.map V.str) ∧ Q (.int (zs.count k : Nat)) H
theorem mt_cntTx {X : Cx} : MtR X "list.count" (rCntTx X.K) := by
  rintro pins s σ H x vs v us Q I rx rv ⟨p, zs, k, rfl, rfl, hp, go⟩
  cases rx
  obtain ⟨u, rfl, t, rfl⟩ := rv.one
  obtain ⟨its, r, ⟨⟨cls, dd, data, sl⟩, n, at1, hc, hdn, hd⟩, _⟩ := I.list hp
  dsimp only at hc hd
  subst hc
  subst hd
  obtain ⟨gives, cnt⟩ := isTx_eq (k := k) (t := t) (strsAre_of r)
  refine call_meets PySem.F.slot_list_count ⟨_, at1, rfl⟩ PySem.F.entry_list_count (PySem.F.args_list_count_2 _ _) (SeqAt.list_countAt p its.toArray n dd sl (.str k t) (isTx k)) ⟨at1, fun y m => (gives y (by simpa using m)).at _ _, ?_⟩
  refine ⟨.int (zs.count k : Nat), H, I.tok _, ⟨s.toks, ?_⟩, go⟩
  show Value.int ((its.toArray.toList.countP (isTx k) : Nat) : Int) s.toks = _
  rw [cnt]
end TxS

/-! ### by codes: extend by a tuple, count of a text, walks over the values of a locked dict -/
namespace M
open PySem L2 G TxS
section
open KeyC
variable {K : PySem.W.Frag} {α β κ : Type} {a : Ty K α} {b' : Ty K β} {S T : AS} {σ : L2.St} {H : Hp} {te tf td ty : TE} {D : Ends} {u : TS}
theorem l_extT {p : Addr} {xs ys zs : List α} {i : Nat} {r : Option (List α)} (d : Dom S H) (o : Own a S H p xs) (im : p ∈ S) (nt : p ∉ T) (ts : Sub T S) (hi : σ[i]? = some (some (.ref p))) (h : Ev S T te σ H (of (tTs a) S) r) (e : r = some ys) (f : ext? xs ys = some zs)
    (k : ∀ H1, Mut1 p H H1 → Fr S H H1 → Own a S H1 p zs → D.nx σ H1) : tDrop (tBM K "list" (rExtT K) (tVar i) (tCons te tNil)) D σ H := by
  obtain ⟨vs, hv, ha⟩ := o
  unfold ext? at f
  split at f
  case isFalse => cases f
  rename_i hl
  cases f
  refine ⟨_, hi, Or.inl ⟨rfl, vs, .inl (.inl hv)⟩, h ys e H (Fr.refl _) d _ fun v H1 s1 hx => ?_⟩
  obtain ⟨b, ws, rfl, hb, hw⟩ := hx
  refine ⟨p, b, vs, ws, rfl, rfl, s1 _ _ hv, hb.sq, Nat.le_of_lt (Nat.lt_of_lt_of_le (by rw [ha.len, hw.len]; exact hl) (by decide)), ?_⟩
  have f1 : Fr S H1 (upd H1 p (.lst (vs ++ ws))) := fr_upd im
  refine k _ ⟨fun c ob e n => by rw [upd_ne n]; exact s1 _ _ e, by rw [upd_same]; intro z; cases z⟩ ((Fr.same s1).trans f1) ⟨vs ++ ws, upd_same, ?_⟩
  exact ((ha.imp fun _ _ h => a.mono (Fr.same s1) h).app hw).imp fun _ _ h => a.mono f1 h
theorem q_extT {p : Addr} {xs ys zs : List α} {i : Nat} {r : Option (List α)} (d : Dom S H) (o : Own a S H p xs) (im : p ∈ S) (nt : p ∉ T) (ts : Sub T S) (hi : σ[i]? = some (some (.ref p))) (h : Ev S T te σ H (of (tTs a) S) r) (e : r = some ys) (f : ext? xs ys = some zs)
    (k : ∀ H1, Mut1 p H H1 → Fr S H H1 → Own a S H1 p zs → u D σ H1) : tSeq (tDrop (tBM K "list" (rExtT K) (tVar i) (tCons te tNil))) u D σ H := l_extT (D := { D with nx := u D }) d o im nt ts hi h e f k
theorem ev_cntTx {r : Option (List Str)} {rk : Option Str} (h : Ev S T te σ H (of (K := K) (tL tStr) S) r) (hk : Ev S T ty σ H (of (K := K) tStr S) rk) : Ev S T (tBM K "list" (rCntTx K) te (tCons ty tNil)) σ H (of (K := K) tInt S) (bd r fun xs => bd rk fun k => some ((xs.count k : Nat) : Int)) := by
  intro z e H1 f1 d Q q
  obtain ⟨xs, ex, e⟩ := bd_some e
  obtain ⟨k, ek, e⟩ := bd_some e
  cases e
  refine h xs ex H1 f1 d _ fun v H2 s2 hv => ?_
  obtain ⟨p, vs, rfl, hp, ha⟩ := hv
  refine ⟨.inl ⟨rfl, vs, hp.sq⟩, hk k ek H2 (f1.trans (Fr.same s2)) (d.same s2) _ fun w H3 s3 hw => ?_⟩
  obtain ⟨e1, _⟩ := strs_at (ha.imp fun _ _ => (tStr (K := K)).mono (Fr.same s3))
  have hp3 := hp.mono (Fr.same s3)
  subst e1
  obtain ⟨rfl, _⟩ : w = .str k ∧ _ := hw
  exact ⟨p, xs, k, rfl, rfl, hp3.sq, q _ H3 (s2.trans s3) rfl⟩
/-- list(t) -/
theorem ev_listTs {r : Option (List α)} (h : Ev S T te σ H (of (tTs a) S) r) : Ev S T (tCB (fun xs H Q => ∃ p ys, xs = [.ref p] ∧ (SqL K H p ys ∨ SqT K H p ys) ∧ ∀ l, H l = none → Q (.ref l) (upd H l (.lst ys))) (tCons te tNil)) σ H (nw a S) r := by
  intro x e H1 f d Q q
  refine h x e H1 f d _ fun v H2 s2 hv => ?_
  obtain ⟨p, vs, rfl, hp, ha⟩ := hv
  refine ⟨p, vs, rfl, .inr hp.sq, fun l hl => q _ _ (s2.trans (same_new hl)) ⟨l, rfl, s2.free hl, vs, upd_same, ?_⟩⟩
  exact ha.imp fun _ _ g => a.mono (Fr.same (same_new hl)) (a.ext hl g)
/-- t[lo:hi] of a tuple of one kind -/
theorem ev_slTs {tl th : TO} {ra : Option (List α)} {rl rh : Option (Option Int)} (ha : Ev S T te σ H (of (tTs a) S) ra) (hl : EvO S T tl σ H rl) (hh : EvO S T th σ H rh) :
    Ev S T (tSl (rSlA K) te tl th) σ H (of (tTs a) S) (bd ra fun xs => bd rl fun l => bd rh fun h => some (cutD xs l h)) := by
  intro z e H1 f1 d Q q
  obtain ⟨xs, ex, e⟩ := bd_some e
  obtain ⟨l, el, e⟩ := bd_some e
  obtain ⟨h, eh, e⟩ := bd_some e
  cases e
  refine ha xs ex H1 f1 d _ fun v H2 s2 hv => hl l el H2 (f1.trans (Fr.same s2)) (d.same s2) _ fun H3 s3 => hh h eh H3 (f1.trans (Fr.same (s2.trans s3))) (d.same (s2.trans s3)) _ fun H4 s4 => ?_
  have s24 := s2.trans (s3.trans s4)
  obtain ⟨p, vs, rfl, hp, hvs⟩ := (tTs a).mono (Fr.same (s3.trans s4)) hv
  refine ⟨p, vs, rfl, hp.sq, fun w => ?_, fun _ p' hp' => ?_⟩
  · have whole : cutD xs l h = xs := by
      unfold cutD
      rw [← hvs.len, w.1, w.2, List.drop_zero, hvs.len]
      exact List.take_of_length_le (Nat.le_refl _)
    rw [whole] at q
    exact q _ _ s24 ⟨p, vs, rfl, hp, hvs⟩
  · refine q _ _ (s24.trans (same_new hp')) ⟨p', _, rfl, .inl ⟨.inl upd_same, (d.same s24).not_mem hp'⟩, ?_⟩
    exact (hvs.cut l h).imp fun _ _ g => a.mono (Fr.same (same_new hp')) g
variable [KeyC κ] [DecidableEq κ]
/-! ### fields of an instance while one of its dicts is locked -/
def Flk {γ : Type} (ft fz : FT K γ) : Prop := ∀ {S H fs x p kvs od}, H p = some (.dK kvs) → ft.rp S H fs x → fz.rp S (upd H p (.frz od (.dK kvs))) fs x
theorem flk_nil : Flk (fNil (K := K)) fNil := fun _ h => h
theorem flk_cons {γ : Type} [DL b'] {f : Str} {ft fz : FT K γ} (h : Flk ft fz) : Flk (fCons f (tD κ b') ft) (fCons f (tDz κ b') fz) := fun hp ⟨v, fs, e, g1, g2⟩ => ⟨v, fs, e, dz_lock hp g1, h hp g2⟩
theorem ev_lockF {γ δ : Type} [DL b'] {ft fz : FT K γ} {R : Rl δ} [RU R S] {C : Addr} {f : Str} {g : γ → List (κ × β)} {r : Option δ} {v : V} {x : γ} {i : Nat} (c : Cls K C) (na : NoAttr K C f) (hf : Fget ft f (tD κ b') g) (hz : Flk ft fz) (ts : Sub T S) (hi : σ[i]? = some (some v)) (h : (tO C ft).rp S H v x)
    (k : ∀ (p : Addr) (od : Obj) (kvs : List (Key × V)) (H1 Hl : Hp), Fr T H H1 → H1 p = some (.dK kvs) → Hl = upd H1 p (.frz od (.dK kvs)) → p ∉ S → LkD b' S Hl p od kvs (g x) → (tO C fz).rp S Hl v x → (∀ G, Same Hl G → ∀ Q : VK, Q (.ref p) G → tFld K (tVar i) f σ G Q) → Ev S [] te σ Hl R r) : Ev S T (tLockE te) σ H R r := by
  intro y ey H1 fr d Q q
  obtain ⟨o, dx, fs, rfl, ho, no, hr⟩ := (tO C ft).mono (fr.sub ts) h
  obtain ⟨w, hw, p, kvs, rfl, ⟨hp, np⟩, ha, hn⟩ := hf S H1 fs x hr
  refine ⟨p, .dK kvs, hp, trivial, fun od => ?_⟩
  have ne : o ≠ p := fun z => by
    subst z
    rw [hp] at ho
    cases ho
  have hl : LkD b' S (upd H1 p (.frz od (.dK kvs))) p od kvs (g x) := ⟨upd_same, ha.imp fun _ _ ⟨p1, p2, p3⟩ => ⟨p1, p2, DL.at hp rfl p3⟩, hn⟩
  have at1 : upd H1 p (.frz od (.dK kvs)) o = some (.ins C dx fs) := by rw [upd_ne ne]; exact ho
  refine k p od kvs H1 _ fr hp rfl np hl ⟨o, dx, fs, rfl, at1, no, hz hp hr⟩ (fun G s Q q => ⟨_, hi, o, C, dx, fs, _, rfl, s _ _ at1, c, na, hw, q⟩) y ey _ (Fr.refl _) d.upd _ fun w H2 s hw => ?_
  have h2 : H2 p = some (.frz od (.dK kvs)) := s _ _ upd_same
  refine ⟨h2, q w _ (fun a ob e => ?_) (RU.h hp h2 hw)⟩
  by_cases c' : a = p
  · subst c'
    rw [hp] at e
    cases e
    exact upd_same
  · rw [upd_ne c']
    exact s _ _ (by rw [upd_ne c']; exact e)
theorem ev_zIn {ck : Ty K κ} [KeyT ck] {rd : Option (List (κ × β))} {rk : Option κ} (hk : Ev S T ty σ H (of ck S) rk) (h : Ev S T td σ H (of (tDz κ b') S) rd) :
    Ev S T (tDIn ty td) σ H (of (K := K) tBool S) (bd rk fun k => bd rd fun d => some (getK d k).isSome) := by
  intro z e H1 f1 d Q q
  obtain ⟨k, ek, e⟩ := bd_some e
  obtain ⟨xs, ex, e⟩ := bd_some e
  cases e
  refine hk k ek H1 f1 d _ fun w H2 s2 hw => h xs ex H2 (f1.trans (Fr.same s2)) (d.same s2) _ fun v H3 s3 hv => ?_
  obtain ⟨p, kvs, rfl, ⟨g1, _⟩, g3, _⟩ := hv
  obtain ⟨rfl, _⟩ := KeyT.to hw
  refine ⟨p, _, rfl, .inl ⟨kvs, kk k, g1, rfl, rfl⟩, q _ H3 (s2.trans s3) ?_⟩
  rcases val_get (k := k) g3 with ⟨e1, e2⟩ | ⟨x, v, e1, e2, e3⟩
  · rw [e1, e2]; rfl
  · rw [e1, e2]; rfl
/-- the values of a locked dict -/
theorem sr_valsK {p : Addr} {od : Obj} {kvs : List (Key × V)} {xs : List (κ × β)} (o : LkD b' S H p od kvs xs) (np : p ∉ S) (hi : ∀ H1, Same H H1 → ∀ Q : VK, Q (.ref p) H1 → td σ H1 Q) : Sr S [] (iVals td) σ H b' (some (xs.map Prod.snd)) := by
  intro ys e H1 f d R q
  cases e
  have o1 := o.same (f.toSame)
  refine hi H1 f.toSame _ ⟨p, od, kvs, rfl, o1.1, q _ H1 (Same.refl _) ⟨fun H' j g hj => ?_, fun H' j v H'' g hy y ey => ?_, fun H' j g hj => ?_⟩⟩
  · exact ⟨g _ _ o1.1 np, by rw [o1.2.1.len]; simpa using hj⟩
  · obtain ⟨rfl, k, ek⟩ := hy
    rw [List.getElem?_map] at ey
    obtain ⟨x, ex, rfl⟩ := Option.map_eq_some_iff.mp ey
    obtain ⟨kv, ekv, _, _, h3⟩ := o1.2.1.get j ex
    rw [ek] at ekv
    cases ekv
    exact ⟨rfl, h3⟩
  · exact ⟨g _ _ o1.1 np, by rw [o1.2.1.len]; simpa using hj⟩
theorem lock_asg {i : Nat} (h : tLockE te σ H fun x H1 => u D (σ.set i (some x)) H1) : tSeq (tLock (tAsg te (gName i))) u D σ H := by
  obtain ⟨d, w, h1, h2, h3⟩ := h
  exact ⟨d, w, h1, h2, fun od => h3 od⟩
theorem q_asgK {i : Nat} {R : Rl α} {r : Option α} {y : α} (d : Dom S H) (h : Ev S T (tLockE te) σ H R r) (e : r = some y) (k : ∀ v H1, Same H H1 → R.r H H1 v y → u D (σ.set i (some v)) H1) : tSeq (tLock (tAsg te (gName i))) u D σ H :=
  lock_asg (h y e H (Fr.refl _) d _ k)
end
end M

/-! ### [dict(d) for d in ds] -/
namespace M
open PySem L2 G
section
variable {K : PySem.W.Frag} {σ : L2.St} {H : Hp}
theorem All2.takeSucc {α β : Type} {R : α → β → Prop} {ps : List α} {ks : List β} {p : α} {k : β} {i : Nat} (h : All2 R ps (ks.take i)) (e : ks[i]? = some k) (r : R p k) : All2 R (ps ++ [p]) (ks.take (i + 1)) := by
  rw [List.take_succ, e]
  exact h.app (.cons r .nil)
theorem lc_copy {as : List Addr} {ks : List (List (Key × V))} {pg : Addr} {ig j : Nat} {ws : List Nat} {Q : VK} (hi : σ[ig]? = some (some (.ref pg))) (hl : H pg = some (.lst (as.map V.ref))) (ha : All2 (fun a k => H a = some (.dK k)) as ks) (few : as.length ≤ 1000)
    (hw : ∀ x, wipe ((wipe σ ws).set j (some x)) ws = wipe σ ws) (hj : ∀ x, ((wipe σ ws).set j (some x))[j]? = some (some x))
    (q : ∀ (D : Addr) (ps : List Addr) (G : Hp), Same H G → H D = none → G D = some (.lst (ps.map V.ref)) → (∀ p ∈ ps, H p = none) → ps.Nodup → D ∉ ps → All2 (fun p k => G p = some (.dK k)) ps ks → Q (.ref D) G) :
    tLc (iList K (tVar ig)) (gName j) tYes (tCB rDictD (tCons (tVar j) tNil)) ws σ H Q := by
  refine ⟨_, hi, pg, rfl, ⟨_, .inl (.inl hl)⟩, fun D hD => ?_⟩
  refine lc_list (K := K) (a := pg) (xs := as.map V.ref) (fun i G => ∃ ps : List Addr, ps.length = i ∧ G D = some (.lst (ps.map V.ref)) ∧ Same H G ∧ (∀ p ∈ ps, H p = none) ∧ ps.Nodup ∧ D ∉ ps ∧ All2 (fun p k => G p = some (.dK k)) ps (ks.take i)) ?_ ?_ ?_ ?_
  · exact ⟨[], rfl, upd_same, same_new hD, by simp, .nil, by simp, .nil⟩
  · rintro i G _ ⟨ps, _, _, s, _⟩
    exact .inl (.inl (s _ _ hl))
  · rintro i x G hx ⟨ps, rfl, gD, s, fresh, nd, nD, all⟩
    rw [List.getElem?_map] at hx
    obtain ⟨a, ea, rfl⟩ := Option.map_eq_some_iff.mp hx
    have li : ps.length < as.length := (List.getElem?_eq_some_iff.mp ea).1
    obtain ⟨k, ek, hk⟩ : ∃ k, ks[ps.length]? = some k ∧ H a = some (.dK k) := by
      have lk : ps.length < ks.length := by rw [← ha.len]; exact li
      obtain ⟨a', ea', r⟩ := ha.get ps.length (List.getElem?_eq_getElem lk)
      rw [ea] at ea'
      cases ea'
      exact ⟨_, List.getElem?_eq_getElem lk, r⟩
    refine ⟨hw _, ?_⟩
    refine _root_.G.yes_ ?_
    refine ⟨_, hj _, a, k, rfl, .inl (s _ _ hk), fun p np => ?_⟩
    have Dp : D ≠ p := fun z => by rw [← z, gD] at np; cases np
    have pps : p ∉ ps := fun m => by
      obtain ⟨i, hi⟩ := List.mem_iff_getElem?.mp m
      have : ∀ {ps : List Addr} {ks : List (List (Key × V))}, All2 (fun p k => G p = some (.dK k)) ps ks → p ∈ ps → False := by
        intro ps ks h
        induction h with
        | nil => intro m; cases m
        | cons r _ ih =>
          intro m
          rcases List.mem_cons.mp m with rfl | m
          · rw [np] at r; cases r
          · exact ih m
      exact this all m
    refine ⟨ps.map V.ref, by rw [upd_ne Dp]; exact gD, by rw [List.length_map]; exact Nat.lt_of_lt_of_le (show ps.length < 100000 by omega) (by decide), ps ++ [p], by simp, by rw [upd_same, List.map_append]; rfl, ?_, ?_, ?_, ?_, ?_⟩
    · intro b o e
      have nb : b ≠ D := fun z => by rw [z, hD] at e; cases e
      have np' : b ≠ p := fun z => by rw [z] at e; rw [s _ _ e] at np; cases np
      rw [upd_ne nb, upd_ne np']
      exact s _ _ e
    · intro r hr
      rcases List.mem_append.mp hr with hr | hr
      · exact fresh r hr
      · rw [List.mem_singleton.mp hr]; exact s.free np
    · exact List.nodup_append.mpr ⟨nd, by simp, fun a ha b hb e => pps (by rw [List.mem_singleton.mp hb] at e; exact e ▸ ha)⟩
    · intro m
      rcases List.mem_append.mp m with m | m
      · exact nD m
      · exact Dp (List.mem_singleton.mp m)
    · refine All2.takeSucc ?_ ek (by rw [upd_ne (Ne.symm Dp), upd_same])
      have stay : ∀ {o1 o2 : HO} {qs : List Addr} {js : List (List (Key × V))}, All2 (fun p k => G p = some (.dK k)) qs js → D ∉ qs → p ∉ qs → All2 (fun q k => upd (upd G p o1) D o2 q = some (.dK k)) qs js := by
        intro o1 o2 qs js h
        induction h with
        | nil => exact fun _ _ => .nil
        | cons r _ ih =>
          intro n1 n2
          exact .cons (by rw [upd_ne (fun z => n1 (by rw [z]; exact List.mem_cons_self)), upd_ne (fun z => n2 (by rw [z]; exact List.mem_cons_self))]; exact r) (ih (fun m => n1 (List.mem_cons_of_mem _ m)) fun m => n2 (List.mem_cons_of_mem _ m))
      exact stay all nD pps
  · rintro G ⟨ps, lp, gD, s, fresh, nd, nD, all⟩
    rw [List.length_map] at lp
    have : ks.take ps.length = ks := List.take_of_length_le (by rw [lp, ha.len]; exact Nat.le_refl _)
    rw [List.length_map, ← lp, this] at all
    exact q D ps G s hD gD fresh nd nD all
/-! ### for d in ds: d.clear() -/
def NestD (B H : Hp) (v : V) : Prop := ∃ (p : Addr) (ps : List Addr), v = .ref p ∧ B p = none ∧ H p = some (.lst (ps.map V.ref)) ∧ ∀ q ∈ ps, B q = none ∧ ∃ k, H q = some (.dK k)
theorem NestD.fr {T : AS} {B H' : Hp} {v : V} (h : NestD B H v) (f : Fr T H H') (d : Dom T B) : NestD B H' v := by
  obtain ⟨p, ps, e, n, hp, hx⟩ := h
  refine ⟨p, ps, e, n, f _ _ hp (d.not_mem n), fun q m => ?_⟩
  obtain ⟨nq, k, hk⟩ := hx q m
  exact ⟨nq, k, f _ _ hk (d.not_mem nq)⟩
theorem q_clearAll {S : AS} {B : Hp} {v : V} {b c : Addr} {i j : Nat} {o : Option V} {D : Ends} {u : TS} (dmb : Dom S B) (ts : Sub [b, c] S) (hB : Bag H b c) (f : Fr [b, c] B H) (dm : Dom S H) (n : NestD B H v) (hi : σ[i]? = some (some v)) (ij : i ≠ j) (hj : σ[j]? = some o)
    (k : ∀ (o : Option V) (H' : Hp), Fr [b, c] B H' → Dom S H' → Bag H' b c → u D (σ.set j o) H') :
    tSeq (tFor (iList K (tVar i)) (gName j) (tDrop (tBM0 K "dict" rDClear (tVar j)))) u D σ H := by
  obtain ⟨p, ps, rfl, np, hp, hx⟩ := n
  refine ⟨_, hi, p, rfl, ⟨_, .inl (.inl hp)⟩, ?_⟩
  have jl : j < σ.length := (List.getElem?_eq_some_iff.mp hj).1
  have self : σ.set j o = σ := by
    apply List.ext_getElem?
    intro n
    rw [List.getElem?_set]
    split
    · rename_i e
      subst e
      rw [hj]
    · rfl
  refine for_list (K := K) (a := p) (xs := ps.map V.ref) (fun _ σ' G => (∃ o, σ' = σ.set j o) ∧ G p = some (.lst (ps.map V.ref)) ∧ (∀ a, B a ≠ none → G a = H a) ∧ ∀ q ∈ ps, B q = none ∧ ∃ k, G q = some (.dK k))
    ⟨⟨o, self.symm⟩, hp, fun _ _ => rfl, hx⟩ (fun _ _ _ _ h => .inl (.inl h.2.1)) ?_ ?_
  · rintro m x σ' G hm ⟨⟨o', rfl⟩, gp, ga, gx⟩
    rw [List.getElem?_map] at hm
    obtain ⟨q, eq, rfl⟩ := Option.map_eq_some_iff.mp hm
    obtain ⟨nq, k', hq⟩ := gx q (List.mem_of_getElem? eq)
    have qp : q ≠ p := fun z => by rw [z, gp] at hq; cases hq
    show tDrop (tBM0 K "dict" rDClear (tVar j)) _ ((σ.set j o').set j (some (.ref q))) G
    refine ⟨_, by rw [List.getElem?_set, if_pos rfl, if_pos (by rw [List.length_set]; exact jl)], tyV_D hq, q, k', rfl, rfl, hq, ⟨some (.ref q), by rw [List.set_set]⟩, by rw [upd_ne (Ne.symm qp)]; exact gp, fun a ha => by rw [upd_ne (fun e => ha (by rw [e]; exact nq))]; exact ga a ha, fun r hr => ?_⟩
    obtain ⟨nr, kr, hr'⟩ := gx r hr
    refine ⟨nr, ?_⟩
    by_cases z : r = q
    · subst z
      exact ⟨_, upd_same⟩
    · exact ⟨kr, by rw [upd_ne z]; exact hr'⟩
  · rintro σ' G ⟨⟨o', rfl⟩, gp, ga, _⟩
    have hb : B b ≠ none := dmb b (ts b (by simp))
    have hc : B c ≠ none := dmb c (ts c (by simp))
    refine k o' _ (fun a ob e na => by rw [ga a (by rw [e]; intro z; cases z)]; exact f a ob e na) (fun a m e => dm a m (by rw [← ga a (dmb a m)]; exact e)) ?_
    obtain ⟨ne, ns, sl, sd, h1, h2, r⟩ := hB
    exact ⟨ne, ns, sl, sd, by rw [ga b hb]; exact h1, by rw [ga c hc]; exact h2, r⟩
end
end M

/-! ### == of two lists of dicts, none of the one's an address of the other's -/
namespace GQ
open PySem PySem.SeqAt
open AutoSeq1 (wpAny_loadPart')
open MeetsSeq MeetsSeq2 MeetsSeq3 SeqRoads2
section
variable {prog : Program} {w : World} {A : Around} {R : Result → Shared → Prop}
/-- the i-th items compared at s: told is e i, and all stays -/
def Turns (prog : Program) (w : World) (A : Around) (s : Shared) (xs ys : Array Value) (e : Nat → Bool) : Prop :=
  ∀ j (h1 : j < xs.size) (h2 : j < ys.size) (Q : Bool → Shared → Prop) (E : Value → Shared → Prop), Q (e j) s → wpAny (model prog w) A (eqBool xs[j] ys[j]) Q E s
/-- e i && .. && e (i + m - 1) -/
def ands (e : Nat → Bool) : Nat → Nat → Bool
  | _, 0 => true
  | i, m + 1 => e i && ands e (i + 1) m
theorem walk_eq {p q : Addr} {xs ys : Array Value} {nx ny : Nat} {e : Nat → Bool} {s : Shared} (gp : s.heap.get? p = some { cls := .type "list", data := .seq xs nx }) (gq : s.heap.get? q = some { cls := .type "list", data := .seq ys ny }) (sz : xs.size = ys.size) (t : Turns prog w A.in1 s xs ys e) :
    ∀ (m i : Nat), xs.size = i + m → R (.ok (.ret (.bool (ands e i m)))) s → wpAny (model prog w) A.in1 (Builtin.«list.__eq__.loop» ⟨[.ref p, .ref q, rawInt i, rawInt 2], []⟩) (FinOf prog w A R) (fun e s' => R (.error e) s') s
  | 0, i, hm, hR => by
    obtain ⟨h1, h2, h3, h4, h5⟩ := s
    wp_walk using wpAny_loadPart' gp, wpAny_loadPart' gq
    rw [show xs[((i : Nat) : Int).toNat]? = none by simp; omega, show ys[((i : Nat) : Int).toNat]? = none by simp; omega]
    wp_walk using wpAny_loadPart' gp, wpAny_loadPart' gq
    show R (.ok (.ret (.bool (xs.size == ys.size)))) _
    have : (xs.size == ys.size) = true := by rw [sz]; simp
    rw [this]
    exact hR
  | m + 1, i, hm, hR => by
    have lx : i < xs.size := by omega
    have ly : i < ys.size := by omega
    have here := t i lx ly
    have onw := fun h => walk_eq gp gq sz t m (i + 1) (by omega) h
    unfold ands at hR
    obtain ⟨h1, h2, h3, h4, h5⟩ := s
    wp_walk using wpAny_loadPart' gp, wpAny_loadPart' gq
    have ex : xs[((i : Nat) : Int).toNat]? = some xs[i] := by simp [lx]
    have ey : ys[((i : Nat) : Int).toNat]? = some ys[i] := by simp [ly]
    rw [ex, ey]
    refine wpAny_bind (here _ _ ?_)
    cases k : e i with
    | true =>
      rw [k] at hR
      have go := onw (by simpa using hR)
      wp_walk
      rw [show ((i : Int) + 1) = ((i + 1 : Nat) : Int) by omega]
      exact ⟨plainId_quiet plain_eq_loop _, codeAny_builtin entry_eq_loop (by rw [Around.under_plainId plain_eq_loop _]; exact go)⟩
    | false =>
      rw [k] at hR
      wp_walk using wpAny_loadPart' gp, wpAny_loadPart' gq
      rw [ex, ey]
      wp_walk
      simpa using hR
theorem rc_rows {E : Value → Shared → Prop} {p q : Addr} {xs ys : Array Value} {nx ny : Nat} {e : Nat → Bool} {s : Shared} {Q : Value → Shared → Prop} (hu : A.units < cLine) (gp : s.heap.get? p = some { cls := .type "list", data := .seq xs nx }) (gq : s.heap.get? q = some { cls := .type "list", data := .seq ys ny }) (sz : xs.size = ys.size) (t : Turns prog w A.in1 s xs ys e) (h : Q (.bool (ands e 0 xs.size)) s) :
    wpAny (model prog w) A (richCompare .Eq (.ref p) (.ref q)) Q E s := by
  have go := walk_eq (A := A) (R := wants (fun v s' => v ≠ .notImplemented ∧ Q v s') E) gp gq sz t xs.size 0 (by omega) ⟨(fun x => nomatch x), h⟩
  have tp : s.TypeIs (.ref p) "list" := ⟨_, gp, rfl⟩
  have tq : s.TypeIs (.ref q) "list" := ⟨_, gq, rfl⟩
  refine wpAny_richCompare_same_room (op := .Eq) tp tq F.slot_list_eq (call_here F.slot_list_eq tp F.entry_list_eq (F.args_list_eq_2 _ _) ?_) hu
  obtain ⟨h1, h2, h3, h4, h5⟩ := s
  have ll := AutoSeq1.sub_list_list
  have ne : ¬ (xs.size != ys.size) = true := by simp [sz]
  wp_walk using wpAny_loadPart' gp, wpAny_loadPart' gq
  exact ⟨plainId_quiet plain_eq_loop _, codeAny_builtin entry_eq_loop (by rw [Around.under_plainId plain_eq_loop _]; exact go)⟩
end
end GQ
namespace L2
open PySem PySem.Spec PyProof.Rows
theorem Room.units66 {k : Nat} {A : Around} (r : Room k A) : A.units + 66 < cLine := by have := r.un; omega
inductive HitsL (K : PySem.W.Frag) (H : Hp) : List Addr → List Addr → List Bool → Prop
  | nil : HitsL K H [] [] []
  | cons {p q : Addr} {ks ls : List (Key × V)} {r : Bool} {ps qs : List Addr} {rs : List Bool} : p ≠ q → Rd H p (.dK ks) → Rd H q (.dK ls) → HitsD K H ls ks r → HitsL K H ps qs rs → HitsL K H (p :: ps) (q :: qs) ((ks.length == ls.length && r) :: rs)
theorem HitsL.at {K : PySem.W.Frag} {H : Hp} : ∀ {ps qs : List Addr} {rs : List Bool}, HitsL K H ps qs rs → ∀ (j : Nat) (p : Addr), ps[j]? = some p → ∃ q ks ls r, qs[j]? = some q ∧ rs[j]? = some (ks.length == ls.length && r) ∧ p ≠ q ∧ Rd H p (.dK ks) ∧ Rd H q (.dK ls) ∧ HitsD K H ls ks r
  | _, _, _, .nil, j, p, e => by simp at e
  | _, _, _, .cons n h1 h2 h3 _, 0, p, e => by
    simp only [List.getElem?_cons_zero, Option.some.injEq] at e
    subst e
    exact ⟨_, _, _, _, rfl, rfl, n, h1, h2, h3⟩
  | _, _, _, .cons _ _ _ _ r, j + 1, p, e => by
    obtain ⟨q, ks, ls, b, h1, h2, h⟩ := HitsL.at r j p (by simpa using e)
    exact ⟨q, ks, ls, b, by simpa using h1, by simpa using h2, h⟩
theorem HitsL.len {K : PySem.W.Frag} {H : Hp} : ∀ {ps qs : List Addr} {rs : List Bool}, HitsL K H ps qs rs → ps.length = qs.length ∧ ps.length = rs.length
  | _, _, _, .nil => ⟨rfl, rfl⟩
  | _, _, _, .cons _ _ _ _ r => by
    have := r.len
    simp only [List.length_cons]
    omega
theorem ands_all : ∀ (rs : List Bool) (e : Nat → Bool) (i : Nat), (∀ j, j < rs.length → e (i + j) = rs.getD j true) → GQ.ands e i rs.length = rs.all id
  | [], _, _, _ => rfl
  | r :: rs, e, i, h => by
    rw [List.length_cons, GQ.ands, List.all_cons, ands_all rs e (i + 1) fun j hj => by rw [show i + 1 + j = i + (j + 1) by omega, h (j + 1) (by simpa using hj)]; rfl]
    have := h 0 (by simp)
    rw [Nat.add_zero] at this
    rw [this]
    rfl
section
variable {X : Cx} {CX : CXT}
def rEqLD (K : PySem.W.Frag) : R2 := fun x y H Q => ∃ a b ps qs rs, x = .ref a ∧ y = .ref b ∧ H a = some (.lst (ps.map V.ref)) ∧ H b = some (.lst (qs.map V.ref)) ∧ HitsL K H ps qs rs ∧ Q (.bl (rs.all id)) H
theorem op_eqLD (hu : X.A.units + 66 < cLine) : OpR X (compareOp .Eq) (rEqLD X.K) := by
  intro pins s σ H x y v u Q I rx ry h
  obtain ⟨a, b, ps, qs, rs, rfl, rfl, ha, hb, hh, q⟩ := h
  obtain rfl : v = Value.ref a := rx
  obtain rfl : u = Value.ref b := ry
  obtain ⟨_, its, n1, r1, ga⟩ := I.hok a _ ha
  obtain ⟨_, its2, n2, r2, gb⟩ := I.hok b _ hb
  have l1 : its.length = ps.length := by rw [← r1.length, List.length_map]
  have l2 : its2.length = qs.length := by rw [← r2.length, List.length_map]
  have hlen := hh.len
  have sz : its.toArray.size = its2.toArray.size := by rw [List.size_toArray, List.size_toArray, l1, l2, hlen.1]
  show wpAny _ _ (richCompare .Eq _ _) _ _ s
  refine GQ.rc_rows (e := fun j => rs.getD j true) (by omega) ga gb sz (fun j h1 h2 Q' E' hq' => ?_) ?_
  · have h1' : j < its.length := by simpa using h1
    have h2' : j < its2.length := by simpa using h2
    obtain ⟨p, hp⟩ : ∃ p, ps[j]? = some p := ⟨_, List.getElem?_eq_getElem (by omega)⟩
    obtain ⟨p', ks, ls, r, hq, hr, ne, e1, e2, hd⟩ := hh.at j p hp
    obtain ⟨w1, g1, rw1⟩ := r1.get (i := j) (x := V.ref p) (by rw [List.getElem?_map, hp]; rfl)
    obtain ⟨w2, g2, rw2⟩ := r2.get (i := j) (x := V.ref p') (by rw [List.getElem?_map, hq]; rfl)
    have i1 : its.toArray[j] = Value.ref p := by
      have : its[j]? = some its.toArray[j] := by rw [List.getElem?_eq_getElem h1'] <;> simp
      rw [this] at g1
      cases g1
      exact rw1
    have i2 : its2.toArray[j] = Value.ref p' := by
      have : its2[j]? = some its2.toArray[j] := by rw [List.getElem?_eq_getElem h2'] <;> simp
      rw [this] at g2
      cases g2
      exact rw2
    rw [i1, i2]
    have hq' : Q' (ks.length == ls.length && r) s := by
      have : rs.getD j true = (ks.length == ls.length && r) := by rw [List.getD_eq_getElem?_getD, hr]; rfl
      rw [← this]
      exact hq'
    obtain ⟨_, ya, va, ra, da⟩ := dk_rd I.hok e1
    obtain ⟨_, yb, vb, rb, db⟩ := dk_rd I.hok e2
    have hl : (va.length == vb.length) = (ks.length == ls.length) := by rw [← ra.length, ← rb.length]
    refine GQ.eqBool_refG ne ?_
    show wpAny _ _ (compareOp .Eq _ _) _ _ _
    refine PySem.W.keq_eq (knd := mixKind X.prog X.w) (r := r) ya yb da db (by show X.A.units + 1 < cLine; omega) (fun _ => hd.run I (A := X.A.in1.in1) (by show X.A.units + 1 + 1 + 64 < cLine; omega) rb ra) ?_
    rw [hl]
    exact ⟨_, rfl, hq'⟩
  · refine ⟨.bl _, H, I, rfl, ?_⟩
    rw [List.size_toArray, l1, hlen.2, ands_all rs _ 0 fun j _ => by rw [Nat.zero_add]]
    exact q
end
end L2
namespace M
open PySem L2 G
section
variable {K : PySem.W.Frag} {α β γ δ : Type} {κ1 κ2 κ3 : Type} [KeyC κ1] [DecidableEq κ1] [KeyC κ2] [DecidableEq κ2] [KeyC κ3] [DecidableEq κ3] {S T : AS} {σ : L2.St} {H : Hp} {ta tb tc te : TE} {b1 : Ty K α} {b2 : Ty K β} {b3 : Ty K γ} {D : Ends} {u : TS} {b c : Addr}
/-- a new list of three new dicts -/
def NL3 (b1 : Ty K α) (b2 : Ty K β) (b3 : Ty K γ) (S : AS) (H0 H : Hp) (v : V) (x : List (κ1 × α) × List (κ2 × β) × List (κ3 × γ)) : Prop := ∃ l p q r, v = .ref l ∧ H l = some (.lst [.ref p, .ref q, .ref r]) ∧ H0 l = none ∧ H0 p = none ∧ H0 q = none ∧ H0 r = none ∧
  (tD κ1 b1).rp S H (.ref p) x.1 ∧ (tD κ2 b2).rp S H (.ref q) x.2.1 ∧ (tD κ3 b3).rp S H (.ref r) x.2.2
def nl3 (b1 : Ty K α) (b2 : Ty K β) (b3 : Ty K γ) (S : AS) : Rl (List (κ1 × α) × List (κ2 × β) × List (κ3 × γ)) := ⟨NL3 b1 b2 b3 S, fun f d ⟨l, p, q, r, e, h, n1, n2, n3, n4, g⟩ => ⟨l, p, q, r, e, h, fr_back f d n1, fr_back f d n2, fr_back f d n3, fr_back f d n4, g⟩⟩
theorem NL3.rp {H0 : Hp} {v : V} {x : List (κ1 × α) × List (κ2 × β) × List (κ3 × γ)} (h : NL3 b1 b2 b3 S H0 H v x) (d : Dom S H0) : (tL3 (tD κ1 b1) (tD κ2 b2) (tD κ3 b3)).rp S H v x := by
  obtain ⟨l, p, q, r, e, h, n1, _, _, _, g1, g2, g3⟩ := h
  exact ⟨l, _, _, _, e, ⟨h, d.not_mem n1⟩, g1, g2, g3⟩
theorem NL3.same {H0 H1 : Hp} {v : V} {x : List (κ1 × α) × List (κ2 × β) × List (κ3 × γ)} (h : NL3 b1 b2 b3 S H0 H v x) (s : Same H H1) : NL3 b1 b2 b3 S H0 H1 v x := by
  obtain ⟨l, p, q, r, e, h, n1, n2, n3, n4, g1, g2, g3⟩ := h
  exact ⟨l, p, q, r, e, s _ _ h, n1, n2, n3, n4, (tD κ1 b1).mono (Fr.same s) g1, (tD κ2 b2).mono (Fr.same s) g2, (tD κ3 b3).mono (Fr.same s) g3⟩
theorem NL3.nest {H0 : Hp} {v : V} {x : List (κ1 × α) × List (κ2 × β) × List (κ3 × γ)} (h : NL3 b1 b2 b3 S H0 H v x) : NestD H0 H v := by
  obtain ⟨l, p, q, r, e, h, n1, n2, n3, n4, ⟨p', k1, e1, h1, _⟩, ⟨q', k2, e2, h2, _⟩, ⟨r', k3, e3, h3, _⟩⟩ := h
  cases e1; cases e2; cases e3
  refine ⟨l, [p, q, r], e, n1, h, fun z m => ?_⟩
  simp only [List.mem_cons, List.not_mem_nil, or_false] at m
  rcases m with rfl | rfl | rfl
  · exact ⟨n2, _, h1.1⟩
  · exact ⟨n3, _, h2.1⟩
  · exact ⟨n4, _, h3.1⟩
theorem nwd_rp {κ : Type} [KeyC κ] [DecidableEq κ] {b' : Ty K α} {H0 : Hp} {v : V} {x : List (κ × α)} (h : nwD b' S H0 H v x) (d : Dom S H0) : ∃ p, v = .ref p ∧ H0 p = none ∧ (tD κ b').rp S H (.ref p) x := by
  have g := nwD.rp h d
  obtain ⟨p, e, n, _⟩ := h
  exact ⟨p, e, n, by rw [← e]; exact g⟩
theorem ev_lst3N {ra : Option (List (κ1 × α))} {rb : Option (List (κ2 × β))} {rc : Option (List (κ3 × γ))} (ha : Ev S T ta σ H (nwd b1 S) ra) (hb : Ev S T tb σ H (nwd b2 S) rb) (hc : Ev S T tc σ H (nwd b3 S) rc) :
    Ev S T (tLst (tCons ta (tCons tb (tCons tc tNil)))) σ H (nl3 b1 b2 b3 S) (bd ra fun x => bd rb fun y => bd rc fun z => some (x, y, z)) := by
  intro z e H1 f1 d Q q
  obtain ⟨x, ex, e⟩ := bd_some e
  obtain ⟨y, ey, e⟩ := bd_some e
  obtain ⟨t, et, e⟩ := bd_some e
  cases e
  refine ha x ex H1 f1 d _ fun v H2 s2 hv => hb y ey H2 (f1.trans (Fr.same s2)) (d.same s2) _ fun w H3 s3 hw => hc t et H3 (f1.trans (Fr.same (s2.trans s3))) (d.same (s2.trans s3)) _ fun r H4 s4 hr => ⟨(by show 3 ≤ sizeLine; decide), fun p hp => ?_⟩
  have s5 := same_new (o := .lst [v, w, r]) hp
  obtain ⟨p1, rfl, n1, g1⟩ := nwd_rp hv d
  obtain ⟨p2, rfl, n2, g2⟩ := nwd_rp hw (d.same s2)
  obtain ⟨p3, rfl, n3, g3⟩ := nwd_rp hr (d.same (s2.trans s3))
  exact q _ _ (s2.trans (s3.trans (s4.trans s5))) ⟨p, p1, p2, p3, rfl, upd_same, (s2.trans (s3.trans s4)).free hp, n1, s2.free n2, (s2.trans s3).free n3, (tD κ1 b1).mono (Fr.same (s3.trans (s4.trans s5))) g1, (tD κ2 b2).mono (Fr.same (s4.trans s5)) g2, (tD κ3 b3).mono (Fr.same s5) g3⟩
/-- .. == one that stood before -/
theorem ev_eqL3 [DecidableEq α] [DecidableEq β] [DecidableEq γ] {B : Hp} {i j : Nat} {v w : V} {x y : List (κ1 × α) × List (κ2 × β) × List (κ3 × γ)} (d1 : TyD b1) (d2 : TyD b2) (d3 : TyD b3) (k1 : d1.dep ≤ 64) (k2 : d2.dep ≤ 64) (k3 : d3.dep ≤ 64)
    (ts : Sub [b, c] S) (dB : Dom [b, c] B) (nn : NL3 b1 b2 b3 S B H v x) (hb : (tL3 (tD κ1 b1) (tD κ2 b2) (tD κ3 b3)).rp S B w y) (fr : Fr [b, c] B H) (hi : σ[i]? = some (some v)) (hj : σ[j]? = some (some w)) :
    Ev S [b, c] (tOp (rEqLD K) (tVar i) (tVar j)) σ H (of (K := K) tBool S) (some (dEq x.1 y.1 && (dEq x.2.1 y.2.1 && dEq x.2.2 y.2.2))) := by
  intro z e H1 f1 d Q q
  cases e
  have f2 := (fr.trans f1).sub ts
  have hb' := (tL3 (tD κ1 b1) (tD κ2 b2) (tD κ3 b3)).mono f2 hb
  obtain ⟨l, p1, p2, p3, rfl, hl, n1, m1, m2, m3, g1, g2, g3⟩ := nn
  obtain ⟨l', u1, u2, u3, rfl, hl', ⟨q1, c1, rfl, t1, _⟩, ⟨q2, c2, rfl, t2, _⟩, ⟨q3, c3, rfl, t3, _⟩⟩ := hb
  obtain ⟨l2, w1, w2, w3, e0, hl2, h1, h2, h3⟩ := hb'
  cases e0
  have same := hl'.mono f2
  have e3 : [w1, w2, w3] = [V.ref q1, V.ref q2, V.ref q3] := by
    have := hl2.1.symm.trans same.1
    cases this
    rfl
  cases e3
  have hlS : l ∉ [b, c] := dB.not_mem n1
  have hl1 := f1 _ _ hl hlS
  obtain ⟨p1', ks1, e, hk1, a1, _⟩ := (tD κ1 b1).mono (f1.sub ts) g1
  cases e
  obtain ⟨p2', ks2, e, hk2, a2, _⟩ := (tD κ2 b2).mono (f1.sub ts) g2
  cases e
  obtain ⟨p3', ks3, e, hk3, a3, _⟩ := (tD κ3 b3).mono (f1.sub ts) g3
  cases e
  obtain ⟨_, ls1, e, hm1, o1, _⟩ := h1
  cases e
  obtain ⟨_, ls2, e, hm2, o2, _⟩ := h2
  cases e
  obtain ⟨_, ls3, e, hm3, o3, _⟩ := h3
  cases e
  have nn : ∀ {p q : Addr} {o : HO}, B p = none → B q = some o → p ≠ q := fun h h' z => by rw [z, h'] at h; cases h
  refine ⟨_, hi, _, hj, l, l', [p1, p2, p3], [q1, q2, q3], _, rfl, rfl, hl1, hl2.1, .cons (nn m1 t1.1) (.inl hk1.1) (.inl hm1.1) (hits_of d1 k1 o1 a1) (.cons (nn m2 t2.1) (.inl hk2.1) (.inl hm2.1) (hits_of d2 k2 o2 a2) (.cons (nn m3 t3.1) (.inl hk3.1) (.inl hm3.1) (hits_of d3 k3 o3 a3) .nil)), q _ H1 (Same.refl _) ?_⟩
  show V.bl _ = V.bl _
  rw [a1.len, a2.len, a3.len, o1.len, o2.len, o3.len]
  simp only [List.all_cons, List.all_nil, Bool.and_true, id]
  rfl
/-- hs = [dict(d) for d in ds]; o = C(hs[0], hs[1], hs[2]); for d in hs: d.clear() -/
theorem q_handed3 {ft : FT K δ} {C : Addr} {fr : FR K ft} {m : List (κ1 × α) × List (κ2 × β) × List (κ3 × γ) × Unit → Option δ} {E : XK} {ig ip ih is : Nat} {ws : List Nat} {v : V} {x : List (κ1 × α) × List (κ2 × β) × List (κ3 × γ)} {y : δ}
    (d : Dom S H) (h : (tL3 (tD κ1 b1) (tD κ2 b2) (tD κ3 b3)).rp S H v x) (hi : σ[ig]? = some (some v)) (hw : ∀ x, wipe ((wipe σ ws).set ip (some x)) ws = wipe σ ws) (hj : ∀ x, ((wipe σ ws).set ip (some x))[ip]? = some (some x))
    (hih : ∀ v, (σ.set ih (some v))[ih]? = some (some v)) (his : ∀ v w, ((σ.set ih (some v)).set is (some w))[ih]? = some (some v)) (hip : ∀ v w, ∃ o0, ((σ.set ih (some v)).set is (some w))[ip]? = some o0) (em : m (x.1, x.2.1, x.2.2, ()) = some y)
    (k : ∀ v w o H1, Same H H1 → (tO C ft).rp S H1 w y → u D (((σ.set ih (some v)).set is (some w)).set ip o) H1) :
    tSeq (tAsg (tLc (iList K (tVar ig)) (gName ip) tYes (tCB rDictD (tCons (tVar ip) tNil)) ws) (gName ih))
      (tSeq (tAsg (tMake C (spInitN C (aCons (tD κ1 b1) (aCons (tD κ2 b2) (aCons (tD κ3 b3) aNil))) fr m) [] E (tCons (tOp (rIxL K) (tVar ih) (tC (.int 0))) (tCons (tOp (rIxL K) (tVar ih) (tC (.int 1))) (tCons (tOp (rIxL K) (tVar ih) (tC (.int 2))) tNil)))) (gName is))
        (tSeq (tFor (iList K (tVar ih)) (gName ip) (tDrop (tBM0 K "dict" rDClear (tVar ip)))) u)) D σ H := by
  obtain ⟨l, u1, u2, u3, rfl, hl, ⟨q1, c1, rfl, h1, a1, n1⟩, ⟨q2, c2, rfl, h2, a2, n2⟩, ⟨q3, c3, rfl, h3, a3, n3⟩⟩ := h
  refine _root_.G.seq_asg ?_
  refine lc_copy (K := K) (as := [q1, q2, q3]) (ks := [c1, c2, c3]) hi hl.1 (.cons h1.1 (.cons h2.1 (.cons h3.1 .nil))) (show 3 ≤ 1000 by decide) hw hj fun L ps HA sA nL hL fresh nd nLp all => ?_
  obtain ⟨p1, p2, p3, rfl, g1, g2, g3⟩ : ∃ p1 p2 p3, ps = [p1, p2, p3] ∧ HA p1 = some (.dK c1) ∧ HA p2 = some (.dK c2) ∧ HA p3 = some (.dK c3) := by
    cases all with
    | cons r1 t => cases t with
      | cons r2 t => cases t with
        | cons r3 t => cases t with
          | nil => exact ⟨_, _, _, rfl, r1, r2, r3⟩
  have dA := d.same sA
  have sq : SqL K HA L [.ref p1, .ref p2, .ref p3] := .inl (.inl hL)
  have pS : ∀ p ∈ [p1, p2, p3], p ∉ S := fun p m => d.not_mem (fresh p m)
  refine ⟨_, hih _, L, _, 0, .ref p1, rfl, rfl, sq, rfl, _, hih _, L, _, 1, .ref p2, rfl, rfl, sq, rfl, _, hih _, L, _, 2, .ref p3, rfl, rfl, sq, rfl, fun o dx no ndx ne => ?_⟩
  have sM : Same HA (upd (upd HA dx (.own o)) o (.ins C dx [])) := (same_upd ndx).trans (same_upd (by rw [upd_ne (Ne.symm ne)]; exact no))
  have hx1 : (tD κ1 b1).rp (o :: S) HA (.ref p1) x.1 := (tD κ1 b1).ext no ⟨p1, c1, rfl, ⟨g1, pS p1 (by simp)⟩, a1.imp fun _ _ => KvP.mono (Fr.same sA), n1⟩
  have hx2 : (tD κ2 b2).rp (o :: S) HA (.ref p2) x.2.1 := (tD κ2 b2).ext no ⟨p2, c2, rfl, ⟨g2, pS p2 (by simp)⟩, a2.imp fun _ _ => KvP.mono (Fr.same sA), n2⟩
  have hx3 : (tD κ3 b3).rp (o :: S) HA (.ref p3) x.2.2 := (tD κ3 b3).ext no ⟨p3, c3, rfl, ⟨g3, pS p3 (by simp)⟩, a3.imp fun _ _ => KvP.mono (Fr.same sA), n3⟩
  refine ⟨S, o, dx, _, (x.1, x.2.1, x.2.2, ()), y, rfl, upd_same, (dA.same sM).cons upd_same, ⟨_, _, rfl, (tD κ1 b1).mono (Fr.same sM) hx1, _, _, rfl, (tD κ2 b2).mono (Fr.same sM) hx2, _, _, rfl, (tD κ3 b3).mono (Fr.same sM) hx3, rfl⟩, em, fun H' fs fr' ho hf => ⟨rfl, ?_⟩⟩
  have keep : ∀ q' o', HA q' = some o' → H' q' = some o' := fun q' o' e' => fr' _ _ (sM _ _ e') (ne_of_none e' no)
  have hf := fr.back (Fr.same (T := []) sM) Dom.nil hf
  obtain ⟨o0, hip⟩ := hip (.ref L) (.ref o)
  have hi2 := his (.ref L) (.ref o)
  have k := k (.ref L) (.ref o)
  show tSeq (tFor (iList K (tVar ih)) (gName ip) (tDrop (tBM0 K "dict" rDClear (tVar ip)))) u D ((σ.set ih (some (V.ref L))).set is (some (V.ref o))) H'
  generalize ((σ.set ih (some (V.ref L))).set is (some (V.ref o))) = σ2 at hip hi2 k ⊢
  refine ⟨_, hi2, L, rfl, ⟨_, .inl (.inl (keep _ _ hL))⟩, ?_⟩
  have jl : ip < σ2.length := (List.getElem?_eq_some_iff.mp hip).1
  have self : σ2.set ip o0 = σ2 := by
    apply List.ext_getElem?
    intro n
    rw [List.getElem?_set]
    split
    · rename_i e
      subst e
      rw [hip]
    · rfl
  refine for_list (K := K) (a := L) (xs := [V.ref p1, V.ref p2, V.ref p3]) (fun _ σ' G => (∃ o, σ' = σ2.set ip o) ∧ G L = some (.lst [V.ref p1, V.ref p2, V.ref p3]) ∧ Same H G ∧ G o = some (.ins C dx fs) ∧ fr.r S HA G fs y ∧ ∀ q ∈ [p1, p2, p3], ∃ k, G q = some (.dK k))
    ⟨⟨o0, self.symm⟩, keep _ _ hL, fun q' o' e' => keep _ _ (sA _ _ e'), ho, hf, ?_⟩ (fun _ _ _ _ h => .inl (.inl h.2.1)) ?_ ?_
  · intro q m
    simp only [List.mem_cons, List.not_mem_nil, or_false] at m
    rcases m with rfl | rfl | rfl
    · exact ⟨_, keep _ _ g1⟩
    · exact ⟨_, keep _ _ g2⟩
    · exact ⟨_, keep _ _ g3⟩
  · rintro n z σ' G hm ⟨⟨o', rfl⟩, gl, sG, go, gf, gx⟩
    obtain ⟨q, mq, rfl⟩ : ∃ q, q ∈ [p1, p2, p3] ∧ z = V.ref q := by
      have := List.mem_of_getElem? hm
      simp only [List.mem_cons, List.not_mem_nil, or_false] at this
      rcases this with rfl | rfl | rfl
      · exact ⟨p1, by simp, rfl⟩
      · exact ⟨p2, by simp, rfl⟩
      · exact ⟨p3, by simp, rfl⟩
    obtain ⟨k', hq⟩ := gx q mq
    have nq : H q = none := fresh q mq
    have aq : HA q ≠ none := by
      simp only [List.mem_cons, List.not_mem_nil, or_false] at mq
      rcases mq with rfl | rfl | rfl
      · rw [g1]; intro z; cases z
      · rw [g2]; intro z; cases z
      · rw [g3]; intro z; cases z
    have ql : q ≠ L := fun z => by rw [z, gl] at hq; cases hq
    have qo : q ≠ o := fun z => by rw [z, go] at hq; cases hq
    show tDrop (tBM0 K "dict" rDClear (tVar ip)) _ ((σ2.set ip o').set ip (some (.ref q))) G
    refine ⟨_, by rw [List.getElem?_set, if_pos rfl, if_pos (by rw [List.length_set]; exact jl)], tyV_D hq, q, k', rfl, rfl, hq, ⟨some (.ref q), by rw [List.set_set]⟩, by rw [upd_ne (Ne.symm ql)]; exact gl, fun a ob e => by rw [upd_ne (ne_of_none e nq)]; exact sG a ob e, by rw [upd_ne (Ne.symm qo)]; exact go, fr.keep aq hq gf, fun r hr => ?_⟩
    obtain ⟨kr, hr'⟩ := gx r hr
    by_cases z : r = q
    · subst z
      exact ⟨_, upd_same⟩
    · exact ⟨kr, by rw [upd_ne z]; exact hr'⟩
  · rintro σ' G ⟨⟨o', rfl⟩, gl, sG, go, gf, gx⟩
    exact k _ _ sG ⟨o, dx, fs, rfl, go, dA.not_mem no, fr.rp dA gf⟩
end
end M
/-! ### three owned dicts in an owned list -/
namespace M
open PySem L2 G
section
variable {K : PySem.W.Frag} {α β γ δ : Type} {κ1 κ2 κ3 : Type} [KeyC κ1] [DecidableEq κ1] [KeyC κ2] [DecidableEq κ2] [KeyC κ3] [DecidableEq κ3] {S T : AS} {σ : L2.St} {H : Hp} {ta tb tc te : TE} {b1 : Ty K α} {b2 : Ty K β} {b3 : Ty K γ} {D : Ends} {u : TS} {b c : Addr}
structure T3 (b1 : Ty K α) (b2 : Ty K β) (b3 : Ty K γ) (S : AS) (B H : Hp) (L p1 p2 p3 : Addr) (y : List (κ1 × α) × List (κ2 × β) × List (κ3 × γ)) : Prop where
  l : H L = some (.lst [.ref p1, .ref p2, .ref p3])
  nl : B L = none
  n1 : B p1 = none
  n2 : B p2 = none
  n3 : B p3 = none
  e12 : p1 ≠ p2
  e13 : p1 ≠ p3
  e23 : p2 ≠ p3
  o1 : OwnD b1 S H p1 y.1
  o2 : OwnD b2 S H p2 y.2.1
  o3 : OwnD b3 S H p3 y.2.2
theorem T3.fr {B H' : Hp} {L p1 p2 p3 : Addr} {y : List (κ1 × α) × List (κ2 × β) × List (κ3 × γ)} (t : T3 b1 b2 b3 S B H L p1 p2 p3 y) (f : Fr T H H') (ts : Sub T S) (dB : Dom T B) : T3 b1 b2 b3 S B H' L p1 p2 p3 y :=
  ⟨f _ _ t.l (dB.not_mem t.nl), t.nl, t.n1, t.n2, t.n3, t.e12, t.e13, t.e23, t.o1.fr f ts (dB.not_mem t.n1), t.o2.fr f ts (dB.not_mem t.n2), t.o3.fr f ts (dB.not_mem t.n3)⟩
theorem T3.same {B H' : Hp} {L p1 p2 p3 : Addr} {y : List (κ1 × α) × List (κ2 × β) × List (κ3 × γ)} (t : T3 b1 b2 b3 S B H L p1 p2 p3 y) (s : Same H H') : T3 b1 b2 b3 S B H' L p1 p2 p3 y :=
  ⟨s _ _ t.l, t.nl, t.n1, t.n2, t.n3, t.e12, t.e13, t.e23, t.o1.same s, t.o2.same s, t.o3.same s⟩
theorem T3.ext {B : Hp} {L p1 p2 p3 q : Addr} {y : List (κ1 × α) × List (κ2 × β) × List (κ3 × γ)} (t : T3 b1 b2 b3 S B H L p1 p2 p3 y) (n : H q = none) : T3 b1 b2 b3 (q :: S) B H L p1 p2 p3 y :=
  ⟨t.l, t.nl, t.n1, t.n2, t.n3, t.e12, t.e13, t.e23, t.o1.ext n, t.o2.ext n, t.o3.ext n⟩
theorem OwnD.stay {κ : Type} [KeyC κ] [DecidableEq κ] {b' : Ty K α} {S : AS} {H H' : Hp} {p q : Addr} {xs : List (κ × α)} (f : Fr S H H') (k : ∀ a o, H a = some o → a ≠ p → H' a = some o) (n : q ≠ p) (h : OwnD b' S H q xs) : OwnD b' S H' q xs := by
  obtain ⟨ks, hk, ha, hn⟩ := h
  exact ⟨ks, k _ _ hk n, ha.imp fun _ _ => KvP.mono f, hn⟩
theorem OwnD.neL {κ : Type} [KeyC κ] [DecidableEq κ] {b' : Ty K α} {S : AS} {H : Hp} {p q : Addr} {xs : List (κ × α)} {vs : List V} (h : OwnD b' S H q xs) (e : H p = some (.lst vs)) : q ≠ p := fun z => by
  obtain ⟨ks, hk, _⟩ := h
  rw [z, e] at hk
  cases hk
theorem T3.stay {B H' : Hp} {L p1 p2 p3 p : Addr} {vs : List V} {y : List (κ1 × α) × List (κ2 × β) × List (κ3 × γ)} (t : T3 b1 b2 b3 S B H L p1 p2 p3 y) (f : Fr S H H') (k : ∀ a o, H a = some o → a ≠ p → H' a = some o) (n : L ≠ p) (e : H p = some (.lst vs)) : T3 b1 b2 b3 S B H' L p1 p2 p3 y :=
  ⟨k _ _ t.l n, t.nl, t.n1, t.n2, t.n3, t.e12, t.e13, t.e23, t.o1.stay f k (t.o1.neL e), t.o2.stay f k (t.o2.neL e), t.o3.stay f k (t.o3.neL e)⟩
theorem not_consD {κ : Type} [KeyC κ] [DecidableEq κ] {b' : Ty K α} {S S' : AS} {H : Hp} {p q : Addr} {xs : List (κ × α)} {vs : List V} (h : OwnD b' S' H q xs) (e : H p = some (.lst vs)) (n : q ∉ S) : q ∉ p :: S := fun m => by
  rcases List.mem_cons.mp m with z | m
  · exact h.neL e z
  · exact n m
/-- xs[k] of it -/
theorem ev_ixAt {κ : Type} [KeyC κ] [DecidableEq κ] {b' : Ty K α} {L p : Addr} {vs : List V} {i k : Nat} {j : Int} {x : List (κ × α)} (ts : Sub T S) (nL : L ∉ T) (npS : p ∉ S) (o : OwnD b' S H p x) (hL : H L = some (.lst vs)) (hi : σ[i]? = some (some (.ref L))) (hk : σ[k]? = some (some (.int j))) (e : atI vs j = some (.ref p)) :
    Ev S T (tOp (rIxL K) (tVar i) (tVar k)) σ H (of (tD κ b') S) (some x) := by
  intro z ez H1 f1 d Q q
  cases ez
  obtain ⟨ks, h1, h2, h3⟩ := o.fr f1 ts fun m => npS (ts _ m)
  exact ⟨_, hi, _, hk, L, vs, j, _, rfl, rfl, .inl (.inl (f1 _ _ hL nL)), e, q _ _ (Same.refl _) ⟨p, ks, rfl, ⟨h1, npS⟩, h2, h3⟩⟩
theorem dEq_nil {κ : Type} [KeyC κ] [DecidableEq κ] [DecidableEq α] (xs : List (κ × α)) : dEq xs [] = decide (xs.length = 0) := by
  unfold dEq
  cases xs with
  | nil => rfl
  | cons x r => simp
/-- found[kind].pop(drawn) -/
theorem l_pop3 {b' : Ty K α} {L p : Addr} {vs : List V} {i k : Nat} {j : Int} {x : List (Str × α)} {w : Wp Str} {R : List (Str × α) → Prop} (d : Dom S H) (hB : Bag H b c) (ts : Sub [b, c] S) [DK b'] (nL : L ∉ [b, c]) (npS : p ∉ S) (o : OwnD b' S H p x) (hL : H L = some (.lst vs)) (hi : σ[i]? = some (some (.ref L))) (hk : σ[k]? = some (some (.int j))) (e : atI vs j = some (.ref p))
    (h : EvW b c S te σ H (of (K := K) tStr S) w) (hm : w fun key => lf (popL? x key) R)
    (q : ∀ y G kvs kvs', R y → Fr [b, c] H G → Dom S G → Bag G b c → G p = some (.dK kvs) → OwnD b' S (upd G p (.dK kvs')) p y → D.nx σ (upd G p (.dK kvs'))) : tDrop (tDPop1 (tOp (rIxL K) (tVar i) (tVar k)) te) D σ H := by
  obtain ⟨ks0, hv0, _, _⟩ := id o
  refine ⟨_, hi, _, hk, L, vs, j, _, rfl, rfl, .inl (.inl hL), e, p, rfl, .inl ⟨ks0, .inl hv0⟩, ?_⟩
  refine h ts _ hm H (Fr.refl _) d hB _ fun v G key hx f dG bG hv => ?_
  obtain ⟨y, ey, hR⟩ := hx
  obtain ⟨kvs, hv1, ha, hn⟩ := o.fr f ts fun m => npS (ts _ m)
  unfold popL? at ey
  split at ey
  · rename_i hs
    cases ey
    obtain ⟨rfl, hok⟩ := KeyT.to (c := (tStr : Ty K Str)) (S := S) (H := G) hv
    rcases val_get (k := key) ha with ⟨g1, _⟩ | ⟨x', v', g1, g2, g3⟩
    · rw [g1] at hs; cases hs
    · refine ⟨kvs, KeyC.kk key, v', hv1, rfl, g2, ?_⟩
      exact q _ G kvs _ hR f dG bG hv1 ⟨_, upd_same, (drop_all ha).imp fun _ _ ⟨h1, h2, h3⟩ => ⟨h1, h2, DK.h hv1 h3⟩, hn.sublist ((List.filter_sublist (l := x)).map Prod.fst)⟩
  · cases ey
/-- xs.append(a new dict) -/
theorem l_appD {κ : Type} [KeyC κ] [DecidableEq κ] {b' : Ty K α} {p : Addr} {i : Nat} {vs : List V} {r : Option (List (κ × α))} {y : List (κ × α)} (d : Dom S H) (hv : H p = some (.lst vs)) (hl : vs.length < 1000) (im : p ∈ S) (hi : σ[i]? = some (some (.ref p))) (h : Ev S [] te σ H (nwd (κ := κ) b' S) r) (e : r = some y)
    (k : ∀ G w, H w = none → (∀ a o, H a = some o → a ≠ p → G a = some o) → Fr S H G → Dom S G → G p = some (.lst (vs ++ [.ref w])) → OwnD b' S G w y → D.nx σ G) : tDrop (tBM K "list" rAppend (tVar i) (tCons te tNil)) D σ H := by
  refine ⟨_, hi, Or.inl ⟨rfl, vs, .inl (.inl hv)⟩, h y e H (Fr.refl _) d _ fun v H1 s1 ⟨w, ev, nw, o⟩ => ?_⟩
  subst ev
  refine ⟨p, vs, _, rfl, rfl, s1 _ _ hv, Nat.lt_of_lt_of_le hl (by decide), ?_⟩
  have f1 : Fr S H1 (upd H1 p (.lst (vs ++ [.ref w]))) := fr_upd im
  have wp : w ≠ p := fun z => by rw [z, hv] at nw; cases nw
  refine k _ w nw (fun a ob e n => by rw [upd_ne n]; exact s1 _ _ e) ((Fr.same s1).trans f1) (d.same s1).upd upd_same ?_
  obtain ⟨ks, h1, h2, h3⟩ := o
  exact ⟨ks, by rw [upd_ne wp]; exact h1, h2.imp fun _ _ g => KvP.mono f1 (KvP.sub (fun a m => List.mem_cons_of_mem _ m) g), h3⟩
/-! ### a dict with one key less or none, made anew from behind -/
def revD? (x : List (Str × α)) : Option (List (Str × α)) := bd (ksS? x) fun ks => bd (mapL? (fun n => bd (getK x n) fun v => some (n, v)) ks.reverse) fun ps => some (mergeL [] ps)
def rev3? (y : List (Str × α) × List (Str × β) × List (Str × γ)) : Option (List (Str × α) × List (Str × β) × List (Str × γ)) := bd (revD? y.1) fun a => bd (revD? y.2.1) fun b => bd (revD? y.2.2) fun c => some (a, b, c)
def nearD (anyS : List Str → Wp Str) (x : List (Str × α)) (k : List (Str × α) → Prop) (k0 : Prop) : Prop := if x.length = 0 then k0 else callBW anyS (lf (ksS? x)) fun key => lf (popL? x key) k
end
end M

namespace G
open PySem L2 M

def top (i : Nat) : Stmt := PySem.Challenge.pw_gromatic_k14_held_marks.main.body.getD i (.Pass ⟨0, 0, 0, 0⟩)
abbrev s_Land___init__ : Stmt := inClass (top 2) 0
abbrev n_Land___init__ : List Str := ["self", "spots", "lines", "sites", "name"]
abbrev p_Land___init__ : List Str := ["self", "spots", "lines", "sites"]
theorem sc_Land___init__ : FnScope n_Land___init__ p_Land___init__ (defScope s_Land___init__) := ⟨rfl, rfl, rfl, by decide +kernel, rfl, by decide +kernel, by decide +kernel⟩
abbrev s_Land_spots : Stmt := inClass (top 2) 1
abbrev n_Land_spots : List Str := ["self"]
abbrev p_Land_spots : List Str := ["self"]
theorem sc_Land_spots : FnScope n_Land_spots p_Land_spots (defScope s_Land_spots) := ⟨rfl, rfl, rfl, by decide +kernel, rfl, by decide +kernel, by decide +kernel⟩
abbrev s_Land_lines : Stmt := inClass (top 2) 2
abbrev n_Land_lines : List Str := ["self"]
abbrev p_Land_lines : List Str := ["self"]
theorem sc_Land_lines : FnScope n_Land_lines p_Land_lines (defScope s_Land_lines) := ⟨rfl, rfl, rfl, by decide +kernel, rfl, by decide +kernel, by decide +kernel⟩
abbrev s_Land_sites : Stmt := inClass (top 2) 3
abbrev n_Land_sites : List Str := ["self"]
abbrev p_Land_sites : List Str := ["self"]
theorem sc_Land_sites : FnScope n_Land_sites p_Land_sites (defScope s_Land_sites) := ⟨rfl, rfl, rfl, by decide +kernel, rfl, by decide +kernel, by decide +kernel⟩
abbrev s_Land_known : Stmt := inClass (top 2) 4
abbrev n_Land_known : List Str := ["self", "name", "mark"]
abbrev p_Land_known : List Str := ["self"]
theorem sc_Land_known : FnScope n_Land_known p_Land_known (defScope s_Land_known) := ⟨rfl, rfl, rfl, by decide +kernel, rfl, by decide +kernel, by decide +kernel⟩
abbrev s_Land_held : Stmt := inClass (top 2) 7
abbrev n_Land_held : List Str := ["self", "ends", "stands", "name", "marks", "twice", "sited", "mark", "rank"]
abbrev p_Land_held : List Str := ["self"]
theorem sc_Land_held : FnScope n_Land_held p_Land_held (defScope s_Land_held) := ⟨rfl, rfl, rfl, by decide +kernel, rfl, by decide +kernel, by decide +kernel⟩
abbrev s_Land___eq__ : Stmt := inClass (top 2) 8
abbrev n_Land___eq__ : List Str := ["self", "other"]
abbrev p_Land___eq__ : List Str := ["self", "other"]
theorem sc_Land___eq__ : FnScope n_Land___eq__ p_Land___eq__ (defScope s_Land___eq__) := ⟨rfl, rfl, rfl, by decide +kernel, rfl, by decide +kernel, by decide +kernel⟩
abbrev s_Land___repr__ : Stmt := inClass (top 2) 9
abbrev n_Land___repr__ : List Str := ["self"]
abbrev p_Land___repr__ : List Str := ["self"]
theorem sc_Land___repr__ : FnScope n_Land___repr__ p_Land___repr__ (defScope s_Land___repr__) := ⟨rfl, rfl, rfl, by decide +kernel, rfl, by decide +kernel, by decide +kernel⟩
abbrev s_law_bag : Stmt := top 4
abbrev n_law_bag : List Str := ["_law_script"]
abbrev p_law_bag : List Str := ["_law_script"]
theorem sc_law_bag : FnScope n_law_bag p_law_bag (defScope s_law_bag) := ⟨rfl, rfl, rfl, by decide +kernel, rfl, by decide +kernel, by decide +kernel⟩
abbrev s_law_draw : Stmt := top 5
abbrev n_law_draw : List Str := ["_law_bag_here", "_law_many", "_law_cells", "_law_slot", "_law_cell", "_law_seed"]
abbrev p_law_draw : List Str := ["_law_bag_here", "_law_many"]
theorem sc_law_draw : FnScope n_law_draw p_law_draw (defScope s_law_draw) := ⟨rfl, rfl, rfl, by decide +kernel, rfl, by decide +kernel, by decide +kernel⟩
abbrev s_law_whole : Stmt := top 6
abbrev n_law_whole : List Str := ["_law_found"]
abbrev p_law_whole : List Str := ["_law_found"]
theorem sc_law_whole : FnScope n_law_whole p_law_whole (defScope s_law_whole) := ⟨rfl, rfl, rfl, by decide +kernel, rfl, by decide +kernel, by decide +kernel⟩
abbrev s_law_same : Stmt := top 7
abbrev n_law_same : List Str := ["_law_found", "_law_due", "_law_name_here", "_law_k"]
abbrev p_law_same : List Str := ["_law_found", "_law_due"]
theorem sc_law_same : FnScope n_law_same p_law_same (defScope s_law_same) := ⟨rfl, rfl, rfl, by decide +kernel, rfl, by decide +kernel, by decide +kernel⟩
abbrev s_law_any : Stmt := top 8
abbrev n_law_any : List Str := ["_law_bag_here", "_law_some"]
abbrev p_law_any : List Str := ["_law_bag_here", "_law_some"]
theorem sc_law_any : FnScope n_law_any p_law_any (defScope s_law_any) := ⟨rfl, rfl, rfl, by decide +kernel, rfl, by decide +kernel, by decide +kernel⟩
abbrev s_law_rat : Stmt := top 9
abbrev n_law_rat : List Str := ["_law_over", "_law_under", "_law_one", "_law_two"]
abbrev p_law_rat : List Str := ["_law_over", "_law_under"]
theorem sc_law_rat : FnScope n_law_rat p_law_rat (defScope s_law_rat) := ⟨rfl, rfl, rfl, by decide +kernel, rfl, by decide +kernel, by decide +kernel⟩
abbrev s_law_spoil : Stmt := top 10
abbrev n_law_spoil : List Str := ["_law_row"]
abbrev p_law_spoil : List Str := ["_law_row"]
theorem sc_law_spoil : FnScope n_law_spoil p_law_spoil (defScope s_law_spoil) := ⟨rfl, rfl, rfl, by decide +kernel, rfl, by decide +kernel, by decide +kernel⟩
abbrev s_law_name : Stmt := top 11
abbrev n_law_name : List Str := ["_law_bag_here", "_law_letters", "_law_k"]
abbrev p_law_name : List Str := ["_law_bag_here"]
theorem sc_law_name : FnScope n_law_name p_law_name (defScope s_law_name) := ⟨rfl, rfl, rfl, by decide +kernel, rfl, by decide +kernel, by decide +kernel⟩
abbrev s_law_names : Stmt := top 12
abbrev n_law_names : List Str := ["_law_bag_here", "_law_many", "_law_found", "_law_k", "_law_name_here"]
abbrev p_law_names : List Str := ["_law_bag_here", "_law_many"]
theorem sc_law_names : FnScope n_law_names p_law_names (defScope s_law_names) := ⟨rfl, rfl, rfl, by decide +kernel, rfl, by decide +kernel, by decide +kernel⟩
abbrev s_law_ratio : Stmt := top 13
abbrev n_law_ratio : List Str := ["_law_bag_here", "_law_reach", "_law_low", "_law_room"]
abbrev p_law_ratio : List Str := ["_law_bag_here", "_law_reach"]
theorem sc_law_ratio : FnScope n_law_ratio p_law_ratio (defScope s_law_ratio) := ⟨rfl, rfl, rfl, by decide +kernel, rfl, by decide +kernel, by decide +kernel⟩
abbrev s_law_spot : Stmt := top 14
abbrev n_law_spot : List Str := ["_law_bag_here", "_law_reach"]
abbrev p_law_spot : List Str := ["_law_bag_here", "_law_reach"]
theorem sc_law_spot : FnScope n_law_spot p_law_spot (defScope s_law_spot) := ⟨rfl, rfl, rfl, by decide +kernel, rfl, by decide +kernel, by decide +kernel⟩
abbrev s_law_ground : Stmt := top 15
abbrev n_law_ground : List Str := ["_law_bag_here", "_law_reach", "_law_spots", "_law_names_here", "_law_name_here", "_law_two", "_law_lines", "_law_k", "_law_row", "_law_turn", "_law_more", "_law_kind", "_law_sites"]
abbrev p_law_ground : List Str := ["_law_bag_here", "_law_reach"]
theorem sc_law_ground : FnScope n_law_ground p_law_ground (defScope s_law_ground) := ⟨rfl, rfl, rfl, by decide +kernel, rfl, by decide +kernel, by decide +kernel⟩
abbrev s_law_known : Stmt := top 16
abbrev n_law_known : List Str := ["_law_ground_here", "_law_spots", "_law_lines", "_law_sites", "_law_found", "_law_name_here", "_law_mark"]
abbrev p_law_known : List Str := ["_law_ground_here"]
theorem sc_law_known : FnScope n_law_known p_law_known (defScope s_law_known) := ⟨rfl, rfl, rfl, by decide +kernel, rfl, by decide +kernel, by decide +kernel⟩
abbrev s_law_held : Stmt := top 17
abbrev n_law_held : List Str := ["_law_ground_here", "_law_spots", "_law_lines", "_law_sites", "_law_found", "_law_every", "_law_name_here", "_law_marks", "_law_mark", "_law_heavy"]
abbrev p_law_held : List Str := ["_law_ground_here"]
theorem sc_law_held : FnScope n_law_held p_law_held (defScope s_law_held) := ⟨rfl, rfl, rfl, by decide +kernel, rfl, by decide +kernel, by decide +kernel⟩
abbrev s_law_near : Stmt := top 18
abbrev n_law_near : List Str := ["_law_bag_here", "_law_ground_here", "_law_found", "_law_kind", "_law_two", "_law_part", "_law_some", "_law_name_here"]
abbrev p_law_near : List Str := ["_law_bag_here", "_law_ground_here"]
theorem sc_law_near : FnScope n_law_near p_law_near (defScope s_law_near) := ⟨rfl, rfl, rfl, by decide +kernel, rfl, by decide +kernel, by decide +kernel⟩
abbrev s_law : Stmt := top 19
abbrev n_law : List Str := ["_law_script", "_law_bag_here", "_law_ground_here", "_law_handed", "_law_land", "_law_part", "_law_good", "_law_turn", "_law_found", "_law_text", "_law_two", "_law_late", "_law_same_here"]
abbrev p_law : List Str := ["_law_script"]
theorem sc_law : FnScope n_law p_law (defScope s_law) := ⟨rfl, rfl, rfl, by decide +kernel, rfl, by decide +kernel, by decide +kernel⟩
structure Bt (mg : Str → Option Value) : Prop where
  len_ : mg "len" = none
  list_ : mg "list" = none
  abs_ : mg "abs" = none
  isinstance_ : mg "isinstance" = none
  int_ : mg "int" = none
  bool_ : mg "bool" = none
  str_ : mg "str" = none
  dict_ : mg "dict" = none
  tuple_ : mg "tuple" = none
  all_ : mg "all" = none
  range_ : mg "range" = none
  sorted_ : mg "sorted" = none
  set_ : mg "set" = none
  repr_ : mg "repr" = none
structure At (K : PySem.W.Frag) (mg : Str → Option Value) (name : String) (st : Stmt) (ps : List Str) (f : Addr) (fd : FuncData) : Prop where
  F : Fun K (Str.ofString name) (Str.ofString name) st f fd
  b : Binds K fd ps []
  m : mg (Str.ofString name) = some (.ref f)
structure AtM (K : PySem.W.Frag) (C : Addr) (name qual : String) (st : Stmt) (ps : List Str) (f : Addr) (fd : FuncData) : Prop where
  F : Fun K (Str.ofString name) (Str.ofString qual) st f fd
  b : Binds K fd ps []
  me : Meth K C (Str.ofString name) f
structure Env (P : Program) (K : PySem.W.Frag) (mg : Str → Option Value) where
  f_Land___init__ : Addr
  d_Land___init__ : FuncData
  f_Land_spots : Addr
  d_Land_spots : FuncData
  f_Land_lines : Addr
  d_Land_lines : FuncData
  f_Land_sites : Addr
  d_Land_sites : FuncData
  f_Land_known : Addr
  d_Land_known : FuncData
  f_Land_held : Addr
  d_Land_held : FuncData
  f_Land___eq__ : Addr
  d_Land___eq__ : FuncData
  f_Land___repr__ : Addr
  d_Land___repr__ : FuncData
  f_law_bag : Addr
  d_law_bag : FuncData
  f_law_draw : Addr
  d_law_draw : FuncData
  f_law_whole : Addr
  d_law_whole : FuncData
  f_law_same : Addr
  d_law_same : FuncData
  f_law_any : Addr
  d_law_any : FuncData
  f_law_rat : Addr
  d_law_rat : FuncData
  f_law_spoil : Addr
  d_law_spoil : FuncData
  f_law_name : Addr
  d_law_name : FuncData
  f_law_names : Addr
  d_law_names : FuncData
  f_law_ratio : Addr
  d_law_ratio : FuncData
  f_law_spot : Addr
  d_law_spot : FuncData
  f_law_ground : Addr
  d_law_ground : FuncData
  f_law_known : Addr
  d_law_known : FuncData
  f_law_held : Addr
  d_law_held : FuncData
  f_law_near : Addr
  d_law_near : FuncData
  f_law : Addr
  d_law : FuncData
  C_Land : Addr
  A_Land___init__ : AtM K C_Land "__init__" "Land.__init__" s_Land___init__ p_Land___init__ f_Land___init__ d_Land___init__
  A_Land_spots : AtM K C_Land "spots" "Land.spots" s_Land_spots p_Land_spots f_Land_spots d_Land_spots
  A_Land_lines : AtM K C_Land "lines" "Land.lines" s_Land_lines p_Land_lines f_Land_lines d_Land_lines
  A_Land_sites : AtM K C_Land "sites" "Land.sites" s_Land_sites p_Land_sites f_Land_sites d_Land_sites
  A_Land_known : AtM K C_Land "known" "Land.known" s_Land_known p_Land_known f_Land_known d_Land_known
  A_Land_held : AtM K C_Land "held" "Land.held" s_Land_held p_Land_held f_Land_held d_Land_held
  A_Land___eq__ : AtM K C_Land "__eq__" "Land.__eq__" s_Land___eq__ p_Land___eq__ f_Land___eq__ d_Land___eq__
  A_Land___repr__ : AtM K C_Land "__repr__" "Land.__repr__" s_Land___repr__ p_Land___repr__ f_Land___repr__ d_Land___repr__
  A_law_bag : At K mg "_law_bag" s_law_bag p_law_bag f_law_bag d_law_bag
  A_law_draw : At K mg "_law_draw" s_law_draw p_law_draw f_law_draw d_law_draw
  A_law_whole : At K mg "_law_whole" s_law_whole p_law_whole f_law_whole d_law_whole
  A_law_same : At K mg "_law_same" s_law_same p_law_same f_law_same d_law_same
  A_law_any : At K mg "_law_any" s_law_any p_law_any f_law_any d_law_any
  A_law_rat : At K mg "_law_rat" s_law_rat p_law_rat f_law_rat d_law_rat
  A_law_spoil : At K mg "_law_spoil" s_law_spoil p_law_spoil f_law_spoil d_law_spoil
  A_law_name : At K mg "_law_name" s_law_name p_law_name f_law_name d_law_name
  A_law_names : At K mg "_law_names" s_law_names p_law_names f_law_names d_law_names
  A_law_ratio : At K mg "_law_ratio" s_law_ratio p_law_ratio f_law_ratio d_law_ratio
  A_law_spot : At K mg "_law_spot" s_law_spot p_law_spot f_law_spot d_law_spot
  A_law_ground : At K mg "_law_ground" s_law_ground p_law_ground f_law_ground d_law_ground
  A_law_known : At K mg "_law_known" s_law_known p_law_known f_law_known d_law_known
  A_law_held : At K mg "_law_held" s_law_held p_law_held f_law_held d_law_held
  A_law_near : At K mg "_law_near" s_law_near p_law_near f_law_near d_law_near
  A_law : At K mg "law" s_law p_law f_law d_law
  B : Bt mg
  cl_Land : Cls K C_Land
  M_Land : Mk K C_Land f_Land___init__
  g_Land : mg "Land" = some (.ref C_Land)
  n_own_spots : NoAttr K C_Land "own_spots"
  n_own_lines : NoAttr K C_Land "own_lines"
  n_own_sites : NoAttr K C_Land "own_sites"
  ne_Land : PySem.W.findIn K (.ref C_Land) "__ne__" = some (some (.builtin "object.__ne__"))
  mro_Land : PySem.W.mroIn K C_Land (.type "object") = some true
  si_Land : SlX.SIsi K C_Land
  isS_Land : PySem.W.kitOne K (.ref C_Land) (.ref C_Land) = some true
  nf_Land_list : PySem.W.notFirst K C_Land (.type "list") = true
  nf_Land_int : PySem.W.notFirst K C_Land (.type "int") = true
  is_Land_list : PySem.W.kitOne K (.type "list") (.ref C_Land) = some false
section
variable {P : Program} {w : World} {K : PySem.W.Frag} {mg : Str → Option Value} {base : Heap}

end
end G

namespace G
open PySem L2 M
section
variable {P : Program} {w : World} {K : PySem.W.Frag} {mg : Str → Option Value} {base : Heap}

abbrev Ld : Type := List (Str × (Rat × Rat)) × List (Str × (Str × List Str)) × List (Str × (Str × Int)) × Unit
def ldT {K : PySem.W.Frag} : FT K Ld := fCons "own_spots" (tD Str (tT2 tRat tRat)) (fCons "own_lines" (tD Str (tT2 tStr (tTs tStr))) (fCons "own_sites" (tD Str (tT2 tStr tInt)) fNil))
def ldZ {K : PySem.W.Frag} : FT K Ld := fCons "own_spots" (tDz Str (tT2 tRat tRat)) (fCons "own_lines" (tDz Str (tT2 tStr (tTs tStr))) (fCons "own_sites" (tDz Str (tT2 tStr tInt)) fNil))
def ldR {K : PySem.W.Frag} : FR K (ldT (K := K)) := frD "own_spots" (κ := Str) (tT2 tRat tRat) (frD "own_lines" (κ := Str) (tT2 tStr (tTs tStr)) (frD "own_sites" (κ := Str) (tT2 tStr tInt) frNil))

def m_Land_known (d_self : Ld) : Option (List Str) :=
  (bd (bd (bd (some d_self) fun x => some x.2.1) ksS?) fun xs => filL? (fun name_1 => (bd (bd (bd (bd (bd (some d_self) fun x => some x.2.1) fun d => bd (some name_1) fun k => getK d k) fun x => some x.2) fun xs => mapL? (fun mark_2 => (bd (some mark_2) fun k => bd (bd (some d_self) fun x => some x.1) fun d => some ((getK d k).isSome))) xs) fun x => some (x.all id))) (fun name_1 => (some name_1)) xs)
abbrev sp_Land_known (K : PySem.W.Frag) (CS : Addr) : Sp := spF (K := K) (aCons (tO CS ldT) aNil) (fun S => nw (K := K) tStr S) (fun a => m_Land_known a.1)
theorem ok_Land_known (ev : Env P K mg) : FnOk P w K mg base CX0 1 ev.f_Land_known ev.d_Land_known p_Land_known (sp_Land_known K ev.C_Land) := by
  refine ev.A_Land_known.F.ok sc_Land_known (fun vs H Q E h => ?_) (fun cdv A outer s H0 vs Q E hr h => ?_)
  · obtain ⟨S, ⟨d_self, _⟩, y, _, ⟨v_self, _, rfl, h_self, rfl⟩, _⟩ := h
    rfl
  obtain ⟨S, ⟨d_self, _⟩, y, dm, ⟨v_self, _, rfl, h_self, rfl⟩, hm, q⟩ := h
  have ts : Sub [] S := fun a m => by simp at m
  have fr0 := Fr.refl (T := []) H0
  have sub0 : Sub S S := fun a m => m
  refine ⟨_, (pss_one (ps_ret (pe_lc (own := [("name", 1)]) (g := gName 1) (by rfl) sc_Land_known.nd (pi_list (pe_callB (cr_srtD rfl) (by rfl) ev.B.sorted_ (by decide +kernel) (pa_cons (pe_fld (pv 0) (by rfl)) pa_nil))) (blkOk_by (own := [("name", 1)]) (N := n_Land_known) (sc := defScope s_Land_known) (by decide +kernel)) (fun _ _ _ _ _ => pg_name (i := 1) sc_Land_known.nd rfl (Or.inl rfl)) (fun _ _ _ _ _ => (pts_one (pt_val (pe_callB (show CallR _ (.builtin "all") (rAll K) from cr_all rfl) (by rfl) ev.B.all_ (by decide +kernel) (pa_cons (pe_lc (own := [("mark", 2)]) (g := gName 2) (tt := tYes) (by rfl) sc_Land_known.nd (show PI _ _ _ (iTup K _) from (pi_tup (pe_ix (show IxR _ (rIxT K) from ix_tup) (pe_dget (hu_of hr) (show PE _ _ (tFld K _ _) from (pe_fld (pv 0) (by rfl))) (pv 1) (fun _ _ => rfl)) pe_int (fun _ _ => rfl)))) (blkOk_by (own := [("mark", 2)]) (N := n_Land_known) (sc := { kind := .function, names := [(".0", .local), ("name", .local), ("all", .globalImplicit), ("self", .cell)], isGenerator := false, isCoroutine := false }) (by decide +kernel)) (fun _ _ _ _ _ => pg_name (i := 2) sc_Land_known.nd rfl (Or.inl rfl)) (fun _ _ _ _ _ => pts_nil) (fun _ _ _ _ _ => (pe_cmp (pc_din (hu_of hr) (pv 2) (show PE _ _ (tFld K _ _) from (pe_fld (pv 0) (by rfl))))))) pa_nil))))) (fun _ _ _ _ _ => (pv 1))))), ?_⟩
  dsimp only [m_Land_known] at hm
  have er := hm
  exact q_ret (T := []) dm (ev_lcF (sr_list (ev_new (ev_srtD (ev_fldO (b' := ((tD Str (tT2 tStr (tTs tStr))) : Ty K (List (Str × (Str × (List Str)))))) ev.cl_Land ev.n_own_lines (fget_there (by decide +kernel) fget_here) (ev_var ts h_self rfl))))) (fun v => by rfl) (fun name_1 v_name H2'1 H'1 p'1 fr'1 nD'1 sm'1 h_name => by have h_self := ((tO ev.C_Land ldT) : Ty K Ld).mono (Fr.same sm'1) (((tO ev.C_Land ldT) : Ty K Ld).ext (S := S) nD'1 (((tO ev.C_Land ldT) : Ty K Ld).mono (Fr.sub ts fr'1) h_self)); have ts0' := ts; have ts : Sub [] (p'1 :: S) := (fun a m => by simp at m);  exact (eb_B (K := K) (ev_all (ev_new (ev_lc (sr_tup (ev_ix21 (ev_dget (ck := (tStr : Ty K Str)) (ev_fldO (b' := ((tD Str (tT2 tStr (tTs tStr))) : Ty K (List (Str × (Str × (List Str)))))) ev.cl_Land ev.n_own_lines (fget_there (by decide +kernel) fget_here) (ev_var ts h_self rfl)) (ev_var ts h_name rfl)))) (fun v => by rfl) (fun mark_2 v_mark H2'2 H'2 p'2 fr'2 nD'2 sm'2 h_mark => by have h_self := ((tO ev.C_Land ldT) : Ty K Ld).mono (Fr.same sm'2) (((tO ev.C_Land ldT) : Ty K Ld).ext (S := (p'1 :: S)) nD'2 (((tO ev.C_Land ldT) : Ty K Ld).mono (Fr.sub ts fr'2) h_self)); have h_name := (tStr : Ty K Str).mono (Fr.same sm'2) ((tStr : Ty K Str).ext (S := (p'1 :: S)) nD'2 ((tStr : Ty K Str).mono (Fr.sub ts fr'2) h_name)); have ts0' := ts; have ts : Sub [] (p'2 :: (p'1 :: S)) := (fun a m => by simp at m);  exact (ev_din (ck := (tStr : Ty K Str)) (ev_var ts h_mark rfl) (ev_fldO (b' := ((tD Str (tT2 tRat tRat)) : Ty K (List (Str × (Rat × Rat))))) ev.cl_Land ev.n_own_spots fget_here (ev_var ts h_self rfl))))))))) (fun name_1 v_name H2'1 H'1 p'1 fr'1 nD'1 sm'1 h_name => by have h_self := ((tO ev.C_Land ldT) : Ty K Ld).mono (Fr.same sm'1) (((tO ev.C_Land ldT) : Ty K Ld).ext (S := S) nD'1 (((tO ev.C_Land ldT) : Ty K Ld).mono (Fr.sub ts fr'1) h_self)); have ts0' := ts; have ts : Sub [] (p'1 :: S) := (fun a m => by simp at m);  exact (ev_var ts h_name rfl))) er (fun v H3 s3 hv => q v H3 (fr0.trans (Fr.same s3)).toSame (nwL.sub hv sub0 fr0 Dom.nil))
def m_Land_held (d_self : Ld) : Option (List Str) :=
  (bd (some []) fun ends_1 => (bd (some []) fun stands_2 => (bd (bd (some d_self) fun x => m_Land_known x) fun xs15 => bd (loopC (ρ := (List Str)) (fun s_3 name_3 => (bd (bd (bd (bd (some d_self) fun x => some x.2.1) fun d => bd (some name_3) fun k => getK d k) fun x => some x.2) fun marks_4 => (bd (bd (some marks_4) fun xs => bd (some none) fun l => bd (bd (some (1 : Int)) fun i => some (some i)) fun h => some (cutD xs l h)) fun a5 => (bd (ext? s_3.1 a5) fun ends_6 => (bd (bd (some marks_4) fun xs => bd (bd (bd (some (1 : Int)) fun x => some (-x)) fun i => some (some i)) fun l => bd (some none) fun h => some (cutD xs l h)) fun a7 => (bd (ext? ends_6 a7) fun ends_8 => (bd (some marks_4) fun a9 => (bd (ext? s_3.2 a9) fun stands_10 => some (Ct.go (ends_8, stands_10)))))))))) xs15 (ends_1, stands_2)) fun r_3 => match r_3 with | .ret y => some y | .go t_3 => (bd (bd (some t_3.2) fun xs => filL? (fun mark_11 => (bd (bd (some t_3.2) fun xs => bd (some mark_11) fun k => some ((xs.count k : Nat) : Int)) fun x => bd (some (1 : Int)) fun y => some (decide (y < x)))) (fun mark_11 => (some mark_11)) xs) fun twice_12 => (bd (bd (some (d_self.2.2.1.map Prod.snd)) fun xs => filL? (fun z_13 => (bd (some z_13.1) fun k => bd (bd (some d_self) fun x => some x.1) fun d => some (getK d k).isSome)) (fun z_13 => (some z_13.1)) xs) fun sited_14 => (bd (bd (bd (some t_3.1) fun x => bd (some twice_12) fun y => cat? x y) fun x => bd (some sited_14) fun y => cat? x y) setS?))) | .brk _ => none)))
abbrev sp_Land_held (K : PySem.W.Frag) (CS : Addr) : Sp := spF (K := K) (aCons (tO CS ldT) aNil) (fun S => nw (K := K) tStr S) (fun a => m_Land_held a.1)
theorem ok_Land_held (ev : Env P K mg) : FnOk P w K mg base CX0 2 ev.f_Land_held ev.d_Land_held p_Land_held (sp_Land_held K ev.C_Land) := by
  refine ev.A_Land_held.F.ok sc_Land_held (fun vs H Q E h => ?_) (fun cdv A outer s H0 vs Q E hr h => ?_)
  · obtain ⟨S, ⟨d_self, _⟩, y, _, ⟨v_self, _, rfl, h_self, rfl⟩, _⟩ := h
    rfl
  obtain ⟨S, ⟨d_self, _⟩, y, dm, ⟨v_self, _, rfl, h_self, rfl⟩, hm, q⟩ := h
  have ts : Sub [] S := fun a m => by simp at m
  have fr0 := Fr.refl (T := []) H0
  have sub0 : Sub S S := fun a m => m
  refine ⟨_, (pss_cons (ps_set (i := 1) sc_Land_held.nd rfl (Or.inl rfl) (pe_lst pa_nil))
    (pss_cons (ps_set (i := 2) sc_Land_held.nd rfl (Or.inr rfl) (pe_lst pa_nil))
    (pss_cons (ps_for PassesOwn.never rfl (pi_list (pe_meth0 (pv 0) ev.cl_Land ev.A_Land_known.me (ok_Land_known ev) (hr.mono (by decide)) ev.A_Land_known.b .nil pass0)) (pg_name (i := 3) sc_Land_held.nd rfl (Or.inl rfl))
    (pss_cons (ps_set (i := 4) sc_Land_held.nd rfl (Or.inl rfl) (pe_ix ix_tup (pe_dget (hu_of hr) (pe_fld (pv 0) (by rfl)) (pv 3) (fun _ _ => rfl)) pe_int (fun _ _ => rfl)))
    (pss_cons (ps_expr (pe_bm PySem.F.plainAttrs_list PySem.F.slot_list_extend PySem.F.type_list_extend TxS.mt_extT (pv 1) (pa_cons (pe_slice sl_tupA (pv 4) po_none (po_some pe_int)) pa_nil)))
    (pss_cons (ps_expr (pe_bm PySem.F.plainAttrs_list PySem.F.slot_list_extend PySem.F.type_list_extend TxS.mt_extT (pv 1) (pa_cons (pe_slice sl_tupA (pv 4) (po_some (pe_un un_neg pe_int)) po_none) pa_nil)))
    (pss_one (ps_expr (pe_bm PySem.F.plainAttrs_list PySem.F.slot_list_extend PySem.F.type_list_extend TxS.mt_extT (pv 2) (pa_cons (pv 4) pa_nil))))))))
    (pss_cons (ps_setLc (i := 5) (own := [("mark", 7)]) (g := gName 7) (by rfl) sc_Land_held.nd rfl rfl (sw_true rfl rfl rfl (by decide +kernel)) (pi_list (pv 2)) (blkOk_by (own := [("mark", 7)]) (N := n_Land_held) (sc := defScope s_Land_held) (by decide +kernel)) (fun _ _ _ _ _ => pg_name (i := 7) sc_Land_held.nd rfl (Or.inl rfl)) (fun _ _ _ _ _ => (pts_one (pt_cmpR op_gt (show PE _ _ (tBM K "list" (TxS.rCntTx K) _ _) from (pe_bm PySem.F.plainAttrs_list PySem.F.slot_list_count PySem.F.type_list_count TxS.mt_cntTx (pv 2) (pa_cons (pv 7) pa_nil))) pe_int (nomark _)))) (fun _ _ _ _ _ => (pv 7)))
    (pss_cons (ps_lock (ps_setLc (i := 6) (own := [("mark", 7), ("rank", 8)]) (g := gTup K 2 (gCons (gName 7) (gCons (gName 8) gNil))) (by rfl) sc_Land_held.nd rfl rfl (sw_true rfl rfl rfl (by decide +kernel)) (pi_values (pe_fld (pv 0) (by rfl))) (blkOk_by (own := [("mark", 7), ("rank", 8)]) (N := n_Land_held) (sc := defScope s_Land_held) (by decide +kernel)) (fun _ _ _ _ _ => pg_tup rfl (pgs_cons (pg_name (i := 7) sc_Land_held.nd rfl (Or.inl rfl)) (pgs_cons (pg_name (i := 8) sc_Land_held.nd rfl (Or.inl rfl)) pgs_nil))) (fun _ _ _ _ _ => (pts_one (pt_cmp (pc_din (hu_of hr) (pv 7) (show PE _ _ (tFld K _ _) from (pe_fld (pv 0) (by rfl))))))) (fun _ _ _ _ _ => (pv 7))))
    (pss_one (ps_ret (pe_callB (TxS.cr_srtTx rfl) (by rfl) ev.B.sorted_ (by decide +kernel) (pa_cons (pe_callTy (TxS.cr_setTx rfl) (by rfl) ev.B.set_ (by decide +kernel) (pa_cons (pe_op op_cat (pe_op op_cat (pv 1) (pv 5)) (pv 6)) pa_nil)) pa_nil))))))))), ?_⟩
  dsimp only [m_Land_held] at hm
  obtain ⟨ends_1, e1, hm⟩ := bd_some hm
  refine q_asg (T := []) dm (ev_lst0 (a := (tStr : Ty K Str))) e1 (fun v_ends H1 s1 hx => ?_)
  obtain ⟨p_ends, rfl, np_ends, o_ends⟩ := hx
  have ns_ends : p_ends ∉ S := dm.not_mem np_ends
  have nb_ends : p_ends ∉ S := fun m => ns_ends (sub0 _ m)
  have n0_ends := fr_back fr0 Dom.nil np_ends
  have nt_ends := (Dom.nil (H := H0)).not_mem n0_ends
  have fr0 := fr0.trans (Fr.same s1)
  have h_self := ((tO ev.C_Land ldT) : Ty K Ld).mono (Fr.same s1) (((tO ev.C_Land ldT) : Ty K Ld).ext (S := S) np_ends h_self)
  have dm := (dm.same s1).cons o_ends.choose_spec.1
  have ts := sub_cons (p := p_ends) ts
  have sub0 := sub_cons (p := p_ends) sub0
  have im_ends : p_ends ∈ p_ends :: S := List.mem_cons_self ..
  obtain ⟨stands_2, e2, hm⟩ := bd_some hm
  refine q_asg (T := []) dm (ev_lst0 (a := (tStr : Ty K Str))) e2 (fun v_stands H2 s2 hx => ?_)
  obtain ⟨p_stands, rfl, np_stands, o_stands⟩ := hx
  have ns_stands : p_stands ∉ (p_ends :: S) := dm.not_mem np_stands
  have nb_stands : p_stands ∉ S := fun m => ns_stands (sub0 _ m)
  have n0_stands := fr_back fr0 Dom.nil np_stands
  have nt_stands := (Dom.nil (H := H0)).not_mem n0_stands
  have fr0 := fr0.trans (Fr.same s2)
  have h_self := ((tO ev.C_Land ldT) : Ty K Ld).mono (Fr.same s2) (((tO ev.C_Land ldT) : Ty K Ld).ext (S := (p_ends :: S)) np_stands h_self)
  have ne_ends_stands := o_ends.ne np_stands
  have o_ends := (o_ends.ext np_stands).same s2
  have im_ends := List.mem_cons_of_mem p_stands im_ends
  have dm := (dm.same s2).cons o_stands.choose_spec.1
  have ts := sub_cons (p := p_stands) ts
  have sub0 := sub_cons (p := p_stands) sub0
  have im_stands : p_stands ∈ p_stands :: (p_ends :: S) := List.mem_cons_self ..
  have ne_stands_ends := Ne.symm ne_ends_stands
  obtain ⟨xs15, e_xs15, hm⟩ := bd_some hm
  obtain ⟨r_3, el3, hm3⟩ := bd_some hm
  refine q_for_s (T := []) dm (sr_list (ev_new (ev_methO0 (f := fun a => m_Land_known a.1) (fno_cons (by decide +kernel) (fno_cons (by decide +kernel) (fno_cons (by decide +kernel) fno_nil))) (ev_var ts h_self rfl)))) e_xs15 el3 (fun s_3 σ' H' => ∃ v_self : V, ∃ f_3 : Option V, ∃ f_4 : Option V, ∃ f_5 : Option V, ∃ f_6 : Option V, ∃ f_7 : Option V, ∃ f_8 : Option V, σ' = [some v_self, some (.ref p_ends), some (.ref p_stands), f_3, f_4, f_5, f_6, f_7, f_8] ∧ Fr [] H0 H' ∧ Dom (p_stands :: (p_ends :: S)) H' ∧ ((tO ev.C_Land ldT) : Ty K Ld).rp (p_stands :: (p_ends :: S)) H' v_self d_self ∧ Own (tStr : Ty K Str) (p_stands :: (p_ends :: S)) H' p_ends s_3.1 ∧ Own (tStr : Ty K Str) (p_stands :: (p_ends :: S)) H' p_stands s_3.2) (fun H3 s3 => ?_) (fun hd3 s_3 name_3 cr3 v_name σ' H' hI h_name hx3 hm hret3 hbrk3 => ?_) (fun t_3 σ' H' er hI => ?_)
  · skip
    have fr0 := fr0.trans (Fr.same s3)
    have dm := dm.same s3
    have h_self := ((tO ev.C_Land ldT) : Ty K Ld).mono (S := (p_stands :: (p_ends :: S))) (Fr.same s3) h_self
    have o_ends := o_ends.same s3
    have o_stands := o_stands.same s3
    exact ⟨v_self, _, _, _, _, _, _, rfl, fr0, dm, h_self, o_ends, o_stands⟩
  · skip
    obtain ⟨v_self, f_3, f_4, f_5, f_6, f_7, f_8, rfl, fr0, dm, h_self, o_ends, o_stands⟩ := hI
    let HL := H'
    have freshl : ∀ a ∈ (p_stands :: (p_ends :: S)), a ∉ (p_stands :: (p_ends :: S)) → H' a = none := fun a m n => absurd m n
    have frl : Fr (p_stands :: (p_ends :: S)) HL H' := Fr.refl (T := (p_stands :: (p_ends :: S))) H'
    have tsl := ts
    have subl : Sub (p_stands :: (p_ends :: S)) (p_stands :: (p_ends :: S)) := fun a m => m
    have iml_ends := im_ends
    have iml_stands := im_stands
    have h_name : (tStr : Ty K Str).rp (p_stands :: (p_ends :: S)) H' v_name name_3 := h_name
    obtain ⟨marks_4, e4, hm⟩ := bd_some hm
    refine q_asg (T := []) dm (ev_ix21 (ev_dget (ck := (tStr : Ty K Str)) (ev_fldO (b' := ((tD Str (tT2 tStr (tTs tStr))) : Ty K (List (Str × (Str × (List Str)))))) ev.cl_Land ev.n_own_lines (fget_there (by decide +kernel) fget_here) (ev_var ts h_self rfl)) (ev_var ts h_name rfl))) e4 (fun v_marks H4 s4 h_marks => ?_)
    have fr0 := fr0.trans (Fr.same s4)
    have dm := dm.same s4
    have frl := frl.trans (Fr.same s4)
    have h_self := ((tO ev.C_Land ldT) : Ty K Ld).mono (S := (p_stands :: (p_ends :: S))) (Fr.same s4) h_self
    have o_ends := o_ends.same s4
    have o_stands := o_stands.same s4
    have h_name := (tStr : Ty K Str).mono (S := (p_stands :: (p_ends :: S))) (Fr.same s4) h_name
    have h_marks : ((tTs tStr) : Ty K (List Str)).rp (p_stands :: (p_ends :: S)) H4 v_marks marks_4 := h_marks
    obtain ⟨a5, e5, hm⟩ := bd_some hm
    obtain ⟨ends_6, f5, hm⟩ := bd_some hm
    refine q_extT (T := []) dm o_ends im_ends nt_ends ts rfl (ev_slTs (ev_var ts h_marks rfl) eo_none (eo_some (ev_int (K := K)))) e5 f5 (fun H5 s5 frx5 o_ends => ?_)
    have fr0 := fr0.mut Dom.nil n0_ends s5
    have frl := frl.trans (s5.fr iml_ends)
    have dm := dm.fx frx5 s5
    have h_self := ((tO ev.C_Land ldT) : Ty K Ld).mono (S := (p_stands :: (p_ends :: S))) frx5 h_self
    have o_stands := o_stands.mut frx5 s5 ne_stands_ends
    have h_name := (tStr : Ty K Str).mono (S := (p_stands :: (p_ends :: S))) frx5 h_name
    have h_marks := ((tTs tStr) : Ty K (List Str)).mono (S := (p_stands :: (p_ends :: S))) frx5 h_marks
    obtain ⟨a7, e7, hm⟩ := bd_some hm
    obtain ⟨ends_8, f7, hm⟩ := bd_some hm
    refine q_extT (T := []) dm o_ends im_ends nt_ends ts rfl (ev_slTs (ev_var ts h_marks rfl) (eo_some (ev_neg (ev_int (K := K)))) eo_none) e7 f7 (fun H7 s7 frx7 o_ends => ?_)
    have fr0 := fr0.mut Dom.nil n0_ends s7
    have frl := frl.trans (s7.fr iml_ends)
    have dm := dm.fx frx7 s7
    have h_self := ((tO ev.C_Land ldT) : Ty K Ld).mono (S := (p_stands :: (p_ends :: S))) frx7 h_self
    have o_stands := o_stands.mut frx7 s7 ne_stands_ends
    have h_name := (tStr : Ty K Str).mono (S := (p_stands :: (p_ends :: S))) frx7 h_name
    have h_marks := ((tTs tStr) : Ty K (List Str)).mono (S := (p_stands :: (p_ends :: S))) frx7 h_marks
    obtain ⟨a9, e9, hm⟩ := bd_some hm
    obtain ⟨stands_10, f9, hm⟩ := bd_some hm
    refine l_extT (T := []) dm o_stands im_stands nt_stands ts rfl (ev_var ts h_marks rfl) e9 f9 (fun H9 s9 frx9 o_stands => ?_)
    have fr0 := fr0.mut Dom.nil n0_stands s9
    have frl := frl.trans (s9.fr iml_stands)
    have dm := dm.fx frx9 s9
    have h_self := ((tO ev.C_Land ldT) : Ty K Ld).mono (S := (p_stands :: (p_ends :: S))) frx9 h_self
    have o_ends := o_ends.mut frx9 s9 ne_ends_stands
    have h_name := (tStr : Ty K Str).mono (S := (p_stands :: (p_ends :: S))) frx9 h_name
    have h_marks := ((tTs tStr) : Ty K (List Str)).mono (S := (p_stands :: (p_ends :: S))) frx9 h_marks
    cases hm
    exact ⟨_, rfl, frl, ⟨v_self, _, _, _, _, _, _, rfl, fr0, dm, h_self, o_ends, o_stands⟩⟩
  subst er
  have hm := hm3
  obtain ⟨v_self, f_3, f_4, f_5, f_6, f_7, f_8, rfl, fr0, dm, h_self, o_ends, o_stands⟩ := hI
  have sbz : Sub (p_stands :: S) (p_stands :: (p_ends :: S)) := (sub_keep (sub_cons (fun a m => m)))
  have nfz : p_ends ∉ (p_stands :: S) := by first | exact (nmc ne_ends_stands ns_ends) | (have h := ns_ends; simp only [List.mem_cons, not_or] at h ⊢; grind)
  have h_ends := o_ends.frz sbz nfz
  have dm := dm.sub sbz
  have h_self := ((tO ev.C_Land ldT) : Ty K Ld).sub sbz h_self
  have o_stands := o_stands.sub sbz
  have im_stands : p_stands ∈ (p_stands :: S) := (List.mem_cons_self ..)
  have ts : Sub [] (p_stands :: S) := fun a m => by have h1 := ts a m; have h2 : a ≠ p_ends := (fun e => nt_ends (e ▸ m)); simp only [List.mem_cons] at h1 ⊢; grind
  have sub0 : Sub S (p_stands :: S) := fun a m => by have h1 := sub0 a m; have h2 : a ≠ p_ends := (fun e => nb_ends (e ▸ m)); simp only [List.mem_cons] at h1 ⊢; grind
  have sbz : Sub S (p_stands :: S) := (sub_cons (fun a m => m))
  have nfz : p_stands ∉ S := by first | exact ns_stands | (have h := ns_stands; simp only [List.mem_cons, not_or] at h ⊢; grind)
  have h_stands := o_stands.frz sbz nfz
  have dm := dm.sub sbz
  have h_self := ((tO ev.C_Land ldT) : Ty K Ld).sub sbz h_self
  have h_ends := ((tL tStr) : Ty K (List Str)).sub sbz h_ends
  have ts : Sub [] S := fun a m => by have h1 := ts a m; have h2 : a ≠ p_stands := (fun e => nt_stands (e ▸ m)); simp only [List.mem_cons] at h1 ⊢; grind
  have sub0 : Sub S S := fun a m => by have h1 := sub0 a m; have h2 : a ≠ p_stands := (fun e => nb_stands (e ▸ m)); simp only [List.mem_cons] at h1 ⊢; grind
  obtain ⟨twice_12, e12, hm⟩ := bd_some hm
  refine q_asg (T := []) dm (ev_new (ev_lcF (sr_list (ev_var ts h_stands rfl)) (fun v => by rfl) (fun mark_11 v_mark H2' H' p' fr' nD' sm' h_mark => by have h_self := ((tO ev.C_Land ldT) : Ty K Ld).mono (Fr.same sm') (((tO ev.C_Land ldT) : Ty K Ld).ext (S := S) nD' (((tO ev.C_Land ldT) : Ty K Ld).mono (Fr.sub ts fr') h_self)); have h_ends := ((tL tStr) : Ty K (List Str)).mono (Fr.same sm') (((tL tStr) : Ty K (List Str)).ext (S := S) nD' (((tL tStr) : Ty K (List Str)).mono (Fr.sub ts fr') h_ends)); have h_stands := ((tL tStr) : Ty K (List Str)).mono (Fr.same sm') (((tL tStr) : Ty K (List Str)).ext (S := S) nD' (((tL tStr) : Ty K (List Str)).mono (Fr.sub ts fr') h_stands)); have ts0' := ts; have ts : Sub [] (p' :: S) := (fun a m => by simp at m);  exact (eb_test (K := K) (ev_op (od_gt (K := K)) (ev_cntTx (ev_var ts h_stands rfl) (ev_var ts h_mark rfl)) (ev_int (K := K))))) (fun mark_11 v_mark H2' H' p' fr' nD' sm' h_mark => by have h_self := ((tO ev.C_Land ldT) : Ty K Ld).mono (Fr.same sm') (((tO ev.C_Land ldT) : Ty K Ld).ext (S := S) nD' (((tO ev.C_Land ldT) : Ty K Ld).mono (Fr.sub ts fr') h_self)); have h_ends := ((tL tStr) : Ty K (List Str)).mono (Fr.same sm') (((tL tStr) : Ty K (List Str)).ext (S := S) nD' (((tL tStr) : Ty K (List Str)).mono (Fr.sub ts fr') h_ends)); have h_stands := ((tL tStr) : Ty K (List Str)).mono (Fr.same sm') (((tL tStr) : Ty K (List Str)).ext (S := S) nD' (((tL tStr) : Ty K (List Str)).mono (Fr.sub ts fr') h_stands)); have ts0' := ts; have ts : Sub [] (p' :: S) := (fun a m => by simp at m);  exact (ev_var ts h_mark rfl)))) e12 (fun v_twice H12 s12 h_twice => ?_)
  have fr0 := fr0.trans (Fr.same s12)
  have dm := dm.same s12
  have h_self := ((tO ev.C_Land ldT) : Ty K Ld).mono (S := S) (Fr.same s12) h_self
  have h_ends := ((tL tStr) : Ty K (List Str)).mono (S := S) (Fr.same s12) h_ends
  have h_stands := ((tL tStr) : Ty K (List Str)).mono (S := S) (Fr.same s12) h_stands
  have h_twice : ((tL tStr) : Ty K (List Str)).rp S H12 v_twice twice_12 := h_twice
  obtain ⟨sited_14, e14, hm⟩ := bd_some hm
  refine q_asgK (T := []) dm (ev_new (ev_lockF (R := nw (tStr : Ty K Str) S) (b' := ((tT2 tStr tInt) : Ty K (Str × Int))) (g := fun x => x.2.2.1) ev.cl_Land ev.n_own_sites (fget_there (by decide +kernel) (fget_there (by decide +kernel) fget_here)) (flk_cons (flk_cons (flk_cons flk_nil))) ts rfl h_self (fun p_z od_z kv_z H1_z Hl_z fr_z hp_z eHl_z np_z o_z h_self fz_z => by subst eHl_z; have h_ends := DL.at (o := .frz od_z (.dK kv_z)) hp_z rfl (((tL tStr) : Ty K (List Str)).mono (fr_z.sub ts) h_ends); have h_stands := DL.at (o := .frz od_z (.dK kv_z)) hp_z rfl (((tL tStr) : Ty K (List Str)).mono (fr_z.sub ts) h_stands); have h_twice := DL.at (o := .frz od_z (.dK kv_z)) hp_z rfl (((tL tStr) : Ty K (List Str)).mono (fr_z.sub ts) h_twice); have ts : Sub [] S := (fun a m => by simp at m);  exact ev_lcPF (sr_valsK o_z np_z (fun G s Q q => fz_z G s Q q)) (fun v w => by rfl) (fun z_13 v_mark v_rank H2' H' p' fr' nD' sm' h_mark h_rank => by have h_self := ((tO ev.C_Land ldZ) : Ty K Ld).mono (Fr.same sm') (((tO ev.C_Land ldZ) : Ty K Ld).ext (S := S) nD' (((tO ev.C_Land ldZ) : Ty K Ld).mono (Fr.sub ts fr') h_self)); have h_ends := ((tL tStr) : Ty K (List Str)).mono (Fr.same sm') (((tL tStr) : Ty K (List Str)).ext (S := S) nD' (((tL tStr) : Ty K (List Str)).mono (Fr.sub ts fr') h_ends)); have h_stands := ((tL tStr) : Ty K (List Str)).mono (Fr.same sm') (((tL tStr) : Ty K (List Str)).ext (S := S) nD' (((tL tStr) : Ty K (List Str)).mono (Fr.sub ts fr') h_stands)); have h_twice := ((tL tStr) : Ty K (List Str)).mono (Fr.same sm') (((tL tStr) : Ty K (List Str)).ext (S := S) nD' (((tL tStr) : Ty K (List Str)).mono (Fr.sub ts fr') h_twice)); have ts0' := ts; have ts : Sub [] (p' :: S) := (fun a m => by simp at m); exact (eb_test (K := K) (ev_zIn (ck := (tStr : Ty K Str)) (ev_var ts h_mark rfl) (ev_fldO (b' := ((tDz Str (tT2 tRat tRat)) : Ty K (List (Str × (Rat × Rat))))) ev.cl_Land ev.n_own_spots fget_here (ev_var ts h_self rfl))))) (fun z_13 v_mark v_rank H2' H' p' fr' nD' sm' h_mark h_rank => by have h_self := ((tO ev.C_Land ldZ) : Ty K Ld).mono (Fr.same sm') (((tO ev.C_Land ldZ) : Ty K Ld).ext (S := S) nD' (((tO ev.C_Land ldZ) : Ty K Ld).mono (Fr.sub ts fr') h_self)); have h_ends := ((tL tStr) : Ty K (List Str)).mono (Fr.same sm') (((tL tStr) : Ty K (List Str)).ext (S := S) nD' (((tL tStr) : Ty K (List Str)).mono (Fr.sub ts fr') h_ends)); have h_stands := ((tL tStr) : Ty K (List Str)).mono (Fr.same sm') (((tL tStr) : Ty K (List Str)).ext (S := S) nD' (((tL tStr) : Ty K (List Str)).mono (Fr.sub ts fr') h_stands)); have h_twice := ((tL tStr) : Ty K (List Str)).mono (Fr.same sm') (((tL tStr) : Ty K (List Str)).ext (S := S) nD' (((tL tStr) : Ty K (List Str)).mono (Fr.sub ts fr') h_twice)); have ts0' := ts; have ts : Sub [] (p' :: S) := (fun a m => by simp at m); exact (ev_var ts h_mark rfl))))) e14 (fun v_sited H14 s14 h_sited => ?_)
  have fr0 := fr0.trans (Fr.same s14)
  have dm := dm.same s14
  have h_self := ((tO ev.C_Land ldT) : Ty K Ld).mono (S := S) (Fr.same s14) h_self
  have h_ends := ((tL tStr) : Ty K (List Str)).mono (S := S) (Fr.same s14) h_ends
  have h_stands := ((tL tStr) : Ty K (List Str)).mono (S := S) (Fr.same s14) h_stands
  have h_twice := ((tL tStr) : Ty K (List Str)).mono (S := S) (Fr.same s14) h_twice
  have h_sited : ((tL tStr) : Ty K (List Str)).rp S H14 v_sited sited_14 := h_sited
  have er := hm
  exact q_ret (T := []) dm (ev_srtSet (ev_new (ev_op od_cat (ev_new (ev_op od_cat (ev_var ts h_ends rfl) (ev_var ts h_twice rfl))) (ev_var ts h_sited rfl)))) er (fun v H16 s16 hv => q v H16 (fr0.trans (Fr.same s16)).toSame (nwL.sub hv sub0 fr0 Dom.nil))
end
end G

namespace G
open PySem L2 M
section
variable {P : Program} {w : World} {K : PySem.W.Frag} {mg : Str → Option Value} {base : Heap}

def m_Land___init__ (d_spots : (List (Str × (Rat × Rat)))) (d_lines : (List (Str × (Str × (List Str))))) (d_sites : (List (Str × (Str × Int)))) : Option Ld :=
  (bd (bd (bd (some d_spots) ksS?) fun xs => dcL? (fun name_1 => (some name_1)) (fun name_1 => (bd (some d_spots) fun d => bd (some name_1) fun k => getK d k)) xs) fun y0 => (bd (bd (bd (some d_lines) ksS?) fun xs => dcL? (fun name_2 => (some name_2)) (fun name_2 => (bd (some d_lines) fun d => bd (some name_2) fun k => getK d k)) xs) fun y1 => (bd (bd (bd (some d_sites) ksS?) fun xs => dcL? (fun name_3 => (some name_3)) (fun name_3 => (bd (some d_sites) fun d => bd (some name_3) fun k => getK d k)) xs) fun y2 => some (y0, y1, y2, ()))))
abbrev sp_Land___init__ (K : PySem.W.Frag) (CS : Addr) : Sp := spInitN (K := K) CS (aCons (tD Str (tT2 tRat tRat)) (aCons (tD Str (tT2 tStr (tTs tStr))) (aCons (tD Str (tT2 tStr tInt)) aNil))) ldR (fun a => m_Land___init__ a.1 a.2.1 a.2.2.1)
theorem ok_Land___init__ (ev : Env P K mg) : FnOk P w K mg base CX0 1 ev.f_Land___init__ ev.d_Land___init__ p_Land___init__ (sp_Land___init__ K ev.C_Land) := by
  refine ev.A_Land___init__.F.ok sc_Land___init__ (fun vs H Q E h => ?_) (fun cdv A outer s H0 vs Q E hr h => ?_)
  · obtain ⟨S, p, dx, ws, ⟨d_spots, d_lines, d_sites, _⟩, y, rfl, _, _, ⟨v_spots, _, rfl, h_spots, v_lines, _, rfl, h_lines, v_sites, _, rfl, h_sites, rfl⟩, _⟩ := h
    rfl
  obtain ⟨S, p, dx, ws, ⟨d_spots, d_lines, d_sites, _⟩, y, rfl, hp0, dm, ⟨v_spots, _, rfl, h_spots, v_lines, _, rfl, h_lines, v_sites, _, rfl, h_sites, rfl⟩, hm, q⟩ := h
  have ts : Sub [] (p :: S) := fun a m => by simp at m
  have fr0 := Fr.refl (T := []) H0
  have h_self : (tRef (K := K) p).rp (p :: S) H0 (.ref p) () := ⟨rfl, rfl⟩
  refine ⟨_, (pss_cons (ps_fld (pv 0) (pe_dc (own := [("name", 4)]) (g := gName 4) (tt := tYes) (by rfl) sc_Land___init__.nd (pi_list (pe_callB (cr_srtD rfl) (by rfl) ev.B.sorted_ (by decide +kernel) (pa_cons (pv 1) pa_nil))) (blkOk_by (own := [("name", 4)]) (N := n_Land___init__) (sc := defScope s_Land___init__) (by decide +kernel)) (fun _ _ _ _ _ => pg_name (i := 4) sc_Land___init__.nd rfl (Or.inl rfl)) (fun _ _ _ _ _ => pts_nil) (fun _ _ _ _ _ => (pv 4)) (fun _ _ _ _ _ => (pe_dget (hu_of hr) (pv 1) (pv 4) (fun _ _ => rfl)))) rfl)
    (pss_cons (ps_fld (pv 0) (pe_dc (own := [("name", 4)]) (g := gName 4) (tt := tYes) (by rfl) sc_Land___init__.nd (pi_list (pe_callB (cr_srtD rfl) (by rfl) ev.B.sorted_ (by decide +kernel) (pa_cons (pv 2) pa_nil))) (blkOk_by (own := [("name", 4)]) (N := n_Land___init__) (sc := defScope s_Land___init__) (by decide +kernel)) (fun _ _ _ _ _ => pg_name (i := 4) sc_Land___init__.nd rfl (Or.inl rfl)) (fun _ _ _ _ _ => pts_nil) (fun _ _ _ _ _ => (pv 4)) (fun _ _ _ _ _ => (pe_dget (hu_of hr) (pv 2) (pv 4) (fun _ _ => rfl)))) rfl)
    (pss_one (ps_fld (pv 0) (pe_dc (own := [("name", 4)]) (g := gName 4) (tt := tYes) (by rfl) sc_Land___init__.nd (pi_list (pe_callB (cr_srtD rfl) (by rfl) ev.B.sorted_ (by decide +kernel) (pa_cons (pv 3) pa_nil))) (blkOk_by (own := [("name", 4)]) (N := n_Land___init__) (sc := defScope s_Land___init__) (by decide +kernel)) (fun _ _ _ _ _ => pg_name (i := 4) sc_Land___init__.nd rfl (Or.inl rfl)) (fun _ _ _ _ _ => pts_nil) (fun _ _ _ _ _ => (pv 4)) (fun _ _ _ _ _ => (pe_dget (hu_of hr) (pv 3) (pv 4) (fun _ _ => rfl)))) rfl)))), ?_⟩
  dsimp only [m_Land___init__] at hm
  have im : p ∈ p :: S := List.mem_cons_self ..
  have hp := fr0 _ _ hp0 (by simp)
  obtain ⟨y0, e0, hm⟩ := bd_some hm
  obtain ⟨y1, e1, hm⟩ := bd_some hm
  obtain ⟨y2, e2, hm⟩ := bd_some hm
  cases hm
  refine q_fldD dm im hp rfl ev.cl_Land ev.n_own_spots (Nat.lt_of_lt_of_le (show ([] : List (Str × V)).length < 1 from Nat.one_pos) (by decide)) (ev_dc (ck := (tStr : Ty K Str)) (sr_list (ev_new (ev_srtD (ev_var ts h_spots rfl)))) (fun v => by rfl) (fun name_1 v_name H2' H' p' fr' nD' sm' h_name => by have h_self := ((tRef p) : Ty K Unit).mono (Fr.same sm') (((tRef p) : Ty K Unit).ext (S := (p :: S)) nD' (((tRef p) : Ty K Unit).mono (Fr.sub ts fr') h_self)); have h_spots := ((tD Str (tT2 tRat tRat)) : Ty K (List (Str × (Rat × Rat)))).mono (Fr.same sm') (((tD Str (tT2 tRat tRat)) : Ty K (List (Str × (Rat × Rat)))).ext (S := (p :: S)) nD' (((tD Str (tT2 tRat tRat)) : Ty K (List (Str × (Rat × Rat)))).mono (Fr.sub ts fr') h_spots)); have h_lines := ((tD Str (tT2 tStr (tTs tStr))) : Ty K (List (Str × (Str × (List Str))))).mono (Fr.same sm') (((tD Str (tT2 tStr (tTs tStr))) : Ty K (List (Str × (Str × (List Str))))).ext (S := (p :: S)) nD' (((tD Str (tT2 tStr (tTs tStr))) : Ty K (List (Str × (Str × (List Str))))).mono (Fr.sub ts fr') h_lines)); have h_sites := ((tD Str (tT2 tStr tInt)) : Ty K (List (Str × (Str × Int)))).mono (Fr.same sm') (((tD Str (tT2 tStr tInt)) : Ty K (List (Str × (Str × Int)))).ext (S := (p :: S)) nD' (((tD Str (tT2 tStr tInt)) : Ty K (List (Str × (Str × Int)))).mono (Fr.sub ts fr') h_sites)); have ts0' := ts; have ts : Sub [] (p' :: (p :: S)) := (fun a m => by simp at m);  exact (ev_var ts h_name rfl)) (fun name_1 v_name H2' H' p' fr' nD' sm' h_name => by have h_self := ((tRef p) : Ty K Unit).mono (Fr.same sm') (((tRef p) : Ty K Unit).ext (S := (p :: S)) nD' (((tRef p) : Ty K Unit).mono (Fr.sub ts fr') h_self)); have h_spots := ((tD Str (tT2 tRat tRat)) : Ty K (List (Str × (Rat × Rat)))).mono (Fr.same sm') (((tD Str (tT2 tRat tRat)) : Ty K (List (Str × (Rat × Rat)))).ext (S := (p :: S)) nD' (((tD Str (tT2 tRat tRat)) : Ty K (List (Str × (Rat × Rat)))).mono (Fr.sub ts fr') h_spots)); have h_lines := ((tD Str (tT2 tStr (tTs tStr))) : Ty K (List (Str × (Str × (List Str))))).mono (Fr.same sm') (((tD Str (tT2 tStr (tTs tStr))) : Ty K (List (Str × (Str × (List Str))))).ext (S := (p :: S)) nD' (((tD Str (tT2 tStr (tTs tStr))) : Ty K (List (Str × (Str × (List Str))))).mono (Fr.sub ts fr') h_lines)); have h_sites := ((tD Str (tT2 tStr tInt)) : Ty K (List (Str × (Str × Int)))).mono (Fr.same sm') (((tD Str (tT2 tStr tInt)) : Ty K (List (Str × (Str × Int)))).ext (S := (p :: S)) nD' (((tD Str (tT2 tStr tInt)) : Ty K (List (Str × (Str × Int)))).mono (Fr.sub ts fr') h_sites)); have ts0' := ts; have ts : Sub [] (p' :: (p :: S)) := (fun a m => by simp at m);  exact (ev_dget (ck := (tStr : Ty K Str)) (ev_var ts h_spots rfl) (ev_var ts h_name rfl)))) e0 (fun Hf1 w_0 f1 k1 dm hp nw_0 np_0 g_0 => ?_)
  have h_spots := ((tD Str (tT2 tRat tRat)) : Ty K (List (Str × (Rat × Rat)))).mono f1 h_spots
  have h_lines := ((tD Str (tT2 tStr (tTs tStr))) : Ty K (List (Str × (Str × (List Str))))).mono f1 h_lines
  have h_sites := ((tD Str (tT2 tStr tInt)) : Ty K (List (Str × (Str × Int)))).mono f1 h_sites
  refine q_fldD dm im hp rfl ev.cl_Land ev.n_own_lines (Nat.lt_of_lt_of_le (putF_lt (show ([] : List (Str × V)).length < 1 from Nat.one_pos)) (by decide)) (ev_dc (ck := (tStr : Ty K Str)) (sr_list (ev_new (ev_srtD (ev_var ts h_lines rfl)))) (fun v => by rfl) (fun name_2 v_name H2' H' p' fr' nD' sm' h_name => by have h_self := ((tRef p) : Ty K Unit).mono (Fr.same sm') (((tRef p) : Ty K Unit).ext (S := (p :: S)) nD' (((tRef p) : Ty K Unit).mono (Fr.sub ts fr') h_self)); have h_spots := ((tD Str (tT2 tRat tRat)) : Ty K (List (Str × (Rat × Rat)))).mono (Fr.same sm') (((tD Str (tT2 tRat tRat)) : Ty K (List (Str × (Rat × Rat)))).ext (S := (p :: S)) nD' (((tD Str (tT2 tRat tRat)) : Ty K (List (Str × (Rat × Rat)))).mono (Fr.sub ts fr') h_spots)); have h_lines := ((tD Str (tT2 tStr (tTs tStr))) : Ty K (List (Str × (Str × (List Str))))).mono (Fr.same sm') (((tD Str (tT2 tStr (tTs tStr))) : Ty K (List (Str × (Str × (List Str))))).ext (S := (p :: S)) nD' (((tD Str (tT2 tStr (tTs tStr))) : Ty K (List (Str × (Str × (List Str))))).mono (Fr.sub ts fr') h_lines)); have h_sites := ((tD Str (tT2 tStr tInt)) : Ty K (List (Str × (Str × Int)))).mono (Fr.same sm') (((tD Str (tT2 tStr tInt)) : Ty K (List (Str × (Str × Int)))).ext (S := (p :: S)) nD' (((tD Str (tT2 tStr tInt)) : Ty K (List (Str × (Str × Int)))).mono (Fr.sub ts fr') h_sites)); have ts0' := ts; have ts : Sub [] (p' :: (p :: S)) := (fun a m => by simp at m);  exact (ev_var ts h_name rfl)) (fun name_2 v_name H2' H' p' fr' nD' sm' h_name => by have h_self := ((tRef p) : Ty K Unit).mono (Fr.same sm') (((tRef p) : Ty K Unit).ext (S := (p :: S)) nD' (((tRef p) : Ty K Unit).mono (Fr.sub ts fr') h_self)); have h_spots := ((tD Str (tT2 tRat tRat)) : Ty K (List (Str × (Rat × Rat)))).mono (Fr.same sm') (((tD Str (tT2 tRat tRat)) : Ty K (List (Str × (Rat × Rat)))).ext (S := (p :: S)) nD' (((tD Str (tT2 tRat tRat)) : Ty K (List (Str × (Rat × Rat)))).mono (Fr.sub ts fr') h_spots)); have h_lines := ((tD Str (tT2 tStr (tTs tStr))) : Ty K (List (Str × (Str × (List Str))))).mono (Fr.same sm') (((tD Str (tT2 tStr (tTs tStr))) : Ty K (List (Str × (Str × (List Str))))).ext (S := (p :: S)) nD' (((tD Str (tT2 tStr (tTs tStr))) : Ty K (List (Str × (Str × (List Str))))).mono (Fr.sub ts fr') h_lines)); have h_sites := ((tD Str (tT2 tStr tInt)) : Ty K (List (Str × (Str × Int)))).mono (Fr.same sm') (((tD Str (tT2 tStr tInt)) : Ty K (List (Str × (Str × Int)))).ext (S := (p :: S)) nD' (((tD Str (tT2 tStr tInt)) : Ty K (List (Str × (Str × Int)))).mono (Fr.sub ts fr') h_sites)); have ts0' := ts; have ts : Sub [] (p' :: (p :: S)) := (fun a m => by simp at m);  exact (ev_dget (ck := (tStr : Ty K Str)) (ev_var ts h_lines rfl) (ev_var ts h_name rfl)))) e1 (fun Hf2 w_1 f2 k2 dm hp nw_1 np_1 g_1 => ?_)
  have h_spots := ((tD Str (tT2 tRat tRat)) : Ty K (List (Str × (Rat × Rat)))).mono f2 h_spots
  have h_lines := ((tD Str (tT2 tStr (tTs tStr))) : Ty K (List (Str × (Str × (List Str))))).mono f2 h_lines
  have h_sites := ((tD Str (tT2 tStr tInt)) : Ty K (List (Str × (Str × Int)))).mono f2 h_sites
  have g_0 := OwnD.kp f2 k2 np_0 g_0
  refine l_fldD dm im hp rfl ev.cl_Land ev.n_own_sites (Nat.lt_of_lt_of_le (putF_lt (putF_lt (show ([] : List (Str × V)).length < 1 from Nat.one_pos))) (by decide)) (ev_dc (ck := (tStr : Ty K Str)) (sr_list (ev_new (ev_srtD (ev_var ts h_sites rfl)))) (fun v => by rfl) (fun name_3 v_name H2' H' p' fr' nD' sm' h_name => by have h_self := ((tRef p) : Ty K Unit).mono (Fr.same sm') (((tRef p) : Ty K Unit).ext (S := (p :: S)) nD' (((tRef p) : Ty K Unit).mono (Fr.sub ts fr') h_self)); have h_spots := ((tD Str (tT2 tRat tRat)) : Ty K (List (Str × (Rat × Rat)))).mono (Fr.same sm') (((tD Str (tT2 tRat tRat)) : Ty K (List (Str × (Rat × Rat)))).ext (S := (p :: S)) nD' (((tD Str (tT2 tRat tRat)) : Ty K (List (Str × (Rat × Rat)))).mono (Fr.sub ts fr') h_spots)); have h_lines := ((tD Str (tT2 tStr (tTs tStr))) : Ty K (List (Str × (Str × (List Str))))).mono (Fr.same sm') (((tD Str (tT2 tStr (tTs tStr))) : Ty K (List (Str × (Str × (List Str))))).ext (S := (p :: S)) nD' (((tD Str (tT2 tStr (tTs tStr))) : Ty K (List (Str × (Str × (List Str))))).mono (Fr.sub ts fr') h_lines)); have h_sites := ((tD Str (tT2 tStr tInt)) : Ty K (List (Str × (Str × Int)))).mono (Fr.same sm') (((tD Str (tT2 tStr tInt)) : Ty K (List (Str × (Str × Int)))).ext (S := (p :: S)) nD' (((tD Str (tT2 tStr tInt)) : Ty K (List (Str × (Str × Int)))).mono (Fr.sub ts fr') h_sites)); have ts0' := ts; have ts : Sub [] (p' :: (p :: S)) := (fun a m => by simp at m);  exact (ev_var ts h_name rfl)) (fun name_3 v_name H2' H' p' fr' nD' sm' h_name => by have h_self := ((tRef p) : Ty K Unit).mono (Fr.same sm') (((tRef p) : Ty K Unit).ext (S := (p :: S)) nD' (((tRef p) : Ty K Unit).mono (Fr.sub ts fr') h_self)); have h_spots := ((tD Str (tT2 tRat tRat)) : Ty K (List (Str × (Rat × Rat)))).mono (Fr.same sm') (((tD Str (tT2 tRat tRat)) : Ty K (List (Str × (Rat × Rat)))).ext (S := (p :: S)) nD' (((tD Str (tT2 tRat tRat)) : Ty K (List (Str × (Rat × Rat)))).mono (Fr.sub ts fr') h_spots)); have h_lines := ((tD Str (tT2 tStr (tTs tStr))) : Ty K (List (Str × (Str × (List Str))))).mono (Fr.same sm') (((tD Str (tT2 tStr (tTs tStr))) : Ty K (List (Str × (Str × (List Str))))).ext (S := (p :: S)) nD' (((tD Str (tT2 tStr (tTs tStr))) : Ty K (List (Str × (Str × (List Str))))).mono (Fr.sub ts fr') h_lines)); have h_sites := ((tD Str (tT2 tStr tInt)) : Ty K (List (Str × (Str × Int)))).mono (Fr.same sm') (((tD Str (tT2 tStr tInt)) : Ty K (List (Str × (Str × Int)))).ext (S := (p :: S)) nD' (((tD Str (tT2 tStr tInt)) : Ty K (List (Str × (Str × Int)))).mono (Fr.sub ts fr') h_sites)); have ts0' := ts; have ts : Sub [] (p' :: (p :: S)) := (fun a m => by simp at m);  exact (ev_dget (ck := (tStr : Ty K Str)) (ev_var ts h_sites rfl) (ev_var ts h_name rfl)))) e2 (fun Hf3 w_2 f3 k3 dm hp nw_2 np_2 g_2 => ?_)
  have h_spots := ((tD Str (tT2 tRat tRat)) : Ty K (List (Str × (Rat × Rat)))).mono f3 h_spots
  have h_lines := ((tD Str (tT2 tStr (tTs tStr))) : Ty K (List (Str × (Str × (List Str))))).mono f3 h_lines
  have h_sites := ((tD Str (tT2 tStr tInt)) : Ty K (List (Str × (Str × Int)))).mono f3 h_sites
  have g_0 := OwnD.kp f3 k3 np_0 g_0
  have g_1 := OwnD.kp f3 k3 np_1 g_1
  refine q Hf3 _ (fun q o eq n => (k3 _ _ (k2 _ _ (k1 _ _ (fr0 _ _ eq (by simp)) n) n) n)) hp ?_
  repeat rw [putF_nil]; repeat rw [putF_ne (by decide +kernel)]; repeat rw [putF_nil]; repeat rw [putF_ne (by decide +kernel)]; repeat rw [putF_nil]
  exact ⟨w_0, _, rfl, fr_back fr0 Dom.nil nw_0, g_0.sub (sub_keep (fun a m => List.mem_cons_of_mem _ m)), w_1, _, rfl, fresh_b fr0 (fun q o eq n => (k1 _ _ eq n)) nw_1 np_1, g_1.sub (sub_keep (fun a m => List.mem_cons_of_mem _ m)), w_2, _, rfl, fresh_b fr0 (fun q o eq n => (k2 _ _ (k1 _ _ eq n) n)) nw_2 np_2, g_2.sub (sub_keep (fun a m => List.mem_cons_of_mem _ m)), rfl⟩
end
end G

namespace G
open PySem L2 M
section
variable {P : Program} {w : World} {K : PySem.W.Frag} {mg : Str → Option Value} {base : Heap}

def m_Land_spots (d_self : Ld) : Option (List (Str × (Rat × Rat))) :=
  (bd (some d_self) fun x => some x.1)
abbrev sp_Land_spots (K : PySem.W.Frag) (CS : Addr) : Sp := spF (K := K) (aCons (tO CS ldT) aNil) (fun S => nwd (K := K) (κ := Str) (tT2 tRat tRat) S) (fun a => m_Land_spots a.1)
theorem ok_Land_spots (ev : Env P K mg) : FnOk P w K mg base CX0 1 ev.f_Land_spots ev.d_Land_spots p_Land_spots (sp_Land_spots K ev.C_Land) := by
  refine ev.A_Land_spots.F.ok sc_Land_spots (fun vs H Q E h => ?_) (fun cdv A outer s H0 vs Q E hr h => ?_)
  · obtain ⟨S, ⟨d_self, _⟩, y, _, ⟨v_self, _, rfl, h_self, rfl⟩, _⟩ := h
    rfl
  obtain ⟨S, ⟨d_self, _⟩, y, dm, ⟨v_self, _, rfl, h_self, rfl⟩, hm, q⟩ := h
  have ts : Sub [] S := fun a m => by simp at m
  have fr0 := Fr.refl (T := []) H0
  have sub0 : Sub S S := fun a m => m
  refine ⟨_, (pss_one (ps_ret (pe_callTy call_dictD (by rfl) ev.B.dict_ (by decide +kernel) (pa_cons (pe_fld (pv 0) (by rfl)) pa_nil)))), ?_⟩
  dsimp only [m_Land_spots] at hm
  have er := hm
  exact q_ret (T := []) dm (ev_dictD (ev_fldO (b' := ((tD Str (tT2 tRat tRat)) : Ty K (List (Str × (Rat × Rat))))) ev.cl_Land ev.n_own_spots fget_here (ev_var ts h_self rfl))) er (fun v H1 s1 hv => q v H1 (fr0.trans (Fr.same s1)).toSame (nwD.sub hv sub0 fr0 Dom.nil))
def m_Land_lines (d_self : Ld) : Option (List (Str × (Str × (List Str)))) :=
  (bd (some d_self) fun x => some x.2.1)
abbrev sp_Land_lines (K : PySem.W.Frag) (CS : Addr) : Sp := spF (K := K) (aCons (tO CS ldT) aNil) (fun S => nwd (K := K) (κ := Str) (tT2 tStr (tTs tStr)) S) (fun a => m_Land_lines a.1)
theorem ok_Land_lines (ev : Env P K mg) : FnOk P w K mg base CX0 1 ev.f_Land_lines ev.d_Land_lines p_Land_lines (sp_Land_lines K ev.C_Land) := by
  refine ev.A_Land_lines.F.ok sc_Land_lines (fun vs H Q E h => ?_) (fun cdv A outer s H0 vs Q E hr h => ?_)
  · obtain ⟨S, ⟨d_self, _⟩, y, _, ⟨v_self, _, rfl, h_self, rfl⟩, _⟩ := h
    rfl
  obtain ⟨S, ⟨d_self, _⟩, y, dm, ⟨v_self, _, rfl, h_self, rfl⟩, hm, q⟩ := h
  have ts : Sub [] S := fun a m => by simp at m
  have fr0 := Fr.refl (T := []) H0
  have sub0 : Sub S S := fun a m => m
  refine ⟨_, (pss_one (ps_ret (pe_callTy call_dictD (by rfl) ev.B.dict_ (by decide +kernel) (pa_cons (pe_fld (pv 0) (by rfl)) pa_nil)))), ?_⟩
  dsimp only [m_Land_lines] at hm
  have er := hm
  exact q_ret (T := []) dm (ev_dictD (ev_fldO (b' := ((tD Str (tT2 tStr (tTs tStr))) : Ty K (List (Str × (Str × (List Str)))))) ev.cl_Land ev.n_own_lines (fget_there (by decide +kernel) fget_here) (ev_var ts h_self rfl))) er (fun v H1 s1 hv => q v H1 (fr0.trans (Fr.same s1)).toSame (nwD.sub hv sub0 fr0 Dom.nil))
def m_Land_sites (d_self : Ld) : Option (List (Str × (Str × Int))) :=
  (bd (some d_self) fun x => some x.2.2.1)
abbrev sp_Land_sites (K : PySem.W.Frag) (CS : Addr) : Sp := spF (K := K) (aCons (tO CS ldT) aNil) (fun S => nwd (K := K) (κ := Str) (tT2 tStr tInt) S) (fun a => m_Land_sites a.1)
theorem ok_Land_sites (ev : Env P K mg) : FnOk P w K mg base CX0 1 ev.f_Land_sites ev.d_Land_sites p_Land_sites (sp_Land_sites K ev.C_Land) := by
  refine ev.A_Land_sites.F.ok sc_Land_sites (fun vs H Q E h => ?_) (fun cdv A outer s H0 vs Q E hr h => ?_)
  · obtain ⟨S, ⟨d_self, _⟩, y, _, ⟨v_self, _, rfl, h_self, rfl⟩, _⟩ := h
    rfl
  obtain ⟨S, ⟨d_self, _⟩, y, dm, ⟨v_self, _, rfl, h_self, rfl⟩, hm, q⟩ := h
  have ts : Sub [] S := fun a m => by simp at m
  have fr0 := Fr.refl (T := []) H0
  have sub0 : Sub S S := fun a m => m
  refine ⟨_, (pss_one (ps_ret (pe_callTy call_dictD (by rfl) ev.B.dict_ (by decide +kernel) (pa_cons (pe_fld (pv 0) (by rfl)) pa_nil)))), ?_⟩
  dsimp only [m_Land_sites] at hm
  have er := hm
  exact q_ret (T := []) dm (ev_dictD (ev_fldO (b' := ((tD Str (tT2 tStr tInt)) : Ty K (List (Str × (Str × Int))))) ev.cl_Land ev.n_own_sites (fget_there (by decide +kernel) (fget_there (by decide +kernel) fget_here)) (ev_var ts h_self rfl))) er (fun v H1 s1 hv => q v H1 (fr0.trans (Fr.same s1)).toSame (nwD.sub hv sub0 fr0 Dom.nil))
def m_Land___eq__ (d_self : Ld) (d_other : Ld) : Option Bool :=
  (bd (bd (some d_other) fun _ => some true) fun x => if x then (bd (bd (bd (some d_self) fun x => some x.1) fun x => bd (bd (some d_other) fun x => some x.1) fun y => some (dEq x y)) fun x => if x then (bd (bd (bd (some d_self) fun x => some x.2.1) fun x => bd (bd (some d_other) fun x => some x.2.1) fun y => some (dEq x y)) fun x => if x then (bd (bd (some d_self) fun x => some x.2.2.1) fun x => bd (bd (some d_other) fun x => some x.2.2.1) fun y => some (dEq x y)) else some false) else some false) else some false)
abbrev sp_Land___eq__ (K : PySem.W.Frag) (CS : Addr) : Sp := spF (K := K) (aCons (tO CS ldT) (aCons (tO CS ldT) aNil)) (fun S => of (K := K) tBool S) (fun a => m_Land___eq__ a.1 a.2.1)
theorem ok_Land___eq__ (ev : Env P K mg) : FnOk P w K mg base CX0 1 ev.f_Land___eq__ ev.d_Land___eq__ p_Land___eq__ (sp_Land___eq__ K ev.C_Land) := by
  refine ev.A_Land___eq__.F.ok sc_Land___eq__ (fun vs H Q E h => ?_) (fun cdv A outer s H0 vs Q E hr h => ?_)
  · obtain ⟨S, ⟨d_self, d_other, _⟩, y, _, ⟨v_self, _, rfl, h_self, v_other, _, rfl, h_other, rfl⟩, _⟩ := h
    rfl
  obtain ⟨S, ⟨d_self, d_other, _⟩, y, dm, ⟨v_self, _, rfl, h_self, v_other, _, rfl, h_other, rfl⟩, hm, q⟩ := h
  have ts : Sub [] S := fun a m => by simp at m
  have fr0 := Fr.refl (T := []) H0
  have sub0 : Sub S S := fun a m => m
  refine ⟨_, (pss_one (ps_ret (pe_and (pe_callB call_isi (by rfl) ev.B.isinstance_ (by decide +kernel) (pa_cons (pv 1) (pa_cons (pe_glob (v := .ref ev.C_Land) (by rfl) ev.g_Land rfl) pa_nil))) (pe_and (pe_cmpR (op_eqDD hr.units65) (pe_fld (pv 0) (by rfl)) (pe_fld (pv 1) (by rfl)) (nomark _)) (pe_and (pe_cmpR (op_eqDD hr.units65) (pe_fld (pv 0) (by rfl)) (pe_fld (pv 1) (by rfl)) (nomark _)) (pe_one (pe_cmpR (op_eqDD hr.units65) (pe_fld (pv 0) (by rfl)) (pe_fld (pv 1) (by rfl)) (nomark _)))))))), ?_⟩
  dsimp only [m_Land___eq__] at hm
  have er := hm
  exact q_ret (T := []) dm (ev_and (ev_isiOC ev.isS_Land (fun H p dx fs e => .base (.ins e ev.cl_Land ev.si_Land.ca ev.si_Land.cn ev.si_Land.ct ev.si_Land.cm)) (ev_var ts h_other rfl) (.own _)) (ev_and (ev_op (od_eqDict (dT2 dRat dRat) (Nat.le_of_ble_eq_true rfl)) (ev_fldO (b' := ((tD Str (tT2 tRat tRat)) : Ty K (List (Str × (Rat × Rat))))) ev.cl_Land ev.n_own_spots fget_here (ev_var ts h_self rfl)) (ev_fldO (b' := ((tD Str (tT2 tRat tRat)) : Ty K (List (Str × (Rat × Rat))))) ev.cl_Land ev.n_own_spots fget_here (ev_var ts h_other rfl))) (ev_and (ev_op (od_eqDict (dT2 dStr (dTs dStr)) (Nat.le_of_ble_eq_true rfl)) (ev_fldO (b' := ((tD Str (tT2 tStr (tTs tStr))) : Ty K (List (Str × (Str × (List Str)))))) ev.cl_Land ev.n_own_lines (fget_there (by decide +kernel) fget_here) (ev_var ts h_self rfl)) (ev_fldO (b' := ((tD Str (tT2 tStr (tTs tStr))) : Ty K (List (Str × (Str × (List Str)))))) ev.cl_Land ev.n_own_lines (fget_there (by decide +kernel) fget_here) (ev_var ts h_other rfl))) (ev_op (od_eqDict (dT2 dStr dInt) (Nat.le_of_ble_eq_true rfl)) (ev_fldO (b' := ((tD Str (tT2 tStr tInt)) : Ty K (List (Str × (Str × Int))))) ev.cl_Land ev.n_own_sites (fget_there (by decide +kernel) (fget_there (by decide +kernel) fget_here)) (ev_var ts h_self rfl)) (ev_fldO (b' := ((tD Str (tT2 tStr tInt)) : Ty K (List (Str × (Str × Int))))) ev.cl_Land ev.n_own_sites (fget_there (by decide +kernel) (fget_there (by decide +kernel) fget_here)) (ev_var ts h_other rfl)))))) er (fun v H1 s1 hv => q v H1 (fr0.trans (Fr.same s1)).toSame ((tBool : Ty K Bool).sub (S := S) (H := H1) sub0 hv))
def m_Land___repr__ (d_self : Ld) : Option Str :=
  ((fun acc => bd (some ("Land(" : Str)) fun y => bd (catX? acc y) (fun acc => bd (bd (bd (bd (some d_self) fun x => some x.2.1) fun x => some (x.length : Int)) shw?) fun y => bd (catX? acc y) (fun acc => bd (some (" lines, " : Str)) fun y => bd (catX? acc y) (fun acc => bd (bd (bd (bd (some d_self) fun x => some x.2.2.1) fun x => some (x.length : Int)) shw?) fun y => bd (catX? acc y) (fun acc => bd (some (" sites)" : Str)) fun y => bd (catX? acc y) some))))) Str.empty)
abbrev sp_Land___repr__ (K : PySem.W.Frag) (CS : Addr) : Sp := spF (K := K) (aCons (tO CS ldT) aNil) (fun S => of (K := K) tTx S) (fun a => m_Land___repr__ a.1)
theorem ok_Land___repr__ (ev : Env P K mg) : FnOk P w K mg base CX0 1 ev.f_Land___repr__ ev.d_Land___repr__ p_Land___repr__ (sp_Land___repr__ K ev.C_Land) := by
  refine ev.A_Land___repr__.F.ok sc_Land___repr__ (fun vs H Q E h => ?_) (fun cdv A outer s H0 vs Q E hr h => ?_)
  · obtain ⟨S, ⟨d_self, _⟩, y, _, ⟨v_self, _, rfl, h_self, rfl⟩, _⟩ := h
    rfl
  obtain ⟨S, ⟨d_self, _⟩, y, dm, ⟨v_self, _, rfl, h_self, rfl⟩, hm, q⟩ := h
  have ts : Sub [] S := fun a m => by simp at m
  have fr0 := Fr.refl (T := []) H0
  have sub0 : Sub S S := fun a m => m
  refine ⟨_, (pss_one (ps_ret (pe_joined (PJ.cons pe_str (PJ.cons (pe_fmt (pe_callB call_lenD (by rfl) ev.B.len_ PySem.boot_len (pa_cons (pe_fld (pv 0) (by rfl)) pa_nil))) (PJ.cons pe_str (PJ.cons (pe_fmt (pe_callB call_lenD (by rfl) ev.B.len_ PySem.boot_len (pa_cons (pe_fld (pv 0) (by rfl)) pa_nil))) (PJ.cons pe_str PJ.nil)))))))), ?_⟩
  dsimp only [m_Land___repr__] at hm
  have er := hm
  exact q_ret (T := []) dm (ev_joined (K := K) (ej_cons (ev_tx (K := K)) (ej_cons (ev_fmtI (ev_lenD (ev_fldO (b' := ((tD Str (tT2 tStr (tTs tStr))) : Ty K (List (Str × (Str × (List Str)))))) ev.cl_Land ev.n_own_lines (fget_there (by decide +kernel) fget_here) (ev_var ts h_self rfl)))) (ej_cons (ev_tx (K := K)) (ej_cons (ev_fmtI (ev_lenD (ev_fldO (b' := ((tD Str (tT2 tStr tInt)) : Ty K (List (Str × (Str × Int))))) ev.cl_Land ev.n_own_sites (fget_there (by decide +kernel) (fget_there (by decide +kernel) fget_here)) (ev_var ts h_self rfl)))) (ej_cons (ev_tx (K := K)) ej_nil)))))) er (fun v H1 s1 hv => q v H1 (fr0.trans (Fr.same s1)).toSame ((tTx : Ty K Str).sub (S := S) (H := H1) sub0 hv))
end
end G

namespace G
open PySem L2 M
section
variable {P : Program} {w : World} {K : PySem.W.Frag} {mg : Str → Option Value} {base : Heap}

def m_Land___eq__l (d_self : Ld) (d_other : ((List (Str × (Rat × Rat))) × (List (Str × (Str × (List Str)))) × (List (Str × (Str × Int))))) : Option Bool :=
  (bd (bd (some d_other) fun _ => some false) fun x => if x then (bd (none : Option Bool) fun x => if x then (bd (none : Option Bool) fun x => if x then (none : Option Bool) else some false) else some false) else some false)
abbrev sp_Land___eq__l (K : PySem.W.Frag) (CS : Addr) : Sp := spF (K := K) (aCons (tO CS ldT) (aCons (tL3 (tD Str (tT2 tRat tRat)) (tD Str (tT2 tStr (tTs tStr))) (tD Str (tT2 tStr tInt))) aNil)) (fun S => of (K := K) tBool S) (fun a => m_Land___eq__l a.1 a.2.1)
theorem ok_Land___eq__l (ev : Env P K mg) : FnOk P w K mg base CX0 1 ev.f_Land___eq__ ev.d_Land___eq__ p_Land___eq__ (sp_Land___eq__l K ev.C_Land) := by
  refine ev.A_Land___eq__.F.ok sc_Land___eq__ (fun vs H Q E h => ?_) (fun cdv A outer s H0 vs Q E hr h => ?_)
  · obtain ⟨S, ⟨d_self, d_other, _⟩, y, _, ⟨v_self, _, rfl, h_self, v_other, _, rfl, h_other, rfl⟩, _⟩ := h
    rfl
  obtain ⟨S, ⟨d_self, d_other, _⟩, y, dm, ⟨v_self, _, rfl, h_self, v_other, _, rfl, h_other, rfl⟩, hm, q⟩ := h
  have ts : Sub [] S := fun a m => by simp at m
  have fr0 := Fr.refl (T := []) H0
  have sub0 : Sub S S := fun a m => m
  refine ⟨_, (pss_one (ps_ret (pe_and (pe_callB call_isi (by rfl) ev.B.isinstance_ (by decide +kernel) (pa_cons (pv 1) (pa_cons (pe_glob (v := .ref ev.C_Land) (by rfl) ev.g_Land rfl) pa_nil))) (pe_and pe_neverE (pe_and pe_neverE (pe_one pe_neverE)))))), ?_⟩
  dsimp only [m_Land___eq__l] at hm
  have er := hm
  exact q_ret (T := []) dm (ev_and (ev_isiTC (K := K) ev.is_Land_list (ev_var ts h_other rfl)) (ev_and (ev_never (R := of (K := K) tBool _)) (ev_and (ev_never (R := of (K := K) tBool _)) (ev_never (R := of (K := K) tBool _))))) er (fun v H1 s1 hv => q v H1 (fr0.trans (Fr.same s1)).toSame ((tBool : Ty K Bool).sub (S := S) (H := H1) sub0 hv))
end
end G

namespace G
open PySem L2 M
section
variable {P : Program} {w : World} {K : PySem.W.Frag} {mg : Str → Option Value} {base : Heap}

/-! ### the bag -/
def spBag (K : PySem.W.Frag) : Sp := fun vs H Q _ => ∃ (a : Addr) (ns : List Int), vs = [.ref a] ∧ SqL K H a (ns.map V.int) ∧ ns.length ≤ 63 ∧ ∀ b c H', Bag H' b c → H b = none → H c = none → Same H H' → Q (.ref b) H'
theorem ok_law_bag (ev : Env P K mg) : FnOk P w K mg base CX0 1 ev.f_law_bag ev.d_law_bag p_law_bag (spBag K) := by
  refine ev.A_law_bag.F.ok sc_law_bag (fun vs H Q E h => ?_) (fun cdv A outer s H vs Q E hr h => ?_)
  · obtain ⟨a, ns, rfl, _⟩ := h
    rfl
  obtain ⟨a, ns, rfl, hS, hl, q⟩ := h
  refine ⟨_, (pss_one (ps_ret (pe_lst (pa_cons (pe_callTy call_list_of (by rfl) ev.B.list_ (by decide +kernel) (pa_cons (pe_slice sl_list (pv 0) po_none (po_some pe_int)) pa_nil)) (pa_cons pe_int (pa_cons pe_int pa_nil)))))), ?_⟩
  obtain ⟨ms, em, lm⟩ := cut_ints ns none (some 63)
  refine ⟨_, rfl, _, rfl, a, _, rfl, hS, fun d nd => ?_⟩
  have s1 : Same H (upd H d (.lst (cutV (ns.map V.int) none (some 63)))) := same_upd nd
  refine ⟨d, _, rfl, .inl (SqL.of upd_same), fun c nc => ?_⟩
  have s2 := s1.trans (same_upd (o := .lst (cutV (ns.map V.int) none (some 63))) nc)
  refine ⟨(by show 3 ≤ sizeLine; decide), fun b nb => ?_⟩
  have ne : b ≠ c := fun z => by
    rw [z, upd_same] at nb
    cases nb
  refine q b c _ ⟨ne, ms, 0, 11, upd_same, ?_, by omega, by decide, by decide, by decide⟩ (s2.free nb) (s1.free nc) (s2.trans (same_upd nb))
  rw [upd_ne ne.symm, upd_same, em]

/-! ### a draw -/
def Els (b c : Addr) (H H' : Hp) : Prop := ∀ p, p ≠ b → p ≠ c → H' p = H p
theorem Els.trans {b c : Addr} {H H' H'' : Hp} (h : Els b c H H') (h' : Els b c H' H'') : Els b c H H'' := fun p n m => (h' p n m).trans (h p n m)
theorem Els.kept {b c : Addr} {H H' : Hp} (h : Els b c H H') : Kept b c H H' := fun p _ e n m => (h p n m).trans e
theorem Els.tup {b c p : Addr} {H H' : Hp} {xs : List V} (h : Els b c H H') (hB : Bag H b c) (e : H p = some (.tup xs)) : H' p = some (.tup xs) := by
  obtain ⟨n1, n2⟩ := hB.tup e
  exact (h p n1 n2).trans e
def spDraw : Sp := fun vs H Q _ => ∃ (b c : Addr) (m : Int), vs = [.ref b, .int m] ∧ Bag H b c ∧ 0 < m ∧ m < 1073741824 ∧ ∀ (r : Int) (H' : Hp), 0 ≤ r → r < m → Bag H' b c → Els b c H H' → Q (.int r) H'
theorem ok_law_draw (ev : Env P K mg) : FnOk P w K mg base CX0 1 ev.f_law_draw ev.d_law_draw p_law_draw spDraw := by
  refine ev.A_law_draw.F.ok sc_law_draw (fun vs H Q E h => ?_) (fun cdv A outer s H vs Q E hr h => ?_)
  · obtain ⟨b, c, m, rfl, _⟩ := h
    rfl
  obtain ⟨b, c, m, rfl, ⟨ne, ns, slot, seed, hb, hc, hn, h0, h1, h2⟩, m0, m1, q⟩ := h
  refine ⟨_, (pss_cons (ps_set (i := 2) sc_law_draw.nd rfl (Or.inl rfl) (pe_ix ix_list (pv 0) pe_int (fun _ _ => rfl)))
    (pss_cons (ps_set (i := 3) sc_law_draw.nd rfl (Or.inl rfl) (pe_ix ix_list (pv 0) pe_int (fun _ _ => rfl)))
    (pss_cons (ps_set (i := 4) sc_law_draw.nd rfl (Or.inl rfl) pe_int)
    (pss_cons (ps_if (pt_cmpR op_gt (pe_callB call_len_seq (by rfl) ev.B.len_ PySem.boot_len (pa_cons (pv 2) pa_nil)) pe_int (nomark _))
    (pss_one (ps_set (i := 4) sc_law_draw.nd rfl (Or.inl rfl) (pe_ix ix_list (pv 2) (pe_op op_mod (pv 3) (pe_callB call_len_seq (by rfl) ev.B.len_ PySem.boot_len (pa_cons (pv 2) pa_nil))) (fun _ _ => rfl)))) pss_nil)
    (pss_cons (ps_if (pt_cmpR op_lt (pv 4) pe_int (nomark _))
    (pss_one (ps_set (i := 4) sc_law_draw.nd rfl (Or.inl rfl) (pe_op op_sub pe_int (pv 4)))) pss_nil)
    (pss_cons (ps_if (pt_cmpR op_ge (pv 4) (pe_op op_pow pe_int pe_int) (nomark _))
    (pss_cons (ps_asg (pe_op op_fdiv (pv 4) (pv 1)) (pg_sub (pv 2) (pe_op op_mod (pv 3) (pe_callB call_len_seq (by rfl) ev.B.len_ PySem.boot_len (pa_cons (pv 2) pa_nil))) set_list))
    (pss_one (ps_ret (pe_op op_mod (pv 4) (pv 1))))) pss_nil)
    (pss_cons (ps_asg (pe_op op_add (pv 3) pe_int) (pg_sub (pv 0) pe_int set_list))
    (pss_cons (ps_set (i := 5) sc_law_draw.nd rfl (Or.inl rfl) (pe_ix ix_list (pv 0) pe_int (fun _ _ => rfl)))
    (pss_cons (ps_set (i := 5) sc_law_draw.nd rfl (Or.inl rfl) (pe_op op_add (pe_op op_mul (pe_op op_mod (pe_op op_mul (pv 5) (pv 5)) pe_int) pe_int) (pe_op op_mul (pv 5) pe_int)))
    (pss_cons (ps_asg (pe_op op_mod (pe_op op_add (pe_op op_add (pe_op op_add (pv 5) (pe_op op_mul (pv 4) pe_int)) (pe_op op_mul (pv 3) pe_int)) pe_int) pe_int) (pg_sub (pv 0) pe_int set_list))
    (pss_one (ps_ret (pe_op op_mod (pe_op op_fdiv (pe_op op_mod (pe_op op_mul (pe_ix ix_list (pv 0) pe_int (fun _ _ => rfl)) pe_int) pe_int) pe_int) (pv 1)))))))))))))), ?_⟩
  refine seq_asg ⟨_, rfl, b, _, _, _, rfl, rfl, SqL.of hb, atI_nat (j := 0) rfl, ?_⟩
  refine seq_asg ⟨_, rfl, b, _, _, _, rfl, rfl, SqL.of hb, atI_nat (j := 1) rfl, ?_⟩
  have hlm : (ns.map V.int).length = ns.length := List.length_map _
  have len0 : ns ≠ [] → (0 : Int) < (((ns.map V.int).length : Nat) : Int) := fun z => by
    rw [hlm]
    have := List.length_pos_iff.mpr z
    omega
  refine seq_c ?_
  refine seq_by (fun σ H' => H' = H ∧ ∃ cell : Int, σ = [some (.ref b), some (.int m), some (.ref c), some (.int slot), some (.int cell), none] ∧ (cell ≠ 0 → ns ≠ [])) ?_ (fun k => ?_)
  rotate_left
  · refine ⟨_, rfl, c, _, rfl, .inl (SqL.of hc), _, _, rfl, rfl, _, rfl, ?_⟩
    refine ite2 (fun z => ?_) (fun z => ?_)
    · have z' : (0 : Int) < (((ns.map V.int).length : Nat) : Int) := of_decide_eq_true z
      obtain ⟨v, hv⟩ := int_at (ns := ns) (i := slot % (((ns.map V.int).length : Nat) : Int)) (Int.emod_nonneg _ (by omega)) (by rw [← hlm]; exact Int.emod_lt_of_pos _ z')
      refine ⟨_, rfl, _, rfl, _, rfl, c, _, rfl, .inl (SqL.of hc), _, _, rfl, rfl, z', c, _, _, _, rfl, rfl, SqL.of hc, hv, ?_⟩
      refine k _ _ ⟨rfl, v, rfl, fun _ e => ?_⟩
      rw [hlm, e] at z'
      exact absurd z' (by decide)
    · exact k _ _ ⟨rfl, 0, rfl, fun e => absurd rfl e⟩
  rintro σ H' ⟨rfl, cell, rfl, hcell⟩
  refine seq_by (fun σ H2 => H2 = H' ∧ ∃ cell : Int, σ = [some (.ref b), some (.int m), some (.ref c), some (.int slot), some (.int cell), none] ∧ 0 ≤ cell ∧ (cell ≠ 0 → ns ≠ [])) ?_ (fun k => ?_)
  rotate_left
  · refine ⟨_, rfl, _, _, rfl, rfl, _, rfl, ?_⟩
    refine ite2 (fun z => ?_) (fun z => ?_)
    · have z' : cell < 0 := of_decide_eq_true z
      exact ⟨_, rfl, _, _, rfl, rfl, k _ _ ⟨rfl, 1 - cell, rfl, by omega, fun _ => hcell (by omega)⟩⟩
    · have z' : ¬ cell < 0 := fun e => z (decide_eq_true e)
      exact k _ _ ⟨rfl, cell, rfl, by omega, hcell⟩
  rintro σ H' ⟨rfl, cell, rfl, hc0, hcell⟩
  refine ⟨_, rfl, _, _, rfl, rfl, ⟨by decide, by decide, by decide⟩, _, _, rfl, rfl, _, rfl, ?_⟩
  refine ite2 (fun z => ?_) (fun z => ?_)
  · have z' : cell ≥ (10 : Int) ^ (18 : Int).toNat := of_decide_eq_true z
    have zz : cell ≠ 0 := fun e => by
      rw [e] at z'
      exact absurd z' (by decide)
    have z2 := len0 (hcell zz)
    have b0 := Int.emod_nonneg slot (show (((ns.map V.int).length : Nat) : Int) ≠ 0 by omega)
    have b1 := Int.emod_lt_of_pos slot z2
    refine ⟨_, rfl, _, rfl, _, _, rfl, rfl, ⟨m0, m1⟩, _, rfl, _, rfl, _, rfl, c, _, rfl, .inl (SqL.of hc), _, _, rfl, rfl, z2, c, _, _, _, rfl, rfl, hc, ix_at b0 b1, ?_⟩
    refine ⟨_, rfl, _, rfl, _, _, rfl, rfl, m0, ?_⟩
    refine q _ _ (Int.emod_nonneg _ (by omega)) (Int.emod_lt_of_pos _ m0) ⟨ne, ns.set (slot % (((ns.map V.int).length : Nat) : Int)).toNat (cell / m), slot, seed, ?_, ?_, ?_, h0, h1, h2⟩ (fun p n1 n2 => ?_)
    · rw [upd_ne ne]
      exact hb
    · rw [upd_same, set_ints]
    · rw [List.length_set]
      exact hn
    · rw [upd_ne n2]
  · refine next_u ?_
    refine seq_sub ⟨_, rfl, _, _, rfl, rfl, _, rfl, b, _, _, _, rfl, rfl, hb, rfl, ?_⟩
    refine seq_asg ⟨_, rfl, b, _, _, _, rfl, rfl, SqL.of upd_same, atI_nat (j := 2) rfl, ?_⟩
    refine seq_asg ⟨_, rfl, _, rfl, _, _, rfl, rfl, .inl ⟨by omega, by omega⟩, _, _, rfl, rfl, (show (0 : Int) < 2147483629 by decide), _, _, rfl, rfl, .inr ⟨by decide, by decide⟩, _, rfl, _, _, rfl, rfl, .inr ⟨by decide, by decide⟩, _, _, rfl, rfl, ?_⟩
    refine seq_sub ⟨_, rfl, _, rfl, _, _, rfl, rfl, .inr ⟨by decide, by decide⟩, _, _, rfl, rfl, _, rfl, _, _, rfl, rfl, .inr ⟨by decide, by decide⟩, _, _, rfl, rfl, _, _, rfl, rfl, _, _, rfl, rfl, (show (0 : Int) < 2147483647 by decide), _, rfl, b, _, _, _, rfl, rfl, upd_same, rfl, ?_⟩
    generalize hn2 : seed * seed % 2147483629 * 3 + seed * 48271 + cell * 9973 + slot * 31 + 13 = big
    have g0 := Int.emod_nonneg big (show (2147483647 : Int) ≠ 0 by decide)
    have g1 := Int.emod_lt_of_pos big (show (0 : Int) < 2147483647 by decide)
    refine ⟨_, rfl, b, _, _, _, rfl, rfl, SqL.of upd_same, atI_nat (j := 2) rfl, _, _, rfl, rfl, .inr ⟨by decide, by decide⟩, _, _, rfl, rfl, (show (0 : Int) < 2147483629 by decide), _, _, rfl, rfl, ⟨by decide, by decide⟩, _, rfl, _, _, rfl, rfl, m0, ?_⟩
    refine q _ _ (Int.emod_nonneg _ (by omega)) (Int.emod_lt_of_pos _ m0) ⟨ne, ns, slot + 1, big % 2147483647, ?_, ?_, hn, by omega, g0, g1⟩ (fun p n1 n2 => ?_)
    · rw [upd_same]
      all_goals rfl
    · rw [upd_ne ne.symm, upd_ne ne.symm]
      exact hc
    · rw [upd_ne n1, upd_ne n1]

/-! ### whole numbers, things alike -/
def spWhole : Sp := fun vs H Q _ => ∃ i : Int, vs = [.int i] ∧ Q (.bl true) H
theorem ok_law_whole (ev : Env P K mg) : FnOk P w K mg base CX0 1 ev.f_law_whole ev.d_law_whole p_law_whole spWhole := by
  refine ev.A_law_whole.F.ok sc_law_whole (fun vs H Q E h => ?_) (fun cdv A outer s H vs Q E hr h => ?_)
  · obtain ⟨i, rfl, _⟩ := h
    rfl
  obtain ⟨i, rfl, q⟩ := h
  refine ⟨_, (pss_one (ps_ret (pe_and (pe_callB call_isi (by rfl) ev.B.isinstance_ (by decide +kernel) (pa_cons (pv 0) (pa_cons (pe_bltn (v := .ty "int") (by rfl) ev.B.int_ (by decide +kernel) rfl) pa_nil))) (pe_one (pe_not (pe_callB call_isi (by rfl) ev.B.isinstance_ (by decide +kernel) (pa_cons (pv 0) (pa_cons (pe_bltn (v := .ty "bool") (by rfl) ev.B.bool_ (by decide +kernel) rfl) pa_nil)))))))), ?_⟩
  refine ⟨_, rfl, _, _, _, _, true, rfl, .ty _, .base (.int i), kit_ty (by decide +kernel), true, rfl, ?_⟩
  refine iteT ?_
  exact ⟨_, rfl, _, _, _, _, false, rfl, .ty _, .base (.int i), kit_ty (by decide +kernel), false, rfl, q⟩

/-- a comprehension's walk over I from the heap H0 on: each item does Step, the end is Qd -/
def Wlk (I : It) (H0 : Hp) (Step : V → Hp → (Hp → Prop) → Prop) (Qd : Hp → Prop) : Prop := ∃ W : Nat → Nat → Hp → Prop, (∃ m, W 0 m H0) ∧
  ∀ i m H, W i m H → (I.stop i H ∧ Qd H) ∨ (I.go i H ∧ ∃ N : Hp → Prop, (∀ G, N G → ∃ m', m' < m ∧ W (i + 1) m' G) ∧ ∀ y G, I.yld i H y G → Step y G N)
theorem wlk {I : It} {H0 : Hp} {Step : V → Hp → (Hp → Prop) → Prop} {Qd : Hp → Prop} (n : Nat) (Pv : Nat → Hp → Prop) (h0 : Pv 0 H0) (done : ∀ H, Pv n H → I.stop n H ∧ Qd H) (step : ∀ i H, i < n → Pv i H → I.go i H ∧ ∀ y G, I.yld i H y G → Step y G (Pv (i + 1))) :
    Wlk I H0 Step Qd := by
  refine ⟨fun i m H => i + m = n ∧ Pv i H, ⟨n, Nat.zero_add n, h0⟩, fun i m H w => ?_⟩
  cases m with
  | zero =>
    have e : i = n := w.1
    exact .inl (e ▸ done H (e ▸ w.2))
  | succ m =>
    have s := step i H (by have := w.1; omega) w.2
    exact .inr ⟨s.1, Pv (i + 1), fun G g => ⟨m, Nat.lt_succ_self m, by have := w.1; omega, g⟩, s.2⟩
/-- what one item does in [e for x in .. if t] and in {k: v for x in .. if t}, N behind it -/
abbrev LcStep (g : TG) (tt : TT) (te : TE) (vs : List Nat) (σ : L2.St) (D : Addr) (y : V) (G : Hp) (N : Hp → Prop) : Prop :=
  g y (wipe σ vs) G fun σ' G2 => wipe σ' vs = wipe σ vs ∧ tt σ' G2 fun b G3 => if b = true then te σ' G3 (fun z G4 => ∃ l, G4 D = some (.lst l) ∧ l.length < sizeLine ∧ N (upd G4 D (.lst (l ++ [z])))) else N G3
abbrev DcStep (g : TG) (tt : TT) (tk tv : TE) (vs : List Nat) (σ : L2.St) (D : Addr) (y : V) (G : Hp) (N : Hp → Prop) : Prop :=
  g y (wipe σ vs) G fun σ' G2 => wipe σ' vs = wipe σ vs ∧ tt σ' G2 fun b G3 => if b = true then tk σ' G3 (fun a G4 => tv σ' G4 fun z G5 => ∃ l k, a = kV k ∧ G5 D = some (.dK l) ∧ l.length < sizeLine ∧ N (upd G5 D (.dK (putK l k z)))) else N G3
theorem lc_keys {d : Addr} {o : Obj} {kvs : List (Key × V)} {g : TG} {tt : TT} {te : TE} {vs : List Nat} {σ : L2.St} {H0 : Hp} {D : Addr} {Qd : Hp → Prop} (Pv : Nat → Hp → Prop) (h0 : Pv 0 (upd H0 D (.lst []))) (hl : ∀ i H, i ≤ kvs.length → Pv i H → H d = some (.frz o (.dK kvs)))
    (hs : ∀ i k v H, kvs[i]? = some (k, v) → Pv i H → LcStep g tt te vs σ D (kV k) H (Pv (i + 1))) (hd : ∀ H, Pv kvs.length H → Qd H) : Wlk (Itk d o kvs) (upd H0 D (.lst [])) (LcStep g tt te vs σ D) Qd :=
  wlk kvs.length Pv h0 (fun H p => ⟨⟨hl _ H (Nat.le_refl _) p, Nat.le_refl _⟩, hd H p⟩) fun i H c p => ⟨⟨hl i H (Nat.le_of_lt c) p, c⟩, fun y G z => by
    obtain ⟨rfl, k, v, e, rfl⟩ := z
    exact hs i k v _ e p⟩
/-- sorted(d): keys that are texts, or numbers -/
theorem call_srtK {X : Cx} (hc : X.calm = true) : CallR X (.builtin "sorted") (fun xs H Q => (∃ (a : Addr) (kvs : List (Key × V)) (ks : List Str), xs = [.ref a] ∧ Rd H a (.dK kvs) ∧ kvs.map (·.1) = ks.map Sum.inr ∧ ks.length < 64 ∧
      ∀ ys p, ys.Perm ks → PyProof.Rows.sortedS ys = true → H p = none → Q (.ref p) (upd H p (.lst (ys.map V.str)))) ∨
    ∃ (a : Addr) (kvs : List (Key × V)) (ks : List Int), xs = [.ref a] ∧ Rd H a (.dK kvs) ∧ kvs.map (·.1) = ks.map Sum.inl ∧ ks.length < 64 ∧
      ∀ (ys : List Int) (p : Addr), ys.Perm ks → ys.Pairwise (· ≤ ·) → H p = none → Q (.ref p) (upd H p (.lst (ys.map V.int)))) := by
  intro pins s σ H xs us Q I r h
  rcases h with h | h
  · exact call_sortedD hc pins s σ H xs us Q I r h
  · exact call_sortedDI hc pins s σ H xs us Q I r h
/-- the heaps from H on: what was to be read there is to be read there -/
def Up (H H' : Hp) : Prop := ∀ a u, Rd H a u → Rd H' a u
theorem up_same {H H' : Hp} (s : Same H H') : Up H H' := fun a u h => by
  rcases h with h | ⟨o, h⟩
  · exact .inl (s _ _ h)
  · exact .inr ⟨o, s _ _ h⟩
theorem Up.trans {H H' H'' : Hp} (h : Up H H') (h' : Up H' H'') : Up H H'' := fun a u r => h' a u (h a u r)
theorem up_lock {H : Hp} {d : Addr} {u : HO} {od : Obj} (h : H d = some u) (nf : ∀ o v, u ≠ .frz o v) : Up H (upd H d (.frz od u)) := fun a v r => by
  by_cases e : a = d
  · subst e
    rcases r with r | ⟨o, r⟩
    · rw [h] at r
      cases r
      exact .inr ⟨od, upd_same⟩
    · rw [h] at r
      exact absurd (Option.some.inj r) (nf _ _)
  · rcases r with r | ⟨o, r⟩
    · exact .inl (by rw [upd_ne e]; exact r)
    · exact .inr ⟨o, by rw [upd_ne e]; exact r⟩
theorem tyT {K : PySem.W.Frag} {H : Hp} {a : Addr} {xs : List V} (h : SqT K H a xs) : TyX K H (.ref a) (.type "tuple") := by
  rcases h with (h | ⟨o, h⟩) | ⟨o, _, _, h, hc, _⟩
  · exact .base (.tup h)
  · exact .fTuple h
  · exact .kTuple h hc
theorem tyL {K : PySem.W.Frag} {H : Hp} {a : Addr} {xs : List V} (h : SqL K H a xs) : TyX K H (.ref a) (.type "list") := by
  rcases h with (h | ⟨o, h⟩) | ⟨o, _, _, h, hc, _⟩
  · exact .base (.lst h)
  · exact .base (.frz h)
  · exact .kList h hc
theorem sqT_up {K : PySem.W.Frag} {H H' : Hp} {a : Addr} {xs : List V} (u : Up H H') (h : SqT K H a xs) : SqT K H' a xs := by
  rcases h with h | h
  · exact .inl (u _ _ h)
  · exact .inr h
theorem sqL_up {K : PySem.W.Frag} {H H' : Hp} {a : Addr} {xs : List V} (u : Up H H') (h : SqL K H a xs) : SqL K H' a xs := by
  rcases h with h | h
  · exact .inl (u _ _ h)
  · exact .inr h
theorem tyD {K : PySem.W.Frag} {H : Hp} {a : Addr} {xs : List (Key × V)} (h : Rd H a (.dK xs)) : TyX K H (.ref a) (.type "dict") := by
  rcases h with h | ⟨o, h⟩
  · exact .base (.dK h)
  · exact .fDict h
def flat1 : V → Bool
  | .non => true
  | .bl _ => true
  | .int _ => true
  | .str _ => true
  | _ => false
/-- alike, without dicts -/
def SmT (K : PySem.W.Frag) (H : Hp) : Nat → V → V → Prop
  | 0, x, y => flat1 x = true ∧ x = y
  | n + 1, x, y => (flat1 x = true ∧ x = y) ∨
    (∃ a b xs ys, x = .ref a ∧ y = .ref b ∧ SqT K H a xs ∧ SqT K H b ys ∧ xs.length = ys.length ∧ xs.length ≤ 1000 ∧ ∀ (i : Nat) u v, xs[i]? = some u → ys[i]? = some v → SmT K H n u v) ∨
    (∃ a b xs ys, x = .ref a ∧ y = .ref b ∧ SqL K H a xs ∧ SqL K H b ys ∧ xs.length = ys.length ∧ xs.length ≤ 1000 ∧ ∀ (i : Nat) u v, xs[i]? = some u → ys[i]? = some v → SmT K H n u v)
/-- keys that sorted takes -/
def KOk (ks : List Key) : Prop := (∃ l : List Int, ks = l.map Sum.inl) ∨ ∃ l : List Str, ks = l.map Sum.inr ∧ ∀ z ∈ l, PyData.strOk z = true
def Sm (K : PySem.W.Frag) (H : Hp) : Nat → V → V → Prop
  | 0, x, y => flat1 x = true ∧ x = y
  | n + 1, x, y => (flat1 x = true ∧ x = y) ∨
    (∃ a b xs ys, x = .ref a ∧ y = .ref b ∧ SqT K H a xs ∧ SqT K H b ys ∧ xs.length = ys.length ∧ xs.length ≤ 1000 ∧ ∀ (i : Nat) u v, xs[i]? = some u → ys[i]? = some v → Sm K H n u v) ∨
    (∃ a b xs ys, x = .ref a ∧ y = .ref b ∧ SqL K H a xs ∧ SqL K H b ys ∧ xs.length = ys.length ∧ xs.length ≤ 1000 ∧ ∀ (i : Nat) u v, xs[i]? = some u → ys[i]? = some v → Sm K H n u v) ∨
    (∃ a b ks ls, x = .ref a ∧ y = .ref b ∧ H a = some (.dK ks) ∧ H b = some (.dK ls) ∧ (ks.map (·.1)).Perm (ls.map (·.1)) ∧ (ls.map (·.1)).Nodup ∧ ls.length < 64 ∧ KOk (ls.map (·.1)) ∧ KOk (ks.map (·.1)) ∧ ∀ k u v, valV ks k = some u → valV ls k = some v → SmT K H n u v)
theorem SmT.up {K : PySem.W.Frag} {H H' : Hp} (s : Up H H') : ∀ {n : Nat} {x y : V}, SmT K H n x y → SmT K H' n x y
  | 0, _, _, h => h
  | n + 1, x, y, h => by
    rcases h with h | ⟨a, b, xs, ys, h1, h2, h3, h4, h5, h6, h7⟩ | ⟨a, b, xs, ys, h1, h2, h3, h4, h5, h6, h7⟩
    · exact .inl h
    · exact .inr (.inl ⟨a, b, xs, ys, h1, h2, sqT_up s h3, sqT_up s h4, h5, h6, fun i u v e e' => (h7 i u v e e').up s⟩)
    · exact .inr (.inr ⟨a, b, xs, ys, h1, h2, sqL_up s h3, sqL_up s h4, h5, h6, fun i u v e e' => (h7 i u v e e').up s⟩)
theorem SmT.sm {K : PySem.W.Frag} {H : Hp} : ∀ {n : Nat} {x y : V}, SmT K H n x y → Sm K H n x y
  | 0, _, _, h => h
  | n + 1, x, y, h => by
    rcases h with h | ⟨a, b, xs, ys, h1, h2, h3, h4, h5, h6, h7⟩ | ⟨a, b, xs, ys, h1, h2, h3, h4, h5, h6, h7⟩
    · exact .inl h
    · exact .inr (.inl ⟨a, b, xs, ys, h1, h2, h3, h4, h5, h6, fun i u v e e' => (h7 i u v e e').sm⟩)
    · exact .inr (.inr (.inl ⟨a, b, xs, ys, h1, h2, h3, h4, h5, h6, fun i u v e e' => (h7 i u v e e').sm⟩))
theorem Sm.same {K : PySem.W.Frag} {H H' : Hp} (s : Same H H') : ∀ {n : Nat} {x y : V}, Sm K H n x y → Sm K H' n x y
  | 0, _, _, h => h
  | n + 1, x, y, h => by
    rcases h with h | ⟨a, b, xs, ys, h1, h2, h3, h4, h5, h6, h7⟩ | ⟨a, b, xs, ys, h1, h2, h3, h4, h5, h6, h7⟩ | ⟨a, b, ks, ls, h1, h2, h3, h4, h5, h6, h7, h8, h8', h9⟩
    · exact .inl h
    · exact .inr (.inl ⟨a, b, xs, ys, h1, h2, sqT_up (up_same s) h3, sqT_up (up_same s) h4, h5, h6, fun i u v e e' => (h7 i u v e e').same s⟩)
    · exact .inr (.inr (.inl ⟨a, b, xs, ys, h1, h2, sqL_up (up_same s) h3, sqL_up (up_same s) h4, h5, h6, fun i u v e e' => (h7 i u v e e').same s⟩))
    · exact .inr (.inr (.inr ⟨a, b, ks, ls, h1, h2, s _ _ h3, s _ _ h4, h5, h6, h7, h8, h8', fun k u v e e' => (h9 k u v e e').up (up_same s)⟩))
theorem SmT.flat {K : PySem.W.Frag} {H : Hp} {x : V} (h : flat1 x = true) : ∀ n, SmT K H n x x
  | 0 => ⟨h, rfl⟩
  | _ + 1 => .inl ⟨h, rfl⟩
theorem Sm.flat {K : PySem.W.Frag} {H : Hp} {x : V} (h : flat1 x = true) (n : Nat) : Sm K H n x x := (SmT.flat h n).sm
theorem SmT.tup {K : PySem.W.Frag} {H : Hp} {a b : Addr} {xs ys : List V} {n : Nat} (ha : SqT K H a xs) (hb : SqT K H b ys) (hl : xs.length = ys.length) (h1 : xs.length ≤ 1000) (hf : ∀ (i : Nat) u v, xs[i]? = some u → ys[i]? = some v → SmT K H n u v) : SmT K H (n + 1) (.ref a) (.ref b) :=
  .inr (.inl ⟨a, b, xs, ys, rfl, rfl, ha, hb, hl, h1, hf⟩)
theorem SmT.tup2 {K : PySem.W.Frag} {H : Hp} {a b : Addr} {x y x' y' : V} {n : Nat} (ha : SqT K H a [x, y]) (hb : SqT K H b [x', y']) (hx : SmT K H n x x') (hy : SmT K H n y y') : SmT K H (n + 1) (.ref a) (.ref b) :=
  SmT.tup ha hb rfl (by show 2 ≤ 1000; decide) fun i u v e e' => by
    match i, e, e' with
    | 0, e, e' => cases e; cases e'; exact hx
    | 1, e, e' => cases e; cases e'; exact hy
    | _ + 2, e, _ => cases e
theorem kA {K : PySem.W.Frag} {t : String} (h1 : kitB t "bool" = some false) (h2 : kitB t "str" = some false) : PySem.W.kitAny K (.type t) [.type "bool", .type "str"] = some false :=
  kitAny_cons (kit_ty h1) (fun _ => kitAny_cons (kit_ty h2) (fun _ => rfl) (fun z => nomatch z)) (fun z => nomatch z)
theorem kBool {K : PySem.W.Frag} : PySem.W.kitAny K (.type "bool") [.type "bool", .type "str"] = some true :=
  kitAny_cons (b := true) (kit_ty (by decide +kernel)) (fun z => nomatch z) (fun _ => rfl)
theorem kStr {K : PySem.W.Frag} : PySem.W.kitAny K (.type "str") [.type "bool", .type "str"] = some true :=
  kitAny_cons (b := false) (kit_ty (by decide +kernel)) (fun _ => kitAny_cons (b := true) (kit_ty (by decide +kernel)) (fun z => nomatch z) (fun _ => rfl)) (fun z => nomatch z)
theorem prBS : Paired ClsV [V.ty "bool", V.ty "str"] [.type "bool", .type "str"] := .cons (.ty _) (.cons (.ty _) .nil)
theorem dpS {K : PySem.W.Frag} {H : Hp} : ∀ l : List Str, DpAll K H (l.map V.str) (l.map PyData.str)
  | [] => .nil
  | z :: r => .cons (.str z) (dpS r)
theorem dpI {K : PySem.W.Frag} {H : Hp} : ∀ l : List Int, DpAll K H (l.map V.int) (l.map PyData.int)
  | [] => .nil
  | z :: r => .cons (.int z) (dpI r)
theorem shS {l : List Str} (h : ∀ z ∈ l, PyData.strOk z = true) : SeqAt.shaped (.list (l.map PyData.str)) = true := by
  unfold SeqAt.shaped
  rw [Bool.and_eq_true]
  refine ⟨?_, decide_eq_true ?_⟩
  · show PyData.canLayAll0 (l.map PyData.str) = true
    refine lay_all fun d hd => ?_
    obtain ⟨z, hz, rfl⟩ := List.mem_map.mp hd
    exact h z hz
  · have := depth_all (ds := l.map PyData.str) (n := 2) fun d hd => by
      obtain ⟨z, hz, rfl⟩ := List.mem_map.mp hd
      show PyData.depth (.str z) ≤ 2
      unfold PyData.depth
      omega
    unfold PyData.depth
    omega
theorem shI (l : List Int) : SeqAt.shaped (.list (l.map PyData.int)) = true := by
  unfold SeqAt.shaped
  rw [Bool.and_eq_true]
  refine ⟨?_, decide_eq_true ?_⟩
  · show PyData.canLayAll0 (l.map PyData.int) = true
    refine lay_all fun d hd => ?_
    obtain ⟨z, hz, rfl⟩ := List.mem_map.mp hd
    rfl
  · have := depth_all (ds := l.map PyData.int) (n := 2) fun d hd => by
      obtain ⟨z, hz, rfl⟩ := List.mem_map.mp hd
      show PyData.depth (.int z) ≤ 2
      unfold PyData.depth
      omega
    unfold PyData.depth
    omega
theorem perm_inl {a b : List Int} (h : (a.map (Sum.inl : Int → Key)).Perm (b.map Sum.inl)) : a.Perm b := by
  have e : ∀ l : List Int, (l.map (Sum.inl : Int → Key)).filterMap Sum.getLeft? = l := fun l => by
    induction l with
    | nil => rfl
    | cons x r ih =>
      rw [List.map_cons, List.filterMap_cons]
      simp [ih]
  have q := h.filterMap Sum.getLeft?
  rw [e, e] at q
  exact q
theorem perm_inr {a b : List Str} (h : (a.map (Sum.inr : Str → Key)).Perm (b.map Sum.inr)) : a.Perm b := by
  have e : ∀ l : List Str, (l.map (Sum.inr : Str → Key)).filterMap Sum.getRight? = l := fun l => by
    induction l with
    | nil => rfl
    | cons x r ih =>
      rw [List.map_cons, List.filterMap_cons]
      simp [ih]
  have q := h.filterMap Sum.getRight?
  rw [e, e] at q
  exact q
def spSame (K : PySem.W.Frag) : Nat → Sp
  | 0 => fun _ _ _ _ => False
  | n + 1 => fun vs H Q _ => ∃ x y : V, vs = [x, y] ∧ Sm K H n x y ∧ ∀ H', Same H H' → Q (.bl true) H'
theorem ok_same1 {n : Nat} (ev : Env P K mg) (GS : FnOk P w K mg base CX0 (n + 1) ev.f_law_same ev.d_law_same p_law_same (spSame K n)) : FnOk P w K mg base CX0 (n + 2) ev.f_law_same ev.d_law_same p_law_same (spSame K (n + 1)) := by
  refine ev.A_law_same.F.ok sc_law_same (fun vs H Q E h => ?_) (fun cdv A outer s H vs Q E hr h => ?_)
  · obtain ⟨x, y, rfl, _⟩ := h
    rfl
  obtain ⟨x, y, rfl, hS, q⟩ := h
  have hr1 : Room 1 _ := hr.mono (by omega)
  have hu := hu_of hr
  refine ⟨_, (pss_cons (ps_if (PW.pt (pw_or (pt_cmpR op_isN (pv 1) pe_non (nomark _)) (pw_or1 (pt_val (pe_callB call_isiT (by rfl) ev.B.isinstance_ (by decide +kernel) (pa_cons (pv 1) (pa_cons (pe_tup (pa_cons (pe_bltn (v := .ty "bool") (by rfl) ev.B.bool_ (by decide +kernel) rfl) (pa_cons (pe_bltn (v := .ty "str") (by rfl) ev.B.str_ (by decide +kernel) rfl) pa_nil))) pa_nil)))))))
    (pss_cons (ps_if (pt_cmpR op_isN (pv 1) pe_non (nomark _))
    (pss_one (ps_ret (pe_cmpR op_isN (pv 0) pe_non (nomark _)))) pss_nil)
    (pss_one (ps_ret (pe_and (pe_callB call_isiT (by rfl) ev.B.isinstance_ (by decide +kernel) (pa_cons (pv 0) (pa_cons (pe_tup (pa_cons (pe_bltn (v := .ty "bool") (by rfl) ev.B.bool_ (by decide +kernel) rfl) (pa_cons (pe_bltn (v := .ty "str") (by rfl) ev.B.str_ (by decide +kernel) rfl) pa_nil))) pa_nil))) (pe_one (pe_cmpR op_eq (pv 0) (pv 1) (nomark _))))))) pss_nil)
    (pss_cons (ps_if (pt_val (pe_callB call_isi (by rfl) ev.B.isinstance_ (by decide +kernel) (pa_cons (pv 1) (pa_cons (pe_bltn (v := .ty "int") (by rfl) ev.B.int_ (by decide +kernel) rfl) pa_nil))))
    (pss_one (ps_ret (pe_and (pe_call (ok_law_whole ev) hr1 (by rfl) ev.A_law_whole.m ev.A_law_whole.F.kp ev.A_law_whole.b .nil pass0 (pa_cons (pv 0) pa_nil)) (pe_one (pe_cmpR op_eq (pv 0) (pv 1) (nomark _)))))) pss_nil)
    (pss_cons (ps_if (pt_val (pe_callB call_isi (by rfl) ev.B.isinstance_ (by decide +kernel) (pa_cons (pv 1) (pa_cons (pe_bltn (v := .ty "dict") (by rfl) ev.B.dict_ (by decide +kernel) rfl) pa_nil))))
    (pss_cons (ps_if (PW.pt (pw_or (pt_not (pt_val (pe_callB call_isi (by rfl) ev.B.isinstance_ (by decide +kernel) (pa_cons (pv 0) (pa_cons (pe_bltn (v := .ty "dict") (by rfl) ev.B.dict_ (by decide +kernel) rfl) pa_nil))))) (pw_or1 (pt_cmpR (op_neD hr.units) (pe_callB (call_srtK rfl) (by rfl) ev.B.sorted_ (by decide +kernel) (pa_cons (pv 0) pa_nil)) (pe_callB (call_srtK rfl) (by rfl) ev.B.sorted_ (by decide +kernel) (pa_cons (pv 1) pa_nil)) (nomark _)))))
    (pss_one (ps_ret pe_bl)) pss_nil)
    (pss_one (ps_ret (pe_callB (cr_all rfl) (by rfl) ev.B.all_ (by decide +kernel) (pa_cons (pe_lock (pe_lc (own := [("_law_name_here", 2)]) (g := gName 2) (tt := tYes) (by rfl) sc_law_same.nd (pi_keys (pv 1)) (blkOk_by (own := [("_law_name_here", 2)]) (N := n_law_same) (sc := defScope s_law_same) (by decide +kernel)) (fun _ _ _ _ _ => pg_name (i := 2) sc_law_same.nd rfl (Or.inl rfl)) (fun _ _ _ _ _ => pts_nil) (fun _ _ _ _ _ => (pe_call GS hr (by rfl) ev.A_law_same.m ev.A_law_same.F.kp ev.A_law_same.b .nil pass0 (pa_cons (pe_dget hu (pv 0) (pv 2) (fun _ _ => rfl)) (pa_cons (pe_dget hu (pv 1) (pv 2) (fun _ _ => rfl)) pa_nil)))))) pa_nil))))) pss_nil)
    (pss_cons (ps_if (pt_cmpR op_ne (pe_callB call_isi (by rfl) ev.B.isinstance_ (by decide +kernel) (pa_cons (pv 1) (pa_cons (pe_bltn (v := .ty "tuple") (by rfl) ev.B.tuple_ (by decide +kernel) rfl) pa_nil))) (pe_callB call_isi (by rfl) ev.B.isinstance_ (by decide +kernel) (pa_cons (pv 0) (pa_cons (pe_bltn (v := .ty "tuple") (by rfl) ev.B.tuple_ (by decide +kernel) rfl) pa_nil))) (nomark _))
    (pss_one (ps_ret pe_bl)) pss_nil)
    (pss_cons (ps_if (PW.pt (pw_or (pt_cmpR op_ne (pe_callB call_isi (by rfl) ev.B.isinstance_ (by decide +kernel) (pa_cons (pv 1) (pa_cons (pe_bltn (v := .ty "list") (by rfl) ev.B.list_ (by decide +kernel) rfl) pa_nil))) (pe_callB call_isi (by rfl) ev.B.isinstance_ (by decide +kernel) (pa_cons (pv 0) (pa_cons (pe_bltn (v := .ty "list") (by rfl) ev.B.list_ (by decide +kernel) rfl) pa_nil))) (nomark _)) (pw_or1 (pt_cmpR op_ne (pe_callB call_len_seq (by rfl) ev.B.len_ PySem.boot_len (pa_cons (pv 0) pa_nil)) (pe_callB call_len_seq (by rfl) ev.B.len_ PySem.boot_len (pa_cons (pv 1) pa_nil)) (nomark _)))))
    (pss_one (ps_ret pe_bl)) pss_nil)
    (pss_one (ps_ret (pe_callB (cr_all rfl) (by rfl) ev.B.all_ (by decide +kernel) (pa_cons (pe_lc (own := [("_law_k", 3)]) (g := gName 3) (tt := tYes) (by rfl) sc_law_same.nd (pi_range1 rfl ev.B.range_ (pa_cons (pe_callB call_len_seq (by rfl) ev.B.len_ PySem.boot_len (pa_cons (pv 1) pa_nil)) pa_nil)) (blkOk_by (own := [("_law_k", 3)]) (N := n_law_same) (sc := defScope s_law_same) (by decide +kernel)) (fun _ _ _ _ _ => pg_name (i := 3) sc_law_same.nd rfl (Or.inl rfl)) (fun _ _ _ _ _ => pts_nil) (fun _ _ _ _ _ => (pe_call GS hr (by rfl) ev.A_law_same.m ev.A_law_same.F.kp ev.A_law_same.b .nil pass0 (pa_cons (pe_ix (show IxR _ (rIx K) from ix_seq) (pv 0) (pv 3) (fun _ _ => rfl)) (pa_cons (pe_ix (show IxR _ (rIx K) from ix_seq) (pv 1) (pv 3) (fun _ _ => rfl)) pa_nil))))) pa_nil))))))))), ?_⟩
  by_cases hf : flat1 x = true ∧ x = y
  · obtain ⟨hf, rfl⟩ := hf
    cases x with
    | non =>
      refine ⟨_, rfl, rfl, _, rfl, iteT (iteT ?_)⟩
      refine ⟨_, rfl, rfl, _, rfl, iteT ?_⟩
      exact ⟨_, rfl, rfl, q H fun _ _ e => e⟩
    | bl b =>
      refine ⟨_, rfl, rfl, _, rfl, iteF ⟨_, rfl, two, fun tp htp => ⟨_, tp, _, _, _, true, rfl, upd_same, prBS, .base (.bl b), kBool, true, rfl, iteT ?_⟩⟩⟩
      refine ⟨_, rfl, rfl, _, rfl, iteF ?_⟩
      refine ⟨_, rfl, two, fun tq htq => ⟨_, tq, _, _, _, true, rfl, upd_same, prBS, .base (.bl b), kBool, true, rfl, iteT ?_⟩⟩
      refine ⟨_, rfl, _, rfl, rfl, ?_⟩
      rw [decide_eq_true rfl]
      exact q _ ((same_upd htp).trans (same_upd htq))
    | int i =>
      refine ⟨_, rfl, rfl, _, rfl, iteF ⟨_, rfl, two, fun tp htp => ⟨_, tp, _, _, _, false, rfl, upd_same, prBS, .base (.int i), kA (by decide +kernel) (by decide +kernel), false, rfl, iteF ?_⟩⟩⟩
      refine ⟨_, rfl, _, _, _, _, true, rfl, .ty _, .base (.int i), kit_ty (by decide +kernel), true, rfl, iteT ?_⟩
      refine ⟨_, rfl, i, rfl, true, rfl, iteT ?_⟩
      refine ⟨_, rfl, _, rfl, rfl, ?_⟩
      rw [decide_eq_true rfl]
      exact q _ (same_upd htp)
    | str z =>
      refine ⟨_, rfl, rfl, _, rfl, iteF ⟨_, rfl, two, fun tp htp => ⟨_, tp, _, _, _, true, rfl, upd_same, prBS, .base (.str z), kStr, true, rfl, iteT ?_⟩⟩⟩
      refine ⟨_, rfl, rfl, _, rfl, iteF ?_⟩
      refine ⟨_, rfl, two, fun tq htq => ⟨_, tq, _, _, _, true, rfl, upd_same, prBS, .base (.str z), kStr, true, rfl, iteT ?_⟩⟩
      refine ⟨_, rfl, _, rfl, rfl, ?_⟩
      rw [decide_eq_true rfl]
      exact q _ ((same_upd htp).trans (same_upd htq))
    | _ => cases hf
  · cases n with
    | zero => exact absurd hS hf
    | succ m =>
      rcases hS with hS | ⟨a, b, xs, ys, rfl, rfl, ha, hb, hl, h1000, he⟩ | ⟨a, b, xs, ys, rfl, rfl, ha, hb, hl, h1000, he⟩ | ⟨a, b, ks, ls, rfl, rfl, ha, hb, hpm, hnd, h64, ok1, ok2, he⟩
      · exact absurd hS hf
      · refine ⟨_, rfl, rfl, _, rfl, iteF ⟨_, rfl, two, fun tp htp => ⟨_, tp, _, _, _, false, rfl, upd_same, prBS, tyT (xs := ys) ?_, kA (by decide +kernel) (by decide +kernel), false, rfl, iteF ?_⟩⟩⟩
        · exact sqT_up (up_same (same_upd htp)) hb
        have s1 : Same H (upd H tp (.tup [V.ty "bool", V.ty "str"])) := same_upd htp
        generalize upd H tp (.tup [V.ty "bool", V.ty "str"]) = H1 at s1
        have ha' := sqT_up (up_same s1) ha
        have hb' := sqT_up (up_same s1) hb
        refine ⟨_, rfl, _, _, _, _, false, rfl, .ty _, tyT hb', kit_ty (by decide +kernel), false, rfl, iteF ?_⟩
        refine ⟨_, rfl, _, _, _, _, false, rfl, .ty _, tyT hb', kit_ty (by decide +kernel), false, rfl, iteF ?_⟩
        refine ⟨_, rfl, _, _, _, _, true, rfl, .ty _, tyT hb', kit_ty (by decide +kernel), _, rfl, _, _, _, _, true, rfl, .ty _, tyT ha', kit_ty (by decide +kernel), rfl, _, rfl, iteF ?_⟩
        refine ⟨_, rfl, _, _, _, _, false, rfl, .ty _, tyT hb', kit_ty (by decide +kernel), _, rfl, _, _, _, _, false, rfl, .ty _, tyT ha', kit_ty (by decide +kernel), rfl, _, rfl, iteF ?_⟩
        refine ⟨_, rfl, a, _, rfl, .inr ha', _, rfl, b, _, rfl, .inr hb', rfl, _, rfl, ?_⟩
        refine iteNS (by rw [hl]) ?_
        refine ⟨_, rfl, b, _, rfl, .inr hb', _, rfl, by omega, by omega, fun D hD => ?_⟩
        refine lc_range (lo := 0) (n := ys.length) (fun i H2 => Same H1 H2 ∧ H2 D = some (.lst ((List.replicate i true).map V.bl))) ⟨same_upd hD, upd_same⟩ ?_ ?_
        · rintro i H2 hi ⟨s2, hD2⟩
          have e1 : atI xs (0 + (i : Int)) = some xs[i] := by
            rw [Int.zero_add]
            exact atI_nat (List.getElem?_eq_getElem (by omega))
          have e2 : atI ys (0 + (i : Int)) = some ys[i] := by
            rw [Int.zero_add]
            exact atI_nat (List.getElem?_eq_getElem hi)
          refine ⟨rfl, yes_ ?_⟩
          refine ⟨_, rfl, _, rfl, .inr <| .inl ⟨a, xs, _, _, rfl, rfl, sqT_up (up_same s2) ha', e1, ?_⟩⟩
          refine ⟨_, rfl, _, rfl, .inr <| .inl ⟨b, ys, _, _, rfl, rfl, sqT_up (up_same s2) hb', e2, ?_⟩⟩
          refine ⟨_, _, rfl, (he i _ _ (List.getElem?_eq_getElem (by omega)) (List.getElem?_eq_getElem hi)).same (s1.trans s2), fun H3 s3 => ?_⟩
          refine ⟨_, s3 _ _ hD2, ?_, fun p o e => ?_, ?_⟩
          · rw [List.length_map, List.length_replicate]
            exact small1000 (by omega)
          · have np : p ≠ D := ne_of_none e hD
            rw [upd_ne np]
            exact s3 _ _ (s2 _ _ e)
          · rw [upd_same, List.replicate_succ', List.map_append]
            rfl
        · rintro H2 ⟨s2, hD2⟩
          refine ⟨D, _, rfl, SqL.of hD2, ?_⟩
          rw [show (List.replicate ys.length true).all id = true by simp]
          exact q H2 (s1.trans s2)
      · refine ⟨_, rfl, rfl, _, rfl, iteF ⟨_, rfl, two, fun tp htp => ⟨_, tp, _, _, _, false, rfl, upd_same, prBS, tyL (xs := ys) ?_, kA (by decide +kernel) (by decide +kernel), false, rfl, iteF ?_⟩⟩⟩
        · exact sqL_up (up_same (same_upd htp)) hb
        have s1 : Same H (upd H tp (.tup [V.ty "bool", V.ty "str"])) := same_upd htp
        generalize upd H tp (.tup [V.ty "bool", V.ty "str"]) = H1 at s1
        have ha' := sqL_up (up_same s1) ha
        have hb' := sqL_up (up_same s1) hb
        refine ⟨_, rfl, _, _, _, _, false, rfl, .ty _, tyL hb', kit_ty (by decide +kernel), false, rfl, iteF ?_⟩
        refine ⟨_, rfl, _, _, _, _, false, rfl, .ty _, tyL hb', kit_ty (by decide +kernel), false, rfl, iteF ?_⟩
        refine ⟨_, rfl, _, _, _, _, false, rfl, .ty _, tyL hb', kit_ty (by decide +kernel), _, rfl, _, _, _, _, false, rfl, .ty _, tyL ha', kit_ty (by decide +kernel), rfl, _, rfl, iteF ?_⟩
        refine ⟨_, rfl, _, _, _, _, true, rfl, .ty _, tyL hb', kit_ty (by decide +kernel), _, rfl, _, _, _, _, true, rfl, .ty _, tyL ha', kit_ty (by decide +kernel), rfl, _, rfl, iteF ?_⟩
        refine ⟨_, rfl, a, _, rfl, .inl ha', _, rfl, b, _, rfl, .inl hb', rfl, _, rfl, ?_⟩
        refine iteNS (by rw [hl]) ?_
        refine ⟨_, rfl, b, _, rfl, .inl hb', _, rfl, by omega, by omega, fun D hD => ?_⟩
        refine lc_range (lo := 0) (n := ys.length) (fun i H2 => Same H1 H2 ∧ H2 D = some (.lst ((List.replicate i true).map V.bl))) ⟨same_upd hD, upd_same⟩ ?_ ?_
        · rintro i H2 hi ⟨s2, hD2⟩
          have e1 : atI xs (0 + (i : Int)) = some xs[i] := by
            rw [Int.zero_add]
            exact atI_nat (List.getElem?_eq_getElem (by omega))
          have e2 : atI ys (0 + (i : Int)) = some ys[i] := by
            rw [Int.zero_add]
            exact atI_nat (List.getElem?_eq_getElem hi)
          refine ⟨rfl, yes_ ?_⟩
          refine ⟨_, rfl, _, rfl, .inl ⟨a, xs, _, _, rfl, rfl, sqL_up (up_same s2) ha', e1, ?_⟩⟩
          refine ⟨_, rfl, _, rfl, .inl ⟨b, ys, _, _, rfl, rfl, sqL_up (up_same s2) hb', e2, ?_⟩⟩
          refine ⟨_, _, rfl, (he i _ _ (List.getElem?_eq_getElem (by omega)) (List.getElem?_eq_getElem hi)).same (s1.trans s2), fun H3 s3 => ?_⟩
          refine ⟨_, s3 _ _ hD2, ?_, fun p o e => ?_, ?_⟩
          · rw [List.length_map, List.length_replicate]
            exact small1000 (by omega)
          · have np : p ≠ D := ne_of_none e hD
            rw [upd_ne np]
            exact s3 _ _ (s2 _ _ e)
          · rw [upd_same, List.replicate_succ', List.map_append]
            rfl
        · rintro H2 ⟨s2, hD2⟩
          refine ⟨D, _, rfl, SqL.of hD2, ?_⟩
          rw [show (List.replicate ys.length true).all id = true by simp]
          exact q H2 (s1.trans s2)
      · have nb : ∀ o v, HO.dK ls ≠ .frz o v := fun o v z => nomatch z
        refine ⟨_, rfl, rfl, _, rfl, iteF ⟨_, rfl, two, fun tp htp => ⟨_, tp, _, _, _, false, rfl, upd_same, prBS, tyD (xs := ls) ?_, kA (by decide +kernel) (by decide +kernel), false, rfl, iteF ?_⟩⟩⟩
        · exact up_same (same_upd htp) _ _ (.inl hb)
        have s1 : Same H (upd H tp (.tup [V.ty "bool", V.ty "str"])) := same_upd htp
        generalize upd H tp (.tup [V.ty "bool", V.ty "str"]) = H1 at s1
        have ha' := s1 _ _ ha
        have hb' := s1 _ _ hb
        refine ⟨_, rfl, _, _, _, _, false, rfl, .ty _, tyD (.inl hb'), kit_ty (by decide +kernel), false, rfl, iteF ?_⟩
        refine ⟨_, rfl, _, _, _, _, true, rfl, .ty _, tyD (.inl hb'), kit_ty (by decide +kernel), true, rfl, iteT ?_⟩
        refine seq_by (fun σ H2 => σ = [some (.ref a), some (.ref b), none, none] ∧ Same H1 H2) ?_ (fun k => ?_)
        rotate_left
        · refine ⟨_, rfl, _, _, _, _, true, rfl, .ty _, tyD (.inl ha'), kit_ty (by decide +kernel), true, rfl, iteF ?_⟩
          have lk : ks.length = ls.length := by
            have := hpm.length_eq
            rw [List.length_map, List.length_map] at this
            exact this
          rcases ok1 with ⟨li, eli⟩ | ⟨lt, elt, lok⟩
          · obtain ⟨ki, eki⟩ : ∃ l : List Int, ks.map (·.1) = l.map Sum.inl := by
              rcases ok2 with ⟨l, e⟩ | ⟨l, e, _⟩
              · exact ⟨l, e⟩
              · cases l with
                | nil => exact ⟨[], e⟩
                | cons z r =>
                  rw [e, eli] at hpm
                  have := hpm.mem_iff.mp (List.mem_cons_self (a := (Sum.inr z : Key)) (l := r.map Sum.inr))
                  obtain ⟨i, _, hi⟩ := List.mem_map.mp this
                  cases hi
            have pki : ki.Perm li := by
              rw [eki, eli] at hpm
              exact perm_inl hpm
            refine ⟨_, rfl, .inr ⟨a, ks, ki, rfl, .inl ha', eki, ?_, fun ys p pm pw np => ?_⟩⟩
            · have := congrArg List.length eki
              rw [List.length_map, List.length_map] at this
              omega
            have s2 : Same H1 (upd H1 p (.lst (ys.map V.int))) := same_upd np
            refine ⟨_, rfl, .inr ⟨b, ls, li, rfl, .inl (s2 _ _ hb'), eli, ?_, fun zs p2 pm2 pw2 np2 => ?_⟩⟩
            · have := congrArg List.length eli
              rw [List.length_map, List.length_map] at this
              omega
            have e : ys = zs := srtI_same (pm.trans (pki.trans pm2.symm)) pw pw2
            subst e
            refine ⟨_, _, .lst (SqL.of (same_upd np2 _ _ upd_same)) (dpI ys), .lst (SqL.of upd_same) (dpI ys), shI ys, shI ys, _, rfl, ?_⟩
            rw [PySem.SeqAt.eqv_refl _ (SeqAt.canLay_of_shaped (shI ys))]
            exact iteF (k _ _ ⟨rfl, s2.trans (same_upd np2)⟩)
          · obtain ⟨kt, ekt, kok⟩ : ∃ l : List Str, ks.map (·.1) = l.map Sum.inr ∧ ∀ z ∈ l, PyData.strOk z = true := by
              rcases ok2 with ⟨l, e⟩ | h
              · cases l with
                | nil => exact ⟨[], e, (fun z hz => nomatch hz)⟩
                | cons z r =>
                  rw [e, elt] at hpm
                  have := hpm.mem_iff.mp (List.mem_cons_self (a := (Sum.inl z : Key)) (l := r.map Sum.inl))
                  obtain ⟨i, _, hi⟩ := List.mem_map.mp this
                  cases hi
              · exact h
            have pki : kt.Perm lt := by
              rw [ekt, elt] at hpm
              exact perm_inr hpm
            refine ⟨_, rfl, .inl ⟨a, ks, kt, rfl, .inl ha', ekt, ?_, fun ys p pm pw np => ?_⟩⟩
            · have := congrArg List.length ekt
              rw [List.length_map, List.length_map] at this
              omega
            have s2 : Same H1 (upd H1 p (.lst (ys.map V.str))) := same_upd np
            refine ⟨_, rfl, .inl ⟨b, ls, lt, rfl, .inl (s2 _ _ hb'), elt, ?_, fun zs p2 pm2 pw2 np2 => ?_⟩⟩
            · have := congrArg List.length elt
              rw [List.length_map, List.length_map] at this
              omega
            have e : ys = zs := srt_same (pm.trans (pki.trans pm2.symm)) pw pw2
            subst e
            have yok : ∀ z ∈ ys, PyData.strOk z = true := fun z hz => kok z (pm.mem_iff.mp hz)
            refine ⟨_, _, .lst (SqL.of (same_upd np2 _ _ upd_same)) (dpS ys), .lst (SqL.of upd_same) (dpS ys), shS yok, shS yok, _, rfl, ?_⟩
            rw [PySem.SeqAt.eqv_refl _ (SeqAt.canLay_of_shaped (shS yok))]
            exact iteF (k _ _ ⟨rfl, s2.trans (same_upd np2)⟩)
        rintro σ H2 ⟨rfl, s2⟩
        have hb2 := s2 _ _ hb'
        refine ⟨b, .dK ls, hb2, trivial, fun od => ?_⟩
        refine ⟨_, rfl, b, od, rfl, .inl ⟨ls, upd_same, fun D hD => ?_⟩⟩
        have nbD : D ≠ b := fun z => by
          rw [z, upd_same] at hD
          cases hD
        have ul : Up H (upd H2 b (.frz od (.dK ls))) := (up_same (s1.trans s2)).trans (up_lock hb2 nb)
        refine lc_keys (fun i H3 => Same (upd H2 b (.frz od (.dK ls))) H3 ∧ H3 D = some (.lst ((List.replicate i true).map V.bl))) ⟨same_upd hD, upd_same⟩ (fun i H3 _ h => h.1 _ _ upd_same) ?_ ?_
        · rintro i k v H3 hi ⟨s3, hD3⟩
          have u3 : Up H H3 := ul.trans (up_same s3)
          have evl : valV ls k = some v := val_nodup hnd (k, v) (List.mem_of_getElem? hi)
          obtain ⟨u, eu⟩ : ∃ u, valV ks k = some u := by
            have mk : k ∈ ks.map (·.1) := hpm.mem_iff.mpr (List.mem_map.mpr ⟨(k, v), List.mem_of_getElem? hi, rfl⟩)
            obtain ⟨p, hp, rfl⟩ := List.mem_map.mp mk
            exact ⟨_, val_nodup (hpm.nodup_iff.mpr hnd) p hp⟩
          refine ⟨rfl, yes_ ?_⟩
          refine ⟨_, rfl, _, rfl, a, u, rfl, .inl ⟨ks, k, u3 _ _ (.inl ha), rfl, eu.symm⟩, ?_⟩
          refine ⟨_, rfl, _, rfl, b, v, rfl, .inl ⟨ls, k, u3 _ _ (.inl hb), rfl, evl.symm⟩, ?_⟩
          refine ⟨_, _, rfl, ((he k u v eu evl).up u3).sm, fun H4 s4 => ?_⟩
          refine ⟨_, s4 _ _ hD3, ?_, fun p o e => ?_, ?_⟩
          · rw [List.length_map, List.length_replicate]
            have := (List.getElem?_eq_some_iff.mp hi).1
            exact small1000 (by omega)
          · have np : p ≠ D := ne_of_none e hD
            rw [upd_ne np]
            exact s4 _ _ (s3 _ _ e)
          · rw [upd_same, List.replicate_succ', List.map_append]
            rfl
        · rintro H3 ⟨s3, hD3⟩
          refine ⟨s3 _ _ upd_same, D, _, rfl, SqL.of (by rw [upd_ne nbD]; exact hD3), ?_⟩
          rw [show (List.replicate ls.length true).all id = true by simp]
          refine q _ fun p o e => ?_
          by_cases z : p = b
          · rw [z, upd_same, ← hb, ← z, e]
          · rw [upd_ne z]
            exact s3 _ _ (by rw [upd_ne z]; exact s2 _ _ (s1 _ _ e))
theorem same_none {f : Addr} {fd : FuncData} : FnOk P w K mg base CX0 1 f fd p_law_same (spSame K 0) :=
  ⟨fun _ _ _ _ h => h.elim, fun _ _ _ _ _ _ _ _ _ _ _ _ _ h => h.elim⟩
theorem ok_same (ev : Env P K mg) : ∀ n, FnOk P w K mg base CX0 (n + 1) ev.f_law_same ev.d_law_same p_law_same (spSame K n)
  | 0 => same_none
  | n + 1 => ok_same1 ev (ok_same ev n)

/-! ### one of several -/
def spAnyK (K : PySem.W.Frag) : Sp := fun vs H Q _ => ∃ (b c l : Addr) (xs : List V), vs = [.ref b, .ref l] ∧ Bag H b c ∧ nL K [b, c] H l xs ∧ xs ≠ [] ∧ xs.length ≤ 1000 ∧ ∀ (v : V) (H' : Hp), v ∈ xs → Bag H' b c → Els b c H H' → Q v H'
theorem ok_law_any (ev : Env P K mg) : FnOk P w K mg base CX0 2 ev.f_law_any ev.d_law_any p_law_any (spAnyK K) := by
  refine ev.A_law_any.F.ok sc_law_any (fun vs H Q E h => ?_) (fun cdv A outer s H vs Q E hr h => ?_)
  · obtain ⟨b, c, l, xs, rfl, _⟩ := h
    rfl
  obtain ⟨b, c, l, xs, rfl, hB, hl, hx, h1000, q⟩ := h
  refine ⟨_, (pss_one (ps_ret (pe_ix ix_list (pv 1) (pe_call (ok_law_draw ev) (hr.mono (by decide)) (by rfl) ev.A_law_draw.m ev.A_law_draw.F.kp ev.A_law_draw.b .nil pass0 (pa_cons (pv 0) (pa_cons (pe_callB call_len_seq (by rfl) ev.B.len_ PySem.boot_len (pa_cons (pv 1) pa_nil)) pa_nil))) (fun _ _ => rfl)))), ?_⟩
  have l0 := List.length_pos_iff.mpr hx
  refine ⟨_, rfl, _, rfl, _, rfl, l, _, rfl, .inl hl.sq, b, c, _, rfl, hB, by omega, by omega, fun r H' r0 r1 hB' ex => ?_⟩
  have hl' := hl.mono (show Fr [b, c] H H' from fun p o e n => by
    simp only [List.mem_cons, List.not_mem_nil, or_false, not_or] at n
    exact (ex p n.1 n.2).trans e)
  obtain ⟨v, hv, e⟩ := at_mem (xs := xs) r0 r1
  exact ⟨l, _, _, _, rfl, rfl, hl'.sq, e, q _ _ hv hB' ex⟩

/-! ### ratios, mirrored -/
def ratioP (u : Int) : Prop := u ≠ 0 ∧ u.natAbs < 2 ^ 9000
instance : DecidablePred ratioP := fun u => inferInstanceAs (Decidable (_ ∧ _))
def ratio? (o u : Int) : Option Rat := if ratioP u then some (Rat.divInt o u) else none

/-! ### the law's own ratio -/
def spRat : Sp := fun vs H Q _ => ∃ o u : Int, vs = [.int o, .int u] ∧ u.natAbs < 2 ^ 9000 ∧ u ≠ 0 ∧ ∀ p, H p = none → Q (.ref p) (upd H p (.tup [.int (rN o u), .int (rD o u)]))
theorem ok_law_rat (ev : Env P K mg) : FnOk P w K mg base CX0 1 ev.f_law_rat ev.d_law_rat p_law_rat spRat := by
  refine ev.A_law_rat.F.ok sc_law_rat (fun vs H Q E h => ?_) (fun cdv A outer s H vs Q E hr h => ?_)
  · obtain ⟨o, u, rfl, _⟩ := h
    rfl
  obtain ⟨o, u, rfl, hb, hu0, q⟩ := h
  refine ⟨_, (pss_cons (ps_par (i := 2) (j := 3) (by rfl) sc_law_rat.nd rfl rfl (by decide) rfl rfl (pa_cons (pe_callB call_abs (by rfl) ev.B.abs_ (by decide +kernel) (pa_cons (pv 0) pa_nil)) (pa_cons (pe_callB call_abs (by rfl) ev.B.abs_ (by decide +kernel) (pa_cons (pv 1) pa_nil)) pa_nil)) (by rfl))
    (pss_cons (ps_while PassesOwn.never (pt_cmpR op_gt (pv 3) pe_int (nomark _))
    (pss_one (ps_par (i := 2) (j := 3) (by rfl) sc_law_rat.nd rfl rfl (by decide) rfl rfl (pa_cons (pv 3) (pa_cons (pe_op op_modN (pv 2) (pv 3)) pa_nil)) (by rfl))))
    (pss_cons (ps_if (pt_cmpR op_lt (pv 1) pe_int (nomark _))
    (pss_one (ps_set (i := 2) sc_law_rat.nd rfl (Or.inl rfl) (pe_op op_sub pe_int (pv 2)))) pss_nil)
    (pss_one (ps_ret (pe_tup (pa_cons (pe_op op_fdivZ (pv 0) (pv 2)) (pa_cons (pe_op op_fdivZ (pv 1) (pv 2)) pa_nil)))))))), ?_⟩
  refine ⟨_, rfl, _, rfl, _, rfl, _, rfl, _, _, rfl, ?_⟩
  rw [abs_if, abs_if]
  refine ⟨fun m σ H' => H' = H ∧ ∃ x y : Int, σ = [some (.int o), some (.int u), some (.int x), some (.int y)] ∧ 0 ≤ x ∧ 0 ≤ y ∧ m = y.natAbs ∧ Int.gcd x y = Int.gcd o u, ⟨_, rfl, o.natAbs, u.natAbs, rfl, by omega, by omega, rfl, ?_⟩, ?_⟩
  · unfold Int.gcd
    rw [Int.natAbs_natCast, Int.natAbs_natCast]
  rintro m σ H' ⟨rfl, x, y, rfl, x0, y0, rfl, e⟩
  refine ⟨_, rfl, _, _, rfl, rfl, _, rfl, ?_⟩
  refine ite2 (fun c => ?_) (fun c => ?_)
  · have hy : 0 < y := of_decide_eq_true c
    refine ⟨fun σ' H2 => H2 = H' ∧ σ' = [some (.int o), some (.int u), some (.int y), some (.int (x.fmod y))], ?_, ?_⟩
    · rintro σ' H2 ⟨rfl, rfl⟩
      exact ⟨_, fmod_abs_lt x (by omega), rfl, y, _, rfl, y0, Int.fmod_nonneg_of_pos x hy, rfl, (gcd_fmod x y).trans e⟩
    · exact ⟨_, rfl, _, rfl, _, rfl, _, _, rfl, rfl, (by show y ≠ 0; omega), _, _, rfl, rfl, rfl⟩
  · have hy : y = 0 := by
      have : ¬ 0 < y := fun z => c (decide_eq_true z)
      omega
    subst hy
    rw [Int.gcd_zero_right] at e
    have ex : x = ((Int.gcd o u : Nat) : Int) := by omega
    subst ex
    refine nx_u ?_
    refine seq_by (fun σ H2 => H2 = H' ∧ ∃ y, σ = [some (.int o), some (.int u), some (.int (cOf o u)), y]) ?_ (fun k => ?_)
    rotate_left
    · refine ⟨_, rfl, _, _, rfl, rfl, _, rfl, ?_⟩
      refine ite2 (fun z => ?_) (fun z => ?_)
      · have z' : u < 0 := of_decide_eq_true z
        refine ⟨_, rfl, _, _, rfl, rfl, k _ _ ⟨rfl, some (.int 0), ?_⟩⟩
        unfold cOf
        rw [if_pos z', ← Int.zero_sub]
        all_goals rfl
      · have z' : ¬ u < 0 := fun e => z (decide_eq_true e)
        refine k _ _ ⟨rfl, some (.int 0), ?_⟩
        unfold cOf
        rw [if_neg z']
        all_goals rfl
    rintro σ H' ⟨rfl, y, rfl⟩
    exact ⟨_, rfl, _, rfl, _, _, rfl, rfl, cOf_ok hu0 hb _, _, rfl, _, rfl, _, _, rfl, rfl, cOf_ok hu0 hb _, (by show 2 ≤ sizeLine; decide), fun p hp => q p hp⟩

theorem ev_law_rat {S T : AS} {σ : St} {H : Hp} {E : XK} {ta : TA} {r : Option (Int × Int × Unit)} (h : EvA S T ta σ H (K := K) (aCons tInt (aCons tInt aNil)) r) :
    Ev S T (tCall spRat [] E ta) σ H (of (K := K) tRat S) (bd r fun a => ratio? a.1 a.2.1) := by
  intro z e H1 f1 d Q q
  obtain ⟨x, ex, e⟩ := bd_some e
  unfold ratio? at e
  split at e
  · rename_i hc
    cases e
    refine h x ex H1 f1 d _ fun vs H2 s2 hv => ?_
    obtain ⟨v, _, rfl, h1, w, _, rfl, h2, rfl⟩ := hv
    cases h1
    cases h2
    refine ⟨x.1, x.2.1, rfl, hc.2, hc.1, fun p hp => q _ _ (s2.trans (same_new hp)) ⟨p, rfl, .inl ⟨.inl ?_, (d.same s2).not_mem hp⟩⟩⟩
    rw [upd_same, (rat_rND hc.1).1, (rat_rND hc.1).2]
  · cases e
theorem ew_law_rat {b c : Addr} {S : AS} {σ : St} {H : Hp} {E : XK} {ta : TA} {w : Wp (Int × Int × Unit)} (h : EvWA b c S ta σ H (K := K) (aCons tInt (aCons tInt aNil)) w) :
    EvW b c S (tCall spRat [] E ta) σ H (of (K := K) tRat S) (unW (fun a => ratio? a.1 a.2.1) w) := fun ts P hP H1 f d hB Q q => by
  refine h ts _ hP H1 f d hB _ fun vs H2 x ⟨z, e, hz⟩ f2 d2 hB2 hv => ?_
  dsimp only [ratio?] at e
  split at e
  · rename_i hc
    cases e
    obtain ⟨v, _, rfl, h1, w, _, rfl, h2, rfl⟩ := hv
    cases h1
    cases h2
    refine ⟨x.1, x.2.1, rfl, hc.2, hc.1, fun p hp => q _ _ _ hz (f2.trans (Fr.same (same_new hp))) (d2.same (same_new hp)) (hB2.same (same_new hp)) ⟨p, rfl, .inl ⟨.inl ?_, d2.not_mem hp⟩⟩⟩
    rw [upd_same, (rat_rND hc.1).1, (rat_rND hc.1).2]
  · cases e

/-! ### draws, mirrored -/
theorem els_fr {b c : Addr} {H H' : Hp} (ex : Els b c H H') : Fr [b, c] H H' := fun p o e n => by
  simp only [List.mem_cons, List.not_mem_nil, or_false, not_or] at n
  exact (ex p n.1 n.2).trans e
def drawW (n : Int) : Wp Int := fun P => 0 < n ∧ n < 1073741824 ∧ ∀ r, 0 ≤ r → r < n → P r
def sameW {α : Type} (p : α → Prop) (wa wb : Wp α) : Wp Bool := fun P => wa fun x => wb fun y => x = y ∧ p y ∧ P true
def noSz {α : Type} : α → Prop := fun _ => True
def szT2 {α β : Type} (p : α → Prop) (q : β → Prop) : α × β → Prop := fun x => p x.1 ∧ q x.2
def szT4 {α β γ δ : Type} (p : α → Prop) (q : β → Prop) (r : γ → Prop) (s : δ → Prop) : α × β × γ × δ → Prop := fun x => p x.1 ∧ q x.2.1 ∧ r x.2.2.1 ∧ s x.2.2.2
def szO {α : Type} (p : α → Prop) : Option α → Prop := fun o => ∀ x, o = some x → p x
def szL {α : Type} (p : α → Prop) : List α → Prop := fun xs => xs.length ≤ 1000 ∧ ∀ x ∈ xs, p x
def anyW {α : Type} (xs : List α) : Wp α := fun P => xs ≠ [] ∧ xs.length ≤ 1000 ∧ ∀ x ∈ xs, P x
section
variable {α : Type} {a : Ty K α} {b c : Addr} {S : AS} {σ : St} {H : Hp} {te : TE} {E : XK} {i : Nat}
theorem ew_draw {w : Wp Int} (hi : σ[i]? = some (some (.ref b))) (h : EvW b c S te σ H (of (K := K) tInt S) w) : EvW b c S (tCall spDraw [] E (tCons (tVar i) (tCons te tNil))) σ H (of (K := K) tInt S) (callBW drawW w) := fun ts P hP H1 f d hB Q q => by
  refine ⟨_, hi, h ts _ hP H1 f d hB _ fun v H2 n ⟨n0, n1, hn⟩ f2 d2 hB2 hv => ?_⟩
  cases hv
  exact ⟨b, c, n, rfl, hB2, n0, n1, fun r H' r0 r1 hB' ex => q _ H' r (hn r r0 r1) (f2.trans (els_fr ex)) (dom_fr d2 (els_fr ex) hB') hB' rfl⟩
theorem all2_mem {F : V → α → Prop} : ∀ {vs : List V} {xs : List α} {v : V}, All2 F vs xs → v ∈ vs → ∃ x ∈ xs, F v x
  | _, _, v, .nil, h => by simp at h
  | _, _, v, .cons h r, m => by
    rcases List.mem_cons.mp m with rfl | m
    · exact ⟨_, List.mem_cons_self .., h⟩
    · obtain ⟨x, hx, hv⟩ := all2_mem r m
      exact ⟨x, List.mem_cons_of_mem _ hx, hv⟩
theorem ew_any {w : Wp (List α)} (hi : σ[i]? = some (some (.ref b))) (h : EvW b c S te σ H (of (tL a) S) w) : EvW b c S (tCall (spAnyK K) [] E (tCons (tVar i) (tCons te tNil))) σ H (of a S) (callBW anyW w) := fun ts P hP H1 f d hB Q q => by
  refine ⟨_, hi, h ts _ hP H1 f d hB _ fun v H2 xs ⟨x0, x1, hx⟩ f2 d2 hB2 hv => ?_⟩
  obtain ⟨p, vs, rfl, hp, ha⟩ := hv
  refine ⟨b, c, p, vs, rfl, hB2, hp.sub ts, fun z => x0 (List.length_eq_zero_iff.mp (by rw [← ha.len, z]; rfl)), by rw [ha.len]; exact x1, fun v H' hv hB' ex => ?_⟩
  obtain ⟨x, mx, rx⟩ := all2_mem ha hv
  exact q _ H' x (hx x mx) (f2.trans (els_fr ex)) (dom_fr d2 (els_fr ex) hB') hB' (a.mono ((els_fr ex).sub ts) rx)
theorem ew_anyO {p : Addr} {xs : List α} {j : Nat} (hi : σ[i]? = some (some (.ref b))) (o : Own a S H p xs) (nt : p ∉ [b, c]) (hj : σ[j]? = some (some (.ref p))) : EvW b c S (tCall (spAnyK K) [] E (tCons (tVar i) (tCons (tVar j) tNil))) σ H (of a S) (anyW xs) := fun ts P ⟨x0, x1, hx⟩ H1 f d hB Q q => by
  obtain ⟨vs, hv, ha⟩ := o.fr f ts nt
  refine ⟨_, hi, _, hj, b, c, p, vs, rfl, hB, ⟨hv, nt⟩, fun z => x0 (List.length_eq_zero_iff.mp (by rw [← ha.len, z]; rfl)), by rw [ha.len]; exact x1, fun v H' hv hB' ex => ?_⟩
  obtain ⟨x, mx, rx⟩ := all2_mem ha hv
  exact q _ H' x (hx x mx) (els_fr ex) (dom_fr d (els_fr ex) hB') hB' (a.mono ((els_fr ex).sub ts) rx)
end
/-! ### things that the law finds the same -/
def SmOf {α : Type} (a : Ty K α) (k : Nat) (p : α → Prop) : Prop := ∀ {S S' H v w x}, a.rp S H v x → a.rp S' H w x → p x → ∀ n, k ≤ n → SmT K H n v w
theorem sm_int : SmOf (K := K) tInt 0 noSz := fun h1 h2 _ n _ => by cases h1; cases h2; exact SmT.flat rfl n
theorem sm_bool : SmOf (K := K) tBool 0 noSz := fun h1 h2 _ n _ => by cases h1; cases h2; exact SmT.flat rfl n
theorem sm_none : SmOf (K := K) tNone 0 noSz := fun h1 h2 _ n _ => by cases h1; cases h2; exact SmT.flat rfl n
theorem sm_str : SmOf (K := K) tStr 0 noSz := fun h1 h2 _ n _ => by rw [h1.1, h2.1]; exact SmT.flat rfl n
theorem sm_rat : SmOf (K := K) tRat 1 noSz := fun ⟨p, e, h⟩ ⟨p', e', h'⟩ _ n hn => by
  subst e; subst e'
  obtain ⟨m, rfl⟩ : ∃ m, n = m + 1 := ⟨n - 1, by omega⟩
  exact SmT.tup2 h.sq h'.sq (SmT.flat rfl m) (SmT.flat rfl m)
theorem sm_opt {α : Type} {a : Ty K α} {k : Nat} {p : α → Prop} (h : SmOf a k p) : SmOf (tOpt a) k (szO p) := fun {S S' H v w x} h1 h2 hp n hn => by
  cases x with
  | none => rw [show v = _ from h1, show w = _ from h2]; exact SmT.flat rfl n
  | some y => exact h h1.2 h2.2 (hp y rfl) n hn
theorem sm_t2 {α β : Type} {a : Ty K α} {b : Ty K β} {k l : Nat} {p : α → Prop} {q : β → Prop} (h : SmOf a k p) (h' : SmOf b l q) : SmOf (tT2 a b) (1 + max k l) (szT2 p q) := fun ⟨p, u, w, e, hp, h1, h2⟩ ⟨p', u', w', e', hp', h1', h2'⟩ sz n hn => by
  subst e; subst e'
  obtain ⟨m, rfl⟩ : ∃ m, n = m + 1 := ⟨n - 1, by omega⟩
  exact SmT.tup2 hp.sq hp'.sq (h h1 h1' sz.1 m (by omega)) (h' h2 h2' sz.2 m (by omega))
theorem sm_t4 {α β γ δ : Type} {a : Ty K α} {b : Ty K β} {c : Ty K γ} {d : Ty K δ} {k l i j : Nat} {p : α → Prop} {q : β → Prop} {r : γ → Prop} {s : δ → Prop} (ha : SmOf a k p) (hb : SmOf b l q) (hc : SmOf c i r) (hd : SmOf d j s) : SmOf (tT4 a b c d) (1 + max (max k l) (max i j)) (szT4 p q r s) := fun ⟨p, u1, u2, u3, u4, e, hp, h1, h2, h3, h4⟩ ⟨p', w1, w2, w3, w4, e', hp', g1, g2, g3, g4⟩ sz n hn => by
  subst e; subst e'
  obtain ⟨m, rfl⟩ : ∃ m, n = m + 1 := ⟨n - 1, by omega⟩
  refine SmT.tup hp.sq hp'.sq rfl (by show 4 ≤ 1000; decide) fun i x y ex ey => ?_
  match i, ex, ey with
  | 0, ex, ey => cases ex; cases ey; exact ha h1 g1 sz.1 m (by omega)
  | 1, ex, ey => cases ex; cases ey; exact hb h2 g2 sz.2.1 m (by omega)
  | 2, ex, ey => cases ex; cases ey; exact hc h3 g3 sz.2.2.1 m (by omega)
  | 3, ex, ey => cases ex; cases ey; exact hd h4 g4 sz.2.2.2 m (by omega)
theorem sm_items {α : Type} {a : Ty K α} {k : Nat} {p : α → Prop} (h : SmOf a k p) {S S' : AS} {H : Hp} {vs ws : List V} {xs : List α} (h1 : All2 (a.rp S H) vs xs) (h2 : All2 (a.rp S' H) ws xs) (hp : ∀ x ∈ xs, p x) {m : Nat} (hm : k ≤ m) : ∀ (i : Nat) u v, vs[i]? = some u → ws[i]? = some v → SmT K H m u v := fun i u v eu ev => by
  obtain ⟨x, hx, r1⟩ := h1.getL i eu
  obtain ⟨y, hy, r2⟩ := h2.getL i ev
  rw [hx] at hy
  cases hy
  exact h r1 r2 (hp x (List.mem_of_getElem? hx)) m hm
theorem sm_L {α : Type} {a : Ty K α} {k : Nat} {p : α → Prop} (h : SmOf a k p) : SmOf (tL a) (1 + k) (szL p) := fun ⟨q, vs, e, hq, h1⟩ ⟨q', ws, e', hq', h2⟩ sz n hn => by
  subst e; subst e'
  obtain ⟨m, rfl⟩ : ∃ m, n = m + 1 := ⟨n - 1, by omega⟩
  exact .inr (.inr ⟨q, q', vs, ws, rfl, rfl, hq.sq, hq'.sq, h1.len.trans h2.len.symm, by rw [h1.len]; exact sz.1, sm_items h h1 h2 sz.2 (by omega)⟩)
theorem sm_Ts {α : Type} {a : Ty K α} {k : Nat} {p : α → Prop} (h : SmOf a k p) : SmOf (tTs a) (1 + k) (szL p) := fun ⟨q, vs, e, hq, h1⟩ ⟨q', ws, e', hq', h2⟩ sz n hn => by
  subst e; subst e'
  obtain ⟨m, rfl⟩ : ∃ m, n = m + 1 := ⟨n - 1, by omega⟩
  exact .inr (.inl ⟨q, q', vs, ws, rfl, rfl, hq.sq, hq'.sq, h1.len.trans h2.len.symm, by rw [h1.len]; exact sz.1, sm_items h h1 h2 sz.2 (by omega)⟩)
theorem ew_same {α : Type} {a : Ty K α} {n : Nat} {p : α → Prop} {b c : Addr} {S : AS} {σ : St} {H : Hp} {ta tb : TE} {E : XK} {wa wb : Wp α} (hs : SmOf a n p) (ha : EvW b c S ta σ H (of a S) wa) (hb : EvW b c S tb σ H (of a S) wb) :
    EvW b c S (tCall (spSame K (n + 1)) [] E (tCons ta (tCons tb tNil))) σ H (of (K := K) tBool S) (sameW p wa wb) := fun ts P hP H1 f d hB Q q => by
  refine ha ts _ hP H1 f d hB _ fun v H2 x hx f2 d2 hB2 hv => hb ts _ hx H2 (f.trans f2) d2 hB2 _ fun w H3 y ⟨e, hp, hy⟩ f3 d3 hB3 hw => ?_
  subst e
  exact ⟨_, _, rfl, (hs (a.mono (f3.sub ts) hv) hw hp n (Nat.le_refl _)).sm, fun H' s => q _ H' true hy ((f2.trans f3).trans (Fr.same s)) (d3.same s) (hB3.same s) rfl⟩
theorem ew_sameO {α : Type} {a : Ty K α} {n : Nat} {p : List α → Prop} {b c q : Addr} {S : AS} {σ : St} {H : Hp} {ta : TE} {E : XK} {wa : Wp (List α)} {ys : List α} {i : Nat} (hs : SmOf (tL a) n p) (o : Own a S H q ys) (nt : q ∉ [b, c]) (hi : σ[i]? = some (some (.ref q))) (ha : EvW b c S ta σ H (of (tL a) S) wa) :
    EvW b c S (tCall (spSame K (n + 1)) [] E (tCons ta (tCons (tVar i) tNil))) σ H (of (K := K) tBool S) (sameW p wa (lf (some ys))) := fun ts P hP H1 f d hB Q qq => by
  refine ha ts _ hP H1 f d hB _ fun v H2 x ⟨y, ey, e, hp, hy⟩ f2 d2 hB2 hv => ⟨_, hi, ?_⟩
  cases ey
  subst e
  obtain ⟨vs, hvs, hall⟩ := (o.fr f ts nt).fr f2 ts nt
  have rp0 : (tL a).rp [] H2 (.ref q) x := ⟨q, vs, rfl, ⟨hvs, by simp⟩, hall.imp fun _ _ => a.sub fun _ m => by simp at m⟩
  exact ⟨_, _, rfl, (hs hv rp0 hp n (Nat.le_refl _)).sm, fun H' s => qq _ H' true hy (f2.trans (Fr.same s)) (d2.same s) (hB2.same s) rfl⟩

/-! ### names -/
def lowB (z : Str) : Bool := decide (1 ≤ z.cps.toList.length) && decide (z.cps.toList.length ≤ 6) && z.cps.toList.all fun c => decide (97 ≤ c) && decide (c ≤ 122)
theorem lowB_mk {z : Str} (h1 : 1 ≤ z.cps.toList.length) (h2 : z.cps.toList.length ≤ 6) (h : ∀ c ∈ z.cps.toList, 97 ≤ c ∧ c ≤ 122) : lowB z = true := by
  unfold lowB
  rw [decide_eq_true h1, decide_eq_true h2, Bool.true_and, Bool.true_and, List.all_eq_true]
  intro c hc
  rw [decide_eq_true (h c hc).1, decide_eq_true (h c hc).2]
  rfl
theorem lowB_all {z : Str} (h : lowB z = true) : (1 ≤ z.cps.toList.length ∧ z.cps.toList.length ≤ 6) ∧ ∀ c ∈ z.cps.toList, 97 ≤ c ∧ c ≤ 122 := by
  unfold lowB at h
  rw [Bool.and_eq_true, Bool.and_eq_true, List.all_eq_true] at h
  refine ⟨⟨of_decide_eq_true h.1.1, of_decide_eq_true h.1.2⟩, fun c hc => ?_⟩
  have := h.2 c hc
  rw [Bool.and_eq_true] at this
  exact ⟨of_decide_eq_true this.1, of_decide_eq_true this.2⟩
theorem low_ok {z : Str} (h : lowB z = true) : PyData.strOk z = true := by
  unfold PyData.strOk
  rw [← Array.all_toList, List.all_eq_true]
  intro c hc
  have := ((lowB_all h).2 c hc).2
  exact decide_eq_true (by omega)
theorem at_memA {α : Type} {xs : List α} {r : Int} (h0 : 0 ≤ r) (h : r < (xs.length : Int)) : ∃ v, v ∈ xs ∧ atI xs r = some v := by
  have hk : r.toNat < xs.length := by omega
  have e := atI_nat (xs := xs) (j := r.toNat) (List.getElem?_eq_getElem hk)
  rw [show ((r.toNat : Nat) : Int) = r by omega] at e
  exact ⟨_, List.getElem_mem hk, e⟩
/-- texts of one letter each, glued -/
theorem glue_low : ∀ (zs : List Str), (∀ z ∈ zs, ∃ c : Nat, z = ⟨#[c]⟩ ∧ 97 ≤ c ∧ c ≤ 122) → (Str.join (Str.ofString "") zs).cps.toList.length = zs.length ∧ ∀ c ∈ (Str.join (Str.ofString "") zs).cps.toList, 97 ≤ c ∧ c ≤ 122 := by
  intro zs h
  have e : (Str.join (Str.ofString "") zs).cps.toList = TL.joinL [] (zs.map TL.tl) := TL.tl_join (Str.ofString "") zs
  rw [e]
  clear e
  induction zs with
  | nil => exact ⟨rfl, (fun _ hc => nomatch hc)⟩
  | cons z r ih =>
    obtain ⟨c, rfl, c1, c2⟩ := h z List.mem_cons_self
    have ih' := ih fun x hx => h x (List.mem_cons_of_mem _ hx)
    have e : TL.joinL [] (((⟨#[c]⟩ : Str) :: r).map TL.tl) = c :: TL.joinL [] (r.map TL.tl) := by
      cases r with
      | nil => rfl
      | cons y s => rfl
    rw [e]
    refine ⟨by rw [List.length_cons, ih'.1, List.length_cons], fun x hx => ?_⟩
    rcases List.mem_cons.mp hx with rfl | hx
    · exact ⟨c1, c2⟩
    · exact ih'.2 x hx
theorem lens1 : ∀ (zs : List Str), (∀ z ∈ zs, ∃ c : Nat, z = ⟨#[c]⟩ ∧ 97 ≤ c ∧ c ≤ 122) → (zs.map (·.length)).sum = zs.length
  | [], _ => rfl
  | z :: r, h => by
    obtain ⟨c, rfl, _⟩ := h z List.mem_cons_self
    rw [List.map_cons, List.sum_cons, lens1 r fun x hx => h x (List.mem_cons_of_mem _ hx), List.length_cons]
    show 1 + r.length = r.length + 1
    omega
def spName : Sp := fun vs H Q _ => ∃ (b c : Addr), vs = [.ref b] ∧ Bag H b c ∧ ∀ (z : Str) (H' : Hp), lowB z = true → Bag H' b c → Kept b c H H' → Q (.str z) H'
theorem ok_law_name (ev : Env P K mg) : FnOk P w K mg base CX0 3 ev.f_law_name ev.d_law_name p_law_name spName := by
  refine ev.A_law_name.F.ok sc_law_name (fun vs H Q E h => ?_) (fun cdv A outer s H vs Q E hr h => ?_)
  · obtain ⟨b, c, rfl, _⟩ := h
    rfl
  obtain ⟨b, c, rfl, hB, q⟩ := h
  refine ⟨_, (pss_cons (ps_if (pt_cmpR op_gt (pe_call (ok_law_draw ev) (hr.mono (by decide)) (by rfl) ev.A_law_draw.m ev.A_law_draw.F.kp ev.A_law_draw.b .nil pass0 (pa_cons (pv 0) (pa_cons pe_int pa_nil))) pe_int (nomark _))
    (pss_one (ps_ret (pe_call (ok_law_any ev) (hr.mono (by decide)) (by rfl) ev.A_law_any.m ev.A_law_any.F.kp ev.A_law_any.b .nil pass0 (pa_cons (pv 0) (pa_cons (pe_lst (pa_cons pe_str (pa_cons pe_str (pa_cons pe_str (pa_cons pe_str (pa_cons pe_str (pa_cons pe_str (pa_cons pe_str (pa_cons pe_str pa_nil))))))))) pa_nil))))) pss_nil)
    (pss_cons (ps_set (i := 1) sc_law_name.nd rfl (Or.inr rfl) pe_str)
    (pss_one (ps_ret (pe_join pe_str (pe_lc (own := [("_law_k", 2)]) (g := gName 2) (tt := tYes) (by rfl) sc_law_name.nd (pi_range1 rfl ev.B.range_ (pa_cons (pe_op op_add pe_int (pe_call (ok_law_draw ev) (hr.mono (by decide)) (by rfl) ev.A_law_draw.m ev.A_law_draw.F.kp ev.A_law_draw.b .nil pass0 (pa_cons (pv 0) (pa_cons pe_int pa_nil)))) pa_nil)) (blkOk_by (own := [("_law_k", 2)]) (N := n_law_name) (sc := defScope s_law_name) (by decide +kernel)) (fun _ _ _ _ _ => pg_name (i := 2) sc_law_name.nd rfl (Or.inl rfl)) (fun _ _ _ _ _ => pts_nil) (fun _ _ _ _ _ => (pe_ix ix_str (pv 1) (pe_call (ok_law_draw ev) (hr.mono (by decide)) (by rfl) ev.A_law_draw.m ev.A_law_draw.F.kp ev.A_law_draw.b .nil pass0 (pa_cons (pv 0) (pa_cons pe_int pa_nil))) (fun _ _ => rfl))))))))), ?_⟩
  refine ⟨_, rfl, b, c, 4, rfl, hB, by decide, by decide, fun r H1 r0 r1 hB1 ex1 => ⟨_, _, rfl, rfl, _, rfl, ite2 (fun _ => ?_) (fun _ => ?_)⟩⟩
  · refine ⟨_, rfl, (by show 8 ≤ sizeLine; decide), fun l nl => ?_⟩
    obtain ⟨lb, lc⟩ := hB1.off nl
    refine ⟨b, c, l, _, rfl, hB1.upd nl, ⟨upd_same, by simp [lb, lc]⟩, (fun z => nomatch z), (by show 8 ≤ 1000; decide), fun v H2 hv hB2 ex2 => ?_⟩
    obtain ⟨z, rfl, hz⟩ : ∃ z : Str, v = .str z ∧ lowB z = true := by
      simp only [List.mem_cons, List.not_mem_nil, or_false] at hv
      rcases hv with rfl | rfl | rfl | rfl | rfl | rfl | rfl | rfl <;> exact ⟨_, rfl, by decide +kernel⟩
    exact q z H2 hz hB2 (ex1.kept.trans ((kept_same (same_upd nl)).trans ex2.kept))
  refine next_u ?_
  refine seq_c ?_
  refine ⟨⟨_, rfl⟩, _, rfl, b, c, 6, rfl, hB1, by decide, by decide, fun r2 H2 g0 g1 hB2 ex2 => ⟨_, _, rfl, rfl, _, rfl, by omega, by omega, fun D hD => ?_⟩⟩
  obtain ⟨Db, Dc⟩ := hB2.off hD
  refine lc_range (lo := 0) (n := (1 + r2).toNat) (fun i H3 => Bag H3 b c ∧ Kept b c H2 H3 ∧ ∃ zs : List Str, H3 D = some (.lst (zs.map V.str)) ∧ zs.length = i ∧ ∀ z ∈ zs, ∃ ch : Nat, z = ⟨#[ch]⟩ ∧ 97 ≤ ch ∧ ch ≤ 122)
    ⟨hB2.upd hD, kept_same (same_upd hD), [], upd_same, rfl, (fun _ hz => nomatch hz)⟩ ?_ ?_
  · rintro i H3 hi ⟨hB3, kp3, zs, hD3, hl, hz⟩
    refine ⟨rfl, yes_ ?_⟩
    refine ⟨_, rfl, _, rfl, b, c, 26, rfl, hB3, by decide, by decide, fun r3 H4 f0 f1 hB4 ex4 => ?_⟩
    have hD4 : H4 D = some (.lst (zs.map V.str)) := (ex4 D Db Dc).trans hD3
    have all26 : ∀ ch ∈ (Str.ofString "abcdefghijklmnopqrstuvwxyz").cps.toList, 97 ≤ ch ∧ ch ≤ 122 := by decide +kernel
    obtain ⟨ch, hc, e⟩ := at_memA (xs := (Str.ofString "abcdefghijklmnopqrstuvwxyz").cps.toList) f0 (show r3 < ((Str.ofString "abcdefghijklmnopqrstuvwxyz").cps.toList.length : Int) from f1)
    refine ⟨_, _, ch, rfl, rfl, (by decide), e, _, hD4, ?_, ?_, ?_, zs ++ [⟨#[ch]⟩], ?_, ?_, ?_⟩
    · rw [List.length_map, hl]
      exact small1000 (by omega)
    · obtain ⟨ne, ns, sl, sd, h1, h2, rr⟩ := hB4
      exact ⟨ne, ns, sl, sd, by rw [upd_ne Db.symm]; exact h1, by rw [upd_ne Dc.symm]; exact h2, rr⟩
    · intro p o e1 n1 n2
      have z := kp3 p o e1 n1 n2
      have np : p ≠ D := ne_of_none e1 hD
      rw [upd_ne np]
      exact ex4.kept p o z n1 n2
    · rw [upd_same, List.map_append]
      rfl
    · rw [List.length_append, hl]
      rfl
    · intro z hzz
      rcases List.mem_append.mp hzz with hzz | hzz
      · exact hz z hzz
      · rw [List.mem_singleton.mp hzz]
        exact ⟨ch, rfl, all26 ch hc⟩
  · rintro H3 ⟨hB3, kp3, zs, hD3, hl, hz⟩
    have g := glue_low zs hz
    have ln : zs.length ≤ 6 ∧ 1 ≤ zs.length := by omega
    refine ⟨_, D, zs, rfl, rfl, .inl (SqL.of hD3), ?_, ?_⟩
    · rw [lens1 zs hz]
      show zs.length + zs.length * 0 ≤ 16777216
      omega
    · rw [TL.join_eq]
      exact q _ H3 (lowB_mk (by rw [g.1]; exact ln.2) (by rw [g.1]; exact ln.1) g.2) hB3 (ex1.kept.trans (ex2.kept.trans kp3))
def nameW : Wp Str := fun P => ∀ z : Str, lowB z = true → P z
theorem kept_fr {b c : Addr} {H H' : Hp} (k : Kept b c H H') : Fr [b, c] H H' := fun p o e n => by
  simp only [List.mem_cons, List.not_mem_nil, or_false, not_or] at n
  exact k p o e n.1 n.2
theorem ew_name {b c : Addr} {S : AS} {σ : St} {H : Hp} {E : XK} {i : Nat} (hi : σ[i]? = some (some (.ref b))) : EvW b c S (tCall spName [] E (tCons (tVar i) tNil)) σ H (of (K := K) tStr S) nameW := fun ts P hP H1 f d hB Q q =>
  ⟨_, hi, b, c, rfl, hB, fun z H' hz hB' kp => q _ H' z (hP z hz) (kept_fr kp) (dom_fr d (kept_fr kp) hB') hB' ⟨rfl, low_ok hz⟩⟩

/-! ### same by a relation: tuples of several kinds, dicts in any order -/
section
variable {α β γ κ : Type} {a : Ty K α} {b' : Ty K β} {t : TyA K β}
def SmA (t : TyA K α) (k : Nat) (p : α → Prop) : Prop := ∀ {S S' H vs ws x}, t.rp S H vs x → t.rp S' H ws x → p x → ∀ n, k ≤ n → vs.length = ws.length ∧ ∀ (i : Nat) u v, vs[i]? = some u → ws[i]? = some v → SmT K H n u v
theorem sma_nil : SmA (K := K) aNil 0 noSz := fun {S S' H vs ws x} h1 h2 _ n _ => by
  rw [show vs = [] from h1, show ws = [] from h2]
  exact ⟨rfl, fun i u v e => by simp at e⟩
theorem sma_cons {k l : Nat} {p : α → Prop} {q : β → Prop} (h : SmOf a k p) (h' : SmA t l q) : SmA (aCons a t) (max k l) (szT2 p q) := by
  rintro S S' H vs ws x ⟨v, r, rfl, h1, h2⟩ ⟨v', r', rfl, h1', h2'⟩ hp n hn
  obtain ⟨l1, l2⟩ := h' h2 h2' hp.2 n (by omega)
  refine ⟨by simp [l1], fun i u w e e' => ?_⟩
  cases i with
  | zero => cases e; cases e'; exact h h1 h1' hp.1 n (by omega)
  | succ i => exact l2 i u w (by simpa using e) (by simpa using e')
theorem sm_tu {t : TyA K α} [XA t] {n k : Nat} [LA t n] {p : α → Prop} (hn : n ≤ 1000) (h : SmA t k p) : SmOf (tTu t) (1 + k) p := fun {S S' H v w x} ⟨q, vs, e, hq, h1⟩ ⟨q', ws, e', hq', h2⟩ sz m hm => by
  subst e; subst e'
  obtain ⟨m, rfl⟩ : ∃ j, m = j + 1 := ⟨m - 1, by omega⟩
  obtain ⟨l1, l2⟩ := h h1 h2 sz m (by omega)
  exact SmT.tup hq.sq hq'.sq l1 (by rw [LA.len h1]; exact hn) l2
def SmR (a : Ty K α) (k : Nat) (R : α → α → Prop) : Prop := ∀ {S S' H v w x y}, a.rp S H v x → a.rp S' H w y → R x y → ∀ n, k ≤ n → Sm K H n v w
def sEq (p : α → Prop) : α → α → Prop := fun x y => x = y ∧ p y
theorem smr_of {k : Nat} {p : α → Prop} (h : SmOf a k p) : SmR a k (sEq p) := fun h1 h2 ⟨e, hp⟩ n hn => by
  subst e
  exact (h h1 h2 hp n hn).sm
def sDict (p : β → Prop) : List (κ × β) → List (κ × β) → Prop := fun x y => x.Perm y ∧ y.length < 64 ∧ ∀ z ∈ y, p z.2
theorem getK_mem [DecidableEq κ] {k : κ} {v : β} : ∀ {xs : List (κ × β)}, (xs.map Prod.fst).Nodup → (getK xs k = some v ↔ (k, v) ∈ xs)
  | [], _ => by simp [getK]
  | x :: r, n => by
    rw [List.map_cons, List.nodup_cons] at n
    have ih := getK_mem (k := k) (v := v) n.2
    by_cases e : x.1 = k
    · have e1 : getK (x :: r) k = some x.2 := by simp [getK, List.find?_cons, e]
      rw [e1]
      constructor
      · intro h
        cases h
        subst e
        exact List.mem_cons_self ..
      · intro h
        rcases List.mem_cons.mp h with h | h
        · rw [← h]
        · exact absurd (List.mem_map.mpr ⟨_, h, rfl⟩) (e ▸ n.1)
    · have e1 : getK (x :: r) k = getK r k := by simp [getK, List.find?_cons, e]
      rw [e1, ih]
      constructor
      · exact List.mem_cons_of_mem _
      · intro h
        rcases List.mem_cons.mp h with h | h
        · exact absurd (by rw [← h]) e
        · exact h
theorem all2_memL {F : V → α → Prop} : True := trivial
theorem kv_mem [KeyC κ] {S : AS} {H : Hp} {kv : Key × V} : ∀ {kvs : List (Key × V)} {xs : List (κ × β)}, All2 (KvP b' S H) kvs xs → kv ∈ kvs → ∃ x ∈ xs, KvP b' S H kv x
  | _, _, .nil, m => by simp at m
  | _, _, .cons h r, m => by
    rcases List.mem_cons.mp m with rfl | m
    · exact ⟨_, List.mem_cons_self .., h⟩
    · obtain ⟨x, hx, hv⟩ := kv_mem r m
      exact ⟨x, List.mem_cons_of_mem _ hx, hv⟩
theorem valV_mem {ks : List (Key × V)} {k : Key} {u : V} (h : valV ks k = some u) : (k, u) ∈ ks := by
  unfold valV at h
  obtain ⟨p, hp, e⟩ := Option.map_eq_some_iff.mp h
  have h1 := List.find?_some hp
  have h2 := List.mem_of_find?_eq_some hp
  have h3 : p.1 = k := of_decide_eq_true h1
  subst h3
  subst e
  exact h2
theorem keys_kk [KeyC κ] {S : AS} {H : Hp} : ∀ {kvs : List (Key × V)} {xs : List (κ × β)}, All2 (KvP b' S H) kvs xs → kvs.map (·.1) = (xs.map Prod.fst).map KeyC.kk ∧ ∀ z ∈ xs.map Prod.fst, KeyC.ok z
  | _, _, .nil => ⟨rfl, fun z hz => by simp at hz⟩
  | kv :: kvs, x :: xs, .cons h r => by
    obtain ⟨e1, e2⟩ := keys_kk r
    refine ⟨by rw [List.map_cons, List.map_cons, List.map_cons, e1, h.1], fun z hz => ?_⟩
    rw [List.map_cons] at hz
    rcases List.mem_cons.mp hz with rfl | hz
    · exact h.2.1
    · exact e2 z hz
theorem nodup_kk [KeyC κ] : ∀ {l : List κ}, l.Nodup → (l.map (KeyC.kk : κ → Key)).Nodup
  | [], _ => List.nodup_nil
  | x :: r, h => by
    rw [List.nodup_cons] at h
    rw [List.map_cons, List.nodup_cons]
    refine ⟨fun hm => ?_, nodup_kk h.2⟩
    obtain ⟨y, hy, e⟩ := List.mem_map.mp hm
    rw [KeyC.inj e] at hy
    exact h.1 hy
theorem smr_D [KeyC κ] [DecidableEq κ] (hK : ∀ l : List κ, (∀ z ∈ l, KeyC.ok z) → KOk (l.map KeyC.kk)) {k : Nat} {p : β → Prop} (h : SmOf b' k p) : SmR (tD κ b') (1 + k) (sDict p) := by
  rintro S S' H v w x y ⟨a1, ks, rfl, hp, ha, hn⟩ ⟨a2, ls, rfl, hp', ha', hn'⟩ ⟨pm, l64, hz⟩ n hk
  obtain ⟨m, rfl⟩ : ∃ j, n = j + 1 := ⟨n - 1, by omega⟩
  obtain ⟨k1, o1⟩ := keys_kk ha
  obtain ⟨k2, o2⟩ := keys_kk ha'
  refine .inr (.inr (.inr ⟨a1, a2, ks, ls, rfl, rfl, hp.1, hp'.1, ?_, ?_, by rw [ha'.len]; exact l64, ?_, ?_, fun key u v e e' => ?_⟩))
  · rw [k1, k2]
    exact (pm.map _).map _
  · rw [k2]
    exact nodup_kk hn'
  · rw [k2]; exact hK _ o2
  · rw [k1]; exact hK _ o1
  · obtain ⟨z, hzx, e1, _, r1⟩ := kv_mem ha (valV_mem e)
    obtain ⟨z', hzy, e2, _, r2⟩ := kv_mem ha' (valV_mem e')
    have ez : z.1 = z'.1 := KeyC.inj (e1.symm.trans e2)
    have m1 : (z'.1, z.2) ∈ y := by rw [← ez]; exact pm.mem_iff.mp hzx
    have m2 := (getK_mem hn').mpr m1
    have m3 := (getK_mem hn').mpr (show (z'.1, z'.2) ∈ y from hzy)
    rw [m2] at m3
    have e3 : z.2 = z'.2 := Option.some.inj m3
    rw [e3] at r1
    exact h r1 r2 (hz z' hzy) m (by omega)
theorem smr_DS {k : Nat} {p : β → Prop} (h : SmOf b' k p) : SmR (tD Str b') (1 + k) (sDict p) := smr_D (fun l hl => .inr ⟨l, rfl, hl⟩) h
theorem smr_DI {k : Nat} {p : β → Prop} (h : SmOf b' k p) : SmR (tD Int b') (1 + k) (sDict p) := smr_D (fun l hl => .inl ⟨l, rfl⟩) h
def sameR (R : α → α → Prop) (wa wb : Wp α) : Wp Bool := fun P => wa fun x => wb fun y => R x y ∧ P true
open Classical in
noncomputable def smq (R : α → α → Prop) (x y : α) : Option Bool := if R x y then some true else none
theorem smq_some {R : α → α → Prop} {x y : α} {z : Bool} (h : smq R x y = some z) : R x y ∧ z = true := by
  unfold smq at h
  split at h
  · rename_i c; cases h; exact ⟨c, rfl⟩
  · cases h
theorem smq_of {R : α → α → Prop} {x y : α} (h : R x y) : smq R x y = some true := by
  unfold smq
  rw [if_pos h]
theorem ew_sameR {n : Nat} {R : α → α → Prop} {b c : Addr} {S : AS} {σ : St} {H : Hp} {ta tb : TE} {E : XK} {wa wb : Wp α} (hs : SmR a n R) (ha : EvW b c S ta σ H (of a S) wa) (hb : EvW b c S tb σ H (of a S) wb) :
    EvW b c S (tCall (spSame K (n + 1)) [] E (tCons ta (tCons tb tNil))) σ H (of (K := K) tBool S) (sameR R wa wb) := fun ts P hP H1 f d hB Q q => by
  refine ha ts _ hP H1 f d hB _ fun v H2 x hx f2 d2 hB2 hv => hb ts _ hx H2 (f.trans f2) d2 hB2 _ fun w H3 y ⟨e, hy⟩ f3 d3 hB3 hw => ?_
  exact ⟨_, _, rfl, hs (a.mono (f3.sub ts) hv) hw e n (Nat.le_refl _), fun H' s => q _ H' true hy ((f2.trans f3).trans (Fr.same s)) (d3.same s) (hB3.same s) rfl⟩
theorem ev_sameR {n : Nat} {R : α → α → Prop} {S T : AS} {σ : St} {H : Hp} {ta tb : TE} {E : XK} {ra rb : Option α} (hs : SmR a n R) (ha : Ev S T ta σ H (of a S) ra) (hb : Ev S T tb σ H (of a S) rb) :
    Ev S T (tCall (spSame K (n + 1)) [] E (tCons ta (tCons tb tNil))) σ H (of (K := K) tBool S) (bd ra fun x => bd rb fun y => smq R x y) := by
  intro z e H1 f1 d Q q
  obtain ⟨x, ex, e⟩ := bd_some e
  obtain ⟨y, ey, e⟩ := bd_some e
  obtain ⟨hR, rfl⟩ := smq_some e
  refine ha x ex H1 f1 d _ fun v H2 s2 hv => hb y ey H2 (f1.trans (Fr.same s2)) (d.same s2) _ fun w H3 s3 hw => ?_
  exact ⟨_, _, rfl, hs (a.mono (Fr.same s3) hv) hw hR n (Nat.le_refl _), fun H' s => q _ H' (s2.trans (s3.trans s)) rfl⟩
end

end
end G

namespace G
open PySem L2 M
section
variable {P : Program} {w : World} {K : PySem.W.Frag} {mg : Str → Option Value} {base : Heap}

def m_law_ratio (d_law_reach : Int) (P : Rat → Prop) : Prop :=
  ((callBW anyW (lf (bd (some (1 : Int)) fun x => bd (bd (some (1 : Int)) fun x => bd (bd (some (2 : Int)) fun x => bd (bd (some (2 : Int)) fun x => bd (bd (some (3 : Int)) fun x => bd (bd (some (4 : Int)) fun x => bd (bd (some (7 : Int)) fun x => bd (bd (some (60 : Int)) fun x => bd (some []) fun y => some (x :: y)) fun y => some (x :: y)) fun y => some (x :: y)) fun y => some (x :: y)) fun y => some (x :: y)) fun y => some (x :: y)) fun y => some (x :: y)) fun y => some (x :: y)))) fun law_low_1 => (lf (bd (some d_law_reach) fun x => bd (some law_low_1) fun y => mul? x y) fun law_room_2 => ((unW (fun a => ratio? a.1 a.2.1) (tup2W (opW (fun x y => some (x - y)) (callBW drawW (lf (bd (bd (some (2 : Int)) fun x => bd (some law_room_2) fun y => mul? x y) fun x => bd (some (1 : Int)) fun y => some (x + y)))) (lf (some law_room_2))) (tup2W (lf (some law_low_1)) (lf (some ()))))) P)))
abbrev sp_law_ratio (K : PySem.W.Frag) : Sp := spB (K := K) (aCons tInt aNil) (fun S => of (K := K) tRat S) (fun a => m_law_ratio a.1)
theorem ok_law_ratio (ev : Env P K mg) : FnOk P w K mg base CX0 3 ev.f_law_ratio ev.d_law_ratio p_law_ratio (sp_law_ratio K) := by
  refine ev.A_law_ratio.F.ok sc_law_ratio (fun vs H Q E h => ?_) (fun cdv A outer s H0 vs Q E hr h => ?_)
  · obtain ⟨S, b, c, r, ⟨d_law_reach, _⟩, P, rfl, _, _, _, ⟨v_law_reach, _, rfl, h_law_reach, rfl⟩, _⟩ := h
    rfl
  obtain ⟨S, b, c, r, ⟨d_law_reach, _⟩, P, rfl, dm, ts, hB, ⟨v_law_reach, _, rfl, h_law_reach, rfl⟩, hm, q⟩ := h
  have fr0 := Fr.refl (T := [b, c]) H0
  have sub0 : Sub S S := fun a m => m
  refine ⟨_, (pss_cons (ps_set (i := 2) sc_law_ratio.nd rfl (Or.inl rfl) (pe_call (ok_law_any ev) (hr.mono (by decide)) (by rfl) ev.A_law_any.m ev.A_law_any.F.kp ev.A_law_any.b .nil pass0 (pa_cons (pv 0) (pa_cons (pe_lst (pa_cons pe_int (pa_cons pe_int (pa_cons pe_int (pa_cons pe_int (pa_cons pe_int (pa_cons pe_int (pa_cons pe_int (pa_cons pe_int pa_nil))))))))) pa_nil))))
    (pss_cons (ps_set (i := 3) sc_law_ratio.nd rfl (Or.inl rfl) (pe_op op_mulW (pv 1) (pv 2)))
    (pss_one (ps_ret (pe_call (ok_law_rat ev) (hr.mono (by decide)) (by rfl) ev.A_law_rat.m ev.A_law_rat.F.kp ev.A_law_rat.b .nil pass0 (pa_cons (pe_op op_sub (pe_call (ok_law_draw ev) (hr.mono (by decide)) (by rfl) ev.A_law_draw.m ev.A_law_draw.F.kp ev.A_law_draw.b .nil pass0 (pa_cons (pv 0) (pa_cons (pe_op op_add (pe_op op_mulW pe_int (pv 3)) pe_int) pa_nil))) (pv 3)) (pa_cons (pv 2) pa_nil))))))), ?_⟩
  dsimp only [m_law_ratio] at hm
  refine qw_asg dm hB ts (ew_any rfl (ew_pure (ev_new (ev_lst (el_cons (ev_int (K := K)) (el_cons (ev_int (K := K)) (el_cons (ev_int (K := K)) (el_cons (ev_int (K := K)) (el_cons (ev_int (K := K)) (el_cons (ev_int (K := K)) (el_cons (ev_int (K := K)) (el_cons (ev_int (K := K)) el_nil)))))))) (by decide))))) hm (fun v_law_low H1 law_low_1 hm fr1 dm1 hB1 h_law_low => ?_)
  have fr0 := fr0.trans fr1
  have h_law_reach := (tInt : Ty K Int).mono (S := S) (fr1.sub ts) h_law_reach
  have dm := dm1
  have hB := hB1
  have h_law_low : (tInt : Ty K Int).rp S H1 v_law_low law_low_1 := h_law_low
  obtain ⟨law_room_2, e2, hm⟩ := hm
  refine q_asg (T := [b, c]) dm (ev_op (od_mul (K := K)) (ev_var ts h_law_reach rfl) (ev_var ts h_law_low rfl)) e2 (fun v_law_room H2 s2 h_law_room => ?_)
  have fr0 := fr0.trans (Fr.same s2)
  have dm := dm.same s2
  have h_law_reach := (tInt : Ty K Int).mono (S := S) (Fr.same s2) h_law_reach
  have h_law_low := (tInt : Ty K Int).mono (S := S) (Fr.same s2) h_law_low
  have hB := hB.same s2
  have h_law_room : (tInt : Ty K Int).rp S H2 v_law_room law_room_2 := h_law_room
  exact qw_ret dm hB ts (ew_law_rat (wa_cons (ew_op (od_sub (K := K)) (ew_draw (K := K) rfl (ew_pure (ev_op (od_add (K := K)) (ev_op (od_mul (K := K)) (ev_int (K := K)) (ev_var ts h_law_room rfl)) (ev_int (K := K))))) (ew_pure (ev_var ts h_law_room rfl))) (wa_cons (ew_pure (ev_var ts h_law_low rfl)) wa_nil))) hm (fun v H3 z hm fr3 dm3 hB3 hv => q v H3 z hm (fr0.trans fr3) hB3 ((tRat : Ty K Rat).sub (S := S) (H := H3) sub0 hv))
def m_law_spot (d_law_reach : Int) (P : (Rat × Rat) → Prop) : Prop :=
  ((tup2W (callBW (fun a => m_law_ratio a.1) (tup2W (lf (some d_law_reach)) (lf (some ())))) (callBW (fun a => m_law_ratio a.1) (tup2W (lf (some d_law_reach)) (lf (some ()))))) P)
abbrev sp_law_spot (K : PySem.W.Frag) : Sp := spB (K := K) (aCons tInt aNil) (fun S => of (K := K) (tT2 tRat tRat) S) (fun a => m_law_spot a.1)
theorem ok_law_spot (ev : Env P K mg) : FnOk P w K mg base CX0 4 ev.f_law_spot ev.d_law_spot p_law_spot (sp_law_spot K) := by
  refine ev.A_law_spot.F.ok sc_law_spot (fun vs H Q E h => ?_) (fun cdv A outer s H0 vs Q E hr h => ?_)
  · obtain ⟨S, b, c, r, ⟨d_law_reach, _⟩, P, rfl, _, _, _, ⟨v_law_reach, _, rfl, h_law_reach, rfl⟩, _⟩ := h
    rfl
  obtain ⟨S, b, c, r, ⟨d_law_reach, _⟩, P, rfl, dm, ts, hB, ⟨v_law_reach, _, rfl, h_law_reach, rfl⟩, hm, q⟩ := h
  have fr0 := Fr.refl (T := [b, c]) H0
  have sub0 : Sub S S := fun a m => m
  refine ⟨_, (pss_one (ps_ret (pe_tup (pa_cons (pe_call (ok_law_ratio ev) (hr.mono (by decide)) (by rfl) ev.A_law_ratio.m ev.A_law_ratio.F.kp ev.A_law_ratio.b .nil pass0 (pa_cons (pv 0) (pa_cons (pv 1) pa_nil))) (pa_cons (pe_call (ok_law_ratio ev) (hr.mono (by decide)) (by rfl) ev.A_law_ratio.m ev.A_law_ratio.F.kp ev.A_law_ratio.b .nil pass0 (pa_cons (pv 0) (pa_cons (pv 1) pa_nil))) pa_nil))))), ?_⟩
  dsimp only [m_law_spot] at hm
  exact qw_ret dm hB ts (ew_tup2 (ew_callB rfl (wa_cons (ew_pure (ev_var ts h_law_reach rfl)) wa_nil)) (ew_callB rfl (wa_cons (ew_pure (ev_var ts h_law_reach rfl)) wa_nil))) hm (fun v H1 z hm fr1 dm1 hB1 hv => q v H1 z hm (fr0.trans fr1) hB1 (((tT2 tRat tRat) : Ty K (Rat × Rat)).sub (S := S) (H := H1) sub0 hv))
def m_law_names (d_law_many : Int) (P : (List Str) → Prop) : Prop :=
  (lf (some []) fun law_found_1 => ((lf (bd (some d_law_many) rng1?)) fun xs8 => loopW (fun s_2 law_k_2 K2 => (nameW fun law_name_here_3 => (jn (fun J4 => (lf (bd (some law_name_here_3) fun x => bd (some s_2) fun y => some (!memD x y)) fun c4 => if c4 then (lf (some law_name_here_3) fun a5 => (lf (app? s_2 a5) fun law_found_6 => J4 law_found_6)) else J4 s_2)) fun j7 => K2 (Ct.go j7)))) xs8 law_found_1 fun r_2 => match r_2 with | .ret y => P y | .go t_2 => (lf (some t_2) P) | .brk _ => False))
abbrev sp_law_names (K : PySem.W.Frag) : Sp := spB (K := K) (aCons tInt aNil) (fun S => nw (K := K) tStr S) (fun a => m_law_names a.1)
theorem ok_law_names (ev : Env P K mg) : FnOk P w K mg base CX0 4 ev.f_law_names ev.d_law_names p_law_names (sp_law_names K) := by
  refine ev.A_law_names.F.ok sc_law_names (fun vs H Q E h => ?_) (fun cdv A outer s H0 vs Q E hr h => ?_)
  · obtain ⟨S, b, c, r, ⟨d_law_many, _⟩, P, rfl, _, _, _, ⟨v_law_many, _, rfl, h_law_many, rfl⟩, _⟩ := h
    rfl
  obtain ⟨S, b, c, r, ⟨d_law_many, _⟩, P, rfl, dm, ts, hB, ⟨v_law_many, _, rfl, h_law_many, rfl⟩, hm, q⟩ := h
  have fr0 := Fr.refl (T := [b, c]) H0
  have sub0 : Sub S S := fun a m => m
  refine ⟨_, (pss_cons (ps_set (i := 2) sc_law_names.nd rfl (Or.inl rfl) (pe_lst pa_nil))
    (pss_cons (ps_for PassesOwn.never rfl (pi_range1 rfl ev.B.range_ (pa_cons (pv 1) pa_nil)) (pg_name (i := 3) sc_law_names.nd rfl (Or.inl rfl))
    (pss_cons (ps_set (i := 4) sc_law_names.nd rfl (Or.inl rfl) (pe_call (ok_law_name ev) (hr.mono (by decide)) (by rfl) ev.A_law_name.m ev.A_law_name.F.kp ev.A_law_name.b .nil pass0 (pa_cons (pv 0) pa_nil)))
    (pss_one (ps_if (pt_cmpR (op_notInD hr.units65) (pv 4) (pv 2) (by rfl))
    (pss_one (ps_expr (pe_bm PySem.F.plainAttrs_list PySem.F.slot_list_append PySem.F.type_list_append mt_append (pv 2) (pa_cons (pv 4) pa_nil)))) pss_nil))))
    (pss_one (ps_ret (pv 2))))), ?_⟩
  dsimp only [m_law_names] at hm
  obtain ⟨law_found_1, e1, hm⟩ := hm
  refine q_asg (T := [b, c]) dm (ev_lst0 (a := (tStr : Ty K Str))) e1 (fun v_law_found H1 s1 hx => ?_)
  obtain ⟨p_law_found, rfl, np_law_found, o_law_found⟩ := hx
  have ns_law_found : p_law_found ∉ S := dm.not_mem np_law_found
  have nb_law_found : p_law_found ∉ S := fun m => ns_law_found (sub0 _ m)
  have n0_law_found := fr_back fr0 hB.dom np_law_found
  have nt_law_found := hB.dom.not_mem np_law_found
  have fr0 := fr0.trans (Fr.same s1)
  have h_law_many := (tInt : Ty K Int).mono (Fr.same s1) ((tInt : Ty K Int).ext (S := S) np_law_found h_law_many)
  have dm := (dm.same s1).cons o_law_found.choose_spec.1
  have ts := sub_cons (p := p_law_found) ts
  have sub0 := sub_cons (p := p_law_found) sub0
  have im_law_found : p_law_found ∈ p_law_found :: S := List.mem_cons_self ..
  have hB := hB.same s1
  refine qw_for_s dm hB ts (srw_pure (sr_r1 (K := K) (ev_var ts h_law_many rfl))) hm (fun s_2 σ' H' => ∃ v_law_many : V, ∃ f_3 : Option V, ∃ f_4 : Option V, σ' = [some (.ref b), some v_law_many, some (.ref p_law_found), f_3, f_4] ∧ Fr [b, c] H0 H' ∧ Dom (p_law_found :: S) H' ∧ Bag H' b c ∧ (tInt : Ty K Int).rp (p_law_found :: S) H' v_law_many d_law_many ∧ Own (tStr : Ty K Str) (p_law_found :: S) H' p_law_found s_2) (fun H2 fr2 dm2 hB2 => ?_) (fun hd2 s_2 law_k_2 C2 v_law_k σ' H' hI h_law_k hm hret2 hbrk2 => ?_) (fun t_2 σ' H' hm hI => ?_)
  · skip
    have fr0 := fr0.trans fr2
    have h_law_many := (tInt : Ty K Int).mono (S := (p_law_found :: S)) (fr2.sub ts) h_law_many
    have o_law_found := o_law_found.fr fr2 ts nt_law_found
    have dm := dm2
    have hB := hB2
    exact ⟨v_law_many, _, _, rfl, fr0, dm, hB, h_law_many, o_law_found⟩
  · skip
    obtain ⟨v_law_many, f_3, f_4, rfl, fr0, dm, hB, h_law_many, o_law_found⟩ := hI
    let HL := H'
    have freshl : ∀ a ∈ (p_law_found :: S), a ∉ (p_law_found :: S) → H' a = none := fun a m n => absurd m n
    have frl : Fr (p_law_found :: S) HL H' := Fr.refl (T := (p_law_found :: S)) H'
    have tsl := ts
    have subl : Sub (p_law_found :: S) (p_law_found :: S) := fun a m => m
    have iml_law_found := im_law_found
    have h_law_k : (tInt : Ty K Int).rp (p_law_found :: S) H' v_law_k law_k_2 := h_law_k
    refine qw_asg dm hB ts (ew_name (K := K) rfl) hm (fun v_law_name_here H3 law_name_here_3 hm fr3 dm3 hB3 h_law_name_here => ?_)
    have fr0 := fr0.trans fr3
    have frl := frl.trans (fr3.sub tsl)
    have h_law_many := (tInt : Ty K Int).mono (S := (p_law_found :: S)) (fr3.sub ts) h_law_many
    have o_law_found := o_law_found.fr fr3 ts nt_law_found
    have h_law_k := (tInt : Ty K Int).mono (S := (p_law_found :: S)) (fr3.sub ts) h_law_k
    have dm := dm3
    have hB := hB3
    have h_law_name_here : (tStr : Ty K Str).rp (p_law_found :: S) H3 v_law_name_here law_name_here_3 := h_law_name_here
    obtain ⟨J4, hK4, hm⟩ := jn_open hm
    refine seq_last (fun σ' H' => ∃ j7, J4 j7 ∧ Fr (p_law_found :: S) HL H' ∧ ∃ v_law_many : V, ∃ v_law_k : V, ∃ v_law_name_here : V, σ' = [some (.ref b), some v_law_many, some (.ref p_law_found), some v_law_k, some v_law_name_here] ∧ Fr [b, c] H0 H' ∧ Dom (p_law_found :: S) H' ∧ Bag H' b c ∧ (tInt : Ty K Int).rp (p_law_found :: S) H' v_law_many d_law_many ∧ (tInt : Ty K Int).rp (p_law_found :: S) H' v_law_k law_k_2 ∧ (tStr : Ty K Str).rp (p_law_found :: S) H' v_law_name_here law_name_here_3 ∧ Own (tStr : Ty K Str) (p_law_found :: S) H' p_law_found j7) (fun σ' H' hI => ?_) (fun rest4 => ?_)
    · skip
      obtain ⟨j7, hj, ⟨frl, v_law_many, v_law_k, v_law_name_here, rfl, fr0, dm, hB, h_law_many, h_law_k, h_law_name_here, o_law_found⟩⟩ := hI
      have hm := hK4 j7 hj
      exact ⟨_, hm, frl, ⟨v_law_many, _, _, rfl, fr0, dm, hB, h_law_many, o_law_found⟩⟩
    obtain ⟨c4, e4, hm⟩ := hm
    refine l_if (T := [b, c]) dm (by refine eb_shr (S' := S) (sub_cons (fun a m => m)) ?_; have sbz : Sub S (p_law_found :: S) := (sub_cons (fun a m => m)); (have nfz : p_law_found ∉ S := by first | exact ns_law_found | (have h := ns_law_found; simp only [List.mem_cons, not_or] at h ⊢; grind)); have h_law_found := o_law_found.frz sbz nfz; have h_law_many := (tInt : Ty K Int).sub sbz h_law_many; have h_law_k := (tInt : Ty K Int).sub sbz h_law_k; have h_law_name_here := (tStr : Ty K Str).sub sbz h_law_name_here; (have ts : Sub [b, c] S := fun a m => by have h1 := ts a m; have h2 : a ≠ p_law_found := (fun e => nt_law_found (e ▸ m)); simp only [List.mem_cons] at h1 ⊢; grind); exact (eb_test (K := K) (ev_op (od_notInD (K := K) dStr (Nat.le_of_ble_eq_true rfl)) (ev_var ts h_law_name_here rfl) (ev_var ts h_law_found rfl)))) e4 (fun hc H4 s4 => ?_) (fun hc H4 s4 => ?_)
    · skip
      subst hc
      have fr0 := fr0.trans (Fr.same s4)
      have dm := dm.same s4
      have frl := frl.trans (Fr.same s4)
      have h_law_many := (tInt : Ty K Int).mono (S := (p_law_found :: S)) (Fr.same s4) h_law_many
      have o_law_found := o_law_found.same s4
      have h_law_k := (tInt : Ty K Int).mono (S := (p_law_found :: S)) (Fr.same s4) h_law_k
      have h_law_name_here := (tStr : Ty K Str).mono (S := (p_law_found :: S)) (Fr.same s4) h_law_name_here
      have hB := hB.same s4
      have hm := ifp_t hm
      obtain ⟨a5, e5, hm⟩ := hm
      obtain ⟨law_found_6, f5, hm⟩ := hm
      refine l_app (T := [b, c]) dm o_law_found im_law_found nt_law_found ts rfl (ev_var ts h_law_name_here rfl) e5 f5 (fun H5 s5 frx5 o_law_found => ?_)
      have fr0 := fr0.mut hB.dom n0_law_found s5
      have frl := frl.trans (s5.fr iml_law_found)
      have dm := dm.fx frx5 s5
      have h_law_many := (tInt : Ty K Int).mono (S := (p_law_found :: S)) frx5 h_law_many
      have h_law_k := (tInt : Ty K Int).mono (S := (p_law_found :: S)) frx5 h_law_k
      have h_law_name_here := (tStr : Ty K Str).mono (S := (p_law_found :: S)) frx5 h_law_name_here
      have hB := hB.mut s5 nt_law_found
      exact rest4 _ _ ⟨_, hm, ⟨frl, v_law_many, v_law_k, v_law_name_here, rfl, fr0, dm, hB, h_law_many, h_law_k, h_law_name_here, o_law_found⟩⟩
    · skip
      subst hc
      have fr0 := fr0.trans (Fr.same s4)
      have dm := dm.same s4
      have frl := frl.trans (Fr.same s4)
      have h_law_many := (tInt : Ty K Int).mono (S := (p_law_found :: S)) (Fr.same s4) h_law_many
      have o_law_found := o_law_found.same s4
      have h_law_k := (tInt : Ty K Int).mono (S := (p_law_found :: S)) (Fr.same s4) h_law_k
      have h_law_name_here := (tStr : Ty K Str).mono (S := (p_law_found :: S)) (Fr.same s4) h_law_name_here
      have hB := hB.same s4
      have hm := ifp_f hm
      exact rest4 _ _ ⟨_, hm, ⟨frl, v_law_many, v_law_k, v_law_name_here, rfl, fr0, dm, hB, h_law_many, h_law_k, h_law_name_here, o_law_found⟩⟩
  obtain ⟨v_law_many, f_3, f_4, rfl, fr0, dm, hB, h_law_many, o_law_found⟩ := hI
  obtain ⟨z, er, hm⟩ := hm
  cases er
  exact ⟨_, rfl, q _ _ _ hm fr0 hB ⟨p_law_found, rfl, n0_law_found, o_law_found.sub (cons_sub im_law_found sub0)⟩⟩
def m_law_known (d_law_ground_here : ((List (Str × (Rat × Rat))) × (List (Str × (Str × (List Str)))) × (List (Str × (Str × Int))))) : Option (List Str) :=
  (bd (some d_law_ground_here) fun u_1 => (bd (some []) fun law_found_2 => (bd (bd (some u_1.2.1) ksS?) fun xs9 => bd (loopC (ρ := (List Str)) (fun s_3 law_name_here_3 => (bd (bd (bd (bd (bd (some u_1.2.1) fun d => bd (some law_name_here_3) fun k => getK d k) fun x => some x.2) fun xs => mapL? (fun law_mark_4 => (bd (some law_mark_4) fun k => bd (some u_1.1) fun d => some ((getK d k).isSome))) xs) fun x => some (x.all id)) fun c5 => (bd (if c5 then (bd (some law_name_here_3) fun a6 => (bd (app? s_3 a6) fun law_found_7 => some law_found_7)) else some s_3) fun j8 => some (Ct.go j8)))) xs9 law_found_2) fun r_3 => match r_3 with | .ret y => some y | .go t_3 => (some t_3) | .brk _ => none)))
abbrev sp_law_known (K : PySem.W.Frag) : Sp := spF (K := K) (aCons (tL3 (tD Str (tT2 tRat tRat)) (tD Str (tT2 tStr (tTs tStr))) (tD Str (tT2 tStr tInt))) aNil) (fun S => nw (K := K) tStr S) (fun a => m_law_known a.1)
theorem ok_law_known (ev : Env P K mg) : FnOk P w K mg base CX0 1 ev.f_law_known ev.d_law_known p_law_known (sp_law_known K) := by
  refine ev.A_law_known.F.ok sc_law_known (fun vs H Q E h => ?_) (fun cdv A outer s H0 vs Q E hr h => ?_)
  · obtain ⟨S, ⟨d_law_ground_here, _⟩, y, _, ⟨v_law_ground_here, _, rfl, h_law_ground_here, rfl⟩, _⟩ := h
    rfl
  obtain ⟨S, ⟨d_law_ground_here, _⟩, y, dm, ⟨v_law_ground_here, _, rfl, h_law_ground_here, rfl⟩, hm, q⟩ := h
  have ts : Sub [] S := fun a m => by simp at m
  have fr0 := Fr.refl (T := []) H0
  have sub0 : Sub S S := fun a m => m
  refine ⟨_, (pss_cons (ps_asg (pv 0) (pg_lst rfl (pgs_cons (pg_name (i := 1) sc_law_known.nd rfl (Or.inr rfl)) (pgs_cons (pg_name (i := 2) sc_law_known.nd rfl (Or.inl rfl)) (pgs_cons (pg_name (i := 3) sc_law_known.nd rfl (Or.inl rfl)) pgs_nil)))))
    (pss_cons (ps_set (i := 4) sc_law_known.nd rfl (Or.inl rfl) (pe_lst pa_nil))
    (pss_cons (ps_for PassesOwn.never rfl (pi_list (pe_callB (cr_srtD rfl) (by rfl) ev.B.sorted_ (by decide +kernel) (pa_cons (pv 2) pa_nil))) (pg_name (i := 5) sc_law_known.nd rfl (Or.inl rfl))
    (pss_one (ps_if (pt_val (pe_callB (cr_all rfl) (by rfl) ev.B.all_ (by decide +kernel) (pa_cons (pe_lc (own := [("_law_mark", 6)]) (g := gName 6) (tt := tYes) (by rfl) sc_law_known.nd (pi_tup (pe_ix ix_tup (pe_dget (hu_of hr) (pv 2) (pv 5) (fun _ _ => rfl)) pe_int (fun _ _ => rfl))) (blkOk_by (own := [("_law_mark", 6)]) (N := n_law_known) (sc := defScope s_law_known) (by decide +kernel)) (fun _ _ _ _ _ => pg_name (i := 6) sc_law_known.nd rfl (Or.inl rfl)) (fun _ _ _ _ _ => pts_nil) (fun _ _ _ _ _ => (pe_cmp (pc_din (hu_of hr) (pv 6) (pv 1))))) pa_nil)))
    (pss_one (ps_expr (pe_bm PySem.F.plainAttrs_list PySem.F.slot_list_append PySem.F.type_list_append mt_append (pv 4) (pa_cons (pv 5) pa_nil)))) pss_nil)))
    (pss_one (ps_ret (pv 4)))))), ?_⟩
  dsimp only [m_law_known] at hm
  obtain ⟨u_1, e1, hm⟩ := bd_some hm
  refine q_unpL3 (T := []) dm (ev_var ts h_law_ground_here rfl) e1 (fun v_law_spots v_law_lines v_law_sites H1 s1 h_law_spots h_law_lines h_law_sites => ?_)
  have fr0 := fr0.trans (Fr.same s1)
  have dm := dm.same s1
  have h_law_ground_here := ((tL3 (tD Str (tT2 tRat tRat)) (tD Str (tT2 tStr (tTs tStr))) (tD Str (tT2 tStr tInt))) : Ty K ((List (Str × (Rat × Rat))) × (List (Str × (Str × (List Str)))) × (List (Str × (Str × Int))))).mono (S := S) (Fr.same s1) h_law_ground_here
  obtain ⟨law_found_2, e2, hm⟩ := bd_some hm
  refine q_asg (T := []) dm (ev_lst0 (a := (tStr : Ty K Str))) e2 (fun v_law_found H2 s2 hx => ?_)
  obtain ⟨p_law_found, rfl, np_law_found, o_law_found⟩ := hx
  have ns_law_found : p_law_found ∉ S := dm.not_mem np_law_found
  have nb_law_found : p_law_found ∉ S := fun m => ns_law_found (sub0 _ m)
  have n0_law_found := fr_back fr0 Dom.nil np_law_found
  have nt_law_found := (Dom.nil (H := H0)).not_mem n0_law_found
  have fr0 := fr0.trans (Fr.same s2)
  have h_law_ground_here := ((tL3 (tD Str (tT2 tRat tRat)) (tD Str (tT2 tStr (tTs tStr))) (tD Str (tT2 tStr tInt))) : Ty K ((List (Str × (Rat × Rat))) × (List (Str × (Str × (List Str)))) × (List (Str × (Str × Int))))).mono (Fr.same s2) (((tL3 (tD Str (tT2 tRat tRat)) (tD Str (tT2 tStr (tTs tStr))) (tD Str (tT2 tStr tInt))) : Ty K ((List (Str × (Rat × Rat))) × (List (Str × (Str × (List Str)))) × (List (Str × (Str × Int))))).ext (S := S) np_law_found h_law_ground_here)
  have h_law_spots := ((tD Str (tT2 tRat tRat)) : Ty K (List (Str × (Rat × Rat)))).mono (Fr.same s2) (((tD Str (tT2 tRat tRat)) : Ty K (List (Str × (Rat × Rat)))).ext (S := S) np_law_found h_law_spots)
  have h_law_lines := ((tD Str (tT2 tStr (tTs tStr))) : Ty K (List (Str × (Str × (List Str))))).mono (Fr.same s2) (((tD Str (tT2 tStr (tTs tStr))) : Ty K (List (Str × (Str × (List Str))))).ext (S := S) np_law_found h_law_lines)
  have h_law_sites := ((tD Str (tT2 tStr tInt)) : Ty K (List (Str × (Str × Int)))).mono (Fr.same s2) (((tD Str (tT2 tStr tInt)) : Ty K (List (Str × (Str × Int)))).ext (S := S) np_law_found h_law_sites)
  have dm := (dm.same s2).cons o_law_found.choose_spec.1
  have ts := sub_cons (p := p_law_found) ts
  have sub0 := sub_cons (p := p_law_found) sub0
  have im_law_found : p_law_found ∈ p_law_found :: S := List.mem_cons_self ..
  obtain ⟨xs9, e_xs9, hm⟩ := bd_some hm
  obtain ⟨r_3, el3, hm3⟩ := bd_some hm
  refine q_for_s (T := []) dm (sr_list (ev_new (ev_srtD (ev_var ts h_law_lines rfl)))) e_xs9 el3 (fun s_3 σ' H' => ∃ v_law_ground_here : V, ∃ v_law_spots : V, ∃ v_law_lines : V, ∃ v_law_sites : V, ∃ f_5 : Option V, ∃ f_6 : Option V, σ' = [some v_law_ground_here, some v_law_spots, some v_law_lines, some v_law_sites, some (.ref p_law_found), f_5, f_6] ∧ Fr [] H0 H' ∧ Dom (p_law_found :: S) H' ∧ ((tL3 (tD Str (tT2 tRat tRat)) (tD Str (tT2 tStr (tTs tStr))) (tD Str (tT2 tStr tInt))) : Ty K ((List (Str × (Rat × Rat))) × (List (Str × (Str × (List Str)))) × (List (Str × (Str × Int))))).rp (p_law_found :: S) H' v_law_ground_here d_law_ground_here ∧ ((tD Str (tT2 tRat tRat)) : Ty K (List (Str × (Rat × Rat)))).rp (p_law_found :: S) H' v_law_spots u_1.1 ∧ ((tD Str (tT2 tStr (tTs tStr))) : Ty K (List (Str × (Str × (List Str))))).rp (p_law_found :: S) H' v_law_lines u_1.2.1 ∧ ((tD Str (tT2 tStr tInt)) : Ty K (List (Str × (Str × Int)))).rp (p_law_found :: S) H' v_law_sites u_1.2.2 ∧ Own (tStr : Ty K Str) (p_law_found :: S) H' p_law_found s_3) (fun H3 s3 => ?_) (fun hd3 s_3 law_name_here_3 cr3 v_law_name_here σ' H' hI h_law_name_here hx3 hm hret3 hbrk3 => ?_) (fun t_3 σ' H' er hI => ?_)
  · skip
    have fr0 := fr0.trans (Fr.same s3)
    have dm := dm.same s3
    have h_law_ground_here := ((tL3 (tD Str (tT2 tRat tRat)) (tD Str (tT2 tStr (tTs tStr))) (tD Str (tT2 tStr tInt))) : Ty K ((List (Str × (Rat × Rat))) × (List (Str × (Str × (List Str)))) × (List (Str × (Str × Int))))).mono (S := (p_law_found :: S)) (Fr.same s3) h_law_ground_here
    have h_law_spots := ((tD Str (tT2 tRat tRat)) : Ty K (List (Str × (Rat × Rat)))).mono (S := (p_law_found :: S)) (Fr.same s3) h_law_spots
    have h_law_lines := ((tD Str (tT2 tStr (tTs tStr))) : Ty K (List (Str × (Str × (List Str))))).mono (S := (p_law_found :: S)) (Fr.same s3) h_law_lines
    have h_law_sites := ((tD Str (tT2 tStr tInt)) : Ty K (List (Str × (Str × Int)))).mono (S := (p_law_found :: S)) (Fr.same s3) h_law_sites
    have o_law_found := o_law_found.same s3
    exact ⟨v_law_ground_here, v_law_spots, v_law_lines, v_law_sites, _, _, rfl, fr0, dm, h_law_ground_here, h_law_spots, h_law_lines, h_law_sites, o_law_found⟩
  · skip
    obtain ⟨v_law_ground_here, v_law_spots, v_law_lines, v_law_sites, f_5, f_6, rfl, fr0, dm, h_law_ground_here, h_law_spots, h_law_lines, h_law_sites, o_law_found⟩ := hI
    let HL := H'
    have freshl : ∀ a ∈ (p_law_found :: S), a ∉ (p_law_found :: S) → H' a = none := fun a m n => absurd m n
    have frl : Fr (p_law_found :: S) HL H' := Fr.refl (T := (p_law_found :: S)) H'
    have tsl := ts
    have subl : Sub (p_law_found :: S) (p_law_found :: S) := fun a m => m
    have iml_law_found := im_law_found
    have h_law_name_here : (tStr : Ty K Str).rp (p_law_found :: S) H' v_law_name_here law_name_here_3 := h_law_name_here
    obtain ⟨c5, e5, hm⟩ := bd_some hm
    obtain ⟨j8, ej5, hm⟩ := bd_some hm
    refine seq_last (fun σ' H' => Fr (p_law_found :: S) HL H' ∧ ∃ v_law_ground_here : V, ∃ v_law_spots : V, ∃ v_law_lines : V, ∃ v_law_sites : V, ∃ v_law_name_here : V, ∃ f_6 : Option V, σ' = [some v_law_ground_here, some v_law_spots, some v_law_lines, some v_law_sites, some (.ref p_law_found), some v_law_name_here, f_6] ∧ Fr [] H0 H' ∧ Dom (p_law_found :: S) H' ∧ ((tL3 (tD Str (tT2 tRat tRat)) (tD Str (tT2 tStr (tTs tStr))) (tD Str (tT2 tStr tInt))) : Ty K ((List (Str × (Rat × Rat))) × (List (Str × (Str × (List Str)))) × (List (Str × (Str × Int))))).rp (p_law_found :: S) H' v_law_ground_here d_law_ground_here ∧ ((tD Str (tT2 tRat tRat)) : Ty K (List (Str × (Rat × Rat)))).rp (p_law_found :: S) H' v_law_spots u_1.1 ∧ ((tD Str (tT2 tStr (tTs tStr))) : Ty K (List (Str × (Str × (List Str))))).rp (p_law_found :: S) H' v_law_lines u_1.2.1 ∧ ((tD Str (tT2 tStr tInt)) : Ty K (List (Str × (Str × Int)))).rp (p_law_found :: S) H' v_law_sites u_1.2.2 ∧ (tStr : Ty K Str).rp (p_law_found :: S) H' v_law_name_here law_name_here_3 ∧ Own (tStr : Ty K Str) (p_law_found :: S) H' p_law_found j8) (fun σ' H' hI => ?_) (fun rest => ?_)
    · skip
      obtain ⟨frl, v_law_ground_here, v_law_spots, v_law_lines, v_law_sites, v_law_name_here, f_6, rfl, fr0, dm, h_law_ground_here, h_law_spots, h_law_lines, h_law_sites, h_law_name_here, o_law_found⟩ := hI
      cases hm
      exact ⟨_, rfl, frl, ⟨v_law_ground_here, v_law_spots, v_law_lines, v_law_sites, _, _, rfl, fr0, dm, h_law_ground_here, h_law_spots, h_law_lines, h_law_sites, o_law_found⟩⟩
    have hm := ej5
    refine l_if (T := []) dm (eb_B (K := K) (ev_all (ev_new (ev_lc (sr_tup (ev_ix21 (ev_dget (ck := (tStr : Ty K Str)) (ev_var ts h_law_lines rfl) (ev_var ts h_law_name_here rfl)))) (fun v => by rfl) (fun law_mark_4 v_law_mark H2' H' p' fr' nD' sm' h_law_mark => by have h_law_ground_here := ((tL3 (tD Str (tT2 tRat tRat)) (tD Str (tT2 tStr (tTs tStr))) (tD Str (tT2 tStr tInt))) : Ty K ((List (Str × (Rat × Rat))) × (List (Str × (Str × (List Str)))) × (List (Str × (Str × Int))))).mono (Fr.same sm') (((tL3 (tD Str (tT2 tRat tRat)) (tD Str (tT2 tStr (tTs tStr))) (tD Str (tT2 tStr tInt))) : Ty K ((List (Str × (Rat × Rat))) × (List (Str × (Str × (List Str)))) × (List (Str × (Str × Int))))).ext (S := (p_law_found :: S)) nD' (((tL3 (tD Str (tT2 tRat tRat)) (tD Str (tT2 tStr (tTs tStr))) (tD Str (tT2 tStr tInt))) : Ty K ((List (Str × (Rat × Rat))) × (List (Str × (Str × (List Str)))) × (List (Str × (Str × Int))))).mono (Fr.sub ts fr') h_law_ground_here)); have h_law_spots := ((tD Str (tT2 tRat tRat)) : Ty K (List (Str × (Rat × Rat)))).mono (Fr.same sm') (((tD Str (tT2 tRat tRat)) : Ty K (List (Str × (Rat × Rat)))).ext (S := (p_law_found :: S)) nD' (((tD Str (tT2 tRat tRat)) : Ty K (List (Str × (Rat × Rat)))).mono (Fr.sub ts fr') h_law_spots)); have h_law_lines := ((tD Str (tT2 tStr (tTs tStr))) : Ty K (List (Str × (Str × (List Str))))).mono (Fr.same sm') (((tD Str (tT2 tStr (tTs tStr))) : Ty K (List (Str × (Str × (List Str))))).ext (S := (p_law_found :: S)) nD' (((tD Str (tT2 tStr (tTs tStr))) : Ty K (List (Str × (Str × (List Str))))).mono (Fr.sub ts fr') h_law_lines)); have h_law_sites := ((tD Str (tT2 tStr tInt)) : Ty K (List (Str × (Str × Int)))).mono (Fr.same sm') (((tD Str (tT2 tStr tInt)) : Ty K (List (Str × (Str × Int)))).ext (S := (p_law_found :: S)) nD' (((tD Str (tT2 tStr tInt)) : Ty K (List (Str × (Str × Int)))).mono (Fr.sub ts fr') h_law_sites)); have h_law_name_here := (tStr : Ty K Str).mono (Fr.same sm') ((tStr : Ty K Str).ext (S := (p_law_found :: S)) nD' ((tStr : Ty K Str).mono (Fr.sub ts fr') h_law_name_here)); have ts0' := ts; have ts : Sub [] (p' :: (p_law_found :: S)) := (fun a m => by simp at m);  have o_law_found := ((o_law_found.fr fr' ts0' nt_law_found).ext nD').same sm'; have nt_law_found : p_law_found ∉ [] := (by simp); exact (ev_din (ck := (tStr : Ty K Str)) (ev_var ts h_law_mark rfl) (ev_var ts h_law_spots rfl))))))) e5 (fun hc H5 s5 => ?_) (fun hc H5 s5 => ?_)
    · skip
      subst hc
      have hm := if_t hm
      have fr0 := fr0.trans (Fr.same s5)
      have dm := dm.same s5
      have frl := frl.trans (Fr.same s5)
      have h_law_ground_here := ((tL3 (tD Str (tT2 tRat tRat)) (tD Str (tT2 tStr (tTs tStr))) (tD Str (tT2 tStr tInt))) : Ty K ((List (Str × (Rat × Rat))) × (List (Str × (Str × (List Str)))) × (List (Str × (Str × Int))))).mono (S := (p_law_found :: S)) (Fr.same s5) h_law_ground_here
      have h_law_spots := ((tD Str (tT2 tRat tRat)) : Ty K (List (Str × (Rat × Rat)))).mono (S := (p_law_found :: S)) (Fr.same s5) h_law_spots
      have h_law_lines := ((tD Str (tT2 tStr (tTs tStr))) : Ty K (List (Str × (Str × (List Str))))).mono (S := (p_law_found :: S)) (Fr.same s5) h_law_lines
      have h_law_sites := ((tD Str (tT2 tStr tInt)) : Ty K (List (Str × (Str × Int)))).mono (S := (p_law_found :: S)) (Fr.same s5) h_law_sites
      have o_law_found := o_law_found.same s5
      have h_law_name_here := (tStr : Ty K Str).mono (S := (p_law_found :: S)) (Fr.same s5) h_law_name_here
      obtain ⟨a6, e6, hm⟩ := bd_some hm
      obtain ⟨law_found_7, f6, hm⟩ := bd_some hm
      refine l_app (T := []) dm o_law_found im_law_found nt_law_found ts rfl (ev_var ts h_law_name_here rfl) e6 f6 (fun H6 s6 frx6 o_law_found => ?_)
      have fr0 := fr0.mut Dom.nil n0_law_found s6
      have frl := frl.trans (s6.fr iml_law_found)
      have dm := dm.fx frx6 s6
      have h_law_ground_here := ((tL3 (tD Str (tT2 tRat tRat)) (tD Str (tT2 tStr (tTs tStr))) (tD Str (tT2 tStr tInt))) : Ty K ((List (Str × (Rat × Rat))) × (List (Str × (Str × (List Str)))) × (List (Str × (Str × Int))))).mono (S := (p_law_found :: S)) frx6 h_law_ground_here
      have h_law_spots := ((tD Str (tT2 tRat tRat)) : Ty K (List (Str × (Rat × Rat)))).mono (S := (p_law_found :: S)) frx6 h_law_spots
      have h_law_lines := ((tD Str (tT2 tStr (tTs tStr))) : Ty K (List (Str × (Str × (List Str))))).mono (S := (p_law_found :: S)) frx6 h_law_lines
      have h_law_sites := ((tD Str (tT2 tStr tInt)) : Ty K (List (Str × (Str × Int)))).mono (S := (p_law_found :: S)) frx6 h_law_sites
      have h_law_name_here := (tStr : Ty K Str).mono (S := (p_law_found :: S)) frx6 h_law_name_here
      cases hm
      exact rest _ _ ⟨frl, v_law_ground_here, v_law_spots, v_law_lines, v_law_sites, v_law_name_here, _, rfl, fr0, dm, h_law_ground_here, h_law_spots, h_law_lines, h_law_sites, h_law_name_here, o_law_found⟩
    · skip
      subst hc
      have hm := if_f hm
      have fr0 := fr0.trans (Fr.same s5)
      have dm := dm.same s5
      have frl := frl.trans (Fr.same s5)
      have h_law_ground_here := ((tL3 (tD Str (tT2 tRat tRat)) (tD Str (tT2 tStr (tTs tStr))) (tD Str (tT2 tStr tInt))) : Ty K ((List (Str × (Rat × Rat))) × (List (Str × (Str × (List Str)))) × (List (Str × (Str × Int))))).mono (S := (p_law_found :: S)) (Fr.same s5) h_law_ground_here
      have h_law_spots := ((tD Str (tT2 tRat tRat)) : Ty K (List (Str × (Rat × Rat)))).mono (S := (p_law_found :: S)) (Fr.same s5) h_law_spots
      have h_law_lines := ((tD Str (tT2 tStr (tTs tStr))) : Ty K (List (Str × (Str × (List Str))))).mono (S := (p_law_found :: S)) (Fr.same s5) h_law_lines
      have h_law_sites := ((tD Str (tT2 tStr tInt)) : Ty K (List (Str × (Str × Int)))).mono (S := (p_law_found :: S)) (Fr.same s5) h_law_sites
      have o_law_found := o_law_found.same s5
      have h_law_name_here := (tStr : Ty K Str).mono (S := (p_law_found :: S)) (Fr.same s5) h_law_name_here
      cases hm
      exact rest _ _ ⟨frl, v_law_ground_here, v_law_spots, v_law_lines, v_law_sites, v_law_name_here, _, rfl, fr0, dm, h_law_ground_here, h_law_spots, h_law_lines, h_law_sites, h_law_name_here, o_law_found⟩
  subst er
  have hm := hm3
  obtain ⟨v_law_ground_here, v_law_spots, v_law_lines, v_law_sites, f_5, f_6, rfl, fr0, dm, h_law_ground_here, h_law_spots, h_law_lines, h_law_sites, o_law_found⟩ := hI
  have er := hm
  cases er
  exact ⟨_, rfl, q _ _ fr0.toSame ⟨p_law_found, rfl, n0_law_found, o_law_found.sub (cons_sub im_law_found sub0)⟩⟩
end
end G

namespace G
open PySem L2 M
section
variable {P : Program} {w : World} {K : PySem.W.Frag} {mg : Str → Option Value} {base : Heap}

def m_law_ground (d_law_reach : Int) (P : ((List (Str × (Rat × Rat))) × (List (Str × (Str × (List Str)))) × (List (Str × (Str × Int)))) → Prop) : Prop :=
  (lf (some []) fun law_spots_1 => ((callBW (fun a => m_law_names a.1) (tup2W (opW (fun x y => some (x + y)) (lf (some (2 : Int))) (callBW drawW (lf (some (5 : Int))))) (lf (some ())))) fun law_names_here_2 => ((lf (some law_names_here_2)) fun xs42 => loopW (fun s_3 law_name_here_3 K3 => ((callBW (fun a => m_law_spot a.1) (tup2W (lf (some d_law_reach)) (lf (some ())))) fun a4 => lf (some law_name_here_3) fun i5 => lf (putL? s_3 i5 a4) fun law_spots_6 => (jn (fun J7 => ((opW (fun x y => some (decide (x = y))) (callBW drawW (lf (some (5 : Int)))) (lf (some (0 : Int)))) fun c7 => if c7 then ((callBW anyW (lf (ksS? law_spots_6))) fun law_two_8 => ((tup2W (unW p2r (tup2W (opW (fun x y => some (x - y)) (callBW drawW (lf (bd (bd (some (2 : Int)) fun x => bd (some d_law_reach) fun y => mul? x y) fun x => bd (some (1 : Int)) fun y => some (x + y)))) (lf (some d_law_reach))) (lf (some (1 : Int))))) (lf (bd (bd (some law_two_8) fun y => getK law_spots_6 y) fun x => some x.2))) fun a9 => lf (some law_name_here_3) fun i10 => lf (putL? law_spots_6 i10 a9) fun law_spots_11 => J7 law_spots_11)) else (jn (fun J12 => ((opW (fun x y => some (decide (x = y))) (callBW drawW (lf (some (8 : Int)))) (lf (some (0 : Int)))) fun c12 => if c12 then ((unW (fun y => getK law_spots_6 y) (callBW anyW (lf (ksS? law_spots_6)))) fun a13 => lf (some law_name_here_3) fun i14 => lf (putL? law_spots_6 i14 a13) fun law_spots_15 => J12 law_spots_15) else J12 law_spots_6)) fun j16 => J7 j16))) fun j17 => K3 (Ct.go j17)))) xs42 law_spots_1 fun r_3 => match r_3 with | .ret y => P y | .go t_3 => (lf (some []) fun law_lines_18 => ((unW rng1? (callBW drawW (lf (some (4 : Int))))) fun xs41 => loopW (fun s_19 law_k_19 K19 => ((consW (callBW anyW (lf (bd (bd (some law_names_here_2) fun x => bd (some law_names_here_2) fun y => cat? x y) fun x => bd (bd (some ("loose" : Str)) fun x => bd (some []) fun y => some (x :: y)) fun y => cat? x y))) (lf (some []))) fun law_row_20 => ((unW rng1? (opW (fun x y => some (x + y)) (lf (some (1 : Int))) (callBW drawW (lf (some (5 : Int)))))) fun xs33 => loopW (fun s_21 law_turn_21 K21 => ((callBW anyW (lf (some law_names_here_2))) fun law_more_22 => (jn (fun J23 => (lf (bd (some law_more_22) fun x => bd (bd (some s_21) fun x => bd (bd (some (1 : Int)) fun x => some (-x)) fun y => atI x y) fun y => some (!decide (x = y))) fun c23 => if c23 then (lf (some law_more_22) fun a24 => (lf (app? s_21 a24) fun law_row_25 => J23 law_row_25)) else J23 s_21)) fun j26 => K21 (Ct.go j26)))) xs33 law_row_20 fun r_21 => match r_21 with | .ret y => K19 (Ct.ret y) | .go t_21 => (jn (fun J27 => (lf (bd (bd (some t_21) fun x => some (x.length : Int)) fun x => bd (some (1 : Int)) fun y => some (decide (y < x))) fun c27 => if c27 then ((callBW anyW (lf (bd (some ("road" : Str)) fun x => bd (bd (some ("road" : Str)) fun x => bd (bd (some ("shore" : Str)) fun x => bd (bd (some ("border" : Str)) fun x => bd (some []) fun y => some (x :: y)) fun y => some (x :: y)) fun y => some (x :: y)) fun y => some (x :: y)))) fun law_kind_28 => ((lf (bd (some law_kind_28) fun x => bd (some t_21) fun y => some (x, y))) fun a29 => (opW (fun x y => mulS? x y) (lf (bd (some ("rstu" : Str)) fun x => bd (some law_k_19) fun y => ixS? x y)) (opW (fun x y => some (x + y)) (lf (some (1 : Int))) (callBW drawW (lf (some (2 : Int)))))) fun i30 => lf (putL? s_19 i30 a29) fun law_lines_31 => J27 law_lines_31)) else J27 s_19)) fun j32 => K19 (Ct.go j32)) | .brk _ => False))) xs41 law_lines_18 fun r_19 => match r_19 with | .ret y => P y | .go t_19 => (lf (some []) fun law_sites_34 => ((unW rng1? (callBW drawW (lf (some (4 : Int))))) fun xs40 => loopW (fun s_35 law_k_35 K35 => ((callBW anyW (lf (bd (some ("x" : Str)) fun x => bd (bd (some ("mill" : Str)) fun x => bd (bd (some ("y" : Str)) fun x => bd (bd (some ("ford" : Str)) fun x => bd (bd (some ("zzzzzz" : Str)) fun x => bd (some []) fun y => some (x :: y)) fun y => some (x :: y)) fun y => some (x :: y)) fun y => some (x :: y)) fun y => some (x :: y)))) fun law_name_here_36 => ((tup2W (callBW anyW (lf (bd (some law_names_here_2) fun x => bd (bd (some ("loose" : Str)) fun x => bd (some []) fun y => some (x :: y)) fun y => cat? x y))) (opW (fun x y => some (x + y)) (lf (some (1 : Int))) (callBW drawW (lf (some (9 : Int)))))) fun a37 => lf (some law_name_here_36) fun i38 => lf (putL? s_35 i38 a37) fun law_sites_39 => K35 (Ct.go law_sites_39)))) xs40 law_sites_34 fun r_35 => match r_35 with | .ret y => P y | .go t_35 => (lf (bd (some t_3) fun x => bd (some t_19) fun y => bd (some t_35) fun z => some (x, y, z)) P) | .brk _ => False)) | .brk _ => False)) | .brk _ => False)))
abbrev sp_law_ground (K : PySem.W.Frag) : Sp := spB (K := K) (aCons tInt aNil) (fun S => of (K := K) (tL3 (tD Str (tT2 tRat tRat)) (tD Str (tT2 tStr (tTs tStr))) (tD Str (tT2 tStr tInt))) S) (fun a => m_law_ground a.1)
theorem ok_law_ground (ev : Env P K mg) : FnOk P w K mg base CX0 6 ev.f_law_ground ev.d_law_ground p_law_ground (sp_law_ground K) := by
  refine ev.A_law_ground.F.ok sc_law_ground (fun vs H Q E h => ?_) (fun cdv A outer s H0 vs Q E hr h => ?_)
  · obtain ⟨S, b, c, r, ⟨d_law_reach, _⟩, P, rfl, _, _, _, ⟨v_law_reach, _, rfl, h_law_reach, rfl⟩, _⟩ := h
    rfl
  obtain ⟨S, b, c, r, ⟨d_law_reach, _⟩, P, rfl, dm, ts, hB, ⟨v_law_reach, _, rfl, h_law_reach, rfl⟩, hm, q⟩ := h
  have fr0 := Fr.refl (T := [b, c]) H0
  have sub0 : Sub S S := fun a m => m
  refine ⟨_, (pss_cons (ps_set (i := 2) sc_law_ground.nd rfl (Or.inl rfl) pe_dnewK)
    (pss_cons (ps_set (i := 3) sc_law_ground.nd rfl (Or.inl rfl) (pe_call (ok_law_names ev) (hr.mono (by decide)) (by rfl) ev.A_law_names.m ev.A_law_names.F.kp ev.A_law_names.b .nil pass0 (pa_cons (pv 0) (pa_cons (pe_op op_add pe_int (pe_call (ok_law_draw ev) (hr.mono (by decide)) (by rfl) ev.A_law_draw.m ev.A_law_draw.F.kp ev.A_law_draw.b .nil pass0 (pa_cons (pv 0) (pa_cons pe_int pa_nil)))) pa_nil))))
    (pss_cons (ps_for PassesOwn.never rfl (pi_list (pv 3)) (pg_name (i := 4) sc_law_ground.nd rfl (Or.inl rfl))
    (pss_cons (ps_dput (hu_of hr) (pv 2) (pv 4) (pe_call (ok_law_spot ev) (hr.mono (by decide)) (by rfl) ev.A_law_spot.m ev.A_law_spot.F.kp ev.A_law_spot.b .nil pass0 (pa_cons (pv 0) (pa_cons (pv 1) pa_nil))) (by rfl))
    (pss_one (ps_if (pt_cmpR op_eq (pe_call (ok_law_draw ev) (hr.mono (by decide)) (by rfl) ev.A_law_draw.m ev.A_law_draw.F.kp ev.A_law_draw.b .nil pass0 (pa_cons (pv 0) (pa_cons pe_int pa_nil))) pe_int (nomark _))
    (pss_cons (ps_set (i := 5) sc_law_ground.nd rfl (Or.inl rfl) (pe_call (ok_law_any ev) (hr.mono (by decide)) (by rfl) ev.A_law_any.m ev.A_law_any.F.kp ev.A_law_any.b .nil pass0 (pa_cons (pv 0) (pa_cons (pe_callB (cr_srtD rfl) (by rfl) ev.B.sorted_ (by decide +kernel) (pa_cons (pv 2) pa_nil)) pa_nil))))
    (pss_one (ps_dput (hu_of hr) (pv 2) (pv 4) (pe_tup (pa_cons (pe_tup (pa_cons (pe_op op_sub (pe_call (ok_law_draw ev) (hr.mono (by decide)) (by rfl) ev.A_law_draw.m ev.A_law_draw.F.kp ev.A_law_draw.b .nil pass0 (pa_cons (pv 0) (pa_cons (pe_op op_add (pe_op op_mulW pe_int (pv 1)) pe_int) pa_nil))) (pv 1)) (pa_cons pe_int pa_nil))) (pa_cons (pe_ix ix_tup (pe_dget (hu_of hr) (pv 2) (pv 5) (fun _ _ => rfl)) pe_int (fun _ _ => rfl)) pa_nil))) (by rfl)))) (pss_one (ps_if (pt_cmpR op_eq (pe_call (ok_law_draw ev) (hr.mono (by decide)) (by rfl) ev.A_law_draw.m ev.A_law_draw.F.kp ev.A_law_draw.b .nil pass0 (pa_cons (pv 0) (pa_cons pe_int pa_nil))) pe_int (nomark _))
    (pss_one (ps_dput (hu_of hr) (pv 2) (pv 4) (pe_dget (hu_of hr) (pv 2) (pe_call (ok_law_any ev) (hr.mono (by decide)) (by rfl) ev.A_law_any.m ev.A_law_any.F.kp ev.A_law_any.b .nil pass0 (pa_cons (pv 0) (pa_cons (pe_callB (cr_srtD rfl) (by rfl) ev.B.sorted_ (by decide +kernel) (pa_cons (pv 2) pa_nil)) pa_nil))) (fun _ _ => rfl)) (by rfl))) pss_nil))))))
    (pss_cons (ps_set (i := 6) sc_law_ground.nd rfl (Or.inl rfl) pe_dnewK)
    (pss_cons (ps_for PassesOwn.never rfl (pi_range1 rfl ev.B.range_ (pa_cons (pe_call (ok_law_draw ev) (hr.mono (by decide)) (by rfl) ev.A_law_draw.m ev.A_law_draw.F.kp ev.A_law_draw.b .nil pass0 (pa_cons (pv 0) (pa_cons pe_int pa_nil))) pa_nil)) (pg_name (i := 7) sc_law_ground.nd rfl (Or.inl rfl))
    (pss_cons (ps_set (i := 8) sc_law_ground.nd rfl (Or.inl rfl) (pe_lst (pa_cons (pe_call (ok_law_any ev) (hr.mono (by decide)) (by rfl) ev.A_law_any.m ev.A_law_any.F.kp ev.A_law_any.b .nil pass0 (pa_cons (pv 0) (pa_cons (pe_op op_cat (pe_op op_cat (pv 3) (pv 3)) (pe_lst (pa_cons pe_str pa_nil))) pa_nil))) pa_nil)))
    (pss_cons (ps_for PassesOwn.never rfl (pi_range1 rfl ev.B.range_ (pa_cons (pe_op op_add pe_int (pe_call (ok_law_draw ev) (hr.mono (by decide)) (by rfl) ev.A_law_draw.m ev.A_law_draw.F.kp ev.A_law_draw.b .nil pass0 (pa_cons (pv 0) (pa_cons pe_int pa_nil)))) pa_nil)) (pg_name (i := 9) sc_law_ground.nd rfl (Or.inl rfl))
    (pss_cons (ps_set (i := 10) sc_law_ground.nd rfl (Or.inl rfl) (pe_call (ok_law_any ev) (hr.mono (by decide)) (by rfl) ev.A_law_any.m ev.A_law_any.F.kp ev.A_law_any.b .nil pass0 (pa_cons (pv 0) (pa_cons (pv 3) pa_nil))))
    (pss_one (ps_if (pt_cmpR op_ne (pv 10) (pe_ix ix_list (pv 8) (pe_un un_neg pe_int) (fun _ _ => rfl)) (nomark _))
    (pss_one (ps_expr (pe_bm PySem.F.plainAttrs_list PySem.F.slot_list_append PySem.F.type_list_append mt_append (pv 8) (pa_cons (pv 10) pa_nil)))) pss_nil))))
    (pss_one (ps_if (pt_cmpR op_gt (pe_callB call_len_seq (by rfl) ev.B.len_ PySem.boot_len (pa_cons (pv 8) pa_nil)) pe_int (nomark _))
    (pss_cons (ps_set (i := 11) sc_law_ground.nd rfl (Or.inl rfl) (pe_call (ok_law_any ev) (hr.mono (by decide)) (by rfl) ev.A_law_any.m ev.A_law_any.F.kp ev.A_law_any.b .nil pass0 (pa_cons (pv 0) (pa_cons (pe_lst (pa_cons pe_str (pa_cons pe_str (pa_cons pe_str (pa_cons pe_str pa_nil))))) pa_nil))))
    (pss_one (ps_dput (hu_of hr) (pv 6) (pe_op op_mulS (pe_ix ix_str pe_str (pv 7) (fun _ _ => rfl)) (pe_op op_add pe_int (pe_call (ok_law_draw ev) (hr.mono (by decide)) (by rfl) ev.A_law_draw.m ev.A_law_draw.F.kp ev.A_law_draw.b .nil pass0 (pa_cons (pv 0) (pa_cons pe_int pa_nil))))) (pe_tup (pa_cons (pv 11) (pa_cons (pe_callTy call_tuple_of (by rfl) ev.B.tuple_ (by decide +kernel) (pa_cons (pv 8) pa_nil)) pa_nil))) (by rfl)))) pss_nil)))))
    (pss_cons (ps_set (i := 12) sc_law_ground.nd rfl (Or.inl rfl) pe_dnewK)
    (pss_cons (ps_for PassesOwn.never rfl (pi_range1 rfl ev.B.range_ (pa_cons (pe_call (ok_law_draw ev) (hr.mono (by decide)) (by rfl) ev.A_law_draw.m ev.A_law_draw.F.kp ev.A_law_draw.b .nil pass0 (pa_cons (pv 0) (pa_cons pe_int pa_nil))) pa_nil)) (pg_name (i := 7) sc_law_ground.nd rfl (Or.inl rfl))
    (pss_cons (ps_set (i := 4) sc_law_ground.nd rfl (Or.inl rfl) (pe_call (ok_law_any ev) (hr.mono (by decide)) (by rfl) ev.A_law_any.m ev.A_law_any.F.kp ev.A_law_any.b .nil pass0 (pa_cons (pv 0) (pa_cons (pe_lst (pa_cons pe_str (pa_cons pe_str (pa_cons pe_str (pa_cons pe_str (pa_cons pe_str pa_nil)))))) pa_nil))))
    (pss_one (ps_dput (hu_of hr) (pv 12) (pv 4) (pe_tup (pa_cons (pe_call (ok_law_any ev) (hr.mono (by decide)) (by rfl) ev.A_law_any.m ev.A_law_any.F.kp ev.A_law_any.b .nil pass0 (pa_cons (pv 0) (pa_cons (pe_op op_cat (pv 3) (pe_lst (pa_cons pe_str pa_nil))) pa_nil))) (pa_cons (pe_op op_add pe_int (pe_call (ok_law_draw ev) (hr.mono (by decide)) (by rfl) ev.A_law_draw.m ev.A_law_draw.F.kp ev.A_law_draw.b .nil pass0 (pa_cons (pv 0) (pa_cons pe_int pa_nil)))) pa_nil))) (by rfl)))))
    (pss_one (ps_ret (pe_lst (pa_cons (pv 2) (pa_cons (pv 6) (pa_cons (pv 12) pa_nil))))))))))))), ?_⟩
  dsimp only [m_law_ground] at hm
  obtain ⟨law_spots_1, e1, hm⟩ := hm
  refine q_asg (T := [b, c]) dm (ev_dnew (κ := Str) (b' := ((tT2 tRat tRat) : Ty K (Rat × Rat)))) e1 (fun v_law_spots H1 s1 hx => ?_)
  obtain ⟨p_law_spots, rfl, np_law_spots, o_law_spots⟩ := hx
  have ns_law_spots : p_law_spots ∉ S := dm.not_mem np_law_spots
  have nb_law_spots : p_law_spots ∉ S := fun m => ns_law_spots (sub0 _ m)
  have n0_law_spots := fr_back fr0 hB.dom np_law_spots
  have nt_law_spots := hB.dom.not_mem np_law_spots
  have fr0 := fr0.trans (Fr.same s1)
  have h_law_reach := (tInt : Ty K Int).mono (Fr.same s1) ((tInt : Ty K Int).ext (S := S) np_law_spots h_law_reach)
  have dm := (dm.same s1).cons o_law_spots.choose_spec.1
  have ts := sub_cons (p := p_law_spots) ts
  have sub0 := sub_cons (p := p_law_spots) sub0
  have im_law_spots : p_law_spots ∈ p_law_spots :: S := List.mem_cons_self ..
  have hB := hB.same s1
  refine qw_asg dm hB ts (ew_new (ew_callB rfl (wa_cons (ew_op (od_add (K := K)) (ew_pure (ev_int (K := K))) (ew_draw (K := K) rfl (ew_pure (ev_int (K := K))))) wa_nil))) hm (fun v_law_names_here H2 law_names_here_2 hm fr2 dm2 hB2 h_law_names_here => ?_)
  have fr0 := fr0.trans fr2
  have h_law_reach := (tInt : Ty K Int).mono (S := (p_law_spots :: S)) (fr2.sub ts) h_law_reach
  have o_law_spots := o_law_spots.fr fr2 ts nt_law_spots
  have dm := dm2
  have hB := hB2
  have h_law_names_here : ((tL tStr) : Ty K (List Str)).rp (p_law_spots :: S) H2 v_law_names_here law_names_here_2 := h_law_names_here
  refine qw_for_s dm hB ts (srw_pure (sr_list (ev_var ts h_law_names_here rfl))) hm (fun s_3 σ' H' => ∃ v_law_reach : V, ∃ v_law_names_here : V, ∃ f_4 : Option V, ∃ f_5 : Option V, ∃ f_6 : Option V, ∃ f_7 : Option V, ∃ f_8 : Option V, ∃ f_9 : Option V, ∃ f_10 : Option V, ∃ f_11 : Option V, ∃ f_12 : Option V, σ' = [some (.ref b), some v_law_reach, some (.ref p_law_spots), some v_law_names_here, f_4, f_5, f_6, f_7, f_8, f_9, f_10, f_11, f_12] ∧ Fr [b, c] H0 H' ∧ Dom (p_law_spots :: S) H' ∧ Bag H' b c ∧ (tInt : Ty K Int).rp (p_law_spots :: S) H' v_law_reach d_law_reach ∧ ((tL tStr) : Ty K (List Str)).rp (p_law_spots :: S) H' v_law_names_here law_names_here_2 ∧ OwnD ((tT2 tRat tRat) : Ty K (Rat × Rat)) (p_law_spots :: S) H' p_law_spots s_3) (fun H3 fr3 dm3 hB3 => ?_) (fun hd3 s_3 law_name_here_3 C3 v_law_name_here σ' H' hI h_law_name_here hm hret3 hbrk3 => ?_) (fun t_3 σ' H' hm hI => ?_)
  · skip
    have fr0 := fr0.trans fr3
    have h_law_reach := (tInt : Ty K Int).mono (S := (p_law_spots :: S)) (fr3.sub ts) h_law_reach
    have h_law_names_here := ((tL tStr) : Ty K (List Str)).mono (S := (p_law_spots :: S)) (fr3.sub ts) h_law_names_here
    have o_law_spots := o_law_spots.fr fr3 ts nt_law_spots
    have dm := dm3
    have hB := hB3
    exact ⟨v_law_reach, v_law_names_here, _, _, _, _, _, _, _, _, _, rfl, fr0, dm, hB, h_law_reach, h_law_names_here, o_law_spots⟩
  · skip
    obtain ⟨v_law_reach, v_law_names_here, f_4, f_5, f_6, f_7, f_8, f_9, f_10, f_11, f_12, rfl, fr0, dm, hB, h_law_reach, h_law_names_here, o_law_spots⟩ := hI
    let HL := H'
    have freshl : ∀ a ∈ (p_law_spots :: S), a ∉ (p_law_spots :: S) → H' a = none := fun a m n => absurd m n
    have frl : Fr (p_law_spots :: S) HL H' := Fr.refl (T := (p_law_spots :: S)) H'
    have tsl := ts
    have subl : Sub (p_law_spots :: S) (p_law_spots :: S) := fun a m => m
    have iml_law_spots := im_law_spots
    have h_law_name_here : (tStr : Ty K Str).rp (p_law_spots :: S) H' v_law_name_here law_name_here_3 := h_law_name_here
    refine qw_dput (ck := (tStr : Ty K Str)) dm hB ts o_law_spots im_law_spots nt_law_spots rfl (ew_callB rfl (wa_cons (ew_pure (ev_var ts h_law_reach rfl)) wa_nil)) (ev_var ts h_law_name_here rfl) hm (fun law_spots_6 Hd5 H5 hm fr5 dm5 hB5 s5 frx5 ox_law_spots => ?_)
    have fr0 := fr0.trans fr5
    have frl := frl.trans (fr5.sub tsl)
    have h_law_reach := (tInt : Ty K Int).mono (S := (p_law_spots :: S)) (fr5.sub ts) h_law_reach
    have h_law_names_here := ((tL tStr) : Ty K (List Str)).mono (S := (p_law_spots :: S)) (fr5.sub ts) h_law_names_here
    have o_law_spots := o_law_spots.fr fr5 ts nt_law_spots
    have h_law_name_here := (tStr : Ty K Str).mono (S := (p_law_spots :: S)) (fr5.sub ts) h_law_name_here
    have dm := dm5
    have hB := hB5
    have fr0 := fr0.mut hB.dom n0_law_spots s5
    have frl := frl.trans (s5.fr iml_law_spots)
    have dm := dm.fx frx5 s5
    have h_law_reach := (tInt : Ty K Int).mono (S := (p_law_spots :: S)) frx5 h_law_reach
    have h_law_names_here := ((tL tStr) : Ty K (List Str)).mono (S := (p_law_spots :: S)) frx5 h_law_names_here
    have h_law_name_here := (tStr : Ty K Str).mono (S := (p_law_spots :: S)) frx5 h_law_name_here
    have hB := hB.mut s5 nt_law_spots
    have o_law_spots := ox_law_spots
    obtain ⟨J7, hK7, hm⟩ := jn_open hm
    refine seq_last (fun σ' H' => ∃ j17, J7 j17 ∧ Fr (p_law_spots :: S) HL H' ∧ ∃ v_law_reach : V, ∃ v_law_names_here : V, ∃ v_law_name_here : V, ∃ f_5 : Option V, ∃ f_6 : Option V, ∃ f_7 : Option V, ∃ f_8 : Option V, ∃ f_9 : Option V, ∃ f_10 : Option V, ∃ f_11 : Option V, ∃ f_12 : Option V, σ' = [some (.ref b), some v_law_reach, some (.ref p_law_spots), some v_law_names_here, some v_law_name_here, f_5, f_6, f_7, f_8, f_9, f_10, f_11, f_12] ∧ Fr [b, c] H0 H' ∧ Dom (p_law_spots :: S) H' ∧ Bag H' b c ∧ (tInt : Ty K Int).rp (p_law_spots :: S) H' v_law_reach d_law_reach ∧ ((tL tStr) : Ty K (List Str)).rp (p_law_spots :: S) H' v_law_names_here law_names_here_2 ∧ (tStr : Ty K Str).rp (p_law_spots :: S) H' v_law_name_here law_name_here_3 ∧ OwnD ((tT2 tRat tRat) : Ty K (Rat × Rat)) (p_law_spots :: S) H' p_law_spots j17) (fun σ' H' hI => ?_) (fun rest7 => ?_)
    · skip
      obtain ⟨j17, hj, ⟨frl, v_law_reach, v_law_names_here, v_law_name_here, f_5, f_6, f_7, f_8, f_9, f_10, f_11, f_12, rfl, fr0, dm, hB, h_law_reach, h_law_names_here, h_law_name_here, o_law_spots⟩⟩ := hI
      have hm := hK7 j17 hj
      exact ⟨_, hm, frl, ⟨v_law_reach, v_law_names_here, _, _, _, _, _, _, _, _, _, rfl, fr0, dm, hB, h_law_reach, h_law_names_here, o_law_spots⟩⟩
    refine lw_if dm hB ts (bw_test (K := K) (ew_op (od_eqI (K := K)) (ew_draw (K := K) rfl (ew_pure (ev_int (K := K)))) (ew_pure (ev_int (K := K))))) hm (fun H7 hm fr7 dm7 hB7 => ?_) (fun H7 hm fr7 dm7 hB7 => ?_)
    · skip
      have fr0 := fr0.trans fr7
      have frl := frl.trans (fr7.sub tsl)
      have h_law_reach := (tInt : Ty K Int).mono (S := (p_law_spots :: S)) (fr7.sub ts) h_law_reach
      have h_law_names_here := ((tL tStr) : Ty K (List Str)).mono (S := (p_law_spots :: S)) (fr7.sub ts) h_law_names_here
      have o_law_spots := o_law_spots.fr fr7 ts nt_law_spots
      have h_law_name_here := (tStr : Ty K Str).mono (S := (p_law_spots :: S)) (fr7.sub ts) h_law_name_here
      have dm := dm7
      have hB := hB7
      have hm := ifp_t hm
      refine qw_asg dm hB ts (ew_any rfl (ew_pure (ev_new (ev_ownSrtD o_law_spots nt_law_spots ts rfl)))) hm (fun v_law_two H8 law_two_8 hm fr8 dm8 hB8 h_law_two => ?_)
      have fr0 := fr0.trans fr8
      have frl := frl.trans (fr8.sub tsl)
      have h_law_reach := (tInt : Ty K Int).mono (S := (p_law_spots :: S)) (fr8.sub ts) h_law_reach
      have h_law_names_here := ((tL tStr) : Ty K (List Str)).mono (S := (p_law_spots :: S)) (fr8.sub ts) h_law_names_here
      have o_law_spots := o_law_spots.fr fr8 ts nt_law_spots
      have h_law_name_here := (tStr : Ty K Str).mono (S := (p_law_spots :: S)) (fr8.sub ts) h_law_name_here
      have dm := dm8
      have hB := hB8
      have h_law_two : (tStr : Ty K Str).rp (p_law_spots :: S) H8 v_law_two law_two_8 := h_law_two
      refine lw_dput (ck := (tStr : Ty K Str)) dm hB ts o_law_spots im_law_spots nt_law_spots rfl (ew_tup2 (ew_p2r (ew_tup2 (ew_op (od_sub (K := K)) (ew_draw (K := K) rfl (ew_pure (ev_op (od_add (K := K)) (ev_op (od_mul (K := K)) (ev_int (K := K)) (ev_var ts h_law_reach rfl)) (ev_int (K := K))))) (ew_pure (ev_var ts h_law_reach rfl))) (ew_pure (ev_int (K := K))))) (ew_pure (ev_ix21 (ev_ownDGet (ck := (tStr : Ty K Str)) o_law_spots nt_law_spots ts rfl (ev_var ts h_law_two rfl))))) (ev_var ts h_law_name_here rfl) hm (fun law_spots_11 Hd10 H10 hm fr10 dm10 hB10 s10 frx10 ox_law_spots => ?_)
      have fr0 := fr0.trans fr10
      have frl := frl.trans (fr10.sub tsl)
      have h_law_reach := (tInt : Ty K Int).mono (S := (p_law_spots :: S)) (fr10.sub ts) h_law_reach
      have h_law_names_here := ((tL tStr) : Ty K (List Str)).mono (S := (p_law_spots :: S)) (fr10.sub ts) h_law_names_here
      have o_law_spots := o_law_spots.fr fr10 ts nt_law_spots
      have h_law_name_here := (tStr : Ty K Str).mono (S := (p_law_spots :: S)) (fr10.sub ts) h_law_name_here
      have h_law_two := (tStr : Ty K Str).mono (S := (p_law_spots :: S)) (fr10.sub ts) h_law_two
      have dm := dm10
      have hB := hB10
      have fr0 := fr0.mut hB.dom n0_law_spots s10
      have frl := frl.trans (s10.fr iml_law_spots)
      have dm := dm.fx frx10 s10
      have h_law_reach := (tInt : Ty K Int).mono (S := (p_law_spots :: S)) frx10 h_law_reach
      have h_law_names_here := ((tL tStr) : Ty K (List Str)).mono (S := (p_law_spots :: S)) frx10 h_law_names_here
      have h_law_name_here := (tStr : Ty K Str).mono (S := (p_law_spots :: S)) frx10 h_law_name_here
      have h_law_two := (tStr : Ty K Str).mono (S := (p_law_spots :: S)) frx10 h_law_two
      have hB := hB.mut s10 nt_law_spots
      have o_law_spots := ox_law_spots
      exact rest7 _ _ ⟨_, hm, ⟨frl, v_law_reach, v_law_names_here, v_law_name_here, _, _, _, _, _, _, _, _, rfl, fr0, dm, hB, h_law_reach, h_law_names_here, h_law_name_here, o_law_spots⟩⟩
    · skip
      have fr0 := fr0.trans fr7
      have frl := frl.trans (fr7.sub tsl)
      have h_law_reach := (tInt : Ty K Int).mono (S := (p_law_spots :: S)) (fr7.sub ts) h_law_reach
      have h_law_names_here := ((tL tStr) : Ty K (List Str)).mono (S := (p_law_spots :: S)) (fr7.sub ts) h_law_names_here
      have o_law_spots := o_law_spots.fr fr7 ts nt_law_spots
      have h_law_name_here := (tStr : Ty K Str).mono (S := (p_law_spots :: S)) (fr7.sub ts) h_law_name_here
      have dm := dm7
      have hB := hB7
      have hm := ifp_f hm
      obtain ⟨J12, hK12, hm⟩ := jn_open hm
      refine seq_last (fun σ' H' => ∃ j16, J12 j16 ∧ Fr (p_law_spots :: S) HL H' ∧ ∃ v_law_reach : V, ∃ v_law_names_here : V, ∃ v_law_name_here : V, ∃ f_5 : Option V, ∃ f_6 : Option V, ∃ f_7 : Option V, ∃ f_8 : Option V, ∃ f_9 : Option V, ∃ f_10 : Option V, ∃ f_11 : Option V, ∃ f_12 : Option V, σ' = [some (.ref b), some v_law_reach, some (.ref p_law_spots), some v_law_names_here, some v_law_name_here, f_5, f_6, f_7, f_8, f_9, f_10, f_11, f_12] ∧ Fr [b, c] H0 H' ∧ Dom (p_law_spots :: S) H' ∧ Bag H' b c ∧ (tInt : Ty K Int).rp (p_law_spots :: S) H' v_law_reach d_law_reach ∧ ((tL tStr) : Ty K (List Str)).rp (p_law_spots :: S) H' v_law_names_here law_names_here_2 ∧ (tStr : Ty K Str).rp (p_law_spots :: S) H' v_law_name_here law_name_here_3 ∧ OwnD ((tT2 tRat tRat) : Ty K (Rat × Rat)) (p_law_spots :: S) H' p_law_spots j16) (fun σ' H' hI => ?_) (fun rest12 => ?_)
      · skip
        obtain ⟨j16, hj, ⟨frl, v_law_reach, v_law_names_here, v_law_name_here, f_5, f_6, f_7, f_8, f_9, f_10, f_11, f_12, rfl, fr0, dm, hB, h_law_reach, h_law_names_here, h_law_name_here, o_law_spots⟩⟩ := hI
        have hm := hK12 j16 hj
        exact rest7 _ _ ⟨_, hm, ⟨frl, v_law_reach, v_law_names_here, v_law_name_here, _, _, _, _, _, _, _, _, rfl, fr0, dm, hB, h_law_reach, h_law_names_here, h_law_name_here, o_law_spots⟩⟩
      refine lw_if dm hB ts (bw_test (K := K) (ew_op (od_eqI (K := K)) (ew_draw (K := K) rfl (ew_pure (ev_int (K := K)))) (ew_pure (ev_int (K := K))))) hm (fun H12 hm fr12 dm12 hB12 => ?_) (fun H12 hm fr12 dm12 hB12 => ?_)
      · skip
        have fr0 := fr0.trans fr12
        have frl := frl.trans (fr12.sub tsl)
        have h_law_reach := (tInt : Ty K Int).mono (S := (p_law_spots :: S)) (fr12.sub ts) h_law_reach
        have h_law_names_here := ((tL tStr) : Ty K (List Str)).mono (S := (p_law_spots :: S)) (fr12.sub ts) h_law_names_here
        have o_law_spots := o_law_spots.fr fr12 ts nt_law_spots
        have h_law_name_here := (tStr : Ty K Str).mono (S := (p_law_spots :: S)) (fr12.sub ts) h_law_name_here
        have dm := dm12
        have hB := hB12
        have hm := ifp_t hm
        refine lw_dput (ck := (tStr : Ty K Str)) dm hB ts o_law_spots im_law_spots nt_law_spots rfl (ew_ownDGet (ck := (tStr : Ty K Str)) o_law_spots nt_law_spots rfl (ew_any rfl (ew_pure (ev_new (ev_ownSrtD o_law_spots nt_law_spots ts rfl))))) (ev_var ts h_law_name_here rfl) hm (fun law_spots_15 Hd14 H14 hm fr14 dm14 hB14 s14 frx14 ox_law_spots => ?_)
        have fr0 := fr0.trans fr14
        have frl := frl.trans (fr14.sub tsl)
        have h_law_reach := (tInt : Ty K Int).mono (S := (p_law_spots :: S)) (fr14.sub ts) h_law_reach
        have h_law_names_here := ((tL tStr) : Ty K (List Str)).mono (S := (p_law_spots :: S)) (fr14.sub ts) h_law_names_here
        have o_law_spots := o_law_spots.fr fr14 ts nt_law_spots
        have h_law_name_here := (tStr : Ty K Str).mono (S := (p_law_spots :: S)) (fr14.sub ts) h_law_name_here
        have dm := dm14
        have hB := hB14
        have fr0 := fr0.mut hB.dom n0_law_spots s14
        have frl := frl.trans (s14.fr iml_law_spots)
        have dm := dm.fx frx14 s14
        have h_law_reach := (tInt : Ty K Int).mono (S := (p_law_spots :: S)) frx14 h_law_reach
        have h_law_names_here := ((tL tStr) : Ty K (List Str)).mono (S := (p_law_spots :: S)) frx14 h_law_names_here
        have h_law_name_here := (tStr : Ty K Str).mono (S := (p_law_spots :: S)) frx14 h_law_name_here
        have hB := hB.mut s14 nt_law_spots
        have o_law_spots := ox_law_spots
        exact rest12 _ _ ⟨_, hm, ⟨frl, v_law_reach, v_law_names_here, v_law_name_here, _, _, _, _, _, _, _, _, rfl, fr0, dm, hB, h_law_reach, h_law_names_here, h_law_name_here, o_law_spots⟩⟩
      · skip
        have fr0 := fr0.trans fr12
        have frl := frl.trans (fr12.sub tsl)
        have h_law_reach := (tInt : Ty K Int).mono (S := (p_law_spots :: S)) (fr12.sub ts) h_law_reach
        have h_law_names_here := ((tL tStr) : Ty K (List Str)).mono (S := (p_law_spots :: S)) (fr12.sub ts) h_law_names_here
        have o_law_spots := o_law_spots.fr fr12 ts nt_law_spots
        have h_law_name_here := (tStr : Ty K Str).mono (S := (p_law_spots :: S)) (fr12.sub ts) h_law_name_here
        have dm := dm12
        have hB := hB12
        have hm := ifp_f hm
        exact rest12 _ _ ⟨_, hm, ⟨frl, v_law_reach, v_law_names_here, v_law_name_here, _, _, _, _, _, _, _, _, rfl, fr0, dm, hB, h_law_reach, h_law_names_here, h_law_name_here, o_law_spots⟩⟩
  obtain ⟨v_law_reach, v_law_names_here, f_4, f_5, f_6, f_7, f_8, f_9, f_10, f_11, f_12, rfl, fr0, dm, hB, h_law_reach, h_law_names_here, o_law_spots⟩ := hI
  obtain ⟨law_lines_18, e18, hm⟩ := hm
  refine q_asg (T := [b, c]) dm (ev_dnew (κ := Str) (b' := ((tT2 tStr (tTs tStr)) : Ty K (Str × (List Str))))) e18 (fun v_law_lines H18 s18 hx => ?_)
  obtain ⟨p_law_lines, rfl, np_law_lines, o_law_lines⟩ := hx
  have ns_law_lines : p_law_lines ∉ (p_law_spots :: S) := dm.not_mem np_law_lines
  have nb_law_lines : p_law_lines ∉ S := fun m => ns_law_lines (sub0 _ m)
  have n0_law_lines := fr_back fr0 hB.dom np_law_lines
  have nt_law_lines := hB.dom.not_mem np_law_lines
  have fr0 := fr0.trans (Fr.same s18)
  have h_law_reach := (tInt : Ty K Int).mono (Fr.same s18) ((tInt : Ty K Int).ext (S := (p_law_spots :: S)) np_law_lines h_law_reach)
  have h_law_names_here := ((tL tStr) : Ty K (List Str)).mono (Fr.same s18) (((tL tStr) : Ty K (List Str)).ext (S := (p_law_spots :: S)) np_law_lines h_law_names_here)
  have ne_law_spots_law_lines := o_law_spots.ne np_law_lines
  have o_law_spots := (o_law_spots.ext np_law_lines).same s18
  have im_law_spots := List.mem_cons_of_mem p_law_lines im_law_spots
  have dm := (dm.same s18).cons o_law_lines.choose_spec.1
  have ts := sub_cons (p := p_law_lines) ts
  have sub0 := sub_cons (p := p_law_lines) sub0
  have im_law_lines : p_law_lines ∈ p_law_lines :: (p_law_spots :: S) := List.mem_cons_self ..
  have hB := hB.same s18
  have ne_law_lines_law_spots := Ne.symm ne_law_spots_law_lines
  refine qw_for_s dm hB ts (srw_r1 (K := K) (ew_draw (K := K) rfl (ew_pure (ev_int (K := K))))) hm (fun s_19 σ' H' => ∃ v_law_reach : V, ∃ v_law_names_here : V, ∃ f_4 : Option V, ∃ f_5 : Option V, ∃ f_7 : Option V, ∃ f_8 : Option V, ∃ f_9 : Option V, ∃ f_10 : Option V, ∃ f_11 : Option V, ∃ f_12 : Option V, σ' = [some (.ref b), some v_law_reach, some (.ref p_law_spots), some v_law_names_here, f_4, f_5, some (.ref p_law_lines), f_7, f_8, f_9, f_10, f_11, f_12] ∧ Fr [b, c] H0 H' ∧ Dom (p_law_lines :: (p_law_spots :: S)) H' ∧ Bag H' b c ∧ (tInt : Ty K Int).rp (p_law_lines :: (p_law_spots :: S)) H' v_law_reach d_law_reach ∧ ((tL tStr) : Ty K (List Str)).rp (p_law_lines :: (p_law_spots :: S)) H' v_law_names_here law_names_here_2 ∧ OwnD ((tT2 tRat tRat) : Ty K (Rat × Rat)) (p_law_lines :: (p_law_spots :: S)) H' p_law_spots t_3 ∧ OwnD ((tT2 tStr (tTs tStr)) : Ty K (Str × (List Str))) (p_law_lines :: (p_law_spots :: S)) H' p_law_lines s_19) (fun H19 fr19 dm19 hB19 => ?_) (fun hd19 s_19 law_k_19 C19 v_law_k σ' H' hI h_law_k hm hret19 hbrk19 => ?_) (fun t_19 σ' H' hm hI => ?_)
  · skip
    have fr0 := fr0.trans fr19
    have h_law_reach := (tInt : Ty K Int).mono (S := (p_law_lines :: (p_law_spots :: S))) (fr19.sub ts) h_law_reach
    have h_law_names_here := ((tL tStr) : Ty K (List Str)).mono (S := (p_law_lines :: (p_law_spots :: S))) (fr19.sub ts) h_law_names_here
    have o_law_spots := o_law_spots.fr fr19 ts nt_law_spots
    have o_law_lines := o_law_lines.fr fr19 ts nt_law_lines
    have dm := dm19
    have hB := hB19
    exact ⟨v_law_reach, v_law_names_here, _, _, _, _, _, _, _, _, rfl, fr0, dm, hB, h_law_reach, h_law_names_here, o_law_spots, o_law_lines⟩
  · skip
    obtain ⟨v_law_reach, v_law_names_here, f_4, f_5, f_7, f_8, f_9, f_10, f_11, f_12, rfl, fr0, dm, hB, h_law_reach, h_law_names_here, o_law_spots, o_law_lines⟩ := hI
    let HL := H'
    have freshl : ∀ a ∈ (p_law_lines :: (p_law_spots :: S)), a ∉ (p_law_lines :: (p_law_spots :: S)) → H' a = none := fun a m n => absurd m n
    have frl : Fr (p_law_lines :: (p_law_spots :: S)) HL H' := Fr.refl (T := (p_law_lines :: (p_law_spots :: S))) H'
    have tsl := ts
    have subl : Sub (p_law_lines :: (p_law_spots :: S)) (p_law_lines :: (p_law_spots :: S)) := fun a m => m
    have iml_law_spots := im_law_spots
    have iml_law_lines := im_law_lines
    have h_law_k : (tInt : Ty K Int).rp (p_law_lines :: (p_law_spots :: S)) H' v_law_k law_k_19 := h_law_k
    refine qw_asg dm hB ts (ew_lst (wl_cons (ew_any rfl (ew_pure (ev_new (ev_op od_cat (ev_new (ev_op od_cat (ev_var ts h_law_names_here rfl) (ev_var ts h_law_names_here rfl))) (ev_new (ev_lst (el_cons (ev_str (K := K)) el_nil) (by decide))))))) wl_nil) (by decide)) hm (fun v_law_row H20 law_row_20 hm fr20 dm20 hB20 hx => ?_)
    obtain ⟨p_law_row, rfl, np_law_row, o_law_row⟩ := hx
    have ns_law_row : p_law_row ∉ (p_law_lines :: (p_law_spots :: S)) := dm.not_mem np_law_row
    have nb_law_row : p_law_row ∉ S := fun m => ns_law_row (sub0 _ m)
    have nbl_law_row : p_law_row ∉ (p_law_lines :: (p_law_spots :: S)) := fun m => ns_law_row (subl _ m)
    have n0_law_row := fr_back fr0 hB.dom np_law_row
    have nt_law_row := hB.dom.not_mem np_law_row
    have fr0 := fr0.trans fr20
    have nl_law_row := fr_back frl (dm.sub subl) np_law_row
    have frl := frl.trans (fr20.sub tsl)
    have subl := sub_cons (p := p_law_row) subl
    have freshl := fresh_cons freshl nl_law_row
    have h_law_reach := (tInt : Ty K Int).mono (fr20.sub (sub_cons ts)) ((tInt : Ty K Int).ext (S := (p_law_lines :: (p_law_spots :: S))) np_law_row h_law_reach)
    have h_law_names_here := ((tL tStr) : Ty K (List Str)).mono (fr20.sub (sub_cons ts)) (((tL tStr) : Ty K (List Str)).ext (S := (p_law_lines :: (p_law_spots :: S))) np_law_row h_law_names_here)
    have ne_law_spots_law_row := o_law_spots.ne np_law_row
    have o_law_spots := (o_law_spots.ext np_law_row).fr fr20 (sub_cons ts) nt_law_spots
    have im_law_spots := List.mem_cons_of_mem p_law_row im_law_spots
    have ne_law_lines_law_row := o_law_lines.ne np_law_row
    have o_law_lines := (o_law_lines.ext np_law_row).fr fr20 (sub_cons ts) nt_law_lines
    have im_law_lines := List.mem_cons_of_mem p_law_row im_law_lines
    have h_law_k := (tInt : Ty K Int).mono (fr20.sub (sub_cons ts)) ((tInt : Ty K Int).ext (S := (p_law_lines :: (p_law_spots :: S))) np_law_row h_law_k)
    have dm := (dm20).cons o_law_row.choose_spec.1
    have ts := sub_cons (p := p_law_row) ts
    have sub0 := sub_cons (p := p_law_row) sub0
    have im_law_row : p_law_row ∈ p_law_row :: (p_law_lines :: (p_law_spots :: S)) := List.mem_cons_self ..
    have ne_law_row_law_spots := Ne.symm ne_law_spots_law_row
    have ne_law_row_law_lines := Ne.symm ne_law_lines_law_row
    skip
    have hB := hB20
    refine qw_for_s dm hB ts (srw_r1 (K := K) (ew_op (od_add (K := K)) (ew_pure (ev_int (K := K))) (ew_draw (K := K) rfl (ew_pure (ev_int (K := K)))))) hm (fun s_21 σ' H' => Fr (p_law_lines :: (p_law_spots :: S)) HL H' ∧ ∃ v_law_reach : V, ∃ v_law_names_here : V, ∃ v_law_k : V, ∃ f_4 : Option V, ∃ f_5 : Option V, ∃ f_9 : Option V, ∃ f_10 : Option V, ∃ f_11 : Option V, ∃ f_12 : Option V, σ' = [some (.ref b), some v_law_reach, some (.ref p_law_spots), some v_law_names_here, f_4, f_5, some (.ref p_law_lines), some v_law_k, some (.ref p_law_row), f_9, f_10, f_11, f_12] ∧ Fr [b, c] H0 H' ∧ Dom (p_law_row :: (p_law_lines :: (p_law_spots :: S))) H' ∧ Bag H' b c ∧ (tInt : Ty K Int).rp (p_law_row :: (p_law_lines :: (p_law_spots :: S))) H' v_law_reach d_law_reach ∧ ((tL tStr) : Ty K (List Str)).rp (p_law_row :: (p_law_lines :: (p_law_spots :: S))) H' v_law_names_here law_names_here_2 ∧ OwnD ((tT2 tRat tRat) : Ty K (Rat × Rat)) (p_law_row :: (p_law_lines :: (p_law_spots :: S))) H' p_law_spots t_3 ∧ OwnD ((tT2 tStr (tTs tStr)) : Ty K (Str × (List Str))) (p_law_row :: (p_law_lines :: (p_law_spots :: S))) H' p_law_lines s_19 ∧ (tInt : Ty K Int).rp (p_law_row :: (p_law_lines :: (p_law_spots :: S))) H' v_law_k law_k_19 ∧ Own (tStr : Ty K Str) (p_law_row :: (p_law_lines :: (p_law_spots :: S))) H' p_law_row s_21) (fun H21 fr21 dm21 hB21 => ?_) (fun hd21 s_21 law_turn_21 C21 v_law_turn σ' H' hI h_law_turn hm hret21 hbrk21 => ?_) (fun t_21 σ' H' hm hI => ?_)
    · skip
      have fr0 := fr0.trans fr21
      have frl := frl.trans (fr21.sub tsl)
      have h_law_reach := (tInt : Ty K Int).mono (S := (p_law_row :: (p_law_lines :: (p_law_spots :: S)))) (fr21.sub ts) h_law_reach
      have h_law_names_here := ((tL tStr) : Ty K (List Str)).mono (S := (p_law_row :: (p_law_lines :: (p_law_spots :: S)))) (fr21.sub ts) h_law_names_here
      have o_law_spots := o_law_spots.fr fr21 ts nt_law_spots
      have o_law_lines := o_law_lines.fr fr21 ts nt_law_lines
      have h_law_k := (tInt : Ty K Int).mono (S := (p_law_row :: (p_law_lines :: (p_law_spots :: S)))) (fr21.sub ts) h_law_k
      have o_law_row := o_law_row.fr fr21 ts nt_law_row
      have dm := dm21
      have hB := hB21
      exact ⟨frl, v_law_reach, v_law_names_here, v_law_k, _, _, _, _, _, _, rfl, fr0, dm, hB, h_law_reach, h_law_names_here, o_law_spots, o_law_lines, h_law_k, o_law_row⟩
    · skip
      obtain ⟨frl, v_law_reach, v_law_names_here, v_law_k, f_4, f_5, f_9, f_10, f_11, f_12, rfl, fr0, dm, hB, h_law_reach, h_law_names_here, o_law_spots, o_law_lines, h_law_k, o_law_row⟩ := hI
      have frlo := frl
      have freshlo := freshl
      let HL := H'
      have freshl : ∀ a ∈ (p_law_row :: (p_law_lines :: (p_law_spots :: S))), a ∉ (p_law_row :: (p_law_lines :: (p_law_spots :: S))) → H' a = none := fun a m n => absurd m n
      have frl : Fr (p_law_row :: (p_law_lines :: (p_law_spots :: S))) HL H' := Fr.refl (T := (p_law_row :: (p_law_lines :: (p_law_spots :: S)))) H'
      have tsl := ts
      have subl : Sub (p_law_row :: (p_law_lines :: (p_law_spots :: S))) (p_law_row :: (p_law_lines :: (p_law_spots :: S))) := fun a m => m
      have iml_law_spots := im_law_spots
      have iml_law_lines := im_law_lines
      have iml_law_row := im_law_row
      have h_law_turn : (tInt : Ty K Int).rp (p_law_row :: (p_law_lines :: (p_law_spots :: S))) H' v_law_turn law_turn_21 := h_law_turn
      refine qw_asg dm hB ts (ew_any rfl (ew_pure (ev_var ts h_law_names_here rfl))) hm (fun v_law_more H22 law_more_22 hm fr22 dm22 hB22 h_law_more => ?_)
      have fr0 := fr0.trans fr22
      have frl := frl.trans (fr22.sub tsl)
      have h_law_reach := (tInt : Ty K Int).mono (S := (p_law_row :: (p_law_lines :: (p_law_spots :: S)))) (fr22.sub ts) h_law_reach
      have h_law_names_here := ((tL tStr) : Ty K (List Str)).mono (S := (p_law_row :: (p_law_lines :: (p_law_spots :: S)))) (fr22.sub ts) h_law_names_here
      have o_law_spots := o_law_spots.fr fr22 ts nt_law_spots
      have o_law_lines := o_law_lines.fr fr22 ts nt_law_lines
      have h_law_k := (tInt : Ty K Int).mono (S := (p_law_row :: (p_law_lines :: (p_law_spots :: S)))) (fr22.sub ts) h_law_k
      have o_law_row := o_law_row.fr fr22 ts nt_law_row
      have h_law_turn := (tInt : Ty K Int).mono (S := (p_law_row :: (p_law_lines :: (p_law_spots :: S)))) (fr22.sub ts) h_law_turn
      have dm := dm22
      have hB := hB22
      have h_law_more : (tStr : Ty K Str).rp (p_law_row :: (p_law_lines :: (p_law_spots :: S))) H22 v_law_more law_more_22 := h_law_more
      obtain ⟨J23, hK23, hm⟩ := jn_open hm
      refine seq_last (fun σ' H' => ∃ j26, J23 j26 ∧ Fr (p_law_row :: (p_law_lines :: (p_law_spots :: S))) HL H' ∧ ∃ v_law_reach : V, ∃ v_law_names_here : V, ∃ v_law_k : V, ∃ v_law_turn : V, ∃ v_law_more : V, ∃ f_4 : Option V, ∃ f_5 : Option V, ∃ f_11 : Option V, ∃ f_12 : Option V, σ' = [some (.ref b), some v_law_reach, some (.ref p_law_spots), some v_law_names_here, f_4, f_5, some (.ref p_law_lines), some v_law_k, some (.ref p_law_row), some v_law_turn, some v_law_more, f_11, f_12] ∧ Fr [b, c] H0 H' ∧ Dom (p_law_row :: (p_law_lines :: (p_law_spots :: S))) H' ∧ Bag H' b c ∧ (tInt : Ty K Int).rp (p_law_row :: (p_law_lines :: (p_law_spots :: S))) H' v_law_reach d_law_reach ∧ ((tL tStr) : Ty K (List Str)).rp (p_law_row :: (p_law_lines :: (p_law_spots :: S))) H' v_law_names_here law_names_here_2 ∧ OwnD ((tT2 tRat tRat) : Ty K (Rat × Rat)) (p_law_row :: (p_law_lines :: (p_law_spots :: S))) H' p_law_spots t_3 ∧ OwnD ((tT2 tStr (tTs tStr)) : Ty K (Str × (List Str))) (p_law_row :: (p_law_lines :: (p_law_spots :: S))) H' p_law_lines s_19 ∧ (tInt : Ty K Int).rp (p_law_row :: (p_law_lines :: (p_law_spots :: S))) H' v_law_k law_k_19 ∧ (tInt : Ty K Int).rp (p_law_row :: (p_law_lines :: (p_law_spots :: S))) H' v_law_turn law_turn_21 ∧ (tStr : Ty K Str).rp (p_law_row :: (p_law_lines :: (p_law_spots :: S))) H' v_law_more law_more_22 ∧ Own (tStr : Ty K Str) (p_law_row :: (p_law_lines :: (p_law_spots :: S))) H' p_law_row j26) (fun σ' H' hI => ?_) (fun rest23 => ?_)
      · skip
        obtain ⟨j26, hj, ⟨frl, v_law_reach, v_law_names_here, v_law_k, v_law_turn, v_law_more, f_4, f_5, f_11, f_12, rfl, fr0, dm, hB, h_law_reach, h_law_names_here, o_law_spots, o_law_lines, h_law_k, h_law_turn, h_law_more, o_law_row⟩⟩ := hI
        have hm := hK23 j26 hj
        exact ⟨_, hm, frl, ⟨frlo.transx frl freshlo, v_law_reach, v_law_names_here, v_law_k, _, _, _, _, _, _, rfl, fr0, dm, hB, h_law_reach, h_law_names_here, o_law_spots, o_law_lines, h_law_k, o_law_row⟩⟩
      obtain ⟨c23, e23, hm⟩ := hm
      refine l_if (T := [b, c]) dm (by refine eb_shr (S' := (p_law_lines :: (p_law_spots :: S))) (sub_cons (fun a m => m)) ?_; have sbz : Sub (p_law_lines :: (p_law_spots :: S)) (p_law_row :: (p_law_lines :: (p_law_spots :: S))) := (sub_cons (fun a m => m)); (have nfz : p_law_row ∉ (p_law_lines :: (p_law_spots :: S)) := by first | exact ns_law_row | (have h := ns_law_row; simp only [List.mem_cons, not_or] at h ⊢; grind)); have h_law_row := o_law_row.frz sbz nfz; have h_law_reach := (tInt : Ty K Int).sub sbz h_law_reach; have h_law_names_here := ((tL tStr) : Ty K (List Str)).sub sbz h_law_names_here; have o_law_spots := o_law_spots.sub sbz; have o_law_lines := o_law_lines.sub sbz; have h_law_k := (tInt : Ty K Int).sub sbz h_law_k; have h_law_turn := (tInt : Ty K Int).sub sbz h_law_turn; have h_law_more := (tStr : Ty K Str).sub sbz h_law_more; (have ts : Sub [b, c] (p_law_lines :: (p_law_spots :: S)) := fun a m => by have h1 := ts a m; have h2 : a ≠ p_law_row := (fun e => nt_law_row (e ▸ m)); simp only [List.mem_cons] at h1 ⊢; grind); exact (eb_test (K := K) (ev_op (od_neS (K := K)) (ev_var ts h_law_more rfl) (ev_op od_ixL (ev_var ts h_law_row rfl) (ev_neg (ev_int (K := K))))))) e23 (fun hc H23 s23 => ?_) (fun hc H23 s23 => ?_)
      · skip
        subst hc
        have fr0 := fr0.trans (Fr.same s23)
        have dm := dm.same s23
        have frl := frl.trans (Fr.same s23)
        have h_law_reach := (tInt : Ty K Int).mono (S := (p_law_row :: (p_law_lines :: (p_law_spots :: S)))) (Fr.same s23) h_law_reach
        have h_law_names_here := ((tL tStr) : Ty K (List Str)).mono (S := (p_law_row :: (p_law_lines :: (p_law_spots :: S)))) (Fr.same s23) h_law_names_here
        have o_law_spots := o_law_spots.same s23
        have o_law_lines := o_law_lines.same s23
        have h_law_k := (tInt : Ty K Int).mono (S := (p_law_row :: (p_law_lines :: (p_law_spots :: S)))) (Fr.same s23) h_law_k
        have o_law_row := o_law_row.same s23
        have h_law_turn := (tInt : Ty K Int).mono (S := (p_law_row :: (p_law_lines :: (p_law_spots :: S)))) (Fr.same s23) h_law_turn
        have h_law_more := (tStr : Ty K Str).mono (S := (p_law_row :: (p_law_lines :: (p_law_spots :: S)))) (Fr.same s23) h_law_more
        have hB := hB.same s23
        have hm := ifp_t hm
        obtain ⟨a24, e24, hm⟩ := hm
        obtain ⟨law_row_25, f24, hm⟩ := hm
        refine l_app (T := [b, c]) dm o_law_row im_law_row nt_law_row ts rfl (ev_var ts h_law_more rfl) e24 f24 (fun H24 s24 frx24 o_law_row => ?_)
        have fr0 := fr0.mut hB.dom n0_law_row s24
        have frl := frl.trans (s24.fr iml_law_row)
        have dm := dm.fx frx24 s24
        have h_law_reach := (tInt : Ty K Int).mono (S := (p_law_row :: (p_law_lines :: (p_law_spots :: S)))) frx24 h_law_reach
        have h_law_names_here := ((tL tStr) : Ty K (List Str)).mono (S := (p_law_row :: (p_law_lines :: (p_law_spots :: S)))) frx24 h_law_names_here
        have o_law_spots := o_law_spots.mut frx24 s24 ne_law_spots_law_row
        have o_law_lines := o_law_lines.mut frx24 s24 ne_law_lines_law_row
        have h_law_k := (tInt : Ty K Int).mono (S := (p_law_row :: (p_law_lines :: (p_law_spots :: S)))) frx24 h_law_k
        have h_law_turn := (tInt : Ty K Int).mono (S := (p_law_row :: (p_law_lines :: (p_law_spots :: S)))) frx24 h_law_turn
        have h_law_more := (tStr : Ty K Str).mono (S := (p_law_row :: (p_law_lines :: (p_law_spots :: S)))) frx24 h_law_more
        have hB := hB.mut s24 nt_law_row
        exact rest23 _ _ ⟨_, hm, ⟨frl, v_law_reach, v_law_names_here, v_law_k, v_law_turn, v_law_more, _, _, _, _, rfl, fr0, dm, hB, h_law_reach, h_law_names_here, o_law_spots, o_law_lines, h_law_k, h_law_turn, h_law_more, o_law_row⟩⟩
      · skip
        subst hc
        have fr0 := fr0.trans (Fr.same s23)
        have dm := dm.same s23
        have frl := frl.trans (Fr.same s23)
        have h_law_reach := (tInt : Ty K Int).mono (S := (p_law_row :: (p_law_lines :: (p_law_spots :: S)))) (Fr.same s23) h_law_reach
        have h_law_names_here := ((tL tStr) : Ty K (List Str)).mono (S := (p_law_row :: (p_law_lines :: (p_law_spots :: S)))) (Fr.same s23) h_law_names_here
        have o_law_spots := o_law_spots.same s23
        have o_law_lines := o_law_lines.same s23
        have h_law_k := (tInt : Ty K Int).mono (S := (p_law_row :: (p_law_lines :: (p_law_spots :: S)))) (Fr.same s23) h_law_k
        have o_law_row := o_law_row.same s23
        have h_law_turn := (tInt : Ty K Int).mono (S := (p_law_row :: (p_law_lines :: (p_law_spots :: S)))) (Fr.same s23) h_law_turn
        have h_law_more := (tStr : Ty K Str).mono (S := (p_law_row :: (p_law_lines :: (p_law_spots :: S)))) (Fr.same s23) h_law_more
        have hB := hB.same s23
        have hm := ifp_f hm
        exact rest23 _ _ ⟨_, hm, ⟨frl, v_law_reach, v_law_names_here, v_law_k, v_law_turn, v_law_more, _, _, _, _, rfl, fr0, dm, hB, h_law_reach, h_law_names_here, o_law_spots, o_law_lines, h_law_k, h_law_turn, h_law_more, o_law_row⟩⟩
    obtain ⟨frl, v_law_reach, v_law_names_here, v_law_k, f_4, f_5, f_9, f_10, f_11, f_12, rfl, fr0, dm, hB, h_law_reach, h_law_names_here, o_law_spots, o_law_lines, h_law_k, o_law_row⟩ := hI
    have sbz : Sub (p_law_lines :: (p_law_spots :: S)) (p_law_row :: (p_law_lines :: (p_law_spots :: S))) := (sub_cons (fun a m => m))
    have nfz : p_law_row ∉ (p_law_lines :: (p_law_spots :: S)) := by first | exact ns_law_row | (have h := ns_law_row; simp only [List.mem_cons, not_or] at h ⊢; grind)
    have h_law_row := o_law_row.frz sbz nfz
    have dm := dm.sub sbz
    have h_law_reach := (tInt : Ty K Int).sub sbz h_law_reach
    have h_law_names_here := ((tL tStr) : Ty K (List Str)).sub sbz h_law_names_here
    have o_law_spots := o_law_spots.sub sbz
    have im_law_spots : p_law_spots ∈ (p_law_lines :: (p_law_spots :: S)) := (List.mem_cons_of_mem _ (List.mem_cons_self ..))
    have o_law_lines := o_law_lines.sub sbz
    have im_law_lines : p_law_lines ∈ (p_law_lines :: (p_law_spots :: S)) := (List.mem_cons_self ..)
    have h_law_k := (tInt : Ty K Int).sub sbz h_law_k
    have ts : Sub [b, c] (p_law_lines :: (p_law_spots :: S)) := fun a m => by have h1 := ts a m; have h2 : a ≠ p_law_row := (fun e => nt_law_row (e ▸ m)); simp only [List.mem_cons] at h1 ⊢; grind
    have sub0 : Sub S (p_law_lines :: (p_law_spots :: S)) := fun a m => by have h1 := sub0 a m; have h2 : a ≠ p_law_row := (fun e => nb_law_row (e ▸ m)); simp only [List.mem_cons] at h1 ⊢; grind
    have subl : Sub (p_law_lines :: (p_law_spots :: S)) (p_law_lines :: (p_law_spots :: S)) := fun a m => by have h1 := subl a m; have h2 : a ≠ p_law_row := (fun e => nbl_law_row (e ▸ m)); simp only [List.mem_cons] at h1 ⊢; grind
    have freshl := fun a m n => freshl a (sbz a m) n
    obtain ⟨J27, hK27, hm⟩ := jn_open hm
    refine seq_last (fun σ' H' => ∃ j32, J27 j32 ∧ Fr (p_law_lines :: (p_law_spots :: S)) HL H' ∧ ∃ v_law_reach : V, ∃ v_law_names_here : V, ∃ v_law_k : V, ∃ f_4 : Option V, ∃ f_5 : Option V, ∃ f_9 : Option V, ∃ f_10 : Option V, ∃ f_11 : Option V, ∃ f_12 : Option V, σ' = [some (.ref b), some v_law_reach, some (.ref p_law_spots), some v_law_names_here, f_4, f_5, some (.ref p_law_lines), some v_law_k, some (.ref p_law_row), f_9, f_10, f_11, f_12] ∧ Fr [b, c] H0 H' ∧ Dom (p_law_lines :: (p_law_spots :: S)) H' ∧ Bag H' b c ∧ (tInt : Ty K Int).rp (p_law_lines :: (p_law_spots :: S)) H' v_law_reach d_law_reach ∧ ((tL tStr) : Ty K (List Str)).rp (p_law_lines :: (p_law_spots :: S)) H' v_law_names_here law_names_here_2 ∧ OwnD ((tT2 tRat tRat) : Ty K (Rat × Rat)) (p_law_lines :: (p_law_spots :: S)) H' p_law_spots t_3 ∧ (tInt : Ty K Int).rp (p_law_lines :: (p_law_spots :: S)) H' v_law_k law_k_19 ∧ ((tL tStr) : Ty K (List Str)).rp (p_law_lines :: (p_law_spots :: S)) H' (.ref p_law_row) t_21 ∧ OwnD ((tT2 tStr (tTs tStr)) : Ty K (Str × (List Str))) (p_law_lines :: (p_law_spots :: S)) H' p_law_lines j32) (fun σ' H' hI => ?_) (fun rest27 => ?_)
    · skip
      obtain ⟨j32, hj, ⟨frl, v_law_reach, v_law_names_here, v_law_k, f_4, f_5, f_9, f_10, f_11, f_12, rfl, fr0, dm, hB, h_law_reach, h_law_names_here, o_law_spots, h_law_k, h_law_row, o_law_lines⟩⟩ := hI
      have hm := hK27 j32 hj
      exact ⟨_, hm, frl, ⟨v_law_reach, v_law_names_here, _, _, _, _, _, _, _, _, rfl, fr0, dm, hB, h_law_reach, h_law_names_here, o_law_spots, o_law_lines⟩⟩
    obtain ⟨c27, e27, hm⟩ := hm
    refine l_if (T := [b, c]) dm (eb_test (K := K) (ev_op (od_gt (K := K)) (ev_lenL (ev_var ts h_law_row rfl)) (ev_int (K := K)))) e27 (fun hc H27 s27 => ?_) (fun hc H27 s27 => ?_)
    · skip
      subst hc
      have fr0 := fr0.trans (Fr.same s27)
      have dm := dm.same s27
      have frl := frl.trans (Fr.same s27)
      have h_law_reach := (tInt : Ty K Int).mono (S := (p_law_lines :: (p_law_spots :: S))) (Fr.same s27) h_law_reach
      have h_law_names_here := ((tL tStr) : Ty K (List Str)).mono (S := (p_law_lines :: (p_law_spots :: S))) (Fr.same s27) h_law_names_here
      have o_law_spots := o_law_spots.same s27
      have o_law_lines := o_law_lines.same s27
      have h_law_k := (tInt : Ty K Int).mono (S := (p_law_lines :: (p_law_spots :: S))) (Fr.same s27) h_law_k
      have h_law_row := ((tL tStr) : Ty K (List Str)).mono (S := (p_law_lines :: (p_law_spots :: S))) (Fr.same s27) h_law_row
      have hB := hB.same s27
      have hm := ifp_t hm
      refine qw_asg dm hB ts (ew_any rfl (ew_pure (ev_new (ev_lst (el_cons (ev_str (K := K)) (el_cons (ev_str (K := K)) (el_cons (ev_str (K := K)) (el_cons (ev_str (K := K)) el_nil)))) (by decide))))) hm (fun v_law_kind H28 law_kind_28 hm fr28 dm28 hB28 h_law_kind => ?_)
      have fr0 := fr0.trans fr28
      have frl := frl.trans (fr28.sub tsl)
      have h_law_reach := (tInt : Ty K Int).mono (S := (p_law_lines :: (p_law_spots :: S))) (fr28.sub ts) h_law_reach
      have h_law_names_here := ((tL tStr) : Ty K (List Str)).mono (S := (p_law_lines :: (p_law_spots :: S))) (fr28.sub ts) h_law_names_here
      have o_law_spots := o_law_spots.fr fr28 ts nt_law_spots
      have o_law_lines := o_law_lines.fr fr28 ts nt_law_lines
      have h_law_k := (tInt : Ty K Int).mono (S := (p_law_lines :: (p_law_spots :: S))) (fr28.sub ts) h_law_k
      have h_law_row := ((tL tStr) : Ty K (List Str)).mono (S := (p_law_lines :: (p_law_spots :: S))) (fr28.sub ts) h_law_row
      have dm := dm28
      have hB := hB28
      have h_law_kind : (tStr : Ty K Str).rp (p_law_lines :: (p_law_spots :: S)) H28 v_law_kind law_kind_28 := h_law_kind
      refine lw_dputK (ck := (tStr : Ty K Str)) dm hB ts o_law_lines im_law_lines nt_law_lines rfl (ew_pure (ev_tup2 (ev_var ts h_law_kind rfl) (ev_tupleL (ev_var ts h_law_row rfl)))) (ew_op (od_mulS (K := K)) (ew_pure (ev_op (od_ixS (K := K)) (ev_str (K := K)) (ev_var ts h_law_k rfl))) (ew_op (od_add (K := K)) (ew_pure (ev_int (K := K))) (ew_draw (K := K) rfl (ew_pure (ev_int (K := K)))))) hm (fun law_lines_31 Hd30 H30 hm fr30 dm30 hB30 s30 frx30 ox_law_lines => ?_)
      have fr0 := fr0.trans fr30
      have frl := frl.trans (fr30.sub tsl)
      have h_law_reach := (tInt : Ty K Int).mono (S := (p_law_lines :: (p_law_spots :: S))) (fr30.sub ts) h_law_reach
      have h_law_names_here := ((tL tStr) : Ty K (List Str)).mono (S := (p_law_lines :: (p_law_spots :: S))) (fr30.sub ts) h_law_names_here
      have o_law_spots := o_law_spots.fr fr30 ts nt_law_spots
      have o_law_lines := o_law_lines.fr fr30 ts nt_law_lines
      have h_law_k := (tInt : Ty K Int).mono (S := (p_law_lines :: (p_law_spots :: S))) (fr30.sub ts) h_law_k
      have h_law_row := ((tL tStr) : Ty K (List Str)).mono (S := (p_law_lines :: (p_law_spots :: S))) (fr30.sub ts) h_law_row
      have h_law_kind := (tStr : Ty K Str).mono (S := (p_law_lines :: (p_law_spots :: S))) (fr30.sub ts) h_law_kind
      have dm := dm30
      have hB := hB30
      have fr0 := fr0.mut hB.dom n0_law_lines s30
      have frl := frl.trans (s30.fr iml_law_lines)
      have dm := dm.fx frx30 s30
      have h_law_reach := (tInt : Ty K Int).mono (S := (p_law_lines :: (p_law_spots :: S))) frx30 h_law_reach
      have h_law_names_here := ((tL tStr) : Ty K (List Str)).mono (S := (p_law_lines :: (p_law_spots :: S))) frx30 h_law_names_here
      have o_law_spots := o_law_spots.mut frx30 s30 ne_law_spots_law_lines
      have h_law_k := (tInt : Ty K Int).mono (S := (p_law_lines :: (p_law_spots :: S))) frx30 h_law_k
      have h_law_row := ((tL tStr) : Ty K (List Str)).mono (S := (p_law_lines :: (p_law_spots :: S))) frx30 h_law_row
      have h_law_kind := (tStr : Ty K Str).mono (S := (p_law_lines :: (p_law_spots :: S))) frx30 h_law_kind
      have hB := hB.mut s30 nt_law_lines
      have o_law_lines := ox_law_lines
      exact rest27 _ _ ⟨_, hm, ⟨frl, v_law_reach, v_law_names_here, v_law_k, _, _, _, _, _, _, rfl, fr0, dm, hB, h_law_reach, h_law_names_here, o_law_spots, h_law_k, h_law_row, o_law_lines⟩⟩
    · skip
      subst hc
      have fr0 := fr0.trans (Fr.same s27)
      have dm := dm.same s27
      have frl := frl.trans (Fr.same s27)
      have h_law_reach := (tInt : Ty K Int).mono (S := (p_law_lines :: (p_law_spots :: S))) (Fr.same s27) h_law_reach
      have h_law_names_here := ((tL tStr) : Ty K (List Str)).mono (S := (p_law_lines :: (p_law_spots :: S))) (Fr.same s27) h_law_names_here
      have o_law_spots := o_law_spots.same s27
      have o_law_lines := o_law_lines.same s27
      have h_law_k := (tInt : Ty K Int).mono (S := (p_law_lines :: (p_law_spots :: S))) (Fr.same s27) h_law_k
      have h_law_row := ((tL tStr) : Ty K (List Str)).mono (S := (p_law_lines :: (p_law_spots :: S))) (Fr.same s27) h_law_row
      have hB := hB.same s27
      have hm := ifp_f hm
      exact rest27 _ _ ⟨_, hm, ⟨frl, v_law_reach, v_law_names_here, v_law_k, _, _, _, _, _, _, rfl, fr0, dm, hB, h_law_reach, h_law_names_here, o_law_spots, h_law_k, h_law_row, o_law_lines⟩⟩
  obtain ⟨v_law_reach, v_law_names_here, f_4, f_5, f_7, f_8, f_9, f_10, f_11, f_12, rfl, fr0, dm, hB, h_law_reach, h_law_names_here, o_law_spots, o_law_lines⟩ := hI
  obtain ⟨law_sites_34, e34, hm⟩ := hm
  refine q_asg (T := [b, c]) dm (ev_dnew (κ := Str) (b' := ((tT2 tStr tInt) : Ty K (Str × Int)))) e34 (fun v_law_sites H34 s34 hx => ?_)
  obtain ⟨p_law_sites, rfl, np_law_sites, o_law_sites⟩ := hx
  have ns_law_sites : p_law_sites ∉ (p_law_lines :: (p_law_spots :: S)) := dm.not_mem np_law_sites
  have nb_law_sites : p_law_sites ∉ S := fun m => ns_law_sites (sub0 _ m)
  have n0_law_sites := fr_back fr0 hB.dom np_law_sites
  have nt_law_sites := hB.dom.not_mem np_law_sites
  have fr0 := fr0.trans (Fr.same s34)
  have h_law_reach := (tInt : Ty K Int).mono (Fr.same s34) ((tInt : Ty K Int).ext (S := (p_law_lines :: (p_law_spots :: S))) np_law_sites h_law_reach)
  have h_law_names_here := ((tL tStr) : Ty K (List Str)).mono (Fr.same s34) (((tL tStr) : Ty K (List Str)).ext (S := (p_law_lines :: (p_law_spots :: S))) np_law_sites h_law_names_here)
  have ne_law_spots_law_sites := o_law_spots.ne np_law_sites
  have o_law_spots := (o_law_spots.ext np_law_sites).same s34
  have im_law_spots := List.mem_cons_of_mem p_law_sites im_law_spots
  have ne_law_lines_law_sites := o_law_lines.ne np_law_sites
  have o_law_lines := (o_law_lines.ext np_law_sites).same s34
  have im_law_lines := List.mem_cons_of_mem p_law_sites im_law_lines
  have dm := (dm.same s34).cons o_law_sites.choose_spec.1
  have ts := sub_cons (p := p_law_sites) ts
  have sub0 := sub_cons (p := p_law_sites) sub0
  have im_law_sites : p_law_sites ∈ p_law_sites :: (p_law_lines :: (p_law_spots :: S)) := List.mem_cons_self ..
  have hB := hB.same s34
  have ne_law_sites_law_spots := Ne.symm ne_law_spots_law_sites
  have ne_law_sites_law_lines := Ne.symm ne_law_lines_law_sites
  refine qw_for_s dm hB ts (srw_r1 (K := K) (ew_draw (K := K) rfl (ew_pure (ev_int (K := K))))) hm (fun s_35 σ' H' => ∃ v_law_reach : V, ∃ v_law_names_here : V, ∃ f_4 : Option V, ∃ f_5 : Option V, ∃ f_7 : Option V, ∃ f_8 : Option V, ∃ f_9 : Option V, ∃ f_10 : Option V, ∃ f_11 : Option V, σ' = [some (.ref b), some v_law_reach, some (.ref p_law_spots), some v_law_names_here, f_4, f_5, some (.ref p_law_lines), f_7, f_8, f_9, f_10, f_11, some (.ref p_law_sites)] ∧ Fr [b, c] H0 H' ∧ Dom (p_law_sites :: (p_law_lines :: (p_law_spots :: S))) H' ∧ Bag H' b c ∧ (tInt : Ty K Int).rp (p_law_sites :: (p_law_lines :: (p_law_spots :: S))) H' v_law_reach d_law_reach ∧ ((tL tStr) : Ty K (List Str)).rp (p_law_sites :: (p_law_lines :: (p_law_spots :: S))) H' v_law_names_here law_names_here_2 ∧ OwnD ((tT2 tRat tRat) : Ty K (Rat × Rat)) (p_law_sites :: (p_law_lines :: (p_law_spots :: S))) H' p_law_spots t_3 ∧ OwnD ((tT2 tStr (tTs tStr)) : Ty K (Str × (List Str))) (p_law_sites :: (p_law_lines :: (p_law_spots :: S))) H' p_law_lines t_19 ∧ OwnD ((tT2 tStr tInt) : Ty K (Str × Int)) (p_law_sites :: (p_law_lines :: (p_law_spots :: S))) H' p_law_sites s_35) (fun H35 fr35 dm35 hB35 => ?_) (fun hd35 s_35 law_k_35 C35 v_law_k σ' H' hI h_law_k hm hret35 hbrk35 => ?_) (fun t_35 σ' H' hm hI => ?_)
  · skip
    have fr0 := fr0.trans fr35
    have h_law_reach := (tInt : Ty K Int).mono (S := (p_law_sites :: (p_law_lines :: (p_law_spots :: S)))) (fr35.sub ts) h_law_reach
    have h_law_names_here := ((tL tStr) : Ty K (List Str)).mono (S := (p_law_sites :: (p_law_lines :: (p_law_spots :: S)))) (fr35.sub ts) h_law_names_here
    have o_law_spots := o_law_spots.fr fr35 ts nt_law_spots
    have o_law_lines := o_law_lines.fr fr35 ts nt_law_lines
    have o_law_sites := o_law_sites.fr fr35 ts nt_law_sites
    have dm := dm35
    have hB := hB35
    exact ⟨v_law_reach, v_law_names_here, _, _, _, _, _, _, _, rfl, fr0, dm, hB, h_law_reach, h_law_names_here, o_law_spots, o_law_lines, o_law_sites⟩
  · skip
    obtain ⟨v_law_reach, v_law_names_here, f_4, f_5, f_7, f_8, f_9, f_10, f_11, rfl, fr0, dm, hB, h_law_reach, h_law_names_here, o_law_spots, o_law_lines, o_law_sites⟩ := hI
    let HL := H'
    have freshl : ∀ a ∈ (p_law_sites :: (p_law_lines :: (p_law_spots :: S))), a ∉ (p_law_sites :: (p_law_lines :: (p_law_spots :: S))) → H' a = none := fun a m n => absurd m n
    have frl : Fr (p_law_sites :: (p_law_lines :: (p_law_spots :: S))) HL H' := Fr.refl (T := (p_law_sites :: (p_law_lines :: (p_law_spots :: S)))) H'
    have tsl := ts
    have subl : Sub (p_law_sites :: (p_law_lines :: (p_law_spots :: S))) (p_law_sites :: (p_law_lines :: (p_law_spots :: S))) := fun a m => m
    have iml_law_spots := im_law_spots
    have iml_law_lines := im_law_lines
    have iml_law_sites := im_law_sites
    have h_law_k : (tInt : Ty K Int).rp (p_law_sites :: (p_law_lines :: (p_law_spots :: S))) H' v_law_k law_k_35 := h_law_k
    refine qw_asg dm hB ts (ew_any rfl (ew_pure (ev_new (ev_lst (el_cons (ev_str (K := K)) (el_cons (ev_str (K := K)) (el_cons (ev_str (K := K)) (el_cons (ev_str (K := K)) (el_cons (ev_str (K := K)) el_nil))))) (by decide))))) hm (fun v_law_name_here H36 law_name_here_36 hm fr36 dm36 hB36 h_law_name_here => ?_)
    have fr0 := fr0.trans fr36
    have frl := frl.trans (fr36.sub tsl)
    have h_law_reach := (tInt : Ty K Int).mono (S := (p_law_sites :: (p_law_lines :: (p_law_spots :: S)))) (fr36.sub ts) h_law_reach
    have h_law_names_here := ((tL tStr) : Ty K (List Str)).mono (S := (p_law_sites :: (p_law_lines :: (p_law_spots :: S)))) (fr36.sub ts) h_law_names_here
    have o_law_spots := o_law_spots.fr fr36 ts nt_law_spots
    have o_law_lines := o_law_lines.fr fr36 ts nt_law_lines
    have o_law_sites := o_law_sites.fr fr36 ts nt_law_sites
    have h_law_k := (tInt : Ty K Int).mono (S := (p_law_sites :: (p_law_lines :: (p_law_spots :: S)))) (fr36.sub ts) h_law_k
    have dm := dm36
    have hB := hB36
    have h_law_name_here : (tStr : Ty K Str).rp (p_law_sites :: (p_law_lines :: (p_law_spots :: S))) H36 v_law_name_here law_name_here_36 := h_law_name_here
    refine lw_dput (ck := (tStr : Ty K Str)) dm hB ts o_law_sites im_law_sites nt_law_sites rfl (ew_tup2 (ew_any rfl (ew_pure (ev_new (ev_op od_cat (ev_var ts h_law_names_here rfl) (ev_new (ev_lst (el_cons (ev_str (K := K)) el_nil) (by decide))))))) (ew_op (od_add (K := K)) (ew_pure (ev_int (K := K))) (ew_draw (K := K) rfl (ew_pure (ev_int (K := K)))))) (ev_var ts h_law_name_here rfl) hm (fun law_sites_39 Hd38 H38 hm fr38 dm38 hB38 s38 frx38 ox_law_sites => ?_)
    have fr0 := fr0.trans fr38
    have frl := frl.trans (fr38.sub tsl)
    have h_law_reach := (tInt : Ty K Int).mono (S := (p_law_sites :: (p_law_lines :: (p_law_spots :: S)))) (fr38.sub ts) h_law_reach
    have h_law_names_here := ((tL tStr) : Ty K (List Str)).mono (S := (p_law_sites :: (p_law_lines :: (p_law_spots :: S)))) (fr38.sub ts) h_law_names_here
    have o_law_spots := o_law_spots.fr fr38 ts nt_law_spots
    have o_law_lines := o_law_lines.fr fr38 ts nt_law_lines
    have o_law_sites := o_law_sites.fr fr38 ts nt_law_sites
    have h_law_k := (tInt : Ty K Int).mono (S := (p_law_sites :: (p_law_lines :: (p_law_spots :: S)))) (fr38.sub ts) h_law_k
    have h_law_name_here := (tStr : Ty K Str).mono (S := (p_law_sites :: (p_law_lines :: (p_law_spots :: S)))) (fr38.sub ts) h_law_name_here
    have dm := dm38
    have hB := hB38
    have fr0 := fr0.mut hB.dom n0_law_sites s38
    have frl := frl.trans (s38.fr iml_law_sites)
    have dm := dm.fx frx38 s38
    have h_law_reach := (tInt : Ty K Int).mono (S := (p_law_sites :: (p_law_lines :: (p_law_spots :: S)))) frx38 h_law_reach
    have h_law_names_here := ((tL tStr) : Ty K (List Str)).mono (S := (p_law_sites :: (p_law_lines :: (p_law_spots :: S)))) frx38 h_law_names_here
    have o_law_spots := o_law_spots.mut frx38 s38 ne_law_spots_law_sites
    have o_law_lines := o_law_lines.mut frx38 s38 ne_law_lines_law_sites
    have h_law_k := (tInt : Ty K Int).mono (S := (p_law_sites :: (p_law_lines :: (p_law_spots :: S)))) frx38 h_law_k
    have h_law_name_here := (tStr : Ty K Str).mono (S := (p_law_sites :: (p_law_lines :: (p_law_spots :: S)))) frx38 h_law_name_here
    have hB := hB.mut s38 nt_law_sites
    have o_law_sites := ox_law_sites
    exact ⟨_, hm, frl, ⟨v_law_reach, v_law_names_here, _, _, _, _, _, _, _, rfl, fr0, dm, hB, h_law_reach, h_law_names_here, o_law_spots, o_law_lines, o_law_sites⟩⟩
  obtain ⟨v_law_reach, v_law_names_here, f_4, f_5, f_7, f_8, f_9, f_10, f_11, rfl, fr0, dm, hB, h_law_reach, h_law_names_here, o_law_spots, o_law_lines, o_law_sites⟩ := hI
  have sbz : Sub (p_law_sites :: (p_law_lines :: S)) (p_law_sites :: (p_law_lines :: (p_law_spots :: S))) := (sub_keep (sub_keep (sub_cons (fun a m => m))))
  have nfz : p_law_spots ∉ (p_law_sites :: (p_law_lines :: S)) := by first | exact (nmc ne_law_spots_law_sites (nmc ne_law_spots_law_lines ns_law_spots)) | (have h := ns_law_spots; simp only [List.mem_cons, not_or] at h ⊢; grind)
  have h_law_spots := o_law_spots.frz sbz nfz
  have dm := dm.sub sbz
  have h_law_reach := (tInt : Ty K Int).sub sbz h_law_reach
  have h_law_names_here := ((tL tStr) : Ty K (List Str)).sub sbz h_law_names_here
  have o_law_lines := o_law_lines.sub sbz
  have im_law_lines : p_law_lines ∈ (p_law_sites :: (p_law_lines :: S)) := (List.mem_cons_of_mem _ (List.mem_cons_self ..))
  have o_law_sites := o_law_sites.sub sbz
  have im_law_sites : p_law_sites ∈ (p_law_sites :: (p_law_lines :: S)) := (List.mem_cons_self ..)
  have ts : Sub [b, c] (p_law_sites :: (p_law_lines :: S)) := fun a m => by have h1 := ts a m; have h2 : a ≠ p_law_spots := (fun e => nt_law_spots (e ▸ m)); simp only [List.mem_cons] at h1 ⊢; grind
  have sub0 : Sub S (p_law_sites :: (p_law_lines :: S)) := fun a m => by have h1 := sub0 a m; have h2 : a ≠ p_law_spots := (fun e => nb_law_spots (e ▸ m)); simp only [List.mem_cons] at h1 ⊢; grind
  have sbz : Sub (p_law_sites :: S) (p_law_sites :: (p_law_lines :: S)) := (sub_keep (sub_cons (fun a m => m)))
  have nfz : p_law_lines ∉ (p_law_sites :: S) := by first | exact (nmc ne_law_lines_law_sites ns_law_lines) | (have h := ns_law_lines; simp only [List.mem_cons, not_or] at h ⊢; grind)
  have h_law_lines := o_law_lines.frz sbz nfz
  have dm := dm.sub sbz
  have h_law_reach := (tInt : Ty K Int).sub sbz h_law_reach
  have h_law_names_here := ((tL tStr) : Ty K (List Str)).sub sbz h_law_names_here
  have h_law_spots := ((tD Str (tT2 tRat tRat)) : Ty K (List (Str × (Rat × Rat)))).sub sbz h_law_spots
  have o_law_sites := o_law_sites.sub sbz
  have im_law_sites : p_law_sites ∈ (p_law_sites :: S) := (List.mem_cons_self ..)
  have ts : Sub [b, c] (p_law_sites :: S) := fun a m => by have h1 := ts a m; have h2 : a ≠ p_law_lines := (fun e => nt_law_lines (e ▸ m)); simp only [List.mem_cons] at h1 ⊢; grind
  have sub0 : Sub S (p_law_sites :: S) := fun a m => by have h1 := sub0 a m; have h2 : a ≠ p_law_lines := (fun e => nb_law_lines (e ▸ m)); simp only [List.mem_cons] at h1 ⊢; grind
  have sbz : Sub S (p_law_sites :: S) := (sub_cons (fun a m => m))
  have nfz : p_law_sites ∉ S := by first | exact ns_law_sites | (have h := ns_law_sites; simp only [List.mem_cons, not_or] at h ⊢; grind)
  have h_law_sites := o_law_sites.frz sbz nfz
  have dm := dm.sub sbz
  have h_law_reach := (tInt : Ty K Int).sub sbz h_law_reach
  have h_law_names_here := ((tL tStr) : Ty K (List Str)).sub sbz h_law_names_here
  have h_law_spots := ((tD Str (tT2 tRat tRat)) : Ty K (List (Str × (Rat × Rat)))).sub sbz h_law_spots
  have h_law_lines := ((tD Str (tT2 tStr (tTs tStr))) : Ty K (List (Str × (Str × (List Str))))).sub sbz h_law_lines
  have ts : Sub [b, c] S := fun a m => by have h1 := ts a m; have h2 : a ≠ p_law_sites := (fun e => nt_law_sites (e ▸ m)); simp only [List.mem_cons] at h1 ⊢; grind
  have sub0 : Sub S S := fun a m => by have h1 := sub0 a m; have h2 : a ≠ p_law_sites := (fun e => nb_law_sites (e ▸ m)); simp only [List.mem_cons] at h1 ⊢; grind
  obtain ⟨z, er, hm⟩ := hm
  exact q_ret (T := [b, c]) dm (ev_lst3 (ev_var ts h_law_spots rfl) (ev_var ts h_law_lines rfl) (ev_var ts h_law_sites rfl)) er (fun v H43 s43 hv => q v H43 _ hm (fr0.trans (Fr.same s43)) (hB.same s43) (((tL3 (tD Str (tT2 tRat tRat)) (tD Str (tT2 tStr (tTs tStr))) (tD Str (tT2 tStr tInt))) : Ty K ((List (Str × (Rat × Rat))) × (List (Str × (Str × (List Str)))) × (List (Str × (Str × Int))))).sub (S := S) (H := H43) sub0 hv))
end
end G

namespace G
open PySem L2 M
section
variable {P : Program} {w : World} {K : PySem.W.Frag} {mg : Str → Option Value} {base : Heap}

def m_law_held (d_law_ground_here : ((List (Str × (Rat × Rat))) × (List (Str × (Str × (List Str)))) × (List (Str × (Str × Int))))) : Option (List Str) :=
  (bd (some d_law_ground_here) fun u_1 => (bd (bd (some (u_1.2.2.map Prod.snd)) fun xs => filL? (fun z_2 => (bd (some z_2.1) fun k => bd (some u_1.1) fun d => some (getK d k).isSome)) (fun z_2 => (some z_2.1)) xs) fun law_found_3 => (bd (some []) fun law_every_4 => (bd (bd (bd (some d_law_ground_here) fun x => bd (some ()) fun y => some (x, y)) fun a => m_law_known a.1) fun xs12 => bd (loopC (ρ := (List Str)) (fun s_5 law_name_here_5 => (bd (bd (bd (some u_1.2.1) fun d => bd (some law_name_here_5) fun k => getK d k) fun x => some x.2) fun law_marks_6 => (bd (bd (some s_5.1) fun x => bd (bd (bd (some law_marks_6) fun x => bd (some (0 : Int)) fun y => atI x y) fun x => bd (bd (bd (some law_marks_6) fun x => bd (bd (some (1 : Int)) fun x => some (-x)) fun y => atI x y) fun x => bd (some []) fun y => some (x :: y)) fun y => some (x :: y)) fun y => cat? x y) fun law_found_7 => (bd (bd (some s_5.2) fun x => bd (some law_marks_6) fun y => cat? x y) fun law_every_8 => some (Ct.go (law_found_7, law_every_8)))))) xs12 (law_found_3, law_every_4)) fun r_5 => match r_5 with | .ret y => some y | .go t_5 => (bd (bd (some t_5.1) fun x => bd (bd (some t_5.2) fun xs => filL? (fun law_mark_10 => (bd (bd (some t_5.2) fun xs => bd (some law_mark_10) fun k => some ((xs.count k : Nat) : Int)) fun x => bd (some (1 : Int)) fun y => some (decide (y < x)))) (fun law_mark_10 => (some law_mark_10)) xs) fun y => cat? x y) fun law_found_11 => (bd (some law_found_11) setS?)) | .brk _ => none))))
abbrev sp_law_held (K : PySem.W.Frag) : Sp := spF (K := K) (aCons (tL3 (tD Str (tT2 tRat tRat)) (tD Str (tT2 tStr (tTs tStr))) (tD Str (tT2 tStr tInt))) aNil) (fun S => nw (K := K) tStr S) (fun a => m_law_held a.1)
theorem ok_law_held (ev : Env P K mg) : FnOk P w K mg base CX0 2 ev.f_law_held ev.d_law_held p_law_held (sp_law_held K) := by
  refine ev.A_law_held.F.ok sc_law_held (fun vs H Q E h => ?_) (fun cdv A outer s H0 vs Q E hr h => ?_)
  · obtain ⟨S, ⟨d_law_ground_here, _⟩, y, _, ⟨v_law_ground_here, _, rfl, h_law_ground_here, rfl⟩, _⟩ := h
    rfl
  obtain ⟨S, ⟨d_law_ground_here, _⟩, y, dm, ⟨v_law_ground_here, _, rfl, h_law_ground_here, rfl⟩, hm, q⟩ := h
  have ts : Sub [] S := fun a m => by simp at m
  have fr0 := Fr.refl (T := []) H0
  have sub0 : Sub S S := fun a m => m
  refine ⟨_, (pss_cons (ps_asg (pv 0) (pg_lst rfl (pgs_cons (pg_name (i := 1) sc_law_held.nd rfl (Or.inr rfl)) (pgs_cons (pg_name (i := 2) sc_law_held.nd rfl (Or.inl rfl)) (pgs_cons (pg_name (i := 3) sc_law_held.nd rfl (Or.inl rfl)) pgs_nil)))))
    (pss_cons (ps_lock (ps_setLc (i := 4) (own := [("_law_mark", 8), ("_law_heavy", 9)]) (g := gTup K 2 (gCons (gName 8) (gCons (gName 9) gNil))) (by rfl) sc_law_held.nd rfl rfl (sw_true rfl rfl rfl (by decide +kernel)) (pi_values (pv 3)) (blkOk_by (own := [("_law_mark", 8), ("_law_heavy", 9)]) (N := n_law_held) (sc := defScope s_law_held) (by decide +kernel)) (fun _ _ _ _ _ => pg_tup rfl (pgs_cons (pg_name (i := 8) sc_law_held.nd rfl (Or.inl rfl)) (pgs_cons (pg_name (i := 9) sc_law_held.nd rfl (Or.inl rfl)) pgs_nil))) (fun _ _ _ _ _ => (pts_one (pt_cmp (pc_din (hu_of hr) (pv 8) (pv 1))))) (fun _ _ _ _ _ => (pv 8))))
    (pss_cons (ps_set (i := 5) sc_law_held.nd rfl (Or.inr rfl) (pe_lst pa_nil))
    (pss_cons (ps_for PassesOwn.never rfl (pi_list (pe_call (ok_law_known ev) (hr.mono (by decide)) (by rfl) ev.A_law_known.m ev.A_law_known.F.kp ev.A_law_known.b .nil pass0 (pa_cons (pv 0) pa_nil))) (pg_name (i := 6) sc_law_held.nd rfl (Or.inl rfl))
    (pss_cons (ps_set (i := 7) sc_law_held.nd rfl (Or.inl rfl) (pe_ix ix_tup (pe_dget (hu_of hr) (pv 2) (pv 6) (fun _ _ => rfl)) pe_int (fun _ _ => rfl)))
    (pss_cons (ps_set (i := 4) sc_law_held.nd rfl (Or.inl rfl) (pe_op op_cat (pv 4) (pe_lst (pa_cons (pe_ix ix_tup (pv 7) pe_int (fun _ _ => rfl)) (pa_cons (pe_ix ix_tup (pv 7) (pe_un un_neg pe_int) (fun _ _ => rfl)) pa_nil)))))
    (pss_one (ps_set (i := 5) sc_law_held.nd rfl (Or.inr rfl) (pe_op op_cat (pv 5) (pe_callTy call_list_of (by rfl) ev.B.list_ (by decide +kernel) (pa_cons (pv 7) pa_nil))))))))
    (pss_cons (ps_set (i := 4) sc_law_held.nd rfl (Or.inl rfl) (pe_op op_cat (pv 4) (pe_lc (own := [("_law_mark", 8)]) (g := gName 8) (by rfl) sc_law_held.nd (pi_list (pv 5)) (blkOk_by (own := [("_law_mark", 8)]) (N := n_law_held) (sc := defScope s_law_held) (by decide +kernel)) (fun _ _ _ _ _ => pg_name (i := 8) sc_law_held.nd rfl (Or.inl rfl)) (fun _ _ _ _ _ => (pts_one (pt_cmpR op_gt (show PE _ _ (tBM K "list" (TxS.rCntTx K) _ _) from (pe_bm PySem.F.plainAttrs_list PySem.F.slot_list_count PySem.F.type_list_count TxS.mt_cntTx (pv 5) (pa_cons (pv 8) pa_nil))) pe_int (nomark _)))) (fun _ _ _ _ _ => (pv 8)))))
    (pss_one (ps_ret (pe_callB (TxS.cr_srtTx rfl) (by rfl) ev.B.sorted_ (by decide +kernel) (pa_cons (pe_callTy (TxS.cr_setTx rfl) (by rfl) ev.B.set_ (by decide +kernel) (pa_cons (pv 4) pa_nil)) pa_nil))))))))), ?_⟩
  dsimp only [m_law_held] at hm
  obtain ⟨u_1, e1, hm⟩ := bd_some hm
  refine q_unpL3 (T := []) dm (ev_var ts h_law_ground_here rfl) e1 (fun v_law_spots v_law_lines v_law_sites H1 s1 h_law_spots h_law_lines h_law_sites => ?_)
  have fr0 := fr0.trans (Fr.same s1)
  have dm := dm.same s1
  have h_law_ground_here := ((tL3 (tD Str (tT2 tRat tRat)) (tD Str (tT2 tStr (tTs tStr))) (tD Str (tT2 tStr tInt))) : Ty K ((List (Str × (Rat × Rat))) × (List (Str × (Str × (List Str)))) × (List (Str × (Str × Int))))).mono (S := S) (Fr.same s1) h_law_ground_here
  obtain ⟨law_found_3, e3, hm⟩ := bd_some hm
  refine q_asgK (T := []) dm (ev_new (ev_lock (b' := ((tT2 tStr tInt) : Ty K (Str × Int))) (R := nw (tStr : Ty K Str) S) ts h_law_sites (fun p_law_sites od_law_sites kv_law_sites H1_law_sites Hl_law_sites fr_law_sites ev_law_sites hp_law_sites eHl_law_sites np_law_sites o_law_sites => by subst ev_law_sites; subst eHl_law_sites; have h_law_spots := dz_lock (od := od_law_sites) hp_law_sites (((tD Str (tT2 tRat tRat)) : Ty K (List (Str × (Rat × Rat)))).mono (fr_law_sites.sub ts) h_law_spots); have h_law_lines := dz_lock (od := od_law_sites) hp_law_sites (((tD Str (tT2 tStr (tTs tStr))) : Ty K (List (Str × (Str × (List Str))))).mono (fr_law_sites.sub ts) h_law_lines); have ts : Sub [] S := (fun a m => by simp at m); have nt_law_sites : p_law_sites ∉ [] := (by simp);  exact ev_lcPF (sr_valsK o_law_sites np_law_sites (fun G s Q q => ⟨_, rfl, q⟩)) (fun v w => by rfl) (fun z_2 v_law_mark v_law_heavy H2' H' p' fr' nD' sm' h_law_mark h_law_heavy => by have h_law_spots := ((tDz Str (tT2 tRat tRat)) : Ty K (List (Str × (Rat × Rat)))).mono (Fr.same sm') (((tDz Str (tT2 tRat tRat)) : Ty K (List (Str × (Rat × Rat)))).ext (S := S) nD' (((tDz Str (tT2 tRat tRat)) : Ty K (List (Str × (Rat × Rat)))).mono (Fr.sub ts fr') h_law_spots)); have h_law_lines := ((tDz Str (tT2 tStr (tTs tStr))) : Ty K (List (Str × (Str × (List Str))))).mono (Fr.same sm') (((tDz Str (tT2 tStr (tTs tStr))) : Ty K (List (Str × (Str × (List Str))))).ext (S := S) nD' (((tDz Str (tT2 tStr (tTs tStr))) : Ty K (List (Str × (Str × (List Str))))).mono (Fr.sub ts fr') h_law_lines)); have ts0' := ts; have ts : Sub [] (p' :: S) := (fun a m => by simp at m); exact (eb_test (K := K) (ev_zIn (ck := (tStr : Ty K Str)) (ev_var ts h_law_mark rfl) (ev_var ts h_law_spots rfl)))) (fun z_2 v_law_mark v_law_heavy H2' H' p' fr' nD' sm' h_law_mark h_law_heavy => by have h_law_spots := ((tDz Str (tT2 tRat tRat)) : Ty K (List (Str × (Rat × Rat)))).mono (Fr.same sm') (((tDz Str (tT2 tRat tRat)) : Ty K (List (Str × (Rat × Rat)))).ext (S := S) nD' (((tDz Str (tT2 tRat tRat)) : Ty K (List (Str × (Rat × Rat)))).mono (Fr.sub ts fr') h_law_spots)); have h_law_lines := ((tDz Str (tT2 tStr (tTs tStr))) : Ty K (List (Str × (Str × (List Str))))).mono (Fr.same sm') (((tDz Str (tT2 tStr (tTs tStr))) : Ty K (List (Str × (Str × (List Str))))).ext (S := S) nD' (((tDz Str (tT2 tStr (tTs tStr))) : Ty K (List (Str × (Str × (List Str))))).mono (Fr.sub ts fr') h_law_lines)); have ts0' := ts; have ts : Sub [] (p' :: S) := (fun a m => by simp at m); exact (ev_var ts h_law_mark rfl))))) e3 (fun v_law_found H3 s3 h_law_found => ?_)
  have fr0 := fr0.trans (Fr.same s3)
  have dm := dm.same s3
  have h_law_ground_here := ((tL3 (tD Str (tT2 tRat tRat)) (tD Str (tT2 tStr (tTs tStr))) (tD Str (tT2 tStr tInt))) : Ty K ((List (Str × (Rat × Rat))) × (List (Str × (Str × (List Str)))) × (List (Str × (Str × Int))))).mono (S := S) (Fr.same s3) h_law_ground_here
  have h_law_spots := ((tD Str (tT2 tRat tRat)) : Ty K (List (Str × (Rat × Rat)))).mono (S := S) (Fr.same s3) h_law_spots
  have h_law_lines := ((tD Str (tT2 tStr (tTs tStr))) : Ty K (List (Str × (Str × (List Str))))).mono (S := S) (Fr.same s3) h_law_lines
  have h_law_sites := ((tD Str (tT2 tStr tInt)) : Ty K (List (Str × (Str × Int)))).mono (S := S) (Fr.same s3) h_law_sites
  have h_law_found : ((tL tStr) : Ty K (List Str)).rp S H3 v_law_found law_found_3 := h_law_found
  obtain ⟨law_every_4, e4, hm⟩ := bd_some hm
  refine q_asg (T := []) dm (ev_new (ev_lst0 (a := (tStr : Ty K Str)))) e4 (fun v_law_every H4 s4 h_law_every => ?_)
  have fr0 := fr0.trans (Fr.same s4)
  have dm := dm.same s4
  have h_law_ground_here := ((tL3 (tD Str (tT2 tRat tRat)) (tD Str (tT2 tStr (tTs tStr))) (tD Str (tT2 tStr tInt))) : Ty K ((List (Str × (Rat × Rat))) × (List (Str × (Str × (List Str)))) × (List (Str × (Str × Int))))).mono (S := S) (Fr.same s4) h_law_ground_here
  have h_law_spots := ((tD Str (tT2 tRat tRat)) : Ty K (List (Str × (Rat × Rat)))).mono (S := S) (Fr.same s4) h_law_spots
  have h_law_lines := ((tD Str (tT2 tStr (tTs tStr))) : Ty K (List (Str × (Str × (List Str))))).mono (S := S) (Fr.same s4) h_law_lines
  have h_law_sites := ((tD Str (tT2 tStr tInt)) : Ty K (List (Str × (Str × Int)))).mono (S := S) (Fr.same s4) h_law_sites
  have h_law_found := ((tL tStr) : Ty K (List Str)).mono (S := S) (Fr.same s4) h_law_found
  have h_law_every : ((tL tStr) : Ty K (List Str)).rp S H4 v_law_every law_every_4 := h_law_every
  obtain ⟨xs12, e_xs12, hm⟩ := bd_some hm
  obtain ⟨r_5, el5, hm5⟩ := bd_some hm
  refine q_for_s (T := []) dm (sr_list (ev_new (ev_call (ea_cons (ev_var ts h_law_ground_here rfl) ea_nil)))) e_xs12 el5 (fun s_5 σ' H' => ∃ v_law_ground_here : V, ∃ v_law_spots : V, ∃ v_law_lines : V, ∃ v_law_sites : V, ∃ v_law_found : V, ∃ v_law_every : V, ∃ f_6 : Option V, ∃ f_7 : Option V, ∃ f_8 : Option V, ∃ f_9 : Option V, σ' = [some v_law_ground_here, some v_law_spots, some v_law_lines, some v_law_sites, some v_law_found, some v_law_every, f_6, f_7, f_8, f_9] ∧ Fr [] H0 H' ∧ Dom S H' ∧ ((tL3 (tD Str (tT2 tRat tRat)) (tD Str (tT2 tStr (tTs tStr))) (tD Str (tT2 tStr tInt))) : Ty K ((List (Str × (Rat × Rat))) × (List (Str × (Str × (List Str)))) × (List (Str × (Str × Int))))).rp S H' v_law_ground_here d_law_ground_here ∧ ((tD Str (tT2 tRat tRat)) : Ty K (List (Str × (Rat × Rat)))).rp S H' v_law_spots u_1.1 ∧ ((tD Str (tT2 tStr (tTs tStr))) : Ty K (List (Str × (Str × (List Str))))).rp S H' v_law_lines u_1.2.1 ∧ ((tD Str (tT2 tStr tInt)) : Ty K (List (Str × (Str × Int)))).rp S H' v_law_sites u_1.2.2 ∧ ((tL tStr) : Ty K (List Str)).rp S H' v_law_found s_5.1 ∧ ((tL tStr) : Ty K (List Str)).rp S H' v_law_every s_5.2) (fun H5 s5 => ?_) (fun hd5 s_5 law_name_here_5 cr5 v_law_name_here σ' H' hI h_law_name_here hx5 hm hret5 hbrk5 => ?_) (fun t_5 σ' H' er hI => ?_)
  · skip
    have fr0 := fr0.trans (Fr.same s5)
    have dm := dm.same s5
    have h_law_ground_here := ((tL3 (tD Str (tT2 tRat tRat)) (tD Str (tT2 tStr (tTs tStr))) (tD Str (tT2 tStr tInt))) : Ty K ((List (Str × (Rat × Rat))) × (List (Str × (Str × (List Str)))) × (List (Str × (Str × Int))))).mono (S := S) (Fr.same s5) h_law_ground_here
    have h_law_spots := ((tD Str (tT2 tRat tRat)) : Ty K (List (Str × (Rat × Rat)))).mono (S := S) (Fr.same s5) h_law_spots
    have h_law_lines := ((tD Str (tT2 tStr (tTs tStr))) : Ty K (List (Str × (Str × (List Str))))).mono (S := S) (Fr.same s5) h_law_lines
    have h_law_sites := ((tD Str (tT2 tStr tInt)) : Ty K (List (Str × (Str × Int)))).mono (S := S) (Fr.same s5) h_law_sites
    have h_law_found := ((tL tStr) : Ty K (List Str)).mono (S := S) (Fr.same s5) h_law_found
    have h_law_every := ((tL tStr) : Ty K (List Str)).mono (S := S) (Fr.same s5) h_law_every
    exact ⟨v_law_ground_here, v_law_spots, v_law_lines, v_law_sites, v_law_found, v_law_every, _, _, _, _, rfl, fr0, dm, h_law_ground_here, h_law_spots, h_law_lines, h_law_sites, h_law_found, h_law_every⟩
  · skip
    obtain ⟨v_law_ground_here, v_law_spots, v_law_lines, v_law_sites, v_law_found, v_law_every, f_6, f_7, f_8, f_9, rfl, fr0, dm, h_law_ground_here, h_law_spots, h_law_lines, h_law_sites, h_law_found, h_law_every⟩ := hI
    let HL := H'
    have freshl : ∀ a ∈ S, a ∉ S → H' a = none := fun a m n => absurd m n
    have frl : Fr S HL H' := Fr.refl (T := S) H'
    have tsl := ts
    have subl : Sub S S := fun a m => m
    have h_law_name_here : (tStr : Ty K Str).rp S H' v_law_name_here law_name_here_5 := h_law_name_here
    obtain ⟨law_marks_6, e6, hm⟩ := bd_some hm
    refine q_asg (T := []) dm (ev_ix21 (ev_dget (ck := (tStr : Ty K Str)) (ev_var ts h_law_lines rfl) (ev_var ts h_law_name_here rfl))) e6 (fun v_law_marks H6 s6 h_law_marks => ?_)
    have fr0 := fr0.trans (Fr.same s6)
    have dm := dm.same s6
    have frl := frl.trans (Fr.same s6)
    have h_law_ground_here := ((tL3 (tD Str (tT2 tRat tRat)) (tD Str (tT2 tStr (tTs tStr))) (tD Str (tT2 tStr tInt))) : Ty K ((List (Str × (Rat × Rat))) × (List (Str × (Str × (List Str)))) × (List (Str × (Str × Int))))).mono (S := S) (Fr.same s6) h_law_ground_here
    have h_law_spots := ((tD Str (tT2 tRat tRat)) : Ty K (List (Str × (Rat × Rat)))).mono (S := S) (Fr.same s6) h_law_spots
    have h_law_lines := ((tD Str (tT2 tStr (tTs tStr))) : Ty K (List (Str × (Str × (List Str))))).mono (S := S) (Fr.same s6) h_law_lines
    have h_law_sites := ((tD Str (tT2 tStr tInt)) : Ty K (List (Str × (Str × Int)))).mono (S := S) (Fr.same s6) h_law_sites
    have h_law_found := ((tL tStr) : Ty K (List Str)).mono (S := S) (Fr.same s6) h_law_found
    have h_law_every := ((tL tStr) : Ty K (List Str)).mono (S := S) (Fr.same s6) h_law_every
    have h_law_name_here := (tStr : Ty K Str).mono (S := S) (Fr.same s6) h_law_name_here
    have h_law_marks : ((tTs tStr) : Ty K (List Str)).rp S H6 v_law_marks law_marks_6 := h_law_marks
    obtain ⟨law_found_7, e7, hm⟩ := bd_some hm
    refine q_asg (T := []) dm (ev_new (ev_op od_cat (ev_var ts h_law_found rfl) (ev_new (ev_lst (el_cons (ev_op od_ixTs (ev_var ts h_law_marks rfl) (ev_int (K := K))) (el_cons (ev_op od_ixTs (ev_var ts h_law_marks rfl) (ev_neg (ev_int (K := K)))) el_nil)) (by decide))))) e7 (fun v_law_found H7 s7 h_law_found => ?_)
    have fr0 := fr0.trans (Fr.same s7)
    have dm := dm.same s7
    have frl := frl.trans (Fr.same s7)
    have h_law_ground_here := ((tL3 (tD Str (tT2 tRat tRat)) (tD Str (tT2 tStr (tTs tStr))) (tD Str (tT2 tStr tInt))) : Ty K ((List (Str × (Rat × Rat))) × (List (Str × (Str × (List Str)))) × (List (Str × (Str × Int))))).mono (S := S) (Fr.same s7) h_law_ground_here
    have h_law_spots := ((tD Str (tT2 tRat tRat)) : Ty K (List (Str × (Rat × Rat)))).mono (S := S) (Fr.same s7) h_law_spots
    have h_law_lines := ((tD Str (tT2 tStr (tTs tStr))) : Ty K (List (Str × (Str × (List Str))))).mono (S := S) (Fr.same s7) h_law_lines
    have h_law_sites := ((tD Str (tT2 tStr tInt)) : Ty K (List (Str × (Str × Int)))).mono (S := S) (Fr.same s7) h_law_sites
    have h_law_every := ((tL tStr) : Ty K (List Str)).mono (S := S) (Fr.same s7) h_law_every
    have h_law_name_here := (tStr : Ty K Str).mono (S := S) (Fr.same s7) h_law_name_here
    have h_law_marks := ((tTs tStr) : Ty K (List Str)).mono (S := S) (Fr.same s7) h_law_marks
    have h_law_found : ((tL tStr) : Ty K (List Str)).rp S H7 v_law_found law_found_7 := h_law_found
    obtain ⟨law_every_8, e8, hm⟩ := bd_some hm
    refine l_asg (T := []) dm (ev_new (ev_op od_cat (ev_var ts h_law_every rfl) (ev_new (ev_listTs (ev_var ts h_law_marks rfl))))) e8 (fun v_law_every H8 s8 h_law_every => ?_)
    have fr0 := fr0.trans (Fr.same s8)
    have dm := dm.same s8
    have frl := frl.trans (Fr.same s8)
    have h_law_ground_here := ((tL3 (tD Str (tT2 tRat tRat)) (tD Str (tT2 tStr (tTs tStr))) (tD Str (tT2 tStr tInt))) : Ty K ((List (Str × (Rat × Rat))) × (List (Str × (Str × (List Str)))) × (List (Str × (Str × Int))))).mono (S := S) (Fr.same s8) h_law_ground_here
    have h_law_spots := ((tD Str (tT2 tRat tRat)) : Ty K (List (Str × (Rat × Rat)))).mono (S := S) (Fr.same s8) h_law_spots
    have h_law_lines := ((tD Str (tT2 tStr (tTs tStr))) : Ty K (List (Str × (Str × (List Str))))).mono (S := S) (Fr.same s8) h_law_lines
    have h_law_sites := ((tD Str (tT2 tStr tInt)) : Ty K (List (Str × (Str × Int)))).mono (S := S) (Fr.same s8) h_law_sites
    have h_law_name_here := (tStr : Ty K Str).mono (S := S) (Fr.same s8) h_law_name_here
    have h_law_marks := ((tTs tStr) : Ty K (List Str)).mono (S := S) (Fr.same s8) h_law_marks
    have h_law_found := ((tL tStr) : Ty K (List Str)).mono (S := S) (Fr.same s8) h_law_found
    have h_law_every : ((tL tStr) : Ty K (List Str)).rp S H8 v_law_every law_every_8 := h_law_every
    cases hm
    exact ⟨_, rfl, frl, ⟨v_law_ground_here, v_law_spots, v_law_lines, v_law_sites, v_law_found, v_law_every, _, _, _, _, rfl, fr0, dm, h_law_ground_here, h_law_spots, h_law_lines, h_law_sites, h_law_found, h_law_every⟩⟩
  subst er
  have hm := hm5
  obtain ⟨v_law_ground_here, v_law_spots, v_law_lines, v_law_sites, v_law_found, v_law_every, f_6, f_7, f_8, f_9, rfl, fr0, dm, h_law_ground_here, h_law_spots, h_law_lines, h_law_sites, h_law_found, h_law_every⟩ := hI
  obtain ⟨law_found_11, e11, hm⟩ := bd_some hm
  refine q_asg (T := []) dm (ev_new (ev_op od_cat (ev_var ts h_law_found rfl) (ev_new (ev_lcF (sr_list (ev_var ts h_law_every rfl)) (fun v => by rfl) (fun law_mark_10 v_law_mark H2' H' p' fr' nD' sm' h_law_mark => by have h_law_ground_here := ((tL3 (tD Str (tT2 tRat tRat)) (tD Str (tT2 tStr (tTs tStr))) (tD Str (tT2 tStr tInt))) : Ty K ((List (Str × (Rat × Rat))) × (List (Str × (Str × (List Str)))) × (List (Str × (Str × Int))))).mono (Fr.same sm') (((tL3 (tD Str (tT2 tRat tRat)) (tD Str (tT2 tStr (tTs tStr))) (tD Str (tT2 tStr tInt))) : Ty K ((List (Str × (Rat × Rat))) × (List (Str × (Str × (List Str)))) × (List (Str × (Str × Int))))).ext (S := S) nD' (((tL3 (tD Str (tT2 tRat tRat)) (tD Str (tT2 tStr (tTs tStr))) (tD Str (tT2 tStr tInt))) : Ty K ((List (Str × (Rat × Rat))) × (List (Str × (Str × (List Str)))) × (List (Str × (Str × Int))))).mono (Fr.sub ts fr') h_law_ground_here)); have h_law_spots := ((tD Str (tT2 tRat tRat)) : Ty K (List (Str × (Rat × Rat)))).mono (Fr.same sm') (((tD Str (tT2 tRat tRat)) : Ty K (List (Str × (Rat × Rat)))).ext (S := S) nD' (((tD Str (tT2 tRat tRat)) : Ty K (List (Str × (Rat × Rat)))).mono (Fr.sub ts fr') h_law_spots)); have h_law_lines := ((tD Str (tT2 tStr (tTs tStr))) : Ty K (List (Str × (Str × (List Str))))).mono (Fr.same sm') (((tD Str (tT2 tStr (tTs tStr))) : Ty K (List (Str × (Str × (List Str))))).ext (S := S) nD' (((tD Str (tT2 tStr (tTs tStr))) : Ty K (List (Str × (Str × (List Str))))).mono (Fr.sub ts fr') h_law_lines)); have h_law_sites := ((tD Str (tT2 tStr tInt)) : Ty K (List (Str × (Str × Int)))).mono (Fr.same sm') (((tD Str (tT2 tStr tInt)) : Ty K (List (Str × (Str × Int)))).ext (S := S) nD' (((tD Str (tT2 tStr tInt)) : Ty K (List (Str × (Str × Int)))).mono (Fr.sub ts fr') h_law_sites)); have h_law_found := ((tL tStr) : Ty K (List Str)).mono (Fr.same sm') (((tL tStr) : Ty K (List Str)).ext (S := S) nD' (((tL tStr) : Ty K (List Str)).mono (Fr.sub ts fr') h_law_found)); have h_law_every := ((tL tStr) : Ty K (List Str)).mono (Fr.same sm') (((tL tStr) : Ty K (List Str)).ext (S := S) nD' (((tL tStr) : Ty K (List Str)).mono (Fr.sub ts fr') h_law_every)); have ts0' := ts; have ts : Sub [] (p' :: S) := (fun a m => by simp at m);  exact (eb_test (K := K) (ev_op (od_gt (K := K)) (ev_cntTx (ev_var ts h_law_every rfl) (ev_var ts h_law_mark rfl)) (ev_int (K := K))))) (fun law_mark_10 v_law_mark H2' H' p' fr' nD' sm' h_law_mark => by have h_law_ground_here := ((tL3 (tD Str (tT2 tRat tRat)) (tD Str (tT2 tStr (tTs tStr))) (tD Str (tT2 tStr tInt))) : Ty K ((List (Str × (Rat × Rat))) × (List (Str × (Str × (List Str)))) × (List (Str × (Str × Int))))).mono (Fr.same sm') (((tL3 (tD Str (tT2 tRat tRat)) (tD Str (tT2 tStr (tTs tStr))) (tD Str (tT2 tStr tInt))) : Ty K ((List (Str × (Rat × Rat))) × (List (Str × (Str × (List Str)))) × (List (Str × (Str × Int))))).ext (S := S) nD' (((tL3 (tD Str (tT2 tRat tRat)) (tD Str (tT2 tStr (tTs tStr))) (tD Str (tT2 tStr tInt))) : Ty K ((List (Str × (Rat × Rat))) × (List (Str × (Str × (List Str)))) × (List (Str × (Str × Int))))).mono (Fr.sub ts fr') h_law_ground_here)); have h_law_spots := ((tD Str (tT2 tRat tRat)) : Ty K (List (Str × (Rat × Rat)))).mono (Fr.same sm') (((tD Str (tT2 tRat tRat)) : Ty K (List (Str × (Rat × Rat)))).ext (S := S) nD' (((tD Str (tT2 tRat tRat)) : Ty K (List (Str × (Rat × Rat)))).mono (Fr.sub ts fr') h_law_spots)); have h_law_lines := ((tD Str (tT2 tStr (tTs tStr))) : Ty K (List (Str × (Str × (List Str))))).mono (Fr.same sm') (((tD Str (tT2 tStr (tTs tStr))) : Ty K (List (Str × (Str × (List Str))))).ext (S := S) nD' (((tD Str (tT2 tStr (tTs tStr))) : Ty K (List (Str × (Str × (List Str))))).mono (Fr.sub ts fr') h_law_lines)); have h_law_sites := ((tD Str (tT2 tStr tInt)) : Ty K (List (Str × (Str × Int)))).mono (Fr.same sm') (((tD Str (tT2 tStr tInt)) : Ty K (List (Str × (Str × Int)))).ext (S := S) nD' (((tD Str (tT2 tStr tInt)) : Ty K (List (Str × (Str × Int)))).mono (Fr.sub ts fr') h_law_sites)); have h_law_found := ((tL tStr) : Ty K (List Str)).mono (Fr.same sm') (((tL tStr) : Ty K (List Str)).ext (S := S) nD' (((tL tStr) : Ty K (List Str)).mono (Fr.sub ts fr') h_law_found)); have h_law_every := ((tL tStr) : Ty K (List Str)).mono (Fr.same sm') (((tL tStr) : Ty K (List Str)).ext (S := S) nD' (((tL tStr) : Ty K (List Str)).mono (Fr.sub ts fr') h_law_every)); have ts0' := ts; have ts : Sub [] (p' :: S) := (fun a m => by simp at m);  exact (ev_var ts h_law_mark rfl)))))) e11 (fun v_law_found H11 s11 h_law_found => ?_)
  have fr0 := fr0.trans (Fr.same s11)
  have dm := dm.same s11
  have h_law_ground_here := ((tL3 (tD Str (tT2 tRat tRat)) (tD Str (tT2 tStr (tTs tStr))) (tD Str (tT2 tStr tInt))) : Ty K ((List (Str × (Rat × Rat))) × (List (Str × (Str × (List Str)))) × (List (Str × (Str × Int))))).mono (S := S) (Fr.same s11) h_law_ground_here
  have h_law_spots := ((tD Str (tT2 tRat tRat)) : Ty K (List (Str × (Rat × Rat)))).mono (S := S) (Fr.same s11) h_law_spots
  have h_law_lines := ((tD Str (tT2 tStr (tTs tStr))) : Ty K (List (Str × (Str × (List Str))))).mono (S := S) (Fr.same s11) h_law_lines
  have h_law_sites := ((tD Str (tT2 tStr tInt)) : Ty K (List (Str × (Str × Int)))).mono (S := S) (Fr.same s11) h_law_sites
  have h_law_every := ((tL tStr) : Ty K (List Str)).mono (S := S) (Fr.same s11) h_law_every
  have h_law_found : ((tL tStr) : Ty K (List Str)).rp S H11 v_law_found law_found_11 := h_law_found
  have er := hm
  exact q_ret (T := []) dm (ev_srtSet (ev_var ts h_law_found rfl)) er (fun v H13 s13 hv => q v H13 (fr0.trans (Fr.same s13)).toSame (nwL.sub hv sub0 fr0 Dom.nil))
end
end G

namespace G
open PySem L2 M
section
variable {P : Program} {w : World} {K : PySem.W.Frag} {mg : Str → Option Value} {base : Heap}

/-! ### a list that is spoilt -/
def spSpoil : Sp := fun vs H Q _ => ∃ (p : Addr) (xs : List V), vs = [.ref p] ∧ H p = some (.lst xs) ∧ xs.length ≤ 1000 ∧ ∀ ys, ys.length ≤ max xs.length 1 → Q .non (upd H p (.lst ys))
theorem ok_law_spoil (ev : Env P K mg) : FnOk P w K mg base CX0 1 ev.f_law_spoil ev.d_law_spoil p_law_spoil spSpoil := by
  refine ev.A_law_spoil.F.ok sc_law_spoil (fun vs H Q E h => ?_) (fun cdv A outer s H vs Q E hr h => ?_)
  · obtain ⟨p, xs, rfl, _⟩ := h
    rfl
  obtain ⟨p, xs, rfl, hp, hl, q⟩ := h
  refine ⟨_, pss_cons (ps_if (pt_cmpR op_gt (pe_callB call_len_seq (by rfl) ev.B.len_ PySem.boot_len (pa_cons (pv 0) pa_nil)) pe_int (nomark _))
      (pss_cons (ps_asg (pe_ix ix_list (pv 0) (pe_un un_neg pe_int) (fun _ _ => rfl)) (pg_sub (pv 0) pe_int set_list))
        (pss_one (ps_expr (pe_bm0 PySem.F.plainAttrs_list PySem.F.slot_list_pop PySem.F.type_list_pop mt_pop (pv 0)))))
      pss_nil)
    (pss_one (ps_expr (pe_bm PySem.F.plainAttrs_list PySem.F.slot_list_append PySem.F.type_list_append mt_append (pv 0) (pa_cons pe_non pa_nil)))), ?_⟩
  have uu : ∀ (H1 : Hp) (x y : HO), upd (upd H1 p x) p y = upd H1 p y := fun H1 x y => by
    funext r
    by_cases c : r = p
    · subst c; rw [upd_same, upd_same]
    · rw [upd_ne c, upd_ne c, upd_ne c]
  refine ⟨_, rfl, p, _, rfl, .inl (SqL.of hp), _, _, rfl, rfl, _, rfl, ?_⟩
  refine ite2 (fun z => ?_) (fun z => ?_)
  · have z' : (0 : Int) < ((xs.length : Nat) : Int) := of_decide_eq_true z
    have hx : xs ≠ [] := fun e => by subst e; simp at z'
    obtain ⟨y, hy, _⟩ := last_at hx
    have h0 : ixN xs.length 0 = some 0 := by
      unfold ixN
      rw [if_pos (by decide), if_pos z']
      rfl
    have hl2 : (xs.set 0 y).length = xs.length := List.length_set
    have hp1 : (xs.set 0 y)[(xs.set 0 y).length - 1]? = some ((xs.set 0 y)[(xs.set 0 y).length - 1]'(by rw [hl2]; omega)) := List.getElem?_eq_getElem _
    refine ⟨_, rfl, 1, rfl, p, xs, -1, y, rfl, rfl, SqL.of hp, hy, _, rfl, p, xs, 0, 0, rfl, rfl, hp, h0, ?_⟩
    refine ⟨_, rfl, .inl ⟨rfl, _, SqL.of upd_same⟩, p, _, _, rfl, rfl, upd_same, hp1, ?_⟩
    refine ⟨_, rfl, .inl ⟨rfl, _, SqL.of upd_same⟩, p, _, .non, rfl, rfl, upd_same, Nat.lt_of_le_of_lt (show ((xs.set 0 y).dropLast).length ≤ 1000 by rw [List.length_dropLast, hl2]; omega) (by decide), ?_⟩
    rw [uu, uu]
    exact q _ (by rw [List.length_append, List.length_dropLast, hl2]; simp only [List.length_singleton]; omega)
  · exact ⟨_, rfl, .inl ⟨rfl, _, SqL.of hp⟩, p, xs, .non, rfl, rfl, hp, Nat.lt_of_le_of_lt hl (by decide), q _ (by have z' : ¬ ((0 : Int) < ((xs.length : Nat) : Int)) := fun h => z (decide_eq_true h); rw [List.length_append]; simp only [List.length_singleton]; omega)⟩

section
variable {α : Type} {a : Ty K α} {S T : AS} {σ : L2.St} {H : Hp}
def spo? {α : Type} (xs : List α) : Option Unit := if xs.length ≤ 1000 then some () else none
/-- spoil(x), x an owned list: dead behind it -/
theorem q_spoil {xs : List α} {i : Nat} {p : Addr} {E : XK} {D : Ends} {u : TS} (d : Dom S H) (o : Own a S H p xs) (im : p ∈ S) (hi : σ[i]? = some (some (.ref p))) (e : spo? xs = some ()) (q : ∀ H1, Mut1 p H H1 → Fr S H H1 → u D σ H1) : tSeq (tDrop (tCall spSpoil [] E (tCons (tVar i) tNil))) u D σ H := by
  obtain ⟨vs, hv, ha⟩ := o
  unfold spo? at e
  split at e
  · rename_i hl
    refine ⟨_, hi, p, vs, rfl, hv, by rw [ha.len]; exact hl, fun ys _ => q _ ⟨fun b ob eb n => by rw [upd_ne n]; exact eb, by rw [upd_same]; intro z; cases z⟩ (fr_upd im)⟩
  · cases e
end
theorem ew_sameL {α : Type} {a : Ty K α} {n : Nat} {p : List α → Prop} {b c q : Addr} {S : AS} {σ : St} {H : Hp} {tb : TE} {E : XK} {wb : Wp (List α)} {ys : List α} {i : Nat} (hs : SmOf (tL a) n p) (o : Own a S H q ys) (nt : q ∉ [b, c]) (hi : σ[i]? = some (some (.ref q))) (hb : EvW b c S tb σ H (of (tL a) S) wb) :
    EvW b c S (tCall (spSame K (n + 1)) [] E (tCons (tVar i) (tCons tb tNil))) σ H (of (K := K) tBool S) (sameW p (lf (some ys)) wb) := fun ts P hP H1 f d hB Q qq => by
  obtain ⟨y, ey, hP⟩ := hP
  cases ey
  refine ⟨_, hi, hb ts _ hP H1 f d hB _ fun w H2 y ⟨e, hp, hy⟩ f2 d2 hB2 hw => ?_⟩
  subst e
  obtain ⟨vs, hvs, hall⟩ := (o.fr f ts nt).fr f2 ts nt
  have rp0 : (tL a).rp [] H2 (.ref q) ys := ⟨q, vs, rfl, ⟨hvs, by simp⟩, hall.imp fun _ _ => a.sub fun _ m => by simp at m⟩
  exact ⟨_, _, rfl, (hs rp0 hw hp n (Nat.le_refl _)).sm, fun H' s => qq _ H' true hy (f2.trans (Fr.same s)) (d2.same s) (hB2.same s) rfl⟩
theorem l_spoil {α : Type} {a : Ty K α} {S : AS} {σ : L2.St} {H : Hp} {xs : List α} {i : Nat} {p : Addr} {E : XK} {D : Ends} (d : Dom S H) (o : Own a S H p xs) (im : p ∈ S) (hi : σ[i]? = some (some (.ref p))) (e : spo? xs = some ()) (q : ∀ H1, Mut1 p H H1 → Fr S H H1 → D.nx σ H1) : tDrop (tCall spSpoil [] E (tCons (tVar i) tNil)) D σ H :=
  q_spoil (D := D) (u := fun D => D.nx) d o im hi e q

end
end G

namespace G
open PySem L2 M
section
variable {P : Program} {w : World} {K : PySem.W.Frag} {mg : Str → Option Value} {base : Heap}

def fin3 (y : (List (Str × (Rat × Rat)) × List (Str × (Str × List Str)) × List (Str × (Str × Int)))) (P : (List (Str × (Rat × Rat)) × List (Str × (Str × List Str)) × List (Str × (Str × Int))) → Prop) : Prop := lf (rev3? y) P
def m_law_near (g : (List (Str × (Rat × Rat)) × List (Str × (Str × List Str)) × List (Str × (Str × Int)))) (P : (List (Str × (Rat × Rat)) × List (Str × (Str × List Str)) × List (Str × (Str × Int))) → Prop) : Prop := callBW drawW (lf (some (4 : Int))) fun kind =>
  if kind = 0 then nearD anyW g.1 (fun y => fin3 (y, g.2.1, g.2.2) P) (fin3 g P)
  else if kind = 1 then nearD anyW g.2.1 (fun y => fin3 (g.1, y, g.2.2) P) (fin3 g P)
  else if kind = 2 then nearD anyW g.2.2 (fun y => fin3 (g.1, g.2.1, y) P) (fin3 g P)
  else if 3 ≤ kind then fin3 g P else False
abbrev sp_law_near (K : PySem.W.Frag) : Sp := spB (K := K) (aCons (tL3 (tD Str (tT2 tRat tRat)) (tD Str (tT2 tStr (tTs tStr))) (tD Str (tT2 tStr tInt))) aNil) (fun S => nl3 (K := K) (κ1 := Str) (κ2 := Str) (κ3 := Str) (tT2 tRat tRat) (tT2 tStr (tTs tStr)) (tT2 tStr tInt) S) (fun a => m_law_near a.1)
theorem ok_law_near (ev : Env P K mg) : FnOk P w K mg base CX0 6 ev.f_law_near ev.d_law_near p_law_near (sp_law_near K) := by
  refine ev.A_law_near.F.ok sc_law_near (fun vs H Q E h => ?_) (fun cdv A outer s H0 vs Q E hr h => ?_)
  · obtain ⟨S, b, c, r, ⟨d_g, _⟩, P, rfl, _, _, _, ⟨v_g, _, rfl, h_g, rfl⟩, _⟩ := h
    rfl
  obtain ⟨S, b, c, r, ⟨d_g, _⟩, P, rfl, dm, ts, hB, ⟨v_g, _, rfl, h_g, rfl⟩, hm, q⟩ := h
  refine ⟨_, (pss_cons (ps_setLc (i := 2) (own := [("_law_part", 5)]) (g := gName 5) (tt := tYes) (by rfl) sc_law_near.nd rfl rfl (sw_true rfl rfl rfl (by decide +kernel)) (pi_list (pv 1)) (blkOk_by (own := [("_law_part", 5)]) (N := n_law_near) (sc := defScope s_law_near) (by decide +kernel)) (fun _ _ _ _ _ => pg_name (i := 5) sc_law_near.nd rfl (Or.inl rfl)) (fun _ _ _ _ _ => pts_nil) (fun _ _ _ _ _ => (pe_callTy call_dictD (by rfl) ev.B.dict_ (by decide +kernel) (pa_cons (pv 5) pa_nil))))
    (pss_cons (ps_set (i := 3) sc_law_near.nd rfl (Or.inl rfl) (pe_call (ok_law_draw ev) (hr.mono (by decide)) (by rfl) ev.A_law_draw.m ev.A_law_draw.F.kp ev.A_law_draw.b .nil pass0 (pa_cons (pv 0) (pa_cons pe_int pa_nil))))
    (pss_cons (ps_if (PW.pt (pw_and (pt_cmpR op_lt (pv 3) pe_int (nomark _)) (pw_and1 (pt_cmpR (op_neDD hr.units65) (pe_ix ix_list (pv 2) (pv 3) (fun _ _ => rfl)) pe_dnewK (nomark _)))))
    (pss_one (ps_expr (pe_dpop1 (pe_ix ix_list (pv 2) (pv 3) (fun _ _ => rfl)) (pe_call (ok_law_any ev) (hr.mono (by decide)) (by rfl) ev.A_law_any.m ev.A_law_any.F.kp ev.A_law_any.b .nil pass0 (pa_cons (pv 0) (pa_cons (pe_callB (cr_srtD rfl) (by rfl) ev.B.sorted_ (by decide +kernel) (pa_cons (pe_ix ix_list (pv 2) (pv 3) (fun _ _ => rfl)) pa_nil)) pa_nil))) ⟨by rfl, by rfl, by rfl, by rfl⟩))) pss_nil)
    (pss_cons (ps_set (i := 4) sc_law_near.nd rfl (Or.inl rfl) (pe_lst pa_nil))
    (pss_cons (ps_for PassesOwn.never rfl (pi_list (pv 2)) (pg_name (i := 5) sc_law_near.nd rfl (Or.inr rfl))
    (pss_cons (ps_set (i := 6) sc_law_near.nd rfl (Or.inl rfl) (pe_revL (pe_callB (cr_srtD rfl) (by rfl) ev.B.sorted_ (by decide +kernel) (pa_cons (pv 5) pa_nil))))
    (pss_one (ps_expr (pe_bm PySem.F.plainAttrs_list PySem.F.slot_list_append PySem.F.type_list_append mt_append (pv 4) (pa_cons (pe_callTy (cr_dictP rfl) (by rfl) ev.B.dict_ (by decide +kernel) (pa_cons (pe_lc (own := [("_law_name_here", 7)]) (g := gName 7) (tt := tYes) (by rfl) sc_law_near.nd (pi_list (pv 6)) (blkOk_by (own := [("_law_name_here", 7)]) (N := n_law_near) (sc := defScope s_law_near) (by decide +kernel)) (fun _ _ _ _ _ => pg_name (i := 7) sc_law_near.nd rfl (Or.inl rfl)) (fun _ _ _ _ _ => pts_nil) (fun _ _ _ _ _ => (pe_tup (pa_cons (pv 7) (pa_cons (pe_dget (hu_of hr) (pv 5) (pv 7) (fun _ _ => rfl)) pa_nil))))) pa_nil)) pa_nil))))))
    (pss_one (ps_ret (pv 4)))))))), ?_⟩
  obtain ⟨l, u1, u2, u3, rfl, hl, ⟨q1, c1, rfl, h1, a1, n1⟩, ⟨q2, c2, rfl, h2, a2, n2⟩, ⟨q3, c3, rfl, h3, a3, n3⟩⟩ := h_g
  refine seq_asg ?_
  refine lc_copy (K := K) (as := [q1, q2, q3]) (ks := [c1, c2, c3]) (pg := l) rfl hl.1 (.cons h1.1 (.cons h2.1 (.cons h3.1 .nil))) (show 3 ≤ 1000 by decide) (fun v => by rfl) (fun v => by rfl) fun L ps HA sA nL hL fresh nd nLp all => ?_
  obtain ⟨p1, p2, p3, rfl, g1, g2, g3⟩ : ∃ p1 p2 p3, ps = [p1, p2, p3] ∧ HA p1 = some (.dK c1) ∧ HA p2 = some (.dK c2) ∧ HA p3 = some (.dK c3) := by
    cases all with
    | cons r1 t => cases t with
      | cons r2 t => cases t with
        | cons r3 t => cases t with
          | nil => exact ⟨_, _, _, rfl, r1, r2, r3⟩
  have e12 : p1 ≠ p2 := fun z => by subst z; simp at nd
  have e13 : p1 ≠ p3 := fun z => by subst z; simp at nd
  have e23 : p2 ≠ p3 := fun z => by subst z; simp at nd
  have t3 : T3 (K := K) (κ1 := Str) (κ2 := Str) (κ3 := Str) (tT2 tRat tRat) (tT2 tStr (tTs tStr)) (tT2 tStr tInt) S H0 HA L p1 p2 p3 d_g := ⟨hL, nL, fresh _ (by simp), fresh _ (by simp), fresh _ (by simp), e12, e13, e23, ⟨c1, g1, a1.imp fun _ _ => KvP.mono (Fr.same sA), n1⟩, ⟨c2, g2, a2.imp fun _ _ => KvP.mono (Fr.same sA), n2⟩, ⟨c3, g3, a3.imp fun _ _ => KvP.mono (Fr.same sA), n3⟩⟩
  have fr0 : Fr [b, c] H0 HA := Fr.same sA
  have dm0 := dm
  have dB0 := hB.dom
  have nL0 := nL
  have n10 := t3.n1
  have n20 := t3.n2
  have n30 := t3.n3
  have nLT : L ∉ [b, c] := dB0.not_mem nL0
  have dm := dm.same sA
  have hB := hB.same sA
  dsimp only [m_law_near] at hm
  refine qw_asg dm hB ts (ew_draw (K := K) rfl (ew_pure (ev_int (K := K)))) hm (fun v_kind H1 kind hm f1 dm hB hk => ?_)
  cases hk
  have t3 := t3.fr f1 ts dB0
  have fr0 := fr0.trans f1
  refine seq_by (fun σ' H' => ∃ y, σ' = [some (.ref b), some (.ref l), some (.ref L), some (.int kind), none, none, none, none] ∧ Fr [b, c] H0 H' ∧ Dom S H' ∧ Bag H' b c ∧ T3 (K := K) (κ1 := Str) (κ2 := Str) (κ3 := Str) (tT2 tRat tRat) (tT2 tStr (tTs tStr)) (tT2 tStr tInt) S H0 H' L p1 p2 p3 y ∧ fin3 y P) (fun σ' H' hI => ?_) (fun rest => ?_)
  · obtain ⟨y, rfl, fr0, dm, hB, t3, hm⟩ := hI
    obtain ⟨z, ez, hm⟩ := hm
    refine q_asg (T := []) (S := S) dm (ev_lst0 (a := (tInt : Ty K Int))) rfl (fun v_two H2 s2 hx => ?_)
    obtain ⟨pt, rfl, npt, ot⟩ := hx
    obtain ⟨_, htw, ht0⟩ := ot
    cases ht0
    have t3 := (t3.ext npt).same s2
    have n0t : H0 pt = none := fr_back fr0 hB.dom npt
    have fr0 := fr0.trans (Fr.same s2)
    have dm := (dm.same s2).cons htw
    have hB := hB.same s2
    have ts := sub_cons (p := pt) ts
    have nLt : L ≠ pt := fun z => by rw [← z, t3.l] at htw; cases htw
    obtain ⟨z1, ez1, ez⟩ := bd_some ez
    obtain ⟨z2, ez2, ez⟩ := bd_some ez
    obtain ⟨z3, ez3, ez⟩ := bd_some ez
    cases ez
    refine ⟨_, rfl, L, rfl, ⟨_, .inl (.inl t3.l)⟩, ?_⟩
    refine for_list (K := K) (a := L) (xs := [V.ref p1, V.ref p2, V.ref p3]) (fun i σ' G => ∃ f5 f6 f7 : Option V, σ' = [some (.ref b), some (.ref l), some (.ref L), some (.int kind), some (.ref pt), f5, f6, f7] ∧ Fr [b, c] H0 G ∧ Dom (pt :: S) G ∧ Bag G b c ∧ T3 (K := K) (κ1 := Str) (κ2 := Str) (κ3 := Str) (tT2 tRat tRat) (tT2 tStr (tTs tStr)) (tT2 tStr tInt) (pt :: S) H0 G L p1 p2 p3 y ∧ (match i with | 0 => G pt = some (.lst []) | 1 => ∃ w1 : Addr, G pt = some (.lst [.ref w1]) ∧ H0 w1 = none ∧ OwnD (K := K) (tT2 tRat tRat) (pt :: S) G w1 z1 | 2 => ∃ w1 w2 : Addr, G pt = some (.lst [.ref w1, .ref w2]) ∧ H0 w1 = none ∧ OwnD (K := K) (tT2 tRat tRat) (pt :: S) G w1 z1 ∧ H0 w2 = none ∧ OwnD (K := K) (tT2 tStr (tTs tStr)) (pt :: S) G w2 z2 | _ => ∃ w1 w2 w3 : Addr, G pt = some (.lst [.ref w1, .ref w2, .ref w3]) ∧ H0 w1 = none ∧ OwnD (K := K) (tT2 tRat tRat) (pt :: S) G w1 z1 ∧ H0 w2 = none ∧ OwnD (K := K) (tT2 tStr (tTs tStr)) (pt :: S) G w2 z2 ∧ H0 w3 = none ∧ OwnD (K := K) (tT2 tStr tInt) (pt :: S) G w3 z3)) ?_ ?_ ?_ ?_
    · exact ⟨_, _, _, rfl, fr0, dm, hB, t3, htw⟩
    · intro i σ' G _ h
      obtain ⟨_, _, _, _, _, _, _, t, _⟩ := h
      exact .inl (.inl t.l)
    · intro i x σ' G hi h
      obtain ⟨f5, f6, f7, rfl, fr0, dm, hB, t3, hr⟩ := h
      have ts0 := ts
      have ts : Sub [] (pt :: S) := fun a m => by simp at m
      rcases i with _ | _ | _ | i
      · cases hi
        have hw := hr
        have npS : p1 ∉ pt :: S := not_consD t3.o1 hw (dm0.not_mem n10)
        have h_law_part : ((tD Str (tT2 tRat tRat)) : Ty K (List (Str × (Rat × Rat)))).rp (pt :: S) G (.ref p1) y.1 := t3.o1.frz (fun a m => m) npS
        show tSeq _ _ _ [some (.ref b), some (.ref l), some (.ref L), some (.int kind), some (.ref pt), some (.ref p1), f6, f7] G
        obtain ⟨ks1, ek1, er1⟩ := bd_some ez1
        refine q_asg (T := []) (S := pt :: S) (x := ks1.reverse) dm (ev_revL (ev_new (ev_srtD (ev_var ts h_law_part rfl)))) (by show bd (ksS? y.1) _ = _; rw [ek1]; rfl) (fun v_some G1 s1 h_law_some => ?_)
        have h_law_some := nwL.rp h_law_some dm
        have h_law_part := ((tD Str (tT2 tRat tRat)) : Ty K (List (Str × (Rat × Rat)))).mono (Fr.same s1) h_law_part
        have t3 := t3.same s1
        have fr0 := fr0.trans (Fr.same s1)
        have dm := dm.same s1
        have hB := hB.same s1
        have hw := s1 _ _ hw
        refine l_appD (S := pt :: S) dm hw (show 0 < 1000 by decide) (List.mem_cons_self ..) rfl (ev_dictP (ck := (tStr : Ty K Str)) (ev_new (ev_lc (sr_list (ev_var ts h_law_some rfl)) (fun v => by rfl) (fun law_name_here_1 v_law_name_here H2' H' p' fr' nD' sm' h_law_name_here => by have h_law_part := ((tD Str (tT2 tRat tRat)) : Ty K (List (Str × (Rat × Rat)))).mono (Fr.same sm') (((tD Str (tT2 tRat tRat)) : Ty K (List (Str × (Rat × Rat)))).ext (S := (pt :: S)) nD' (((tD Str (tT2 tRat tRat)) : Ty K (List (Str × (Rat × Rat)))).mono (Fr.sub ts fr') h_law_part)); have h_law_some := ((tL tStr) : Ty K (List Str)).mono (Fr.same sm') (((tL tStr) : Ty K (List Str)).ext (S := (pt :: S)) nD' (((tL tStr) : Ty K (List Str)).mono (Fr.sub ts fr') h_law_some)); have ts0' := ts; have ts : Sub [] (p' :: (pt :: S)) := (fun a m => by simp at m);  exact (ev_tup2 (ev_var ts h_law_name_here rfl) (ev_dget (ck := (tStr : Ty K Str)) (ev_var ts h_law_part rfl) (ev_var ts h_law_name_here rfl))))))) er1 (fun G2 w nw2 kp f2 dm2 hw2 ow => ?_)
        have hptb : pt ∉ [b, c] := dB0.not_mem n0t
        exact ⟨_, _, _, rfl, fun a o e n => kp a o (fr0 a o e n) (ne_of_none e n0t), dm2, hB.mut ⟨kp, by rw [hw2]; intro z; cases z⟩ hptb, t3.stay f2 kp nLt hw, w, hw2, fr_back fr0 hB.dom nw2, ow⟩
      · cases hi
        obtain ⟨w1, hw, m1, x1⟩ := hr
        have npS : p2 ∉ pt :: S := not_consD t3.o2 hw (dm0.not_mem n20)
        have h_law_part : ((tD Str (tT2 tStr (tTs tStr))) : Ty K (List (Str × (Str × List Str)))).rp (pt :: S) G (.ref p2) y.2.1 := t3.o2.frz (fun a m => m) npS
        show tSeq _ _ _ [some (.ref b), some (.ref l), some (.ref L), some (.int kind), some (.ref pt), some (.ref p2), f6, f7] G
        obtain ⟨ks2, ek2, er2⟩ := bd_some ez2
        refine q_asg (T := []) (S := pt :: S) (x := ks2.reverse) dm (ev_revL (ev_new (ev_srtD (ev_var ts h_law_part rfl)))) (by show bd (ksS? y.2.1) _ = _; rw [ek2]; rfl) (fun v_some G1 s1 h_law_some => ?_)
        have h_law_some := nwL.rp h_law_some dm
        have h_law_part := ((tD Str (tT2 tStr (tTs tStr))) : Ty K (List (Str × (Str × List Str)))).mono (Fr.same s1) h_law_part
        have t3 := t3.same s1
        have fr0 := fr0.trans (Fr.same s1)
        have dm := dm.same s1
        have hB := hB.same s1
        have hw := s1 _ _ hw
        have x1 := x1.same s1
        refine l_appD (S := pt :: S) dm hw (show 1 < 1000 by decide) (List.mem_cons_self ..) rfl (ev_dictP (ck := (tStr : Ty K Str)) (ev_new (ev_lc (sr_list (ev_var ts h_law_some rfl)) (fun v => by rfl) (fun law_name_here_2 v_law_name_here H2' H' p' fr' nD' sm' h_law_name_here => by have h_law_part := ((tD Str (tT2 tStr (tTs tStr))) : Ty K (List (Str × (Str × (List Str))))).mono (Fr.same sm') (((tD Str (tT2 tStr (tTs tStr))) : Ty K (List (Str × (Str × (List Str))))).ext (S := (pt :: S)) nD' (((tD Str (tT2 tStr (tTs tStr))) : Ty K (List (Str × (Str × (List Str))))).mono (Fr.sub ts fr') h_law_part)); have h_law_some := ((tL tStr) : Ty K (List Str)).mono (Fr.same sm') (((tL tStr) : Ty K (List Str)).ext (S := (pt :: S)) nD' (((tL tStr) : Ty K (List Str)).mono (Fr.sub ts fr') h_law_some)); have ts0' := ts; have ts : Sub [] (p' :: (pt :: S)) := (fun a m => by simp at m);  exact (ev_tup2 (ev_var ts h_law_name_here rfl) (ev_dget (ck := (tStr : Ty K Str)) (ev_var ts h_law_part rfl) (ev_var ts h_law_name_here rfl))))))) er2 (fun G2 w nw2 kp f2 dm2 hw2 ow => ?_)
        have hptb : pt ∉ [b, c] := dB0.not_mem n0t
        exact ⟨_, _, _, rfl, fun a o e n => kp a o (fr0 a o e n) (ne_of_none e n0t), dm2, hB.mut ⟨kp, by rw [hw2]; intro z; cases z⟩ hptb, t3.stay f2 kp nLt hw, w1, w, hw2, m1, x1.stay f2 kp (x1.neL hw), fr_back fr0 hB.dom nw2, ow⟩
      · cases hi
        obtain ⟨w1, w2, hw, m1, x1, m2, x2⟩ := hr
        have npS : p3 ∉ pt :: S := not_consD t3.o3 hw (dm0.not_mem n30)
        have h_law_part : ((tD Str (tT2 tStr tInt)) : Ty K (List (Str × (Str × Int)))).rp (pt :: S) G (.ref p3) y.2.2 := t3.o3.frz (fun a m => m) npS
        show tSeq _ _ _ [some (.ref b), some (.ref l), some (.ref L), some (.int kind), some (.ref pt), some (.ref p3), f6, f7] G
        obtain ⟨ks3, ek3, er3⟩ := bd_some ez3
        refine q_asg (T := []) (S := pt :: S) (x := ks3.reverse) dm (ev_revL (ev_new (ev_srtD (ev_var ts h_law_part rfl)))) (by show bd (ksS? y.2.2) _ = _; rw [ek3]; rfl) (fun v_some G1 s1 h_law_some => ?_)
        have h_law_some := nwL.rp h_law_some dm
        have h_law_part := ((tD Str (tT2 tStr tInt)) : Ty K (List (Str × (Str × Int)))).mono (Fr.same s1) h_law_part
        have t3 := t3.same s1
        have fr0 := fr0.trans (Fr.same s1)
        have dm := dm.same s1
        have hB := hB.same s1
        have hw := s1 _ _ hw
        have x1 := x1.same s1
        have x2 := x2.same s1
        refine l_appD (S := pt :: S) dm hw (show 2 < 1000 by decide) (List.mem_cons_self ..) rfl (ev_dictP (ck := (tStr : Ty K Str)) (ev_new (ev_lc (sr_list (ev_var ts h_law_some rfl)) (fun v => by rfl) (fun law_name_here_3 v_law_name_here H2' H' p' fr' nD' sm' h_law_name_here => by have h_law_part := ((tD Str (tT2 tStr tInt)) : Ty K (List (Str × (Str × Int)))).mono (Fr.same sm') (((tD Str (tT2 tStr tInt)) : Ty K (List (Str × (Str × Int)))).ext (S := (pt :: S)) nD' (((tD Str (tT2 tStr tInt)) : Ty K (List (Str × (Str × Int)))).mono (Fr.sub ts fr') h_law_part)); have h_law_some := ((tL tStr) : Ty K (List Str)).mono (Fr.same sm') (((tL tStr) : Ty K (List Str)).ext (S := (pt :: S)) nD' (((tL tStr) : Ty K (List Str)).mono (Fr.sub ts fr') h_law_some)); have ts0' := ts; have ts : Sub [] (p' :: (pt :: S)) := (fun a m => by simp at m);  exact (ev_tup2 (ev_var ts h_law_name_here rfl) (ev_dget (ck := (tStr : Ty K Str)) (ev_var ts h_law_part rfl) (ev_var ts h_law_name_here rfl))))))) er3 (fun G2 w nw2 kp f2 dm2 hw2 ow => ?_)
        have hptb : pt ∉ [b, c] := dB0.not_mem n0t
        exact ⟨_, _, _, rfl, fun a o e n => kp a o (fr0 a o e n) (ne_of_none e n0t), dm2, hB.mut ⟨kp, by rw [hw2]; intro z; cases z⟩ hptb, t3.stay f2 kp nLt hw, w1, w2, w, hw2, m1, x1.stay f2 kp (x1.neL hw), m2, x2.stay f2 kp (x2.neL hw), fr_back fr0 hB.dom nw2, ow⟩
      · cases hi
    · intro σ' G h
      obtain ⟨f5, f6, f7, rfl, fr0, dm, hB, t3, w1, w2, w3, hw, m1, x1, m2, x2, m3, x3⟩ := h
      have cl : ∀ {α : Type} {b' : Ty K α} {w : Addr} {z : List (Str × α)}, OwnD b' (pt :: S) G w z → H0 w = none → (tD Str b').rp S G (.ref w) z := fun o m => o.frz (fun a k => List.mem_cons_of_mem _ k) (dm0.not_mem m)
      exact ⟨_, rfl, q _ G _ hm fr0 hB ⟨pt, w1, w2, w3, rfl, hw, n0t, m1, m2, m3, cl x1 m1, cl x2 m2, cl x3 m3⟩⟩
  by_cases k1 : kind = 0
  · subst k1
    rw [if_pos rfl] at hm
    have nps : p1 ∉ S := dm0.not_mem n10
    have hix : ∀ H', Same H1 H' → Ev S [b, c] (tOp (rIxL K) (tVar 2) (tVar 3)) [some (.ref b), some (.ref l), some (.ref L), some (.int 0), none, none, none, none] H' (of (tD Str (tT2 tRat tRat)) S) (some d_g.1) := fun H' s => ev_ixAt ts nLT nps (t3.o1.same s) (s _ _ t3.l) rfl rfl rfl
    refine l_if (T := [b, c]) (b := decide (d_g.1.length ≠ 0)) dm (eb_and (eb_test (K := K) (ev_op (od_lt (K := K)) (ev_var (x := (0 : Int)) ts (show (tInt (K := K)).rp S H1 (.int 0) 0 from rfl) rfl) (ev_int (K := K)))) (eb_test (K := K) (ev_op (od_neDict dSpot (Nat.le_of_ble_eq_true rfl)) (hix H1 (Same.refl _)) (ev_newD (ev_dnew (κ := Str) (b' := (tT2 tRat tRat))))))) (by simp [bd, dEq_nil]) (fun hc H2 s2 => ?_) (fun hc H2 s2 => ?_)
    · unfold nearD at hm
      rw [if_neg (by simpa using hc)] at hm
      refine l_pop3 (K := K) (b' := ((tT2 tRat tRat) : Ty K (Rat × Rat))) (S := S) (dm.same s2) (hB.same s2) ts nLT nps (t3.o1.same s2) (s2 _ _ t3.l) rfl rfl rfl (ew_any rfl (ew_new (ew_pure (ev_srtD (hix H2 s2))))) hm (fun y' G kvs kvs' hm f2 dm2 hB2 hG ho => ?_)
      have t4 := (t3.same s2).fr f2 ts dB0
      have npb : p1 ∉ [b, c] := dB0.not_mem n10
      have hB3 : Bag (upd G p1 (.dK kvs')) b c := hB2.mut ⟨fun a o e n => by rw [upd_ne n]; exact e, by rw [upd_same]; intro z; cases z⟩ npb
      have frN : Fr [b, c] H0 (upd G p1 (.dK kvs')) := fun a o e n => by rw [upd_ne (ne_of_none e n10)]; exact ((fr0.trans (Fr.same s2)).trans f2) a o e n
      have lN : upd G p1 (.dK kvs') L = some (.lst [.ref p1, .ref p2, .ref p3]) := by rw [upd_ne (fun z => by have := t4.l; rw [z, hG] at this; cases this)]; exact t4.l
      exact rest _ _ ⟨(y', d_g.2.1, d_g.2.2), rfl, frN, dm2.upd, hB3, ⟨lN, nL0, n10, n20, n30, e12, e13, e23, ho, t4.o2.dk hG e12.symm, t4.o3.dk hG e13.symm⟩, hm⟩
    · refine l_next (rest _ _ ⟨d_g, rfl, fr0.trans (Fr.same s2), dm.same s2, hB.same s2, t3.same s2, ?_⟩)
      unfold nearD at hm
      rw [if_pos (by simpa using hc)] at hm
      exact hm
  rw [if_neg k1] at hm
  by_cases k2 : kind = 1
  · subst k2
    rw [if_pos rfl] at hm
    have nps : p2 ∉ S := dm0.not_mem n20
    have hix : ∀ H', Same H1 H' → Ev S [b, c] (tOp (rIxL K) (tVar 2) (tVar 3)) [some (.ref b), some (.ref l), some (.ref L), some (.int 1), none, none, none, none] H' (of (tD Str (tT2 tStr (tTs tStr))) S) (some d_g.2.1) := fun H' s => ev_ixAt ts nLT nps (t3.o2.same s) (s _ _ t3.l) rfl rfl rfl
    refine l_if (T := [b, c]) (b := decide (d_g.2.1.length ≠ 0)) dm (eb_and (eb_test (K := K) (ev_op (od_lt (K := K)) (ev_var (x := (1 : Int)) ts (show (tInt (K := K)).rp S H1 (.int 1) 1 from rfl) rfl) (ev_int (K := K)))) (eb_test (K := K) (ev_op (od_neDict (dT2 dStr (dTs dStr)) (Nat.le_of_ble_eq_true rfl)) (hix H1 (Same.refl _)) (ev_newD (ev_dnew (κ := Str) (b' := (tT2 tStr (tTs tStr)))))))) (by simp [bd, dEq_nil]) (fun hc H2 s2 => ?_) (fun hc H2 s2 => ?_)
    · unfold nearD at hm
      rw [if_neg (by simpa using hc)] at hm
      refine l_pop3 (K := K) (b' := ((tT2 tStr (tTs tStr)) : Ty K (Str × List Str))) (S := S) (dm.same s2) (hB.same s2) ts nLT nps (t3.o2.same s2) (s2 _ _ t3.l) rfl rfl rfl (ew_any rfl (ew_new (ew_pure (ev_srtD (hix H2 s2))))) hm (fun y' G kvs kvs' hm f2 dm2 hB2 hG ho => ?_)
      have t4 := (t3.same s2).fr f2 ts dB0
      have npb : p2 ∉ [b, c] := dB0.not_mem n20
      have hB3 : Bag (upd G p2 (.dK kvs')) b c := hB2.mut ⟨fun a o e n => by rw [upd_ne n]; exact e, by rw [upd_same]; intro z; cases z⟩ npb
      have frN : Fr [b, c] H0 (upd G p2 (.dK kvs')) := fun a o e n => by rw [upd_ne (ne_of_none e n20)]; exact ((fr0.trans (Fr.same s2)).trans f2) a o e n
      have lN : upd G p2 (.dK kvs') L = some (.lst [.ref p1, .ref p2, .ref p3]) := by rw [upd_ne (fun z => by have := t4.l; rw [z, hG] at this; cases this)]; exact t4.l
      exact rest _ _ ⟨(d_g.1, y', d_g.2.2), rfl, frN, dm2.upd, hB3, ⟨lN, nL0, n10, n20, n30, e12, e13, e23, t4.o1.dk hG e12, ho, t4.o3.dk hG e23.symm⟩, hm⟩
    · refine l_next (rest _ _ ⟨d_g, rfl, fr0.trans (Fr.same s2), dm.same s2, hB.same s2, t3.same s2, ?_⟩)
      unfold nearD at hm
      rw [if_pos (by simpa using hc)] at hm
      exact hm
  rw [if_neg k2] at hm
  by_cases k3 : kind = 2
  · subst k3
    rw [if_pos rfl] at hm
    have nps : p3 ∉ S := dm0.not_mem n30
    have hix : ∀ H', Same H1 H' → Ev S [b, c] (tOp (rIxL K) (tVar 2) (tVar 3)) [some (.ref b), some (.ref l), some (.ref L), some (.int 2), none, none, none, none] H' (of (tD Str (tT2 tStr tInt)) S) (some d_g.2.2) := fun H' s => ev_ixAt ts nLT nps (t3.o3.same s) (s _ _ t3.l) rfl rfl rfl
    refine l_if (T := [b, c]) (b := decide (d_g.2.2.length ≠ 0)) dm (eb_and (eb_test (K := K) (ev_op (od_lt (K := K)) (ev_var (x := (2 : Int)) ts (show (tInt (K := K)).rp S H1 (.int 2) 2 from rfl) rfl) (ev_int (K := K)))) (eb_test (K := K) (ev_op (od_neDict (dT2 dStr dInt) (Nat.le_of_ble_eq_true rfl)) (hix H1 (Same.refl _)) (ev_newD (ev_dnew (κ := Str) (b' := (tT2 tStr tInt))))))) (by simp [bd, dEq_nil]) (fun hc H2 s2 => ?_) (fun hc H2 s2 => ?_)
    · unfold nearD at hm
      rw [if_neg (by simpa using hc)] at hm
      refine l_pop3 (K := K) (b' := ((tT2 tStr tInt) : Ty K (Str × Int))) (S := S) (dm.same s2) (hB.same s2) ts nLT nps (t3.o3.same s2) (s2 _ _ t3.l) rfl rfl rfl (ew_any rfl (ew_new (ew_pure (ev_srtD (hix H2 s2))))) hm (fun y' G kvs kvs' hm f2 dm2 hB2 hG ho => ?_)
      have t4 := (t3.same s2).fr f2 ts dB0
      have npb : p3 ∉ [b, c] := dB0.not_mem n30
      have hB3 : Bag (upd G p3 (.dK kvs')) b c := hB2.mut ⟨fun a o e n => by rw [upd_ne n]; exact e, by rw [upd_same]; intro z; cases z⟩ npb
      have frN : Fr [b, c] H0 (upd G p3 (.dK kvs')) := fun a o e n => by rw [upd_ne (ne_of_none e n30)]; exact ((fr0.trans (Fr.same s2)).trans f2) a o e n
      have lN : upd G p3 (.dK kvs') L = some (.lst [.ref p1, .ref p2, .ref p3]) := by rw [upd_ne (fun z => by have := t4.l; rw [z, hG] at this; cases this)]; exact t4.l
      exact rest _ _ ⟨(d_g.1, d_g.2.1, y'), rfl, frN, dm2.upd, hB3, ⟨lN, nL0, n10, n20, n30, e12, e13, e23, t4.o1.dk hG e13, t4.o2.dk hG e23, ho⟩, hm⟩
    · refine l_next (rest _ _ ⟨d_g, rfl, fr0.trans (Fr.same s2), dm.same s2, hB.same s2, t3.same s2, ?_⟩)
      unfold nearD at hm
      rw [if_pos (by simpa using hc)] at hm
      exact hm
  rw [if_neg k3] at hm
  by_cases k4 : 3 ≤ kind
  · rw [if_pos k4] at hm
    have ev_no : ∀ {tt : TT} {σ : L2.St} {H : Hp}, EvB S [b, c] tt σ H none := fun x ex => nomatch ex
    refine l_if (T := [b, c]) (b := false) dm (eb_and (eb_test (K := K) (ev_op (od_lt (K := K)) (ev_var (x := kind) ts (show (tInt (K := K)).rp S H1 (.int kind) kind from rfl) rfl) (ev_int (K := K)))) ev_no) (by simp [bd]; omega) (fun hc H2 s2 => by cases hc) (fun hc H2 s2 => ?_)
    exact l_next (rest _ _ ⟨d_g, rfl, fr0.trans (Fr.same s2), dm.same s2, hB.same s2, t3.same s2, hm⟩)
  · rw [if_neg k4] at hm
    exact hm.elim
end
end G

namespace G
open PySem L2 M
section
variable {P : Program} {w : World} {K : PySem.W.Frag} {mg : Str → Option Value} {base : Heap}


theorem l_clearAll {S : AS} {σ : L2.St} {B H : Hp} {v : V} {b c : Addr} {i j : Nat} {o : Option V} {D : Ends} (dmb : Dom S B) (ts : M.Sub [b, c] S) (hB : Bag H b c) (f : Fr [b, c] B H) (dm : Dom S H) (n : NestD B H v) (hi : σ[i]? = some (some v)) (ij : i ≠ j) (hj : σ[j]? = some o)
    (k : ∀ (o : Option V) (H' : Hp), Fr [b, c] B H' → Dom S H' → Bag H' b c → D.nx (σ.set j o) H') :
    tFor (iList K (tVar i)) (gName j) (tDrop (tBM0 K "dict" rDClear (tVar j))) D σ H := q_clearAll (D := D) (u := fun D => D.nx) dmb ts hB f dm n hi ij hj k
section
variable {α β γ : Type} {a : Ty K α} {b' : Ty K β} {c' : Ty K γ}
theorem smr_L3 {k l m : Nat} {R1 : α → α → Prop} {R2 : β → β → Prop} {R3 : γ → γ → Prop} (h1 : SmR a k R1) (h2 : SmR b' l R2) (h3 : SmR c' m R3) : SmR (tL3 a b' c') (1 + max k (max l m)) (fun x y => R1 x.1 y.1 ∧ R2 x.2.1 y.2.1 ∧ R3 x.2.2 y.2.2) := by
  rintro S S' H v w x y ⟨p, u1, u2, u3, rfl, hp, a1, a2, a3⟩ ⟨q, w1, w2, w3, rfl, hq, e1, e2, e3⟩ ⟨r1, r2, r3⟩ n hn
  obtain ⟨j, rfl⟩ : ∃ j, n = j + 1 := ⟨n - 1, by omega⟩
  refine .inr (.inr (.inl ⟨p, q, _, _, rfl, rfl, hp.sq, hq.sq, rfl, (by show 3 ≤ 1000; decide), fun i s t es et => ?_⟩))
  match i, es, et with
  | 0, es, et => cases es; cases et; exact h1 a1 e1 r1 j (by omega)
  | 1, es, et => cases es; cases et; exact h2 a2 e2 r2 j (by omega)
  | 2, es, et => cases es; cases et; exact h3 a3 e3 r3 j (by omega)
end

noncomputable def m_law (P : Bool → Prop) : Prop :=
  ((callBW (fun a => m_law_ground a.1) (tup2W (lf (some (300 : Int))) (lf (some ())))) fun law_ground_here_1 => (lf (m_Land___init__ law_ground_here_1.1 law_ground_here_1.2.1 law_ground_here_1.2.2) fun land_2 => (lf (some true) fun law_good_3 => ((lf (bd (some (2 : Int)) rng1?)) fun xs16 => loopW (fun s_4 law_turn_4 K4 => (lf (bd (some land_2) fun x => m_Land_held x) fun law_found_5 => ((andW (lf (some s_4)) (sameW (szL noSz) (lf (some law_found_5)) (lf (bd (bd (some law_ground_here_1) fun x => bd (some ()) fun y => some (x, y)) fun a => m_law_held a.1)))) fun law_good_6 => (lf (spo? law_found_5) fun _ => (lf (bd (bd (some land_2) fun x => m_Land_spots x) fun x => bd (bd (some land_2) fun x => m_Land_lines x) fun y => bd (bd (some land_2) fun x => m_Land_sites x) fun z => some (x, y, z)) fun found_8 => (andW (lf (some law_good_6)) (sameR (fun x y => (sDict (szT2 noSz noSz)) x.1 y.1 ∧ (sDict (szT2 noSz (szL noSz))) x.2.1 y.2.1 ∧ (sDict (szT2 noSz noSz)) x.2.2 y.2.2) (lf (some found_8)) (lf (some law_ground_here_1)))) fun good_9 => K4 (Ct.go good_9)))))) xs16 law_good_3 fun r_4 => match r_4 with | .ret y => P y | .go t_4 => (lf (bd (bd (bd (bd (some ("Land(" : Str)) fun x => bd (bd (bd (bd (some law_ground_here_1) fun x => some x.2.1) fun x => some (x.length : Int)) shw?) fun y => catY? x y) fun x => bd (some (" lines, " : Str)) fun y => catY? x y) fun x => bd (bd (bd (bd (some law_ground_here_1) fun x => some x.2.2) fun x => some (x.length : Int)) shw?) fun y => catY? x y) fun x => bd (some (" sites)" : Str)) fun y => catY? x y) fun law_text_10 => ((callBW (fun a => m_law_near a.1) (tup2W (lf (some law_ground_here_1)) (lf (some ())))) fun two_11 => lf (bd (bd (bd (some two_11) fun x => some x.1) fun x => bd (bd (bd (some two_11) fun x => some x.2.1) fun x => bd (bd (bd (some two_11) fun x => some x.2.2) fun x => bd (some ()) fun y => some (x, y)) fun y => some (x, y)) fun y => some (x, y)) fun a => m_Land___init__ a.1 a.2.1 a.2.2.1) fun late_12 => lf (some (dEq two_11.1 law_ground_here_1.1 && (dEq two_11.2.1 law_ground_here_1.2.1 && dEq two_11.2.2 law_ground_here_1.2.2))) fun same_13 => (lf (bd (some t_4) fun x => if x then (bd (bd (some land_2) fun x => m_Land___repr__ x) fun x => bd (some law_text_10) fun y => some (decide (x = y))) else some false) fun law_good_14 => (lf (bd (bd (some land_2) fun x => bd (some late_12) fun y => m_Land___eq__ x y) fun x => bd (bd (bd (some late_12) fun x => bd (some land_2) fun y => m_Land___eq__ x y) fun x => bd (bd (bd (some land_2) fun x => bd (some late_12) fun y => bd (m_Land___eq__ x y) fun k => some (!k)) fun x => bd (bd (bd (some land_2) fun x => bd (some law_ground_here_1) fun y => m_Land___eq__l x y) fun x => bd (some []) fun y => some (x :: y)) fun y => some (x :: y)) fun y => some (x :: y)) fun y => some (x :: y)) fun law_found_15 => ((andW (lf (some law_good_14)) (sameW (szL noSz) (lf (some law_found_15)) (lf (bd (some same_13) fun x => bd (bd (some same_13) fun x => bd (bd (bd (some same_13) fun x => some (!x)) fun x => bd (bd (some false) fun x => bd (some []) fun y => some (x :: y)) fun y => some (x :: y)) fun y => some (x :: y)) fun y => some (x :: y))))) P))))) | .brk _ => False))))
end
end G

namespace G
open PySem L2 M
/-! ### a dict made anew over its rising keys tells the same -/
section
variable {β : Type}
theorem putL_new {acc : List (Str × β)} {k : Str} {y : β} (h : k ∉ acc.map Prod.fst) : putL acc k y = acc ++ [(k, y)] := by
  unfold putL
  rw [if_neg]
  intro c
  obtain ⟨p, hp, e⟩ := List.any_eq_true.mp c
  exact h (List.mem_map.mpr ⟨p, hp, of_decide_eq_true e⟩)
theorem dcO_new {f : Str → Option β} : ∀ (xs : List Str) (acc : List (Str × β)), xs.Nodup → (∀ x ∈ xs, x ∉ acc.map Prod.fst) → (∀ x ∈ xs, ∃ y, f x = some y) → ∃ r, dcO (fun n => some n) f acc xs = some (acc ++ r) ∧ r.map Prod.fst = xs ∧ ∀ p ∈ r, f p.1 = some p.2
  | [], acc, _, _, _ => ⟨[], by simp [dcO], rfl, fun p hp => by simp at hp⟩
  | x :: xs, acc, hn, ha, hf => by
    obtain ⟨y, hy⟩ := hf x List.mem_cons_self
    obtain ⟨n1, n2⟩ := List.nodup_cons.mp hn
    obtain ⟨r, e, h1, h2⟩ := dcO_new xs (putL acc x y) n2 (fun z hz => by
      rw [putL_new (ha x List.mem_cons_self), List.map_append, List.mem_append]
      rintro (c | c)
      · exact ha z (List.mem_cons_of_mem _ hz) c
      · simp only [List.map_cons, List.map_nil, List.mem_singleton] at c
        subst c
        exact n1 hz) (fun z hz => hf z (List.mem_cons_of_mem _ hz))
    refine ⟨(x, y) :: r, ?_, by rw [List.map_cons, h1], fun p hp => ?_⟩
    · show (bd (some x) fun k => bd (f x) fun y => dcO _ f (putL acc k y) xs) = _
      rw [hy]
      show dcO _ f (putL acc x y) xs = _
      rw [e, putL_new (ha x List.mem_cons_self)]
      simp
    · rcases List.mem_cons.mp hp with rfl | hp
      · exact hy
      · exact h2 p hp
theorem getK_none {r : List (Str × β)} {k : Str} (h : k ∉ r.map Prod.fst) : getK r k = none := by
  unfold getK
  rw [Option.map_eq_none_iff, List.find?_eq_none]
  intro p hp c
  exact h (List.mem_map.mpr ⟨p, hp, of_decide_eq_true c⟩)
theorem getK_some {r : List (Str × β)} {k : Str} (h : k ∈ r.map Prod.fst) : ∃ p ∈ r, p.1 = k ∧ getK r k = some p.2 := by
  obtain ⟨p, hp, e⟩ := List.mem_map.mp h
  cases c : r.find? (fun p => decide (p.1 = k)) with
  | none => exact absurd (decide_eq_true e) (by simpa using List.find?_eq_none.mp c p hp)
  | some q =>
    refine ⟨q, List.mem_of_find?_eq_some c, of_decide_eq_true (List.find?_some (p := fun (p : Str × β) => decide (p.1 = k)) c), ?_⟩
    unfold getK
    rw [c]
    rfl
theorem sortS_nd {l : List Str} (h : l.Nodup) : (sortBy ltS l).Nodup := (sortS_perm l).nodup_iff.mpr h
theorem sortS_idem (l : List Str) : sortBy ltS (sortBy ltS l) = sortBy ltS l :=
  (sortS_perm (sortBy ltS l)).eq_of_pairwise (fun _ _ _ _ h1 h2 => leT_anti h1 h2) (sortS_pw _) (sortS_pw _)
theorem init_dict {d : List (Str × β)} (hn : (d.map Prod.fst).Nodup) (hl : d.length < 64) : ∃ d', ((ksS? d).bind fun xs => dcL? (fun n => some n) (fun n => getK d n) xs) = some d' ∧ (∀ k, getK d' k = getK d k) ∧ ksS? d' = ksS? d := by
  have ek : ksS? d = some (sortBy ltS (d.map Prod.fst)) := by unfold ksS?; rw [if_pos hl]
  have hm : ∀ x, x ∈ sortBy ltS (d.map Prod.fst) ↔ x ∈ d.map Prod.fst := fun x => (sortS_perm _).mem_iff
  obtain ⟨r, e, h1, h2⟩ := dcO_new (f := fun n => getK d n) (sortBy ltS (d.map Prod.fst)) [] (sortS_nd hn) (fun x _ => by simp) (fun x hx => by
    obtain ⟨p, _, _, e⟩ := getK_some ((hm x).mp hx)
    exact ⟨_, e⟩)
  have ll : (sortBy ltS (d.map Prod.fst)).length = d.length := by rw [(sortS_perm _).length_eq, List.length_map]
  refine ⟨r, ?_, fun k => ?_, ?_⟩
  · rw [ek, Option.bind_some]
    unfold dcL?
    rw [if_pos (by rw [ll]; omega), e]
    rfl
  · by_cases c : k ∈ d.map Prod.fst
    · obtain ⟨p, hp, rfl, e2⟩ := getK_some (r := r) (k := k) (by rw [h1]; exact (hm k).mpr c)
      rw [e2, ← h2 p hp]
    · rw [getK_none c, getK_none (by rw [h1]; exact fun z => c ((hm k).mp z))]
  · unfold ksS?
    have lr : r.length = d.length := by rw [← ll, ← h1, List.length_map]
    rw [lr, if_pos hl, if_pos hl, h1, sortS_idem]
end
end G

namespace G
open PySem L2 M
/-! ### ratios of bounded size -/
structure Bq (n : Nat) (q : Rat) : Prop where
  o : q.num.natAbs < 2 ^ n
  u : q.den < 2 ^ n
theorem pow_le {a b : Nat} (h : a ≤ b) : (2 : Nat) ^ a ≤ 2 ^ b := Nat.pow_le_pow_right (by decide) h
theorem Bq.le {a b : Nat} {q : Rat} (h : Bq a q) (l : a ≤ b) : Bq b q := ⟨Nat.lt_of_lt_of_le h.o (pow_le l), Nat.lt_of_lt_of_le h.u (pow_le l)⟩
theorem den_ne (q : Rat) : (q.den : Int) ≠ 0 := by have := q.den_nz; omega
theorem den_pos (q : Rat) : (0 : Int) < q.den := by have := q.den_nz; omega
theorem bq_divInt {n : Nat} {o u : Int} (h : u ≠ 0) (ho : o.natAbs < 2 ^ n) (hu : u.natAbs < 2 ^ n) : Bq n (Rat.divInt o u) := by
  have e := rat_rND (o := o) h
  refine ⟨?_, ?_⟩
  · rw [e.1]; exact Nat.lt_of_le_of_lt (rN_le h) ho
  · have := rD_le (o := o) h
    have := rD_pos (o := o) h
    omega
theorem nat_mul_lt {x y : Int} {n m : Nat} (hx : x.natAbs < 2 ^ n) (hy : y.natAbs < 2 ^ m) : (x * y).natAbs < 2 ^ (n + m) := wide_lt hx hy
theorem den_nat (q : Rat) : ((q.den : Int)).natAbs = q.den := by omega
theorem den_lt {n : Nat} {q : Rat} (h : Bq n q) : ((q.den : Int)).natAbs < 2 ^ n := by rw [den_nat]; exact h.u
theorem den_mul_ne (q r : Rat) : (q.den : Int) * (r.den : Int) ≠ 0 := Int.mul_ne_zero (den_ne q) (den_ne r)
theorem add_divInt (q r : Rat) : Rat.divInt (q.num * r.den + r.num * q.den) (q.den * r.den) = q + r := by
  have h := Rat.divInt_add_divInt q.num r.num (den_ne q) (den_ne r)
  rw [Rat.num_divInt_den, Rat.num_divInt_den] at h
  exact h.symm
theorem sub_divInt (q r : Rat) : Rat.divInt (q.num * r.den - r.num * q.den) (q.den * r.den) = q - r := by
  have h := add_divInt q (-r)
  rw [Rat.neg_num, Rat.neg_den] at h
  rw [Rat.sub_eq_add_neg, ← h]
  congr 1
  rw [Int.neg_mul, Int.sub_eq_add_neg]
theorem mul_divInt (q r : Rat) : Rat.divInt (q.num * r.num) (q.den * r.den) = q * r := by
  have h := Rat.divInt_mul_divInt q.num r.num (d₁ := q.den) (d₂ := r.den)
  rw [Rat.num_divInt_den, Rat.num_divInt_den] at h
  exact h.symm
theorem div_divInt (q r : Rat) : Rat.divInt (q.num * r.den) (q.den * r.num) = q / r := by
  rw [Rat.div_def, Rat.inv_def]
  have h := Rat.divInt_mul_divInt q.num (r.den : Int) (d₁ := q.den) (d₂ := r.num)
  rw [Rat.num_divInt_den] at h
  exact h.symm
theorem Bq.add {n m : Nat} {q r : Rat} (h : Bq n q) (h' : Bq m r) : Bq (n + m + 1) (q + r) := by
  rw [← add_divInt]
  have h1 := nat_mul_lt h.o (den_lt h')
  have h2 := nat_mul_lt h'.o (den_lt h)
  have h3 := nat_mul_lt (den_lt h) (den_lt h')
  rw [Nat.add_comm m n] at h2
  refine bq_divInt (den_mul_ne q r) ?_ ?_
  · rw [Nat.pow_succ]; omega
  · rw [Nat.pow_succ]; omega
theorem Bq.sub {n m : Nat} {q r : Rat} (h : Bq n q) (h' : Bq m r) : Bq (n + m + 1) (q - r) := by
  rw [← sub_divInt]
  have h1 := nat_mul_lt h.o (den_lt h')
  have h2 := nat_mul_lt h'.o (den_lt h)
  have h3 := nat_mul_lt (den_lt h) (den_lt h')
  rw [Nat.add_comm m n] at h2
  refine bq_divInt (den_mul_ne q r) ?_ ?_
  · rw [Nat.pow_succ]; omega
  · rw [Nat.pow_succ]; omega
theorem Bq.mul {n m : Nat} {q r : Rat} (h : Bq n q) (h' : Bq m r) : Bq (n + m) (q * r) := by
  rw [← mul_divInt]
  exact bq_divInt (den_mul_ne q r) (nat_mul_lt h.o h'.o) (nat_mul_lt (den_lt h) (den_lt h'))
theorem Bq.div {n m : Nat} {q r : Rat} (h : Bq n q) (h' : Bq m r) (hr : r ≠ 0) : Bq (n + m) (q / r) := by
  rw [← div_divInt]
  have hn : r.num ≠ 0 := by rw [Ne, Rat.num_eq_zero]; exact hr
  exact bq_divInt (Int.mul_ne_zero (den_ne q) hn) (nat_mul_lt h.o (den_lt h')) (nat_mul_lt (den_lt h) h'.o)
theorem mul?_g {x y : Int} {n m : Nat} (hx : x.natAbs < 2 ^ n) (hy : y.natAbs < 2 ^ m) (hl : n + m ≤ 900000) : mul? x y = some (x * y) := by
  unfold mul? mulP
  rw [if_pos]
  refine decide_eq_true ?_
  have lg : ∀ (z k : Nat), z < 2 ^ k → z.log2 ≤ k := fun z k h => by
    by_cases c : z = 0
    · subst c; simp
    · exact Nat.le_of_lt ((Nat.log2_lt c).mpr h)
  have := lg _ _ hx
  have := lg _ _ hy
  omega
theorem ratio?_eq {o u : Int} (h : u ≠ 0) (hu : u.natAbs < 2 ^ 9000) : ratio? o u = some (Rat.divInt o u) := by
  unfold ratio?
  rw [if_pos ⟨h, hu⟩]
theorem lt9g {x y : Int} {n m : Nat} (hx : x.natAbs < 2 ^ n) (hy : y.natAbs < 2 ^ m) (l : n + m ≤ 9000) : (x * y).natAbs < 2 ^ 9000 := Nat.lt_of_lt_of_le (nat_mul_lt hx hy) (pow_le l)
end G

namespace G
open PySem L2 M
theorem ratio_sp {P : Rat → Prop} (h : ∀ q, Bq 30 q → P q) : m_law_ratio 300 P := by
  simp only [m_law_ratio, callBW, bd, Option.bind_some, lf_some, anyW]
  refine ⟨by simp, by decide, fun low hl => ?_⟩
  have hl' : 1 ≤ low ∧ low ≤ 60 := by
    simp only [List.mem_cons, List.not_mem_nil, or_false] at hl
    omega
  have e20 : (2 : Nat) ^ 20 = 1048576 := by decide
  rw [mul?_g (show (300 : Int).natAbs < 2 ^ 20 by decide) (show low.natAbs < 2 ^ 20 by omega) (by decide), lf_some]
  simp only [unW, tup2W, opW, callBW, bd, Option.bind_some, lf_some]
  rw [mul?_g (show (2 : Int).natAbs < 2 ^ 20 by decide) (show (300 * low).natAbs < 2 ^ 20 by omega) (by decide)]
  simp only [Option.bind_some, lf_some, drawW]
  refine ⟨by omega, by omega, fun r r0 r1 => ?_⟩
  rw [ratio?_eq (by omega) (Nat.lt_of_lt_of_le (show low.natAbs < 2 ^ 20 by omega) (pow_le (by decide))), lf_some]
  have e30 : (2 : Nat) ^ 30 = 1073741824 := by decide
  exact h _ (bq_divInt (by omega) (by omega) (by omega))
theorem spot_sp {P : Rat × Rat → Prop} (h : ∀ q, Bq 30 q.1 → Bq 30 q.2 → P q) : m_law_spot 300 P := by
  simp only [m_law_spot, tup2W, callBW, lf_some]
  exact ratio_sp fun q hq => ratio_sp fun r hr => h (q, r) hq hr
theorem names_sp {n : Int} (n1 : 1 ≤ n) (n2 : n ≤ 20) {P : List Str → Prop} (h : ∀ zs : List Str, zs ≠ [] → zs.length ≤ 20 → (∀ z ∈ zs, lowB z = true) → P zs) : m_law_names n P := by
  unfold m_law_names
  simp only [bd, Option.bind_some, lf_some, rng1_eq (b := n) ⟨by omega, by omega⟩]
  have ll : (rngL 0 n.toNat).length = n.toNat := by simp [rngL]
  refine loopW_ix (fun i (s : List Str) => s.length ≤ i ∧ (0 < i → s ≠ []) ∧ ∀ z ∈ s, lowB z = true) _ 0 [] ⟨Nat.le_refl _, by omega, by simp⟩ (fun k s x C _ hk hs _ hC => ?_) (fun s hs => ?_)
  · intro z hz
    refine jn_of (fun t => t.length ≤ k + 1 ∧ (0 < k + 1 → t ≠ []) ∧ ∀ z ∈ t, lowB z = true) (fun J hJ => ?_) (fun t ht => hC t ht)
    split
    · have ea : app? s z = some (s ++ [z]) := by
        unfold app?
        rw [if_pos]
        omega
      rw [ea, lf_some]
      refine hJ _ ⟨by simp; omega, by simp, fun w hw => ?_⟩
      rcases List.mem_append.mp hw with hw | hw
      · exact hs.2.2 w hw
      · rw [List.mem_singleton.mp hw]; exact hz
    · rename_i c
      refine hJ _ ⟨by omega, fun _ e => ?_, hs.2.2⟩
      subst e
      exact c (by simp [memD])
  · exact h s (hs.2.1 (by omega)) (by have := hs.1; omega) hs.2.2
end G

namespace G
open PySem L2 M
section
variable {β : Type}
theorem mem_putL {xs : List (Str × β)} {k : Str} {x : β} {p : Str × β} (h : p ∈ putL xs k x) : p ∈ xs ∨ p.2 = x := by
  unfold putL at h
  split at h
  · obtain ⟨q, hq, e⟩ := List.mem_map.mp h
    split at e
    · subst e; exact .inr rfl
    · subst e; exact .inl hq
  · rcases List.mem_append.mp h with h | h
    · exact .inl h
    · rw [List.mem_singleton.mp h]; exact .inr rfl
theorem key_putL {xs : List (Str × β)} {k : Str} {x : β} : putL xs k x ≠ [] := by
  unfold putL
  split
  · rename_i c
    intro e
    rw [List.map_eq_nil_iff] at e
    subst e
    simp at c
  · simp
theorem getK_memT {xs : List (Str × β)} {k : Str} {y : β} (h : getK xs k = some y) : ∃ p ∈ xs, p.2 = y := by
  by_cases c : k ∈ xs.map Prod.fst
  · obtain ⟨p, hp, _, e⟩ := getK_some c
    rw [e] at h
    cases h
    exact ⟨p, hp, rfl⟩
  · rw [getK_none c] at h; cases h
theorem put_some {xs : List (Str × β)} {k : Str} {x : β} (h : xs.length ≤ 1000) : putL? xs k x = some (putL xs k x) := by
  unfold putL?
  rw [if_pos (by omega)]
end
/-- spots as they are drawn -/
structure Sp1 (n : Nat) (s : List (Str × (Rat × Rat))) : Prop where
  l : s.length ≤ n
  n : (s.map Prod.fst).Nodup
  b : ∀ p ∈ s, Bq 30 p.2.1 ∧ Bq 30 p.2.2
theorem Sp1.put {n : Nat} {s : List (Str × (Rat × Rat))} {k : Str} {x : Rat × Rat} (h : Sp1 n s) (hx : Bq 30 x.1 ∧ Bq 30 x.2) : Sp1 (n + 1) (putL s k x) :=
  ⟨Nat.le_trans putL_len (by have := h.l; omega), put_nd h.n, fun p hp => by
    rcases mem_putL hp with hp | e
    · exact h.b p hp
    · rw [e]; exact hx⟩
theorem any_key {s : List (Str × (Rat × Rat))} {n : Nat} (h : Sp1 n s) (hn : n < 64) (hs : s ≠ []) {P : Str → Prop} (q : ∀ k v, getK s k = some v → Bq 30 v.1 ∧ Bq 30 v.2 → P k) : lf (ksS? s) fun a => anyW a P := by
  have l64 : s.length < 64 := by have := h.l; omega
  refine ⟨_, by unfold ksS?; rw [if_pos l64], ?_, ?_, fun k hk => ?_⟩
  · intro e
    have := (sortS_perm (s.map Prod.fst)).length_eq
    rw [e, List.length_map] at this
    exact hs (List.length_eq_zero_iff.mp this.symm)
  · rw [(sortS_perm _).length_eq, List.length_map]; omega
  · obtain ⟨p, hp, _, e⟩ := getK_some ((sortS_perm _).mem_iff.mp hk)
    exact q k _ e (h.b p hp)
theorem p2r_int (t : Int) : p2r (t, 1) = some (t : Rat) := by
  have h := p2r_rat (t : Rat)
  simpa using h
theorem bq_int {t : Int} {n : Nat} (hn : 0 < n) (h : t.natAbs < 2 ^ n) : Bq n (t : Rat) := ⟨by simpa using h, by
  show 1 < 2 ^ n
  exact Nat.one_lt_two_pow (by omega)⟩
end G

namespace G
open PySem L2 M
structure Gd (g : (List (Str × (Rat × Rat))) × (List (Str × (Str × (List Str)))) × (List (Str × (Str × Int)))) : Prop where
  a : Sp1 40 g.1
  b1 : (g.2.1.map Prod.fst).Nodup
  b2 : g.2.1.length < 64
  b3 : ∀ p ∈ g.2.1, p.2.2.length ≤ 10 ∧ p.2.2 ≠ []
  c1 : (g.2.2.map Prod.fst).Nodup
  c2 : g.2.2.length < 64
theorem rlen (n : Int) : (rngL 0 n.toNat).length = n.toNat := by simp [rngL]
theorem lowl : lowB "loose" = true := by decide +kernel
theorem ground_sp {P : ((List (Str × (Rat × Rat))) × (List (Str × (Str × (List Str)))) × (List (Str × (Str × Int)))) → Prop} (h : ∀ g, Gd g → P g) : m_law_ground 300 P := by
  unfold m_law_ground
  simp only [bd, Option.bind_some, lf_some, callBW, tup2W, opW, unW, consW, drawW]
  refine ⟨by decide, by decide, fun r r0 r1 => names_sp (by omega) (by omega) fun zs z0 zl zb => ?_⟩
  refine loopW_ix (fun i s => Sp1 (2 * i) s) _ 0 [] ⟨Nat.le_refl _, by simp, by simp⟩ (fun k s x C _ hk hs _ hC => ?_) (fun s hs => ?_)
  · refine spot_sp fun q q1 q2 => ?_
    have hs1 : Sp1 (2 * k + 1) (putL s x q) := hs.put ⟨q1, q2⟩
    rw [put_some (by have := hs.l; omega), lf_some]
    refine jn_of (fun t => Sp1 (2 * (k + 1)) t) (fun J hJ => ?_) (fun t ht => hC t ht)
    refine ⟨by decide, by decide, fun c _ _ => ?_⟩
    split
    · refine any_key hs1 (by omega) key_putL fun two v ev hv => ?_
      have e : mul? 2 300 = some (2 * 300) := mul?_g (show (2 : Int).natAbs < 2 ^ 20 by decide) (show (300 : Int).natAbs < 2 ^ 20 by decide) (by decide)
      rw [e]
      simp only [Option.bind_some, lf_some]
      refine ⟨by decide, by decide, fun t t0 t1 => ?_⟩
      rw [p2r_int, lf_some, ev]
      simp only [Option.bind_some, lf_some]
      rw [put_some (by have := hs1.l; omega), lf_some]
      exact hJ _ (hs1.put ⟨bq_int (by decide) (by have : (2 : Nat) ^ 30 = 1073741824 := by decide
                                                  omega), hv.2⟩)
    · refine jn_of (fun t => Sp1 (2 * (k + 1)) t) (fun J2 hJ2 => ?_) (fun t ht => hJ t ht)
      refine ⟨by decide, by decide, fun c _ _ => ?_⟩
      split
      · refine any_key hs1 (by omega) key_putL fun two v ev hv => ?_
        rw [ev, lf_some, put_some (by have := hs1.l; omega), lf_some]
        exact hJ2 _ (hs1.put hv)
      · exact hJ2 _ ⟨by have := hs1.l; omega, hs1.n, hs1.b⟩
  · dsimp only
    have hS : Sp1 40 s := ⟨by have := hs.l; omega, hs.n, hs.b⟩
    refine ⟨by decide, by decide, fun n n0 n1 => ?_⟩
    rw [rng1_eq ⟨by omega, by omega⟩, lf_some]
    refine loopW_ix (fun i (s : List (Str × (Str × (List Str)))) => s.length ≤ i ∧ (s.map Prod.fst).Nodup ∧ ∀ p ∈ s, p.2.2.length ≤ 10 ∧ p.2.2 ≠ []) _ 0 [] ⟨Nat.le_refl _, by simp, by simp⟩ (fun k l x C _ hk hl hx hC => ?_) (fun l hl => ?_)
    · rw [rlen] at hk
      have hx' := rng_mem hx
      rw [cat_eq (by omega)]
      simp only [Option.bind_some]
      rw [cat_eq (by simp; omega), lf_some]
      refine ⟨by simp, by simp; omega, fun m hm => ?_⟩
      have hm' : lowB m = true := by
        simp only [List.mem_append, List.mem_singleton] at hm
        rcases hm with (hm | hm) | hm
        · exact zb m hm
        · exact zb m hm
        · rw [hm]; exact lowl
      refine ⟨by decide, by decide, fun u u0 u1 => ?_⟩
      rw [rng1_eq ⟨by omega, by omega⟩, lf_some]
      refine loopW_ix (fun i (s : List Str) => s ≠ [] ∧ s.length ≤ i + 1 ∧ ∀ z ∈ s, lowB z = true) _ 0 [m] ⟨by simp, by simp, fun z hz => by rw [List.mem_singleton.mp hz]; exact hm'⟩ (fun k2 s2 x2 C2 _ hk2 hs2 _ hC2 => ?_) (fun s2 hs2 => ?_)
      · rw [rlen] at hk2
        refine ⟨z0, by omega, fun w hw => ?_⟩
        refine jn_of (fun t => t ≠ [] ∧ t.length ≤ k2 + 1 + 1 ∧ ∀ z ∈ t, lowB z = true) (fun J hJ => ?_) (fun t ht => hC2 t ht)
        obtain ⟨la, ela, _⟩ := last_at hs2.1
        rw [show (-1 : Int) = -1 from rfl, ela]
        simp only [Option.bind_some, lf_some]
        split
        · have ea : app? s2 w = some (s2 ++ [w]) := by
            unfold app?
            rw [if_pos (by have := hs2.2.1; omega)]
          rw [ea, lf_some]
          refine hJ _ ⟨by simp, by simp; have := hs2.2.1; omega, fun z hz => ?_⟩
          rcases List.mem_append.mp hz with hz | hz
          · exact hs2.2.2 z hz
          · rw [List.mem_singleton.mp hz]; exact zb w hw
        · exact hJ _ ⟨hs2.1, by have := hs2.2.1; omega, hs2.2.2⟩
      · rw [rlen] at hs2
        dsimp only
        refine jn_of (fun (t : List (Str × (Str × (List Str)))) => t.length ≤ k + 1 ∧ (t.map Prod.fst).Nodup ∧ ∀ p ∈ t, p.2.2.length ≤ 10 ∧ p.2.2 ≠ []) (fun J hJ => ?_) (fun t ht => hC t ht)
        split
        · refine ⟨by simp, by simp, fun kd _ => ?_⟩
          have xk : x = 0 ∨ x = 1 ∨ x = 2 ∨ x = 3 := by omega
          obtain ⟨ch, ec, el⟩ : ∃ z, ixS? "rstu" x = some z ∧ z.length = 1 := by
            rcases xk with rfl | rfl | rfl | rfl <;> exact ⟨_, rfl, rfl⟩
          dsimp only
          rw [ec, lf_some]
          refine ⟨by decide, by decide, fun w w0 w1 => ?_⟩
          have em : mulS? ch (1 + w) = some (Txt.mul ch (1 + w)) := by
            unfold mulS?
            rw [if_pos ⟨by omega, by omega, by omega⟩]
          rw [em, lf_some, put_some (by have := hl.1; omega), lf_some]
          refine hJ _ ⟨Nat.le_trans putL_len (by have := hl.1; omega), put_nd hl.2.1, fun p hp => ?_⟩
          rcases mem_putL hp with hp | e
          · exact hl.2.2 p hp
          · rw [e]; exact ⟨(by have := hs2.2.1; omega : s2.length ≤ 10), hs2.1⟩
        · exact hJ _ ⟨by have := hl.1; omega, hl.2⟩
    · rw [rlen] at hl
      dsimp only
      refine ⟨by decide, by decide, fun n2 n20 n21 => ?_⟩
      rw [rng1_eq ⟨by omega, by omega⟩, lf_some]
      refine loopW_ix (fun i (s : List (Str × (Str × Int))) => s.length ≤ i ∧ (s.map Prod.fst).Nodup) _ 0 [] ⟨Nat.le_refl _, by simp⟩ (fun k t x C _ hk ht _ hC => ?_) (fun t ht => ?_)
      · rw [rlen] at hk
        refine ⟨by simp, by simp, fun nm _ => ?_⟩
        dsimp only
        rw [cat_eq (by simp; omega), lf_some]
        refine ⟨by simp, by simp; omega, fun mk _ => ⟨by decide, by decide, fun w w0 w1 => ?_⟩⟩
        rw [put_some (by have := ht.1; omega), lf_some]
        exact hC _ ⟨Nat.le_trans putL_len (by have := ht.1; omega), put_nd ht.2⟩
      · rw [rlen] at ht
        dsimp only
        exact h _ ⟨hS, hl.2.1, (by have := hl.1; omega : l.length < 64), hl.2.2, ht.2, (by have := ht.1; omega : t.length < 64)⟩
end G

namespace G
open PySem L2 M
abbrev Sps : Type := List (Str × (Rat × Rat))
abbrev Lns : Type := List (Str × (Str × (List Str)))
def pb (sp : Sps) (ls : Lns) (n : Str) : Bool := match getK ls n with
  | some ln => ln.2.all fun m => (getK sp m).isSome
  | none => false
theorem mapO_all {sp : Sps} : ∀ ms : List Str, mapO (fun m => some ((getK sp m).isSome)) ms = some (ms.map fun m => (getK sp m).isSome)
  | [] => rfl
  | m :: ms => by simp only [mapO, bd, Option.bind_some, mapO_all ms, List.map_cons]
theorem pb_m {sp : Sps} {ls : Lns} {n : Str} {ln : Str × List Str} (h : getK ls n = some ln) (hl : ln.2.length ≤ 10) : ((getK ls n).bind fun x => (some x.2).bind fun xs => (mapL? (fun m => some ((getK sp m).isSome)) xs).bind fun x => some (x.all id)) = some (pb sp ls n) := by
  rw [h]
  simp only [Option.bind_some]
  unfold mapL?
  rw [if_pos (by omega), mapO_all, Option.bind_some]
  unfold pb
  rw [h]
  simp [List.all_map, Function.comp_def]
theorem filO_p {α : Type} {f : α → Option Bool} {p : α → Bool} : ∀ xs : List α, (∀ x ∈ xs, f x = some (p x)) → filO (fun x => (f x).bind fun k => if k = true then some (some x) else some none) xs = some (xs.filter p)
  | [], _ => rfl
  | x :: xs, h => by
    have ih := filO_p xs fun y hy => h y (List.mem_cons_of_mem _ hy)
    simp only [filO, bd, h x List.mem_cons_self, Option.bind_some, List.filter_cons]
    cases p x <;> simp [ih]
theorem loopC_p {α ρ : Type} {f : List α → α → Option (Ct ρ (List α))} {p : α → Bool} : ∀ (xs : List α) (s : List α), (∀ s x, x ∈ xs → s.length ≤ 1000 → f s x = some (.go (if p x = true then s ++ [x] else s))) → s.length + xs.length ≤ 1000 → loopC f xs s = some (.go (s ++ xs.filter p))
  | [], s, _, _ => by simp [loopC]
  | x :: xs, s, h, hl => by
    simp only [loopC]
    rw [h s x List.mem_cons_self (by omega), Option.bind_some]
    dsimp only
    have hl' : s.length + (xs.length + 1) ≤ 1000 := hl
    rw [loopC_p xs _ (fun s y hy => h s y (List.mem_cons_of_mem _ hy)) (by split <;> first | omega | (simp; omega)), List.filter_cons]
    cases p x <;> simp
theorem known_eq {x : Ld} {ks : List Str} (hk : ksS? x.2.1 = some ks) (hl : ks.length ≤ 100) (hm : ∀ n ∈ ks, ∃ ln, getK x.2.1 n = some ln ∧ ln.2.length ≤ 10) : m_Land_known x = some (ks.filter (pb x.1 x.2.1)) := by
  simp only [m_Land_known, bd, Option.bind_some, hk]
  unfold filL?
  rw [if_pos (by omega)]
  refine filO_p (p := pb x.1 x.2.1) ks fun n hn => ?_
  obtain ⟨ln, e, l⟩ := hm n hn
  have := pb_m (sp := x.1) e l
  rw [← this]
  simp only [Option.bind_some, e]
theorem lknown_eq {g : Sps × Lns × (List (Str × (Str × Int)))} {ks : List Str} (hk : ksS? g.2.1 = some ks) (hl : ks.length ≤ 100) (hm : ∀ n ∈ ks, ∃ ln, getK g.2.1 n = some ln ∧ ln.2.length ≤ 10) : m_law_known g = some (ks.filter (pb g.1 g.2.1)) := by
  simp only [m_law_known, bd, Option.bind_some, hk]
  rw [loopC_p (p := pb g.1 g.2.1) ks [] (fun s n hn hs => ?_) (by simp; omega)]
  · simp
  · obtain ⟨ln, e, l⟩ := hm n hn
    have := pb_m (sp := g.1) e l
    simp only [e, Option.bind_some] at this ⊢
    rw [this]
    simp only [Option.bind_some]
    cases c : pb g.1 g.2.1 n with
    | false => simp
    | true =>
      have ea : app? s n = some (s ++ [n]) := by
        unfold app?
        rw [if_pos (by omega)]
      simp [ea]
end G

namespace G
open PySem L2 M
theorem srt_uniq {xs ys : List Str} (n1 : xs.Nodup) (n2 : ys.Nodup) (h : ∀ y, y ∈ xs ↔ y ∈ ys) (s1 : xs.Pairwise leT) (s2 : ys.Pairwise leT) : xs = ys :=
  ((List.perm_ext_iff_of_nodup n1 n2).mpr h).eq_of_pairwise (fun _ _ _ _ h1 h2 => leT_anti h1 h2) s1 s2
theorem filL_gm {α β : Type} {g : α → Option Bool} {f : α → Option β} {p : α → Bool} {q : α → β} {xs : List α} (hl : xs.length ≤ 1000) (hg : ∀ x ∈ xs, g x = some (p x)) (hf : ∀ x ∈ xs, f x = some (q x)) : filL? g f xs = some ((xs.filter p).map q) := by
  unfold filL?
  rw [if_pos (by omega)]
  clear hl
  induction xs with
  | nil => rfl
  | cons x xs ih =>
    have i := ih (fun y hy => hg y (List.mem_cons_of_mem _ hy)) (fun y hy => hf y (List.mem_cons_of_mem _ hy))
    unfold filO
    rw [hg x List.mem_cons_self, List.filter_cons]
    cases c : p x with
    | true =>
      simp only [bd, Option.bind_some, if_true, hf x List.mem_cons_self] at i ⊢
      rw [i]
      rfl
    | false =>
      simp only [bd, Option.bind_some] at i ⊢
      rw [i]
      rfl
theorem loopC_2 {α β γ ρ : Type} {f : List β × List γ → α → Option (Ct ρ (List β × List γ))} {g : α → List β} {h : α → List γ} : ∀ (xs : List α) (s : List β) (t : List γ), (∀ x ∈ xs, (g x).length ≤ 2 ∧ (h x).length ≤ 10 ∧ ∀ s t, s.length ≤ 800 → t.length ≤ 800 → f (s, t) x = some (.go (s ++ g x, t ++ h x))) → s.length + xs.length * 2 ≤ 800 → t.length + xs.length * 10 ≤ 800 → loopC f xs (s, t) = some (.go (s ++ xs.flatMap g, t ++ xs.flatMap h))
  | [], s, t, _, _, _ => by simp [loopC]
  | x :: r, s, t, hx, h1, h2 => by
    obtain ⟨l1, l2, e⟩ := hx x List.mem_cons_self
    rw [List.length_cons] at h1 h2
    unfold loopC
    rw [e s t (by omega) (by omega), Option.bind_some]
    refine (loopC_2 r (s ++ g x) (t ++ h x) (fun y hy => hx y (List.mem_cons_of_mem _ hy)) (by rw [List.length_append]; omega) (by rw [List.length_append]; omega)).trans ?_
    simp
theorem two_ends {m : List Str} (h : m ≠ []) : ∃ a b, atI m 0 = some a ∧ atI m (-1) = some b ∧ cutD m none (some 1) = [a] ∧ cutD m (some (-1)) none = [b] := by
  have l : 0 < m.length := List.length_pos_iff.mpr h
  have l1 : m.length - 1 < m.length := by omega
  refine ⟨m[0], m[m.length - 1], ?_, ?_, ?_, ?_⟩
  · unfold atI ixN
    rw [if_pos (by decide), if_pos (by omega)]
    simp
  · unfold atI ixN
    rw [if_neg (by decide), if_pos (by omega), Option.bind_some, show ((-1 : Int) + (m.length : Int)).toNat = m.length - 1 by omega]
    exact List.getElem?_eq_getElem l1
  · cases m with
    | nil => exact absurd rfl h
    | cons a r =>
      show ((a :: r).drop 0).take (min (1 : Int).toNat (a :: r).length - 0) = [a]
      have : min (1 : Int).toNat (a :: r).length - 0 = 1 := by rw [List.length_cons]; have : (1 : Int).toNat = 1 := rfl; omega
      rw [this]
      rfl
  · show (m.drop ((-1 : Int) + (m.length : Int)).toNat).take (m.length - ((-1 : Int) + (m.length : Int)).toNat) = _
    rw [show ((-1 : Int) + (m.length : Int)).toNat = m.length - 1 by omega, List.drop_eq_getElem_cons l1, List.drop_of_length_le (by omega), show m.length - (m.length - 1) = 1 by omega]
    rfl
abbrev Sts : Type := List (Str × (Str × Int))
def mks (ls : Lns) (n : Str) : List Str := match getK ls n with
  | some ln => ln.2
  | none => []
def endl (m : List Str) : List Str := cutD m none (some 1) ++ cutD m (some (-1)) none
def twc (es : List Str) : List Str := es.filter fun m => decide ((1 : Int) < ((es.count m : Nat) : Int))
def std (sp : Sps) (st : Sts) : List Str := ((st.map Prod.snd).filter fun z => (getK sp z.1).isSome).map Prod.fst
/-- what a land and its law need of the lines -/
structure Lk (ls : Lns) (ks : List Str) : Prop where
  s : ksS? ls = some ks
  l : ks.length ≤ 63
  m : ∀ n ∈ ks, ∃ ln, getK ls n = some ln ∧ ln.2.length ≤ 10 ∧ ln.2 ≠ []
theorem ext_eq {xs ys : List Str} (h : xs.length + ys.length ≤ 1000) : ext? xs ys = some (xs ++ ys) := by
  unfold ext?
  rw [if_pos (by omega)]
theorem endl_len {ls : Lns} {n : Str} : (endl (mks ls n)).length ≤ 2 := by
  unfold endl
  by_cases c : mks ls n = []
  · rw [c]; decide
  · obtain ⟨a, b, _, _, e1, e2⟩ := two_ends c
    rw [e1, e2]; simp
theorem flat_len {α β : Type} {g : α → List β} {c : Nat} : ∀ {xs : List α}, (∀ x ∈ xs, (g x).length ≤ c) → (xs.flatMap g).length ≤ xs.length * c
  | [], _ => by simp
  | x :: r, h => by
    have h1 := h x List.mem_cons_self
    have h2 := flat_len (g := g) (xs := r) fun y hy => h y (List.mem_cons_of_mem _ hy)
    rw [List.flatMap_cons, List.length_append, List.length_cons, Nat.succ_mul]
    omega
theorem held_land {x : Ld} {ks : List Str} (k : Lk x.2.1 ks) (hst : x.2.2.1.length ≤ 63) :
    m_Land_held x = setS? (((ks.filter (pb x.1 x.2.1)).flatMap fun n => endl (mks x.2.1 n)) ++ twc ((ks.filter (pb x.1 x.2.1)).flatMap (mks x.2.1)) ++ std x.1 x.2.2.1) := by
  have hk := known_eq (x := x) k.s (by have := k.l; omega) (fun n hn => by obtain ⟨ln, e, l, _⟩ := k.m n hn; exact ⟨ln, e, l⟩)
  have fl : (ks.filter (pb x.1 x.2.1)).length ≤ 63 := Nat.le_trans (List.length_filter_le ..) k.l
  have ml : ∀ n ∈ ks, ∃ ln, getK x.2.1 n = some ln ∧ mks x.2.1 n = ln.2 ∧ ln.2.length ≤ 10 ∧ ln.2 ≠ [] := fun n hn => by
    obtain ⟨ln, e, l, ne⟩ := k.m n hn
    exact ⟨ln, e, by unfold mks; rw [e], l, ne⟩
  simp only [m_Land_held, bd, Option.bind_some, hk]
  rw [loopC_2 (g := fun n => endl (mks x.2.1 n)) (h := mks x.2.1) _ [] [] (fun n hn => ?_) (by simp; omega) (by simp; omega), Option.bind_some]
  · dsimp only [List.nil_append]
    have s1 : ((ks.filter (pb x.1 x.2.1)).flatMap (mks x.2.1)).length ≤ 630 := by
      have := flat_len (g := mks x.2.1) (c := 10) (xs := ks.filter (pb x.1 x.2.1)) (fun n hn => by obtain ⟨ln, _, e, l, _⟩ := ml n (List.mem_filter.mp hn).1; rw [e]; exact l)
      omega
    have s2 : ((ks.filter (pb x.1 x.2.1)).flatMap fun n => endl (mks x.2.1 n)).length ≤ 126 := by
      have := flat_len (g := fun n => endl (mks x.2.1 n)) (c := 2) (xs := ks.filter (pb x.1 x.2.1)) (fun n _ => endl_len)
      omega
    rw [fil_gen (p := fun m => decide ((1 : Int) < ((((ks.filter (pb x.1 x.2.1)).flatMap (mks x.2.1)).count m : Nat) : Int))) (by omega) (fun m _ => rfl), Option.bind_some]
    rw [filL_gm (p := fun z => (getK x.1 z.1).isSome) (q := Prod.fst) (by rw [List.length_map]; omega) (fun z _ => rfl) (fun z _ => rfl), Option.bind_some]
    have t1 : (twc ((ks.filter (pb x.1 x.2.1)).flatMap (mks x.2.1))).length ≤ 630 := Nat.le_trans (List.length_filter_le ..) s1
    have t2 : (std x.1 x.2.2.1).length ≤ 63 := by
      unfold std
      rw [List.length_map]
      exact Nat.le_trans (List.length_filter_le ..) (by rw [List.length_map]; exact hst)
    show ((cat? _ (twc _)).bind fun y => (cat? y (std x.1 x.2.2.1))).bind setS? = _
    rw [cat_eq (by omega), Option.bind_some, cat_eq (by rw [List.length_append]; omega), Option.bind_some]
  · obtain ⟨ln, e, em, l, ne⟩ := ml n (List.mem_filter.mp hn).1
    refine ⟨endl_len, by rw [em]; exact l, fun s t hs ht => ?_⟩
    rw [e]
    simp only [Option.bind_some]
    have l1 : (cutD ln.2 none (some 1)).length ≤ 10 := Nat.le_trans (cut_len ..) l
    have l2 : (cutD ln.2 (some (-1)) none).length ≤ 10 := Nat.le_trans (cut_len ..) l
    rw [ext_eq (by omega), Option.bind_some, ext_eq (by rw [List.length_append]; omega), Option.bind_some, ext_eq (by omega), Option.bind_some]
    rw [em]
    simp [endl]
theorem held_law {g : Sps × Lns × Sts} {ks : List Str} (k : Lk g.2.1 ks) (hst : g.2.2.length ≤ 63) :
    m_law_held g = setS? (std g.1 g.2.2 ++ ((ks.filter (pb g.1 g.2.1)).flatMap fun n => endl (mks g.2.1 n)) ++ twc ((ks.filter (pb g.1 g.2.1)).flatMap (mks g.2.1))) := by
  have hk := lknown_eq (g := g) k.s (by have := k.l; omega) (fun n hn => by obtain ⟨ln, e, l, _⟩ := k.m n hn; exact ⟨ln, e, l⟩)
  have fl : (ks.filter (pb g.1 g.2.1)).length ≤ 63 := Nat.le_trans (List.length_filter_le ..) k.l
  have ml : ∀ n ∈ ks, ∃ ln, getK g.2.1 n = some ln ∧ mks g.2.1 n = ln.2 ∧ ln.2.length ≤ 10 ∧ ln.2 ≠ [] := fun n hn => by
    obtain ⟨ln, e, l, ne⟩ := k.m n hn
    exact ⟨ln, e, by unfold mks; rw [e], l, ne⟩
  have t2 : (std g.1 g.2.2).length ≤ 63 := by
    unfold std
    rw [List.length_map]
    exact Nat.le_trans (List.length_filter_le ..) (by rw [List.length_map]; exact hst)
  simp only [m_law_held, bd, Option.bind_some, hk]
  rw [filL_gm (p := fun z => (getK g.1 z.1).isSome) (q := Prod.fst) (by rw [List.length_map]; omega) (fun z _ => rfl) (fun z _ => rfl), Option.bind_some]
  rw [show ((g.2.2.map Prod.snd).filter fun z => (getK g.1 z.1).isSome).map Prod.fst = std g.1 g.2.2 from rfl]
  rw [loopC_2 (g := fun n => endl (mks g.2.1 n)) (h := mks g.2.1) _ (std g.1 g.2.2) [] (fun n hn => ?_) (by omega) (by simp; omega), Option.bind_some]
  · dsimp only [List.nil_append]
    have s1 : ((ks.filter (pb g.1 g.2.1)).flatMap (mks g.2.1)).length ≤ 630 := by
      have := flat_len (g := mks g.2.1) (c := 10) (xs := ks.filter (pb g.1 g.2.1)) (fun n hn => by obtain ⟨ln, _, e, l, _⟩ := ml n (List.mem_filter.mp hn).1; rw [e]; exact l)
      omega
    have s2 : ((ks.filter (pb g.1 g.2.1)).flatMap fun n => endl (mks g.2.1 n)).length ≤ 126 := by
      have := flat_len (g := fun n => endl (mks g.2.1 n)) (c := 2) (xs := ks.filter (pb g.1 g.2.1)) (fun n _ => endl_len)
      omega
    rw [fil_gen (p := fun m => decide ((1 : Int) < ((((ks.filter (pb g.1 g.2.1)).flatMap (mks g.2.1)).count m : Nat) : Int))) (by omega) (fun m _ => rfl), Option.bind_some]
    have t1 : (twc ((ks.filter (pb g.1 g.2.1)).flatMap (mks g.2.1))).length ≤ 630 := Nat.le_trans (List.length_filter_le ..) s1
    show (cat? _ (twc _)).bind _ = _
    rw [cat_eq (by rw [List.length_append]; omega), Option.bind_some]
  · obtain ⟨ln, e, em, l, ne⟩ := ml n (List.mem_filter.mp hn).1
    refine ⟨endl_len, by rw [em]; exact l, fun s t hs ht => ?_⟩
    obtain ⟨a, b, e1, e2, e3, e4⟩ := two_ends ne
    rw [e]
    simp only [Option.bind_some, show (-1 : Int) = -1 from rfl, e1, e2]
    rw [cat_eq (by simp; omega), Option.bind_some, cat_eq (by omega), Option.bind_some]
    rw [em]
    simp [endl, e3, e4]
theorem set_same {xs ys : List Str} (h1 : xs.length ≤ 1000) (h2 : ys.length ≤ 1000) (h : ∀ z, z ∈ xs ↔ z ∈ ys) : setS? xs = setS? ys ∧ ∃ zs, setS? ys = some zs ∧ zs.length ≤ 1000 := by
  unfold setS?
  rw [if_pos h1, if_pos h2]
  refine ⟨congrArg some (srt_uniq ((sortS_perm _).nodup_iff.mpr (once_nd _)) ((sortS_perm _).nodup_iff.mpr (once_nd _)) (fun z => ?_) (sortS_pw _) (sortS_pw _)), _, rfl, ?_⟩
  · rw [(sortS_perm _).mem_iff, (sortS_perm _).mem_iff, once_mem, once_mem, h]
  · rw [(sortS_perm _).length_eq]
    exact Nat.le_trans (once_len _) h2
end G

namespace G
open PySem L2 M
theorem shw_ok {i : Int} (h : i.natAbs ≤ 1000) : shw? i = some (Str.ofString (toString i)) ∧ (Str.ofString (toString i)).length ≤ 2000 := by
  have hl : i.natAbs.log2 < 1920 := by
    by_cases c : i.natAbs = 0
    · rw [c]; decide
    · refine Nat.lt_of_lt_of_le ((Nat.log2_lt c).mpr (show i.natAbs < 2 ^ 10 by omega)) (by decide)
  unfold shw?
  rw [if_pos hl]
  refine ⟨rfl, ?_⟩
  have e := int_text_length_le (k := 1920) (by decide) hl
  rw [ofString_length]
  omega
theorem catX_ok {x y : Str} (h : x.length + y.length ≤ 100000) : catX? x y = some (x ++ y) := by
  unfold catX?
  rw [if_pos]
  rw [Str.length_append, sizeLine_eq]
  omega
theorem catY_ok {x y : Str} (h : x.length + y.length ≤ 100000) : catY? x y = some (x ++ y) := by
  unfold catY?
  rw [if_pos]
  rw [sizeLine_eq]
  omega
theorem ksS_eq {β : Type} {m : List (Str × β)} (h : m.length < 64) : ksS? m = some (sortBy ltS (m.map Prod.fst)) := by unfold ksS?; rw [if_pos h]
theorem sortS_same {l l' : List Str} (h : l.Perm l') : sortBy ltS l = sortBy ltS l' :=
  ((sortS_perm l).trans (h.trans (sortS_perm l').symm)).eq_of_pairwise (fun _ _ _ _ h1 h2 => leT_anti h1 h2) (sortS_pw _) (sortS_pw _)
/-- what Land(..) of two numbers of lines and sites is as a text -/
def ltx (i j : Nat) : Str := "Land(" ++ Str.ofString (toString (i : Int)) ++ " lines, " ++ Str.ofString (toString (j : Int)) ++ " sites)"
theorem repr_ok {x : Ld} (i1 : x.2.1.length ≤ 1000) (j1 : x.2.2.1.length ≤ 1000) : m_Land___repr__ x = some (ltx x.2.1.length x.2.2.1.length) := by
  have l1 : ("Land(" : Str).length = 5 := by decide
  have l2 : (" lines, " : Str).length = 8 := by decide
  have l3 : (" sites)" : Str).length = 7 := by decide
  have l0 : Str.empty.length = 0 := rfl
  obtain ⟨a1, a2⟩ := shw_ok (i := (x.2.1.length : Int)) (by omega)
  obtain ⟨b1, b2⟩ := shw_ok (i := (x.2.2.1.length : Int)) (by omega)
  simp only [m_Land___repr__, bd, Option.bind_some, a1, b1]
  rw [catX_ok (by omega), Option.bind_some, catX_ok (by simp only [Str.length_append]; omega), Option.bind_some, catX_ok (by simp only [Str.length_append]; omega), Option.bind_some, catX_ok (by simp only [Str.length_append]; omega), Option.bind_some, catX_ok (by simp only [Str.length_append]; omega), Option.bind_some, Str.empty_append]
  rfl
theorem text_ok {i j : Nat} (i1 : i ≤ 1000) (j1 : j ≤ 1000) : ((((shw? (i : Int)).bind fun y => catY? "Land(" y).bind fun x => catY? x " lines, ").bind fun x => (shw? (j : Int)).bind fun y => catY? x y).bind (fun x => catY? x " sites)") = some (ltx i j) := by
  have l1 : ("Land(" : Str).length = 5 := by decide
  have l2 : (" lines, " : Str).length = 8 := by decide
  have l3 : (" sites)" : Str).length = 7 := by decide
  obtain ⟨a1, a2⟩ := shw_ok (i := (i : Int)) (by omega)
  obtain ⟨b1, b2⟩ := shw_ok (i := (j : Int)) (by omega)
  rw [a1, b1, Option.bind_some, catY_ok (by omega), Option.bind_some, catY_ok (by simp only [Str.length_append]; omega), Option.bind_some, Option.bind_some, catY_ok (by simp only [Str.length_append]; omega), Option.bind_some, catY_ok (by simp only [Str.length_append]; omega)]
  rfl
/-! ### the land -/
structure Nd {β : Type} (d : List (Str × β)) : Prop where
  n : (d.map Prod.fst).Nodup
  l : d.length ≤ 63
theorem Nd.perm {β : Type} {d d' : List (Str × β)} (h : Nd d) (p : d'.Perm d) : Nd d' := ⟨(p.map Prod.fst).nodup_iff.mpr h.n, by rw [p.length_eq]; exact h.l⟩
abbrev Grd : Type := Sps × Lns × Sts
structure N3 (g : Grd) : Prop where
  a : Nd g.1
  b : Nd g.2.1
  c : Nd g.2.2
structure Pm (x : Ld) (g : Grd) : Prop where
  a : x.1.Perm g.1
  b : x.2.1.Perm g.2.1
  c : x.2.2.1.Perm g.2.2
theorem dc_ok {β : Type} {d : List (Str × β)} (h : Nd d) : ∃ d', ((ksS? d).bind fun xs => dcL? (fun n => some n) (fun n => getK d n) xs) = some d' ∧ d'.Perm d := by
  obtain ⟨d', e, p, _⟩ := dc_anew h.n (sortS_perm _) (by have := h.l; omega)
  exact ⟨d', by rw [ksS_eq (by have := h.l; omega), Option.bind_some]; exact e, p⟩
theorem init_ok {g : Grd} (h : N3 g) : ∃ x, m_Land___init__ g.1 g.2.1 g.2.2 = some x ∧ Pm x g := by
  obtain ⟨a, e1, p1⟩ := dc_ok h.a
  obtain ⟨b, e2, p2⟩ := dc_ok h.b
  obtain ⟨c, e3, p3⟩ := dc_ok h.c
  refine ⟨(a, b, c, ()), ?_, p1, p2, p3⟩
  simp only [m_Land___init__, bd, Option.bind_some]
  rw [e1, Option.bind_some, e2, Option.bind_some, e3, Option.bind_some]
/-! ### held -/
theorem std_mem {sp sp' : Sps} {st st' : Sts} (hp : ∀ k, getK sp k = getK sp' k) (h : st.Perm st') (z : Str) : z ∈ std sp st ↔ z ∈ std sp' st' := by
  unfold std
  simp only [List.mem_map, List.mem_filter, hp, h.mem_iff]
theorem held_ok {g : Grd} (h : N3 g) (hl : ∀ p ∈ g.2.1, p.2.2.length ≤ 10 ∧ p.2.2 ≠ []) {x : Ld} (p : Pm x g) : ∃ zs, m_Land_held x = some zs ∧ m_law_held g = some zs ∧ zs.length ≤ 1000 := by
  have g1 : ∀ k, getK x.1 k = getK g.1 k := fun k => dget_perm p.a (h.a.perm p.a).n k
  have g2 : ∀ k, getK x.2.1 k = getK g.2.1 k := fun k => dget_perm p.b (h.b.perm p.b).n k
  have ek := ksS_eq (m := g.2.1) (by have := h.b.l; omega)
  have ex : ksS? x.2.1 = some (sortBy ltS (g.2.1.map Prod.fst)) := by rw [ksS_eq (by have := (h.b.perm p.b).l; omega), sortS_same (p.b.map Prod.fst)]
  have kl : (sortBy ltS (g.2.1.map Prod.fst)).length ≤ 63 := by rw [(sortS_perm _).length_eq, List.length_map]; exact h.b.l
  have km : ∀ n ∈ sortBy ltS (g.2.1.map Prod.fst), ∃ ln, getK g.2.1 n = some ln ∧ ln.2.length ≤ 10 ∧ ln.2 ≠ [] := fun n hn => by
    obtain ⟨y, ey, my⟩ := dget_some ((sortS_perm _).mem_iff.mp hn)
    exact ⟨y, ey, hl _ my⟩
  have k1 : Lk g.2.1 (sortBy ltS (g.2.1.map Prod.fst)) := ⟨ek, kl, km⟩
  have k2 : Lk x.2.1 (sortBy ltS (g.2.1.map Prod.fst)) := ⟨ex, kl, fun n hn => by rw [g2]; exact km n hn⟩
  have epb : pb x.1 x.2.1 = pb g.1 g.2.1 := by funext n; unfold pb; simp only [g1, g2]
  have emk : mks x.2.1 = mks g.2.1 := by funext n; unfold mks; rw [g2]
  have h1 := held_land k2 (h.c.perm p.c).l
  have h2 := held_law k1 h.c.l
  rw [epb, emk] at h1
  generalize ef : (sortBy ltS (g.2.1.map Prod.fst)).filter (pb g.1 g.2.1) = fs at h1 h2
  have fl : fs.length ≤ 63 := by rw [← ef]; exact Nat.le_trans (List.length_filter_le ..) kl
  have s1 : (fs.flatMap (mks g.2.1)).length ≤ 630 := by
    have := flat_len (g := mks g.2.1) (c := 10) (xs := fs) (fun n hn => by
      rw [← ef] at hn
      obtain ⟨ln, e, l, _⟩ := km n (List.mem_filter.mp hn).1
      unfold mks
      rw [e]
      exact l)
    omega
  have s2 : (fs.flatMap fun n => endl (mks g.2.1 n)).length ≤ 126 := by
    have := flat_len (g := fun n => endl (mks g.2.1 n)) (c := 2) (xs := fs) (fun n _ => endl_len)
    omega
  have t1 : (twc (fs.flatMap (mks g.2.1))).length ≤ 630 := Nat.le_trans (List.length_filter_le ..) s1
  have t2 : ∀ (sp : Sps) {st : Sts}, st.length ≤ 63 → (std sp st).length ≤ 63 := fun sp st hst => by
    unfold std
    rw [List.length_map]
    exact Nat.le_trans (List.length_filter_le ..) (by rw [List.length_map]; exact hst)
  have u1 := t2 g.1 h.c.l
  have u2 := t2 x.1 (h.c.perm p.c).l
  obtain ⟨e, zs, ez, lz⟩ := set_same (xs := (fs.flatMap fun n => endl (mks g.2.1 n)) ++ twc (fs.flatMap (mks g.2.1)) ++ std x.1 x.2.2.1) (ys := std g.1 g.2.2 ++ (fs.flatMap fun n => endl (mks g.2.1 n)) ++ twc (fs.flatMap (mks g.2.1))) (by simp only [List.length_append]; omega) (by simp only [List.length_append]; omega) (fun z => by
    simp only [List.mem_append, std_mem g1 p.c z]
    constructor
    · rintro ((h | h) | h)
      · exact .inl (.inr h)
      · exact .inr h
      · exact .inl (.inl h)
    · rintro ((h | h) | h)
      · exact .inr h
      · exact .inl (.inl h)
      · exact .inl (.inr h))
  exact ⟨zs, by rw [h1, e, ez], by rw [h2, ez], lz⟩
/-! ### near ones -/
theorem map_get {β : Type} {d : List (Str × β)} : ∀ {ks : List Str}, (∀ k ∈ ks, k ∈ d.map Prod.fst) → ∃ ps, mapO (fun n => bd (getK d n) fun v => some (n, v)) ks = some ps ∧ ps.map Prod.fst = ks ∧ ∀ p ∈ ps, p ∈ d
  | [], _ => ⟨[], rfl, rfl, fun p h => by simp at h⟩
  | k :: ks, h => by
    obtain ⟨y, e, m⟩ := dget_some (h k List.mem_cons_self)
    obtain ⟨ps, e2, k2, m2⟩ := map_get (d := d) (ks := ks) fun z hz => h z (List.mem_cons_of_mem _ hz)
    refine ⟨(k, y) :: ps, ?_, by rw [List.map_cons, k2], fun p hp => ?_⟩
    · simp only [mapO, bd, e, Option.bind_some] at e2 ⊢
      rw [e2]
      rfl
    · rcases List.mem_cons.mp hp with rfl | hp
      · exact m
      · exact m2 p hp
theorem nd_of_map {α β : Type} {f : α → β} : ∀ {l : List α}, (l.map f).Nodup → l.Nodup
  | [], _ => .nil
  | x :: r, h => by
    rw [List.map_cons, List.nodup_cons] at h
    exact List.nodup_cons.mpr ⟨fun m => h.1 (List.mem_map.mpr ⟨x, m, rfl⟩), nd_of_map h.2⟩
theorem rev_ok {β : Type} [DecidableEq β] {d : List (Str × β)} (h : Nd d) : ∃ z, revD? d = some z ∧ z.Perm d := by
  have hl := h.l
  obtain ⟨ps, e, k, m⟩ := map_get (d := d) (ks := (sortBy ltS (d.map Prod.fst)).reverse) fun z hz => (sortS_perm _).mem_iff.mp (List.mem_reverse.mp hz)
  have nk : (ps.map Prod.fst).Nodup := by
    rw [k]
    exact (List.reverse_perm _).nodup_iff.mpr ((sortS_perm _).nodup_iff.mpr h.n)
  have pl : ps.length = d.length := by
    have := congrArg List.length k
    rw [List.length_map, List.length_reverse, (sortS_perm _).length_eq, List.length_map] at this
    exact this
  refine ⟨ps, ?_, perm_of_sub (nd_of_map nk) m (by omega)⟩
  simp only [revD?, bd, ksS_eq (m := d) (by omega), Option.bind_some]
  unfold mapL?
  rw [if_pos (by rw [List.length_reverse, (sortS_perm _).length_eq, List.length_map]; omega)]
  simp only [bd] at e
  rw [e, Option.bind_some, merge_new ps [] nk (fun x _ => by simp)]
  rfl
theorem fin_ok {g : Grd} (h : N3 g) {P : Grd → Prop} (q : ∀ z, N3 z → P z) : fin3 g P := by
  obtain ⟨a, e1, p1⟩ := rev_ok h.a
  obtain ⟨b, e2, p2⟩ := rev_ok h.b
  obtain ⟨c, e3, p3⟩ := rev_ok h.c
  exact ⟨(a, b, c), by simp only [rev3?, bd, e1, e2, e3, Option.bind_some], q _ ⟨h.a.perm p1, h.b.perm p2, h.c.perm p3⟩⟩
theorem nearD_ok {β : Type} {d : List (Str × β)} (h : Nd d) {k : List (Str × β) → Prop} {k0 : Prop} (q : ∀ y, Nd y → k y) (q0 : k0) : nearD anyW d k k0 := by
  unfold nearD
  split
  · exact q0
  · rename_i ne
    have hl := h.l
    simp only [callBW, ksS_eq (m := d) (by omega), lf_some]
    refine ⟨fun e => ?_, by rw [(sortS_perm _).length_eq, List.length_map]; omega, fun key hk => ?_⟩
    · have := (sortS_perm (d.map Prod.fst)).length_eq
      rw [e, List.length_map] at this
      exact ne this.symm
    · obtain ⟨y, ey, _⟩ := dget_some ((sortS_perm _).mem_iff.mp hk)
      refine ⟨_, by unfold popL?; rw [if_pos (by rw [ey]; rfl)], q _ ⟨?_, ?_⟩⟩
      · exact h.n.sublist ((List.filter_sublist (l := d)).map Prod.fst)
      · exact Nat.le_trans (List.length_filter_le ..) hl
theorem near_ok {g : Grd} (h : N3 g) {P : Grd → Prop} (q : ∀ z, N3 z → P z) : m_law_near g P := by
  simp only [m_law_near, callBW, lf_some, drawW]
  refine ⟨by decide, by decide, fun r r0 r1 => ?_⟩
  by_cases c0 : r = 0
  · rw [if_pos c0]
    exact nearD_ok h.a (fun y hy => fin_ok (g := (y, g.2.1, g.2.2)) ⟨hy, h.b, h.c⟩ q) (fin_ok h q)
  rw [if_neg c0]
  by_cases c1 : r = 1
  · rw [if_pos c1]
    exact nearD_ok h.b (fun y hy => fin_ok (g := (g.1, y, g.2.2)) ⟨h.a, hy, h.c⟩ q) (fin_ok h q)
  rw [if_neg c1]
  by_cases c2 : r = 2
  · rw [if_pos c2]
    exact nearD_ok h.c (fun y hy => fin_ok (g := (g.1, g.2.1, y)) ⟨h.a, h.b, hy⟩ q) (fin_ok h q)
  rw [if_neg c2, if_pos (by omega)]
  exact fin_ok h q
theorem eq_ok (a b : Ld) : m_Land___eq__ a b = some (dEq a.1 b.1 && (dEq a.2.1 b.2.1 && dEq a.2.2.1 b.2.2.1)) := by
  simp only [m_Land___eq__, bd, Option.bind_some, if_true]
  cases dEq a.1 b.1 <;> cases dEq a.2.1 b.2.1 <;> simp
end G

namespace G
open PySem L2 M
theorem law_math : m_law (fun z => z = true) := by
  unfold m_law
  simp only [callBW, tup2W, lf_some]
  refine ground_sp fun g hg => ?_
  have h3 : N3 g := ⟨⟨hg.a.n, by have := hg.a.l; omega⟩, ⟨hg.b1, by have := hg.b2; omega⟩, ⟨hg.c1, by have := hg.c2; omega⟩⟩
  obtain ⟨x, ex, px⟩ := init_ok h3
  obtain ⟨zs, e1, e2, lz⟩ := held_ok h3 hg.b3 px
  rw [ex, lf_some]
  simp only [bd, Option.bind_some, rng1_eq (b := 2) ⟨by decide, by decide⟩, lf_some]
  have lb := (px.b.length_eq)
  have lc := (px.c.length_eq)
  have ha2 := h3.a.l
  have hb2 := h3.b.l
  have hc2 := h3.c.l
  refine loopW_all (J := fun t => t = true) _ _ rfl (fun s t C ht hC => ?_) (fun t ht => ?_)
  · subst ht
    rw [e1, lf_some]
    simp only [andW, sameW, sameR, e2, lf_some, if_true]
    intro hC
    refine ⟨trivial, ⟨lz, fun _ _ => trivial⟩, ?_⟩
    have es : spo? zs = some () := by unfold spo?; rw [if_pos lz]
    rw [es]
    simp only [m_Land_spots, m_Land_lines, m_Land_sites, bd, Option.bind_some, lf_some, if_true]
    refine ⟨⟨⟨px.a, by omega, fun _ _ => ⟨trivial, trivial⟩⟩, ⟨px.b, by omega, fun z hz => ⟨trivial, by have := (hg.b3 z hz).1; omega, fun _ _ => trivial⟩⟩, ⟨px.c, by omega, fun _ _ => ⟨trivial, trivial⟩⟩⟩, hC _ rfl⟩
  · subst ht
    dsimp only
    rw [text_ok (by omega) (by omega), lf_some]
    refine near_ok h3 fun z hz => ?_
    obtain ⟨y, ey, py⟩ := init_ok hz
    rw [ey, lf_some]
    simp only [lf_some]
    have er := repr_ok (x := x) (by omega) (by omega)
    rw [lb, lc] at er
    simp only [er, Option.bind_some, if_true, lf_some, eq_ok, m_Land___eq__l, bd, decide_true]
    have k1 : dEq x.1 y.1 = dEq z.1 g.1 := (dEq_perm (h3.a.perm px.a).n (hz.a.perm py.a).n px.a py.a).trans (dEq_comm h3.a.n hz.a.n)
    have k2 : dEq x.2.1 y.2.1 = dEq z.2.1 g.2.1 := (dEq_perm (h3.b.perm px.b).n (hz.b.perm py.b).n px.b py.b).trans (dEq_comm h3.b.n hz.b.n)
    have k3 : dEq x.2.2.1 y.2.2.1 = dEq z.2.2 g.2.2 := (dEq_perm (h3.c.perm px.c).n (hz.c.perm py.c).n px.c py.c).trans (dEq_comm h3.c.n hz.c.n)
    have k1' : dEq y.1 x.1 = dEq z.1 g.1 := (dEq_comm (hz.a.perm py.a).n (h3.a.perm px.a).n).trans k1
    have k2' : dEq y.2.1 x.2.1 = dEq z.2.1 g.2.1 := (dEq_comm (hz.b.perm py.b).n (h3.b.perm px.b).n).trans k2
    have k3' : dEq y.2.2.1 x.2.2.1 = dEq z.2.2 g.2.2 := (dEq_comm (hz.c.perm py.c).n (h3.c.perm px.c).n).trans k3
    rw [k1, k2, k3, k1', k2', k3']
    simp only [andW, sameW, lf_some, if_true]
    exact ⟨_, rfl, rfl, ⟨by simp, fun _ _ => trivial⟩, trivial⟩
end G

namespace G
open PySem L2 M
section
variable {P : Program} {w : World} {K : PySem.W.Frag} {mg : Str → Option Value} {base : Heap}

def spLaw (K : PySem.W.Frag) : Sp := fun vs H Q _ => ∃ (a : Addr) (ns : List Int), vs = [.ref a] ∧ SqL K H a (ns.map V.int) ∧ ns.length ≤ 63 ∧ ∀ H', Q (.bl true) H'
theorem ok_law (ev : Env P K mg) : FnOk P w K mg base CX0 12 ev.f_law ev.d_law p_law (spLaw K) := by
  refine ev.A_law.F.ok sc_law (fun vs H Q E h => ?_) (fun cdv A outer s Hs vs Q E hr h => ?_)
  · obtain ⟨a, ns, rfl, _⟩ := h
    rfl
  obtain ⟨a0, ns, rfl, hS, hl, qq⟩ := h
  have hm := law_math
  refine ⟨_, (pss_cons (ps_set (i := 1) sc_law.nd rfl (Or.inl rfl) (pe_call (ok_law_bag ev) (hr.mono (by decide)) (by rfl) ev.A_law_bag.m ev.A_law_bag.F.kp ev.A_law_bag.b .nil pass0 (pa_cons (pv 0) pa_nil)))
    (pss_cons (ps_set (i := 2) sc_law.nd rfl (Or.inl rfl) (pe_call (ok_law_ground ev) (hr.mono (by decide)) (by rfl) ev.A_law_ground.m ev.A_law_ground.F.kp ev.A_law_ground.b .nil pass0 (pa_cons (pv 1) (pa_cons pe_int pa_nil))))
    (pss_cons (ps_setLc (i := 3) (own := [("_law_part", 5)]) (g := gName 5) (tt := tYes) (by rfl) sc_law.nd rfl rfl (sw_true rfl rfl rfl (by decide +kernel)) (pi_list (pv 2)) (blkOk_by (own := [("_law_part", 5)]) (N := n_law) (sc := defScope s_law) (by decide +kernel)) (fun _ _ _ _ _ => pg_name (i := 5) sc_law.nd rfl (Or.inl rfl)) (fun _ _ _ _ _ => pts_nil) (fun _ _ _ _ _ => (pe_callTy call_dictD (by rfl) ev.B.dict_ (by decide +kernel) (pa_cons (pv 5) pa_nil))))
    (pss_cons (ps_set (i := 4) sc_law.nd rfl (Or.inl rfl) (pe_make ev.M_Land (ok_Land___init__ ev) (hr.mono (by decide)) (by rfl) ev.g_Land ev.A_Land___init__.b .nil pass0 (pa_cons (pe_ix ix_list (pv 3) pe_int (fun _ _ => rfl)) (pa_cons (pe_ix ix_list (pv 3) pe_int (fun _ _ => rfl)) (pa_cons (pe_ix ix_list (pv 3) pe_int (fun _ _ => rfl)) pa_nil)))))
    (pss_cons (ps_for PassesOwn.never rfl (pi_list (pv 3)) (pg_name (i := 5) sc_law.nd rfl (Or.inl rfl))
    (pss_one (ps_expr (pe_dclear (pv 5)))))
    (pss_cons (ps_set (i := 6) sc_law.nd rfl (Or.inl rfl) pe_bl)
    (pss_cons (ps_for PassesOwn.never rfl (pi_range1 rfl ev.B.range_ (pa_cons pe_int pa_nil)) (pg_name (i := 7) sc_law.nd rfl (Or.inl rfl))
    (pss_cons (ps_set (i := 8) sc_law.nd rfl (Or.inl rfl) (pe_meth0 (pv 4) ev.cl_Land ev.A_Land_held.me (ok_Land_held ev) (hr.mono (by decide)) ev.A_Land_held.b .nil pass0))
    (pss_cons (ps_set (i := 6) sc_law.nd rfl (Or.inl rfl) (pe_and (pv 6) (pe_one (pe_call (ok_same ev 2) (hr.mono (by decide)) (by rfl) ev.A_law_same.m ev.A_law_same.F.kp ev.A_law_same.b .nil pass0 (pa_cons (pv 8) (pa_cons (pe_call (ok_law_held ev) (hr.mono (by decide)) (by rfl) ev.A_law_held.m ev.A_law_held.F.kp ev.A_law_held.b .nil pass0 (pa_cons (pv 2) pa_nil)) pa_nil))))))
    (pss_cons (ps_expr (pe_call (ok_law_spoil ev) (hr.mono (by decide)) (by rfl) ev.A_law_spoil.m ev.A_law_spoil.F.kp ev.A_law_spoil.b .nil pass0 (pa_cons (pv 8) pa_nil)))
    (pss_cons (ps_set (i := 8) sc_law.nd rfl (Or.inl rfl) (pe_lst (pa_cons (pe_meth0 (pv 4) ev.cl_Land ev.A_Land_spots.me (ok_Land_spots ev) (hr.mono (by decide)) ev.A_Land_spots.b .nil pass0) (pa_cons (pe_meth0 (pv 4) ev.cl_Land ev.A_Land_lines.me (ok_Land_lines ev) (hr.mono (by decide)) ev.A_Land_lines.b .nil pass0) (pa_cons (pe_meth0 (pv 4) ev.cl_Land ev.A_Land_sites.me (ok_Land_sites ev) (hr.mono (by decide)) ev.A_Land_sites.b .nil pass0) pa_nil)))))
    (pss_cons (ps_set (i := 6) sc_law.nd rfl (Or.inl rfl) (pe_and (pv 6) (pe_one (pe_call (ok_same ev 5) (hr.mono (by decide)) (by rfl) ev.A_law_same.m ev.A_law_same.F.kp ev.A_law_same.b .nil pass0 (pa_cons (pv 8) (pa_cons (pv 2) pa_nil))))))
    (pss_one (ps_for PassesOwn.never rfl (pi_list (pv 8)) (pg_name (i := 5) sc_law.nd rfl (Or.inl rfl))
    (pss_one (ps_expr (pe_dclear (pv 5))))))))))))
    (pss_cons (ps_set (i := 9) sc_law.nd rfl (Or.inl rfl) (pe_op op_add_str (pe_op op_add_str (pe_op op_add_str (pe_op op_add_str pe_str (pe_callTy call_str_int (by rfl) ev.B.str_ (by decide +kernel) (pa_cons (pe_callB call_lenD (by rfl) ev.B.len_ PySem.boot_len (pa_cons (pe_ix ix_list (pv 2) pe_int (fun _ _ => rfl)) pa_nil)) pa_nil))) pe_str) (pe_callTy call_str_int (by rfl) ev.B.str_ (by decide +kernel) (pa_cons (pe_callB call_lenD (by rfl) ev.B.len_ PySem.boot_len (pa_cons (pe_ix ix_list (pv 2) pe_int (fun _ _ => rfl)) pa_nil)) pa_nil))) pe_str))
    (pss_cons (ps_set (i := 10) sc_law.nd rfl (Or.inl rfl) (pe_call (ok_law_near ev) (hr.mono (by decide)) (by rfl) ev.A_law_near.m ev.A_law_near.F.kp ev.A_law_near.b .nil pass0 (pa_cons (pv 1) (pa_cons (pv 2) pa_nil))))
    (pss_cons (ps_set (i := 11) sc_law.nd rfl (Or.inl rfl) (pe_make ev.M_Land (ok_Land___init__ ev) (hr.mono (by decide)) (by rfl) ev.g_Land ev.A_Land___init__.b .nil pass0 (pa_cons (pe_ix ix_list (pv 10) pe_int (fun _ _ => rfl)) (pa_cons (pe_ix ix_list (pv 10) pe_int (fun _ _ => rfl)) (pa_cons (pe_ix ix_list (pv 10) pe_int (fun _ _ => rfl)) pa_nil)))))
    (pss_cons (ps_set (i := 12) sc_law.nd rfl (Or.inl rfl) (pe_cmpR (op_eqLD hr.units66) (pv 10) (pv 2) (nomark _)))
    (pss_cons (ps_set (i := 6) sc_law.nd rfl (Or.inl rfl) (pe_and (pv 6) (pe_one (pe_cmpR op_eq (pe_callB (call_reprI ev.A_Land___repr__.me.at_ ev.A_Land___repr__.me.fn ((ok_Land___repr__ ev).raw ev.A_Land___repr__.b .nil) (hr.mono (by decide)) pass0) (by rfl) ev.B.repr_ (by decide +kernel) (pa_cons (pv 4) pa_nil)) (pv 9) (nomark _)))))
    (pss_cons (ps_set (i := 8) sc_law.nd rfl (Or.inl rfl) (pe_lst (pa_cons (pe_cmpR (op_ownI (fun _ _ => rfl) ev.A_Land___eq__.me.at_ ev.A_Land___eq__.me.fn ev.nf_Land_int ((ok_Land___eq__ ev).raw ev.A_Land___eq__.b .nil) (hr.mono (by decide)) pass0) (pv 4) (pv 11) (nomark _)) (pa_cons (pe_cmpR (op_ownI (fun _ _ => rfl) ev.A_Land___eq__.me.at_ ev.A_Land___eq__.me.fn ev.nf_Land_int ((ok_Land___eq__ ev).raw ev.A_Land___eq__.b .nil) (hr.mono (by decide)) pass0) (pv 11) (pv 4) (nomark _)) (pa_cons (pe_cmpR (op_neI ev.mro_Land ev.ne_Land ev.A_Land___eq__.me.at_ ev.A_Land___eq__.me.fn ((ok_Land___eq__ ev).raw ev.A_Land___eq__.b .nil) (hr.mono (by decide)) pass0) (pv 4) (pv 11) (nomark _)) (pa_cons (pe_cmpR (op_ownT (fun _ _ => rfl) ev.A_Land___eq__.me.at_ ev.A_Land___eq__.me.fn ev.nf_Land_list ((ok_Land___eq__l ev).raw ev.A_Land___eq__.b .nil) (hr.mono (by decide)) pass0) (pv 4) (pv 2) (nomark _)) pa_nil))))))
    (pss_one (ps_ret (pe_and (pv 6) (pe_one (pe_call (ok_same ev 2) (hr.mono (by decide)) (by rfl) ev.A_law_same.m ev.A_law_same.F.kp ev.A_law_same.b .nil pass0 (pa_cons (pv 8) (pa_cons (pe_lst (pa_cons (pv 12) (pa_cons (pv 12) (pa_cons (pe_not (pv 12)) (pa_cons pe_bl pa_nil))))) pa_nil)))))))))))))))))))), ?_⟩
  refine seq_asg ⟨_, rfl, a0, ns, rfl, hS, hl, fun b c H0 hB nb nc sm => ?_⟩
  have dm := hB.dom
  have ts : Sub [b, c] [b, c] := fun a m => m
  have sub0 : Sub [b, c] [b, c] := fun a m => m
  have fr0 := Fr.refl (T := [b, c]) H0
  have q : ∀ (u : V) (H' : Hp) (z : Bool), z = true → Fr [b, c] H0 H' → Bag H' b c → (of (K := K) tBool [b, c]).r H0 H' u z → Q u H' := fun u H' z hz _ _ hu => by
    subst hz
    cases hu
    exact qq H'
  dsimp only [m_law] at hm
  refine qw_asg dm hB ts (ew_callB rfl (wa_cons (ew_pure (ev_int (K := K))) wa_nil)) hm (fun v_law_ground_here H1 law_ground_here_1 hm fr1 dm1 hB1 h_law_ground_here => ?_)
  have fr0 := fr0.trans fr1
  have dm := dm1
  have hB := hB1
  have h_law_ground_here : ((tL3 (tD Str (tT2 tRat tRat)) (tD Str (tT2 tStr (tTs tStr))) (tD Str (tT2 tStr tInt))) : Ty K ((List (Str × (Rat × Rat))) × (List (Str × (Str × (List Str)))) × (List (Str × (Str × Int))))).rp [b, c] H1 v_law_ground_here law_ground_here_1 := h_law_ground_here
  obtain ⟨land_2, e2, hm⟩ := hm
  refine q_handed3 (fr := ldR) (m := fun a => m_Land___init__ a.1 a.2.1 a.2.2.1) dm h_law_ground_here rfl (fun _ => rfl) (fun _ => rfl) (fun _ => rfl) (fun _ _ => rfl) (fun _ _ => ⟨_, rfl⟩) e2 (fun v_law_handed v_law_land o_part H2 s2 h_law_land => ?_)
  have fr0 := fr0.trans (Fr.same s2)
  have dm := dm.same s2
  have h_law_ground_here := ((tL3 (tD Str (tT2 tRat tRat)) (tD Str (tT2 tStr (tTs tStr))) (tD Str (tT2 tStr tInt))) : Ty K ((List (Str × (Rat × Rat))) × (List (Str × (Str × (List Str)))) × (List (Str × (Str × Int))))).mono (S := [b, c]) (Fr.same s2) h_law_ground_here
  have hB := hB.same s2
  obtain ⟨law_good_3, e3, hm⟩ := hm
  refine q_asg (T := [b, c]) dm (ev_bool (K := K)) e3 (fun v_law_good H3 s3 h_law_good => ?_)
  have fr0 := fr0.trans (Fr.same s3)
  have dm := dm.same s3
  have h_law_ground_here := ((tL3 (tD Str (tT2 tRat tRat)) (tD Str (tT2 tStr (tTs tStr))) (tD Str (tT2 tStr tInt))) : Ty K ((List (Str × (Rat × Rat))) × (List (Str × (Str × (List Str)))) × (List (Str × (Str × Int))))).mono (S := [b, c]) (Fr.same s3) h_law_ground_here
  have h_law_land := ((tO ev.C_Land ldT) : Ty K Ld).mono (S := [b, c]) (Fr.same s3) h_law_land
  have hB := hB.same s3
  have h_law_good : (tBool : Ty K Bool).rp [b, c] H3 v_law_good law_good_3 := h_law_good
  refine qw_for_s dm hB ts (srw_pure (sr_r1 (K := K) (ev_int (K := K)))) hm (fun s_4 σ' H' => ∃ v_law_ground_here : V, ∃ v_law_land : V, ∃ v_law_good : V, ∃ f_3 : Option V, ∃ f_5 : Option V, ∃ f_7 : Option V, ∃ f_8 : Option V, ∃ f_9 : Option V, ∃ f_10 : Option V, ∃ f_11 : Option V, ∃ f_12 : Option V, σ' = [some (.ref a0), some (.ref b), some v_law_ground_here, f_3, some v_law_land, f_5, some v_law_good, f_7, f_8, f_9, f_10, f_11, f_12] ∧ Fr [b, c] H0 H' ∧ Dom [b, c] H' ∧ Bag H' b c ∧ ((tL3 (tD Str (tT2 tRat tRat)) (tD Str (tT2 tStr (tTs tStr))) (tD Str (tT2 tStr tInt))) : Ty K ((List (Str × (Rat × Rat))) × (List (Str × (Str × (List Str)))) × (List (Str × (Str × Int))))).rp [b, c] H' v_law_ground_here law_ground_here_1 ∧ ((tO ev.C_Land ldT) : Ty K Ld).rp [b, c] H' v_law_land land_2 ∧ (tBool : Ty K Bool).rp [b, c] H' v_law_good s_4) (fun H4 fr4 dm4 hB4 => ?_) (fun hd4 s_4 law_turn_4 C4 v_law_turn σ' H' hI h_law_turn hm hret4 hbrk4 => ?_) (fun t_4 σ' H' hm hI => ?_)
  · skip
    have fr0 := fr0.trans fr4
    have h_law_ground_here := ((tL3 (tD Str (tT2 tRat tRat)) (tD Str (tT2 tStr (tTs tStr))) (tD Str (tT2 tStr tInt))) : Ty K ((List (Str × (Rat × Rat))) × (List (Str × (Str × (List Str)))) × (List (Str × (Str × Int))))).mono (S := [b, c]) (fr4.sub ts) h_law_ground_here
    have h_law_land := ((tO ev.C_Land ldT) : Ty K Ld).mono (S := [b, c]) (fr4.sub ts) h_law_land
    have h_law_good := (tBool : Ty K Bool).mono (S := [b, c]) (fr4.sub ts) h_law_good
    have dm := dm4
    have hB := hB4
    exact ⟨v_law_ground_here, v_law_land, v_law_good, _, _, _, _, _, _, _, _, rfl, fr0, dm, hB, h_law_ground_here, h_law_land, h_law_good⟩
  · skip
    obtain ⟨v_law_ground_here, v_law_land, v_law_good, f_3, f_5, f_7, f_8, f_9, f_10, f_11, f_12, rfl, fr0, dm, hB, h_law_ground_here, h_law_land, h_law_good⟩ := hI
    let HL := H'
    have freshl : ∀ a ∈ [b, c], a ∉ [b, c] → H' a = none := fun a m n => absurd m n
    have frl : Fr [b, c] HL H' := Fr.refl (T := [b, c]) H'
    have tsl := ts
    have subl : Sub [b, c] [b, c] := fun a m => m
    have h_law_turn : (tInt : Ty K Int).rp [b, c] H' v_law_turn law_turn_4 := h_law_turn
    obtain ⟨law_found_5, e5, hm⟩ := hm
    refine q_asg (T := [b, c]) dm (ev_methO0 (f := fun a => m_Land_held a.1) (fno_cons (by decide +kernel) (fno_cons (by decide +kernel) (fno_cons (by decide +kernel) fno_nil))) (ev_var ts h_law_land rfl)) e5 (fun v_law_found H5 s5 hx => ?_)
    obtain ⟨p_law_found, rfl, np_law_found, o_law_found⟩ := hx
    have ns_law_found : p_law_found ∉ [b, c] := dm.not_mem np_law_found
    have nb_law_found : p_law_found ∉ [b, c] := fun m => ns_law_found (sub0 _ m)
    have nbl_law_found : p_law_found ∉ [b, c] := fun m => ns_law_found (subl _ m)
    have n0_law_found := fr_back fr0 hB.dom np_law_found
    have nt_law_found := hB.dom.not_mem np_law_found
    have fr0 := fr0.trans (Fr.same s5)
    have nl_law_found := fr_back frl (dm.sub subl) np_law_found
    have frl := frl.trans (Fr.same s5)
    have subl := sub_cons (p := p_law_found) subl
    have freshl := fresh_cons freshl nl_law_found
    have h_law_ground_here := ((tL3 (tD Str (tT2 tRat tRat)) (tD Str (tT2 tStr (tTs tStr))) (tD Str (tT2 tStr tInt))) : Ty K ((List (Str × (Rat × Rat))) × (List (Str × (Str × (List Str)))) × (List (Str × (Str × Int))))).mono (Fr.same s5) (((tL3 (tD Str (tT2 tRat tRat)) (tD Str (tT2 tStr (tTs tStr))) (tD Str (tT2 tStr tInt))) : Ty K ((List (Str × (Rat × Rat))) × (List (Str × (Str × (List Str)))) × (List (Str × (Str × Int))))).ext (S := [b, c]) np_law_found h_law_ground_here)
    have h_law_land := ((tO ev.C_Land ldT) : Ty K Ld).mono (Fr.same s5) (((tO ev.C_Land ldT) : Ty K Ld).ext (S := [b, c]) np_law_found h_law_land)
    have h_law_good := (tBool : Ty K Bool).mono (Fr.same s5) ((tBool : Ty K Bool).ext (S := [b, c]) np_law_found h_law_good)
    have h_law_turn := (tInt : Ty K Int).mono (Fr.same s5) ((tInt : Ty K Int).ext (S := [b, c]) np_law_found h_law_turn)
    have dm := (dm.same s5).cons o_law_found.choose_spec.1
    have ts := sub_cons (p := p_law_found) ts
    have sub0 := sub_cons (p := p_law_found) sub0
    have im_law_found : p_law_found ∈ p_law_found :: [b, c] := List.mem_cons_self ..
    have hB := hB.same s5
    refine qw_asg dm hB ts (ew_and (ew_pure (ev_var ts h_law_good rfl)) (ew_sameL (sm_L sm_str) o_law_found nt_law_found rfl (ew_pure (ev_new (ev_call (ea_cons (ev_var ts h_law_ground_here rfl) ea_nil)))))) hm (fun v_law_good H6 law_good_6 hm fr6 dm6 hB6 h_law_good => ?_)
    have fr0 := fr0.trans fr6
    have frl := frl.trans (fr6.sub tsl)
    have h_law_ground_here := ((tL3 (tD Str (tT2 tRat tRat)) (tD Str (tT2 tStr (tTs tStr))) (tD Str (tT2 tStr tInt))) : Ty K ((List (Str × (Rat × Rat))) × (List (Str × (Str × (List Str)))) × (List (Str × (Str × Int))))).mono (S := (p_law_found :: [b, c])) (fr6.sub ts) h_law_ground_here
    have h_law_land := ((tO ev.C_Land ldT) : Ty K Ld).mono (S := (p_law_found :: [b, c])) (fr6.sub ts) h_law_land
    have h_law_turn := (tInt : Ty K Int).mono (S := (p_law_found :: [b, c])) (fr6.sub ts) h_law_turn
    have o_law_found := o_law_found.fr fr6 ts nt_law_found
    have dm := dm6
    have hB := hB6
    have h_law_good : (tBool : Ty K Bool).rp (p_law_found :: [b, c]) H6 v_law_good law_good_6 := h_law_good
    obtain ⟨u7, eu7, hm⟩ := hm
    refine q_spoil dm o_law_found im_law_found rfl eu7 (fun H7 s7 frx7 => ?_)
    have fr0 := fr0.mut hB.dom n0_law_found s7
    have frl := frl.mutN nl_law_found s7
    have dm := dm.fx frx7 s7
    have h_law_ground_here := ((tL3 (tD Str (tT2 tRat tRat)) (tD Str (tT2 tStr (tTs tStr))) (tD Str (tT2 tStr tInt))) : Ty K ((List (Str × (Rat × Rat))) × (List (Str × (Str × (List Str)))) × (List (Str × (Str × Int))))).mono (S := (p_law_found :: [b, c])) frx7 h_law_ground_here
    have h_law_land := ((tO ev.C_Land ldT) : Ty K Ld).mono (S := (p_law_found :: [b, c])) frx7 h_law_land
    have h_law_turn := (tInt : Ty K Int).mono (S := (p_law_found :: [b, c])) frx7 h_law_turn
    have h_law_good := (tBool : Ty K Bool).mono (S := (p_law_found :: [b, c])) frx7 h_law_good
    have hB := hB.mut s7 nt_law_found
    obtain ⟨pz_law_found, epz⟩ : ∃ q, q = p_law_found := ⟨_, rfl⟩
    subst epz
    have hb_law_ground_here := h_law_ground_here
    have hb_law_land := h_law_land
    have hb_law_turn := h_law_turn
    have hb_law_good := h_law_good
    have fr0b := fr0
    have frlb := frl
    have dmb := dm
    obtain ⟨found_8, e8, hm⟩ := hm
    refine q_asg (T := [b, c]) dm (ev_lst3N (ev_methO0 (f := fun a => m_Land_spots a.1) (fno_cons (by decide +kernel) (fno_cons (by decide +kernel) (fno_cons (by decide +kernel) fno_nil))) (ev_var ts h_law_land rfl)) (ev_methO0 (f := fun a => m_Land_lines a.1) (fno_cons (by decide +kernel) (fno_cons (by decide +kernel) (fno_cons (by decide +kernel) fno_nil))) (ev_var ts h_law_land rfl)) (ev_methO0 (f := fun a => m_Land_sites a.1) (fno_cons (by decide +kernel) (fno_cons (by decide +kernel) (fno_cons (by decide +kernel) fno_nil))) (ev_var ts h_law_land rfl))) e8 (fun v_law_found H8 s8 hx => ?_)
    have h_law_found := NL3.rp hx dm
    have fr0 := fr0.trans (Fr.same s8)
    have dm := dm.same s8
    have frl := frl.trans (Fr.same s8)
    have h_law_ground_here := ((tL3 (tD Str (tT2 tRat tRat)) (tD Str (tT2 tStr (tTs tStr))) (tD Str (tT2 tStr tInt))) : Ty K ((List (Str × (Rat × Rat))) × (List (Str × (Str × (List Str)))) × (List (Str × (Str × Int))))).mono (S := (pz_law_found :: [b, c])) (Fr.same s8) h_law_ground_here
    have h_law_land := ((tO ev.C_Land ldT) : Ty K Ld).mono (S := (pz_law_found :: [b, c])) (Fr.same s8) h_law_land
    have h_law_turn := (tInt : Ty K Int).mono (S := (pz_law_found :: [b, c])) (Fr.same s8) h_law_turn
    have h_law_good := (tBool : Ty K Bool).mono (S := (pz_law_found :: [b, c])) (Fr.same s8) h_law_good
    have hB := hB.same s8
    have h_law_found : ((tL3 (tD Str (tT2 tRat tRat)) (tD Str (tT2 tStr (tTs tStr))) (tD Str (tT2 tStr tInt))) : Ty K ((List (Str × (Rat × Rat))) × (List (Str × (Str × (List Str)))) × (List (Str × (Str × Int))))).rp (pz_law_found :: [b, c]) H8 v_law_found found_8 := h_law_found
    refine qw_asg dm hB ts (ew_and (ew_pure (ev_var ts h_law_good rfl)) (ew_sameR (smr_L3 (smr_DS (sm_t2 sm_rat sm_rat)) (smr_DS (sm_t2 sm_str (sm_Ts sm_str))) (smr_DS (sm_t2 sm_str sm_int))) (ew_pure (ev_var ts h_law_found rfl)) (ew_pure (ev_var ts h_law_ground_here rfl)))) hm (fun v_law_good H9 good_9 hm fr9 dm9 hB9 hg => ?_)
    have hN := (NL3.nest hx).fr fr9 (dmb.sub ts)
    have frE0 := (Fr.same (T := [b, c]) s8).trans fr9
    refine l_clearAll dmb ts hB9 frE0 dm9 hN rfl (by decide) rfl (fun o_row H9e frE dmE hBE => ?_)
    have h_law_ground_here := hb_law_ground_here
    have h_law_land := hb_law_land
    have h_law_turn := hb_law_turn
    have h_law_good : v_law_good = V.bl good_9 := hg
    have fr0 := fr0b
    have frl := frlb
    have fr0 := fr0.trans frE
    have frl := frl.trans (frE.sub tsl)
    have h_law_ground_here := ((tL3 (tD Str (tT2 tRat tRat)) (tD Str (tT2 tStr (tTs tStr))) (tD Str (tT2 tStr tInt))) : Ty K ((List (Str × (Rat × Rat))) × (List (Str × (Str × (List Str)))) × (List (Str × (Str × Int))))).mono (S := (pz_law_found :: [b, c])) (frE.sub ts) h_law_ground_here
    have h_law_land := ((tO ev.C_Land ldT) : Ty K Ld).mono (S := (pz_law_found :: [b, c])) (frE.sub ts) h_law_land
    have h_law_turn := (tInt : Ty K Int).mono (S := (pz_law_found :: [b, c])) (frE.sub ts) h_law_turn
    have h_law_good := (tBool : Ty K Bool).mono (S := (pz_law_found :: [b, c])) (frE.sub ts) h_law_good
    have dm := dmE
    have hB := hBE
    have sbl : Sub [b, c] (pz_law_found :: [b, c]) := sub_cons (fun a m => m)
    have dm := dm.sub sbl
    have h_law_ground_here := ((tL3 (tD Str (tT2 tRat tRat)) (tD Str (tT2 tStr (tTs tStr))) (tD Str (tT2 tStr tInt))) : Ty K ((List (Str × (Rat × Rat))) × (List (Str × (Str × (List Str)))) × (List (Str × (Str × Int))))).sub sbl h_law_ground_here
    have h_law_land := ((tO ev.C_Land ldT) : Ty K Ld).sub sbl h_law_land
    exact ⟨_, hm, frl, ⟨v_law_ground_here, v_law_land, v_law_good, _, _, _, _, _, _, _, _, rfl, fr0, dm, hB, h_law_ground_here, h_law_land, h_law_good⟩⟩
  obtain ⟨v_law_ground_here, v_law_land, v_law_good, f_3, f_5, f_7, f_8, f_9, f_10, f_11, f_12, rfl, fr0, dm, hB, h_law_ground_here, h_law_land, h_law_good⟩ := hI
  obtain ⟨law_text_10, e10, hm⟩ := hm
  refine q_asg (T := [b, c]) dm (ev_op (od_catY (K := K)) (ev_op (od_catY (K := K)) (ev_op (od_catY (K := K)) (ev_op (od_catY (K := K)) (ev_s2x (ev_str (K := K))) (ev_strI (ev_lenD (ev_ixL31 (ev_var ts h_law_ground_here rfl))))) (ev_s2x (ev_str (K := K)))) (ev_strI (ev_lenD (ev_ixL32 (ev_var ts h_law_ground_here rfl))))) (ev_s2x (ev_str (K := K)))) e10 (fun v_law_text H10 s10 h_law_text => ?_)
  have fr0 := fr0.trans (Fr.same s10)
  have dm := dm.same s10
  have h_law_ground_here := ((tL3 (tD Str (tT2 tRat tRat)) (tD Str (tT2 tStr (tTs tStr))) (tD Str (tT2 tStr tInt))) : Ty K ((List (Str × (Rat × Rat))) × (List (Str × (Str × (List Str)))) × (List (Str × (Str × Int))))).mono (S := [b, c]) (Fr.same s10) h_law_ground_here
  have h_law_land := ((tO ev.C_Land ldT) : Ty K Ld).mono (S := [b, c]) (Fr.same s10) h_law_land
  have h_law_good := (tBool : Ty K Bool).mono (S := [b, c]) (Fr.same s10) h_law_good
  have hB := hB.same s10
  have h_law_text : (tTx : Ty K Str).rp [b, c] H10 v_law_text law_text_10 := h_law_text
  have hgB := h_law_ground_here
  have dBB := hB.dom
  refine qw_asg dm hB ts (ew_callB rfl (wa_cons (ew_pure (ev_var ts h_law_ground_here rfl)) wa_nil)) hm (fun v_law_two H13 two_11 hm fr13 dm13 hB13 hx => ?_)
  have nn := hx
  have h_law_two := NL3.rp hx dm
  have fr0 := fr0.trans fr13
  have h_law_ground_here := ((tL3 (tD Str (tT2 tRat tRat)) (tD Str (tT2 tStr (tTs tStr))) (tD Str (tT2 tStr tInt))) : Ty K ((List (Str × (Rat × Rat))) × (List (Str × (Str × (List Str)))) × (List (Str × (Str × Int))))).mono (S := [b, c]) (fr13.sub ts) h_law_ground_here
  have h_law_land := ((tO ev.C_Land ldT) : Ty K Ld).mono (S := [b, c]) (fr13.sub ts) h_law_land
  have h_law_good := (tBool : Ty K Bool).mono (S := [b, c]) (fr13.sub ts) h_law_good
  have h_law_text := (tTx : Ty K Str).mono (S := [b, c]) (fr13.sub ts) h_law_text
  have dm := dm13
  have hB := hB13
  obtain ⟨late_12, e13, hm⟩ := hm
  refine q_asg (T := [b, c]) dm (ev_makeN (K := K) (fr := ldR) (ea_cons (ev_ixL30 (ev_var ts h_law_two rfl)) (ea_cons (ev_ixL31 (ev_var ts h_law_two rfl)) (ea_cons (ev_ixL32 (ev_var ts h_law_two rfl)) ea_nil)))) e13 (fun v_law_late H13a s13a hx => ?_)
  have h_law_late := nwO.rp hx dm
  have fr0 := fr0.trans (Fr.same s13a)
  have dm := dm.same s13a
  have h_law_ground_here := ((tL3 (tD Str (tT2 tRat tRat)) (tD Str (tT2 tStr (tTs tStr))) (tD Str (tT2 tStr tInt))) : Ty K ((List (Str × (Rat × Rat))) × (List (Str × (Str × (List Str)))) × (List (Str × (Str × Int))))).mono (S := [b, c]) (Fr.same s13a) h_law_ground_here
  have h_law_land := ((tO ev.C_Land ldT) : Ty K Ld).mono (S := [b, c]) (Fr.same s13a) h_law_land
  have h_law_good := (tBool : Ty K Bool).mono (S := [b, c]) (Fr.same s13a) h_law_good
  have h_law_text := (tTx : Ty K Str).mono (S := [b, c]) (Fr.same s13a) h_law_text
  have hB := hB.same s13a
  have nn := NL3.same nn s13a
  obtain ⟨same_13, eb13, hm⟩ := hm
  have dep1 : ((dT2 dRat dRat) : TyD ((tT2 tRat tRat) : Ty K (Rat × Rat))).dep ≤ 64 := Nat.le_of_ble_eq_true rfl
  have dep2 : ((dT2 dStr (dTs dStr)) : TyD ((tT2 tStr (tTs tStr)) : Ty K (Str × (List Str)))).dep ≤ 64 := Nat.le_of_ble_eq_true rfl
  have dep3 : ((dT2 dStr dInt) : TyD ((tT2 tStr tInt) : Ty K (Str × Int))).dep ≤ 64 := Nat.le_of_ble_eq_true rfl
  refine q_asg (T := [b, c]) dm (ev_eqL3 (K := K) (dT2 dRat dRat) (dT2 dStr (dTs dStr)) (dT2 dStr dInt) dep1 dep2 dep3 ts dBB nn hgB (fr13.trans (Fr.same s13a)) rfl rfl) eb13 (fun v_law_same_here H13b s13b h_law_same_here => ?_)
  have fr0 := fr0.trans (Fr.same s13b)
  have dm := dm.same s13b
  have h_law_ground_here := ((tL3 (tD Str (tT2 tRat tRat)) (tD Str (tT2 tStr (tTs tStr))) (tD Str (tT2 tStr tInt))) : Ty K ((List (Str × (Rat × Rat))) × (List (Str × (Str × (List Str)))) × (List (Str × (Str × Int))))).mono (S := [b, c]) (Fr.same s13b) h_law_ground_here
  have h_law_land := ((tO ev.C_Land ldT) : Ty K Ld).mono (S := [b, c]) (Fr.same s13b) h_law_land
  have h_law_good := (tBool : Ty K Bool).mono (S := [b, c]) (Fr.same s13b) h_law_good
  have h_law_text := (tTx : Ty K Str).mono (S := [b, c]) (Fr.same s13b) h_law_text
  have h_law_late := ((tO ev.C_Land ldT) : Ty K Ld).mono (S := [b, c]) (Fr.same s13b) h_law_late
  have hB := hB.same s13b
  obtain ⟨law_good_14, e14, hm⟩ := hm
  refine q_asg (T := [b, c]) dm (ev_and (ev_var ts h_law_good rfl) (ev_op (od_eqX (K := K)) (ev_strO (f := fun a => m_Land___repr__ a.1) (ev_var ts h_law_land rfl)) (ev_var ts h_law_text rfl))) e14 (fun v_law_good H14 s14 h_law_good => ?_)
  have fr0 := fr0.trans (Fr.same s14)
  have dm := dm.same s14
  have h_law_ground_here := ((tL3 (tD Str (tT2 tRat tRat)) (tD Str (tT2 tStr (tTs tStr))) (tD Str (tT2 tStr tInt))) : Ty K ((List (Str × (Rat × Rat))) × (List (Str × (Str × (List Str)))) × (List (Str × (Str × Int))))).mono (S := [b, c]) (Fr.same s14) h_law_ground_here
  have h_law_land := ((tO ev.C_Land ldT) : Ty K Ld).mono (S := [b, c]) (Fr.same s14) h_law_land
  have h_law_text := (tTx : Ty K Str).mono (S := [b, c]) (Fr.same s14) h_law_text
  have h_law_late := ((tO ev.C_Land ldT) : Ty K Ld).mono (S := [b, c]) (Fr.same s14) h_law_late
  have h_law_same_here := (tBool : Ty K Bool).mono (S := [b, c]) (Fr.same s14) h_law_same_here
  have hB := hB.same s14
  have h_law_good : (tBool : Ty K Bool).rp [b, c] H14 v_law_good law_good_14 := h_law_good
  obtain ⟨law_found_15, e15, hm⟩ := hm
  refine q_asg (T := [b, c]) dm (ev_lst (el_cons (ev_op (od_eqO (f := fun a => m_Land___eq__ a.1 a.2.1)) (ev_var ts h_law_land rfl) (ev_var ts h_law_late rfl)) (el_cons (ev_op (od_eqO (f := fun a => m_Land___eq__ a.1 a.2.1)) (ev_var ts h_law_late rfl) (ev_var ts h_law_land rfl)) (el_cons (ev_op (od_neO (f := fun a => m_Land___eq__ a.1 a.2.1)) (ev_var ts h_law_land rfl) (ev_var ts h_law_late rfl)) (el_cons (ev_op (od_eqOT (K := K) (f := fun a => m_Land___eq__l a.1 a.2.1)) (ev_var ts h_law_land rfl) (ev_var ts h_law_ground_here rfl)) el_nil)))) (by decide)) e15 (fun v_law_found H15 s15 hx => ?_)
  obtain ⟨p_law_found, rfl, np_law_found, o_law_found⟩ := hx
  have ns_law_found : p_law_found ∉ [b, c] := dm.not_mem np_law_found
  have nb_law_found : p_law_found ∉ [b, c] := fun m => ns_law_found (sub0 _ m)
  have n0_law_found := fr_back fr0 hB.dom np_law_found
  have nt_law_found := hB.dom.not_mem np_law_found
  have fr0 := fr0.trans (Fr.same s15)
  have h_law_ground_here := ((tL3 (tD Str (tT2 tRat tRat)) (tD Str (tT2 tStr (tTs tStr))) (tD Str (tT2 tStr tInt))) : Ty K ((List (Str × (Rat × Rat))) × (List (Str × (Str × (List Str)))) × (List (Str × (Str × Int))))).mono (Fr.same s15) (((tL3 (tD Str (tT2 tRat tRat)) (tD Str (tT2 tStr (tTs tStr))) (tD Str (tT2 tStr tInt))) : Ty K ((List (Str × (Rat × Rat))) × (List (Str × (Str × (List Str)))) × (List (Str × (Str × Int))))).ext (S := [b, c]) np_law_found h_law_ground_here)
  have h_law_land := ((tO ev.C_Land ldT) : Ty K Ld).mono (Fr.same s15) (((tO ev.C_Land ldT) : Ty K Ld).ext (S := [b, c]) np_law_found h_law_land)
  have h_law_text := (tTx : Ty K Str).mono (Fr.same s15) ((tTx : Ty K Str).ext (S := [b, c]) np_law_found h_law_text)
  have h_law_late := ((tO ev.C_Land ldT) : Ty K Ld).mono (Fr.same s15) (((tO ev.C_Land ldT) : Ty K Ld).ext (S := [b, c]) np_law_found h_law_late)
  have h_law_same_here := (tBool : Ty K Bool).mono (Fr.same s15) ((tBool : Ty K Bool).ext (S := [b, c]) np_law_found h_law_same_here)
  have h_law_good := (tBool : Ty K Bool).mono (Fr.same s15) ((tBool : Ty K Bool).ext (S := [b, c]) np_law_found h_law_good)
  have dm := (dm.same s15).cons o_law_found.choose_spec.1
  have ts := sub_cons (p := p_law_found) ts
  have sub0 := sub_cons (p := p_law_found) sub0
  have im_law_found : p_law_found ∈ p_law_found :: [b, c] := List.mem_cons_self ..
  have hB := hB.same s15
  exact qw_ret dm hB ts (ew_and (ew_pure (ev_var ts h_law_good rfl)) (ew_sameL (sm_L sm_bool) o_law_found nt_law_found rfl (ew_pure (ev_new (ev_lst (el_cons (ev_var ts h_law_same_here rfl) (el_cons (ev_var ts h_law_same_here rfl) (el_cons (ev_not (ev_var ts h_law_same_here rfl)) (el_cons (ev_bool (K := K)) el_nil)))) (by decide)))))) hm (fun v H17 z hm fr17 dm17 hB17 hv => q v H17 z hm (fr0.trans fr17) hB17 ((tBool : Ty K Bool).sub (S := (p_law_found :: [b, c])) (H := H17) sub0 hv))
end
end G

namespace G
open PySem L2 M
structure Put (K : PySem.W.Frag) (name : String) (st : Stmt) (f : Addr) : Prop where
  a : PySem.W.nsIn K mainGlobals (Str.ofString name) = some (some (.ref f))
  l : ∃ (oc : Value) (od : Option Addr) (kV dc pm : Value) (an : Option Addr) (cd ct : Value) (sl : Array (Option Value)), K.lookup f = some ⟨oc, od, .func (PySem.W.fnOf (Str.ofString name) (Str.ofString name) (defArgs st) (defBody st) (defScope st) .none kV dc pm an cd ct), sl⟩ ∧ PySem.W.codeIn K cd (Str.ofString name) = true
  k : PySem.W.keepIn K (.ref f) = true
theorem put_mk {K : PySem.W.Frag} {name : String} {st : Stmt} {f : Addr} {oc : Value} {od : Option Addr} {kV dc pm : Value} {an : Option Addr} {cd ct : Value} {sl : Array (Option Value)} (a : PySem.W.nsIn K mainGlobals (Str.ofString name) = some (some (.ref f)))
    (l : K.lookup f = some ⟨oc, od, .func (PySem.W.fnOf (Str.ofString name) (Str.ofString name) (defArgs st) (defBody st) (defScope st) .none kV dc pm an cd ct), sl⟩) (c : PySem.W.codeIn K cd (Str.ofString name) = true) (k : PySem.W.keepIn K (.ref f) = true) : Put K name st f :=
  ⟨a, ⟨oc, od, kV, dc, pm, an, cd, ct, sl, l, c⟩, k⟩
structure PutM (K : PySem.W.Frag) (C : Addr) (name qual : String) (st : Stmt) (f : Addr) : Prop where
  me : Meth K C (Str.ofString name) f
  l : ∃ (oc : Value) (od : Option Addr) (kV dc pm : Value) (an : Option Addr) (cd ct : Value) (sl : Array (Option Value)), K.lookup f = some ⟨oc, od, .func (PySem.W.fnOf (Str.ofString name) (Str.ofString qual) (defArgs st) (defBody st) (defScope st) .none kV dc pm an cd ct), sl⟩ ∧ PySem.W.codeIn K cd (Str.ofString qual) = true
theorem putM_mk {K : PySem.W.Frag} {C : Addr} {name qual : String} {st : Stmt} {f : Addr} {oc : Value} {od : Option Addr} {kV dc pm : Value} {an : Option Addr} {cd ct : Value} {sl : Array (Option Value)} (a : PySem.W.findIn K (.ref C) (Str.ofString name) = some (some (.ref f))) (i : PySem.W.isFn K (.ref f) = true)
    (l : K.lookup f = some ⟨oc, od, .func (PySem.W.fnOf (Str.ofString name) (Str.ofString qual) (defArgs st) (defBody st) (defScope st) .none kV dc pm an cd ct), sl⟩) (c : PySem.W.codeIn K cd (Str.ofString qual) = true) (k : PySem.W.keepIn K (.ref f) = true) : PutM K C name qual st f :=
  ⟨⟨a, i, k⟩, ⟨oc, od, kV, dc, pm, an, cd, ct, sl, l, c⟩⟩
theorem all_mk {l : PySem.W.OpenLaw} {w : World} {K : PySem.W.Frag} {h : Heap} {mg : Str → Option Value} {fa f_Land___init__ f_Land_spots f_Land_lines f_Land_sites f_Land_known f_Land_held f_Land___eq__ f_Land___repr__ f_law_bag f_law_draw f_law_whole f_law_same f_law_any f_law_rat f_law_spoil f_law_name f_law_names f_law_ratio f_law_spot f_law_ground f_law_known f_law_held f_law_near f_law C_Land : Addr}  (X : K.In h) (G : h.Ns mainGlobals mg) (hfa : mg "law" = some (.ref fa))
    (p_Land___init__ : PutM K C_Land "__init__" "Land.__init__" s_Land___init__ f_Land___init__)
    (p_Land_spots : PutM K C_Land "spots" "Land.spots" s_Land_spots f_Land_spots)
    (p_Land_lines : PutM K C_Land "lines" "Land.lines" s_Land_lines f_Land_lines)
    (p_Land_sites : PutM K C_Land "sites" "Land.sites" s_Land_sites f_Land_sites)
    (p_Land_known : PutM K C_Land "known" "Land.known" s_Land_known f_Land_known)
    (p_Land_held : PutM K C_Land "held" "Land.held" s_Land_held f_Land_held)
    (p_Land___eq__ : PutM K C_Land "__eq__" "Land.__eq__" s_Land___eq__ f_Land___eq__)
    (p_Land___repr__ : PutM K C_Land "__repr__" "Land.__repr__" s_Land___repr__ f_Land___repr__)
    (p_law_bag : Put K "_law_bag" s_law_bag f_law_bag)
    (p_law_draw : Put K "_law_draw" s_law_draw f_law_draw)
    (p_law_whole : Put K "_law_whole" s_law_whole f_law_whole)
    (p_law_same : Put K "_law_same" s_law_same f_law_same)
    (p_law_any : Put K "_law_any" s_law_any f_law_any)
    (p_law_rat : Put K "_law_rat" s_law_rat f_law_rat)
    (p_law_spoil : Put K "_law_spoil" s_law_spoil f_law_spoil)
    (p_law_name : Put K "_law_name" s_law_name f_law_name)
    (p_law_names : Put K "_law_names" s_law_names f_law_names)
    (p_law_ratio : Put K "_law_ratio" s_law_ratio f_law_ratio)
    (p_law_spot : Put K "_law_spot" s_law_spot f_law_spot)
    (p_law_ground : Put K "_law_ground" s_law_ground f_law_ground)
    (p_law_known : Put K "_law_known" s_law_known f_law_known)
    (p_law_held : Put K "_law_held" s_law_held f_law_held)
    (p_law_near : Put K "_law_near" s_law_near f_law_near)
    (p_law : Put K "law" s_law f_law)
    (aS : PySem.W.nsIn K mainGlobals "Land" = some (some (.ref C_Land)))
    (pgS : PySem.W.plainGet K C_Land Str.empty = true)
    (hdS : PySem.W.hasDictIn K C_Land = true)
    (poS : PySem.W.plainOver K C_Land = true)
    (saS : PySem.W.findIn K (.ref C_Land) "__setattr__" = some (some (.builtin "object.__setattr__")))
    (mkS_ : PySem.W.makesIn K C_Land = true)
    (kcS : PySem.W.keepIn K (.ref C_Land) = true)
    (n_own_spots : PySem.W.findIn K (.ref C_Land) "own_spots" = some none)
    (n_own_lines : PySem.W.findIn K (.ref C_Land) "own_lines" = some none)
    (n_own_sites : PySem.W.findIn K (.ref C_Land) "own_sites" = some none)
    (neS : PySem.W.findIn K (.ref C_Land) "__ne__" = some (some (.builtin "object.__ne__")))
    (mroS : PySem.W.mroIn K C_Land (.type "object") = some true)
    (nf_int : PySem.W.notFirst K C_Land (.type "int") = true)
    (nf_list : PySem.W.notFirst K C_Land (.type "list") = true)
    (is_list : PySem.W.kitOne K (.type "list") (.ref C_Land) = some false)
    (s1 : PySem.W.findIn K (.ref C_Land) "__class__" = some (some (.builtin "object.__class__")))
    (s2 : PySem.W.specialIn K (.builtin "object.__class__") "__get__" = some (some (.builtin "getset_descriptor.__get__")))
    (s3 : PySem.W.takesIn K (.builtin "object.__class__") = some true)
    (isS : PySem.W.kitOne K (.ref C_Land) (.ref C_Land) = some true)
    (z_len : PySem.W.nsIn K mainGlobals "len" = some none)
    (z_list : PySem.W.nsIn K mainGlobals "list" = some none)
    (z_abs : PySem.W.nsIn K mainGlobals "abs" = some none)
    (z_isinstance : PySem.W.nsIn K mainGlobals "isinstance" = some none)
    (z_int : PySem.W.nsIn K mainGlobals "int" = some none)
    (z_bool : PySem.W.nsIn K mainGlobals "bool" = some none)
    (z_str : PySem.W.nsIn K mainGlobals "str" = some none)
    (z_dict : PySem.W.nsIn K mainGlobals "dict" = some none)
    (z_tuple : PySem.W.nsIn K mainGlobals "tuple" = some none)
    (z_all : PySem.W.nsIn K mainGlobals "all" = some none)
    (z_range : PySem.W.nsIn K mainGlobals "range" = some none)
    (z_sorted : PySem.W.nsIn K mainGlobals "sorted" = some none)
    (z_set : PySem.W.nsIn K mainGlobals "set" = some none)
    (z_repr : PySem.W.nsIn K mainGlobals "repr" = some none) :
    ∃ fd : FuncData, (∀ (s : Shared) (v : Value), BindsTo s fd ⟨[v], []⟩ [("_law_script", v)]) ∧ ∀ base : Heap, K.In base → base.Ns mainGlobals mg → FnOk l.prog w K mg base CX0 12 fa fd ["_law_script"] (spLaw K) := by
  have e := hfa.symm.trans (PySem.W.mg_of X G p_law.a)
  cases e
  obtain ⟨me_Land___init__, ⟨oc_Land___init__, od_Land___init__, kV_Land___init__, dc_Land___init__, pm_Land___init__, an_Land___init__, cd_Land___init__, ct_Land___init__, sl_Land___init__, l_Land___init__, c_Land___init__⟩⟩ := p_Land___init__
  have F_Land___init__ := fun_mk (st := s_Land___init__) l_Land___init__ c_Land___init__ me_Land___init__.kp
  have b_Land___init__ := F_Land___init__.binds (ps := p_Land___init__) fun _ _ _ _ _ _ us hl => match us, hl with | [_, _, _, _], _ => rfl
  obtain ⟨me_Land_spots, ⟨oc_Land_spots, od_Land_spots, kV_Land_spots, dc_Land_spots, pm_Land_spots, an_Land_spots, cd_Land_spots, ct_Land_spots, sl_Land_spots, l_Land_spots, c_Land_spots⟩⟩ := p_Land_spots
  have F_Land_spots := fun_mk (st := s_Land_spots) l_Land_spots c_Land_spots me_Land_spots.kp
  have b_Land_spots := F_Land_spots.binds (ps := p_Land_spots) fun _ _ _ _ _ _ us hl => match us, hl with | [_], _ => rfl
  obtain ⟨me_Land_lines, ⟨oc_Land_lines, od_Land_lines, kV_Land_lines, dc_Land_lines, pm_Land_lines, an_Land_lines, cd_Land_lines, ct_Land_lines, sl_Land_lines, l_Land_lines, c_Land_lines⟩⟩ := p_Land_lines
  have F_Land_lines := fun_mk (st := s_Land_lines) l_Land_lines c_Land_lines me_Land_lines.kp
  have b_Land_lines := F_Land_lines.binds (ps := p_Land_lines) fun _ _ _ _ _ _ us hl => match us, hl with | [_], _ => rfl
  obtain ⟨me_Land_sites, ⟨oc_Land_sites, od_Land_sites, kV_Land_sites, dc_Land_sites, pm_Land_sites, an_Land_sites, cd_Land_sites, ct_Land_sites, sl_Land_sites, l_Land_sites, c_Land_sites⟩⟩ := p_Land_sites
  have F_Land_sites := fun_mk (st := s_Land_sites) l_Land_sites c_Land_sites me_Land_sites.kp
  have b_Land_sites := F_Land_sites.binds (ps := p_Land_sites) fun _ _ _ _ _ _ us hl => match us, hl with | [_], _ => rfl
  obtain ⟨me_Land_known, ⟨oc_Land_known, od_Land_known, kV_Land_known, dc_Land_known, pm_Land_known, an_Land_known, cd_Land_known, ct_Land_known, sl_Land_known, l_Land_known, c_Land_known⟩⟩ := p_Land_known
  have F_Land_known := fun_mk (st := s_Land_known) l_Land_known c_Land_known me_Land_known.kp
  have b_Land_known := F_Land_known.binds (ps := p_Land_known) fun _ _ _ _ _ _ us hl => match us, hl with | [_], _ => rfl
  obtain ⟨me_Land_held, ⟨oc_Land_held, od_Land_held, kV_Land_held, dc_Land_held, pm_Land_held, an_Land_held, cd_Land_held, ct_Land_held, sl_Land_held, l_Land_held, c_Land_held⟩⟩ := p_Land_held
  have F_Land_held := fun_mk (st := s_Land_held) l_Land_held c_Land_held me_Land_held.kp
  have b_Land_held := F_Land_held.binds (ps := p_Land_held) fun _ _ _ _ _ _ us hl => match us, hl with | [_], _ => rfl
  obtain ⟨me_Land___eq__, ⟨oc_Land___eq__, od_Land___eq__, kV_Land___eq__, dc_Land___eq__, pm_Land___eq__, an_Land___eq__, cd_Land___eq__, ct_Land___eq__, sl_Land___eq__, l_Land___eq__, c_Land___eq__⟩⟩ := p_Land___eq__
  have F_Land___eq__ := fun_mk (st := s_Land___eq__) l_Land___eq__ c_Land___eq__ me_Land___eq__.kp
  have b_Land___eq__ := F_Land___eq__.binds (ps := p_Land___eq__) fun _ _ _ _ _ _ us hl => match us, hl with | [_, _], _ => rfl
  obtain ⟨me_Land___repr__, ⟨oc_Land___repr__, od_Land___repr__, kV_Land___repr__, dc_Land___repr__, pm_Land___repr__, an_Land___repr__, cd_Land___repr__, ct_Land___repr__, sl_Land___repr__, l_Land___repr__, c_Land___repr__⟩⟩ := p_Land___repr__
  have F_Land___repr__ := fun_mk (st := s_Land___repr__) l_Land___repr__ c_Land___repr__ me_Land___repr__.kp
  have b_Land___repr__ := F_Land___repr__.binds (ps := p_Land___repr__) fun _ _ _ _ _ _ us hl => match us, hl with | [_], _ => rfl
  obtain ⟨a_law_bag, ⟨oc_law_bag, od_law_bag, kV_law_bag, dc_law_bag, pm_law_bag, an_law_bag, cd_law_bag, ct_law_bag, sl_law_bag, l_law_bag, c_law_bag⟩, k_law_bag⟩ := p_law_bag
  have F_law_bag := fun_mk (st := s_law_bag) l_law_bag c_law_bag k_law_bag
  have b_law_bag := F_law_bag.binds (ps := p_law_bag) fun _ _ _ _ _ _ us hl => match us, hl with | [_], _ => rfl
  obtain ⟨a_law_draw, ⟨oc_law_draw, od_law_draw, kV_law_draw, dc_law_draw, pm_law_draw, an_law_draw, cd_law_draw, ct_law_draw, sl_law_draw, l_law_draw, c_law_draw⟩, k_law_draw⟩ := p_law_draw
  have F_law_draw := fun_mk (st := s_law_draw) l_law_draw c_law_draw k_law_draw
  have b_law_draw := F_law_draw.binds (ps := p_law_draw) fun _ _ _ _ _ _ us hl => match us, hl with | [_, _], _ => rfl
  obtain ⟨a_law_whole, ⟨oc_law_whole, od_law_whole, kV_law_whole, dc_law_whole, pm_law_whole, an_law_whole, cd_law_whole, ct_law_whole, sl_law_whole, l_law_whole, c_law_whole⟩, k_law_whole⟩ := p_law_whole
  have F_law_whole := fun_mk (st := s_law_whole) l_law_whole c_law_whole k_law_whole
  have b_law_whole := F_law_whole.binds (ps := p_law_whole) fun _ _ _ _ _ _ us hl => match us, hl with | [_], _ => rfl
  obtain ⟨a_law_same, ⟨oc_law_same, od_law_same, kV_law_same, dc_law_same, pm_law_same, an_law_same, cd_law_same, ct_law_same, sl_law_same, l_law_same, c_law_same⟩, k_law_same⟩ := p_law_same
  have F_law_same := fun_mk (st := s_law_same) l_law_same c_law_same k_law_same
  have b_law_same := F_law_same.binds (ps := p_law_same) fun _ _ _ _ _ _ us hl => match us, hl with | [_, _], _ => rfl
  obtain ⟨a_law_any, ⟨oc_law_any, od_law_any, kV_law_any, dc_law_any, pm_law_any, an_law_any, cd_law_any, ct_law_any, sl_law_any, l_law_any, c_law_any⟩, k_law_any⟩ := p_law_any
  have F_law_any := fun_mk (st := s_law_any) l_law_any c_law_any k_law_any
  have b_law_any := F_law_any.binds (ps := p_law_any) fun _ _ _ _ _ _ us hl => match us, hl with | [_, _], _ => rfl
  obtain ⟨a_law_rat, ⟨oc_law_rat, od_law_rat, kV_law_rat, dc_law_rat, pm_law_rat, an_law_rat, cd_law_rat, ct_law_rat, sl_law_rat, l_law_rat, c_law_rat⟩, k_law_rat⟩ := p_law_rat
  have F_law_rat := fun_mk (st := s_law_rat) l_law_rat c_law_rat k_law_rat
  have b_law_rat := F_law_rat.binds (ps := p_law_rat) fun _ _ _ _ _ _ us hl => match us, hl with | [_, _], _ => rfl
  obtain ⟨a_law_spoil, ⟨oc_law_spoil, od_law_spoil, kV_law_spoil, dc_law_spoil, pm_law_spoil, an_law_spoil, cd_law_spoil, ct_law_spoil, sl_law_spoil, l_law_spoil, c_law_spoil⟩, k_law_spoil⟩ := p_law_spoil
  have F_law_spoil := fun_mk (st := s_law_spoil) l_law_spoil c_law_spoil k_law_spoil
  have b_law_spoil := F_law_spoil.binds (ps := p_law_spoil) fun _ _ _ _ _ _ us hl => match us, hl with | [_], _ => rfl
  obtain ⟨a_law_name, ⟨oc_law_name, od_law_name, kV_law_name, dc_law_name, pm_law_name, an_law_name, cd_law_name, ct_law_name, sl_law_name, l_law_name, c_law_name⟩, k_law_name⟩ := p_law_name
  have F_law_name := fun_mk (st := s_law_name) l_law_name c_law_name k_law_name
  have b_law_name := F_law_name.binds (ps := p_law_name) fun _ _ _ _ _ _ us hl => match us, hl with | [_], _ => rfl
  obtain ⟨a_law_names, ⟨oc_law_names, od_law_names, kV_law_names, dc_law_names, pm_law_names, an_law_names, cd_law_names, ct_law_names, sl_law_names, l_law_names, c_law_names⟩, k_law_names⟩ := p_law_names
  have F_law_names := fun_mk (st := s_law_names) l_law_names c_law_names k_law_names
  have b_law_names := F_law_names.binds (ps := p_law_names) fun _ _ _ _ _ _ us hl => match us, hl with | [_, _], _ => rfl
  obtain ⟨a_law_ratio, ⟨oc_law_ratio, od_law_ratio, kV_law_ratio, dc_law_ratio, pm_law_ratio, an_law_ratio, cd_law_ratio, ct_law_ratio, sl_law_ratio, l_law_ratio, c_law_ratio⟩, k_law_ratio⟩ := p_law_ratio
  have F_law_ratio := fun_mk (st := s_law_ratio) l_law_ratio c_law_ratio k_law_ratio
  have b_law_ratio := F_law_ratio.binds (ps := p_law_ratio) fun _ _ _ _ _ _ us hl => match us, hl with | [_, _], _ => rfl
  obtain ⟨a_law_spot, ⟨oc_law_spot, od_law_spot, kV_law_spot, dc_law_spot, pm_law_spot, an_law_spot, cd_law_spot, ct_law_spot, sl_law_spot, l_law_spot, c_law_spot⟩, k_law_spot⟩ := p_law_spot
  have F_law_spot := fun_mk (st := s_law_spot) l_law_spot c_law_spot k_law_spot
  have b_law_spot := F_law_spot.binds (ps := p_law_spot) fun _ _ _ _ _ _ us hl => match us, hl with | [_, _], _ => rfl
  obtain ⟨a_law_ground, ⟨oc_law_ground, od_law_ground, kV_law_ground, dc_law_ground, pm_law_ground, an_law_ground, cd_law_ground, ct_law_ground, sl_law_ground, l_law_ground, c_law_ground⟩, k_law_ground⟩ := p_law_ground
  have F_law_ground := fun_mk (st := s_law_ground) l_law_ground c_law_ground k_law_ground
  have b_law_ground := F_law_ground.binds (ps := p_law_ground) fun _ _ _ _ _ _ us hl => match us, hl with | [_, _], _ => rfl
  obtain ⟨a_law_known, ⟨oc_law_known, od_law_known, kV_law_known, dc_law_known, pm_law_known, an_law_known, cd_law_known, ct_law_known, sl_law_known, l_law_known, c_law_known⟩, k_law_known⟩ := p_law_known
  have F_law_known := fun_mk (st := s_law_known) l_law_known c_law_known k_law_known
  have b_law_known := F_law_known.binds (ps := p_law_known) fun _ _ _ _ _ _ us hl => match us, hl with | [_], _ => rfl
  obtain ⟨a_law_held, ⟨oc_law_held, od_law_held, kV_law_held, dc_law_held, pm_law_held, an_law_held, cd_law_held, ct_law_held, sl_law_held, l_law_held, c_law_held⟩, k_law_held⟩ := p_law_held
  have F_law_held := fun_mk (st := s_law_held) l_law_held c_law_held k_law_held
  have b_law_held := F_law_held.binds (ps := p_law_held) fun _ _ _ _ _ _ us hl => match us, hl with | [_], _ => rfl
  obtain ⟨a_law_near, ⟨oc_law_near, od_law_near, kV_law_near, dc_law_near, pm_law_near, an_law_near, cd_law_near, ct_law_near, sl_law_near, l_law_near, c_law_near⟩, k_law_near⟩ := p_law_near
  have F_law_near := fun_mk (st := s_law_near) l_law_near c_law_near k_law_near
  have b_law_near := F_law_near.binds (ps := p_law_near) fun _ _ _ _ _ _ us hl => match us, hl with | [_, _], _ => rfl
  obtain ⟨a_law, ⟨oc_law, od_law, kV_law, dc_law, pm_law, an_law, cd_law, ct_law, sl_law, l_law, c_law⟩, k_law⟩ := p_law
  have F_law := fun_mk (st := s_law) l_law c_law k_law
  have b_law := F_law.binds (ps := p_law) fun _ _ _ _ _ _ us hl => match us, hl with | [_], _ => rfl
  have B : Bt mg := ⟨PySem.W.mg_none_of X G z_len, PySem.W.mg_none_of X G z_list, PySem.W.mg_none_of X G z_abs, PySem.W.mg_none_of X G z_isinstance, PySem.W.mg_none_of X G z_int, PySem.W.mg_none_of X G z_bool, PySem.W.mg_none_of X G z_str, PySem.W.mg_none_of X G z_dict, PySem.W.mg_none_of X G z_tuple, PySem.W.mg_none_of X G z_all, PySem.W.mg_none_of X G z_range, PySem.W.mg_none_of X G z_sorted, PySem.W.mg_none_of X G z_set, PySem.W.mg_none_of X G z_repr⟩
  let ev : Env l.prog K mg := { f_Land___init__ := f_Land___init__, d_Land___init__ := _, A_Land___init__ := ⟨F_Land___init__, b_Land___init__, me_Land___init__⟩, f_Land_spots := f_Land_spots, d_Land_spots := _, A_Land_spots := ⟨F_Land_spots, b_Land_spots, me_Land_spots⟩, f_Land_lines := f_Land_lines, d_Land_lines := _, A_Land_lines := ⟨F_Land_lines, b_Land_lines, me_Land_lines⟩, f_Land_sites := f_Land_sites, d_Land_sites := _, A_Land_sites := ⟨F_Land_sites, b_Land_sites, me_Land_sites⟩, f_Land_known := f_Land_known, d_Land_known := _, A_Land_known := ⟨F_Land_known, b_Land_known, me_Land_known⟩, f_Land_held := f_Land_held, d_Land_held := _, A_Land_held := ⟨F_Land_held, b_Land_held, me_Land_held⟩, f_Land___eq__ := f_Land___eq__, d_Land___eq__ := _, A_Land___eq__ := ⟨F_Land___eq__, b_Land___eq__, me_Land___eq__⟩, f_Land___repr__ := f_Land___repr__, d_Land___repr__ := _, A_Land___repr__ := ⟨F_Land___repr__, b_Land___repr__, me_Land___repr__⟩, f_law_bag := f_law_bag, d_law_bag := _, A_law_bag := ⟨F_law_bag, b_law_bag, PySem.W.mg_of X G a_law_bag⟩, f_law_draw := f_law_draw, d_law_draw := _, A_law_draw := ⟨F_law_draw, b_law_draw, PySem.W.mg_of X G a_law_draw⟩, f_law_whole := f_law_whole, d_law_whole := _, A_law_whole := ⟨F_law_whole, b_law_whole, PySem.W.mg_of X G a_law_whole⟩, f_law_same := f_law_same, d_law_same := _, A_law_same := ⟨F_law_same, b_law_same, PySem.W.mg_of X G a_law_same⟩, f_law_any := f_law_any, d_law_any := _, A_law_any := ⟨F_law_any, b_law_any, PySem.W.mg_of X G a_law_any⟩, f_law_rat := f_law_rat, d_law_rat := _, A_law_rat := ⟨F_law_rat, b_law_rat, PySem.W.mg_of X G a_law_rat⟩, f_law_spoil := f_law_spoil, d_law_spoil := _, A_law_spoil := ⟨F_law_spoil, b_law_spoil, PySem.W.mg_of X G a_law_spoil⟩, f_law_name := f_law_name, d_law_name := _, A_law_name := ⟨F_law_name, b_law_name, PySem.W.mg_of X G a_law_name⟩, f_law_names := f_law_names, d_law_names := _, A_law_names := ⟨F_law_names, b_law_names, PySem.W.mg_of X G a_law_names⟩, f_law_ratio := f_law_ratio, d_law_ratio := _, A_law_ratio := ⟨F_law_ratio, b_law_ratio, PySem.W.mg_of X G a_law_ratio⟩, f_law_spot := f_law_spot, d_law_spot := _, A_law_spot := ⟨F_law_spot, b_law_spot, PySem.W.mg_of X G a_law_spot⟩, f_law_ground := f_law_ground, d_law_ground := _, A_law_ground := ⟨F_law_ground, b_law_ground, PySem.W.mg_of X G a_law_ground⟩, f_law_known := f_law_known, d_law_known := _, A_law_known := ⟨F_law_known, b_law_known, PySem.W.mg_of X G a_law_known⟩, f_law_held := f_law_held, d_law_held := _, A_law_held := ⟨F_law_held, b_law_held, PySem.W.mg_of X G a_law_held⟩, f_law_near := f_law_near, d_law_near := _, A_law_near := ⟨F_law_near, b_law_near, PySem.W.mg_of X G a_law_near⟩, f_law := fa, d_law := _, A_law := ⟨F_law, b_law, PySem.W.mg_of X G a_law⟩, B := B, C_Land := C_Land, cl_Land := ⟨pgS, hdS, poS, saS⟩, M_Land := ⟨mkS_, me_Land___init__.at_, me_Land___init__.fn, kcS⟩, g_Land := PySem.W.mg_of X G aS, n_own_spots := n_own_spots, n_own_lines := n_own_lines, n_own_sites := n_own_sites, ne_Land := neS, mro_Land := mroS, si_Land := ⟨s1, s2, s3, mroS⟩, isS_Land := isS, nf_Land_int := nf_int, nf_Land_list := nf_list, is_Land_list := is_list }
  exact ⟨_, fun s v => .of_eq rfl, fun base _ _ => ok_law ev⟩
end G
open PySem PySem.W PyProof.Rows
set_option maxHeartbeats 0 in
theorem PySem.Challenge.cw_gromatic_k14_held_marks_holds : PySem.Challenge.rw_gromatic_k14_held_marks.Holds := by
  w_on; o_law; k_head; (case hw => w_witness2)
  k_fill
  refine L2.walk_of (l := PySem.Challenge.rw_gromatic_k14_held_marks) (n := 63) (k := 12) (x := "_law_script") (CX := fun _ => L2.CX0) (sp := fun w => G.spLaw _) rfl (by decide) rfl ⟨rfl, by decide, by decide⟩ (fun w h Y => PySem.W.kIn_of Y) ?F (fun _ _ a ns hl _ hS => ⟨a, ns, rfl, hS, hl, fun _ => rfl⟩) (fun _ _ _ _ _ h => h)
  case F =>
    intro w mg fa h KX GN hmg
    refine' G.all_mk KX GN hmg (G.putM_mk ?a_Land___init__ ?i_Land___init__ ?l_Land___init__ ?c_Land___init__ ?k_Land___init__) (G.putM_mk ?a_Land_spots ?i_Land_spots ?l_Land_spots ?c_Land_spots ?k_Land_spots) (G.putM_mk ?a_Land_lines ?i_Land_lines ?l_Land_lines ?c_Land_lines ?k_Land_lines) (G.putM_mk ?a_Land_sites ?i_Land_sites ?l_Land_sites ?c_Land_sites ?k_Land_sites) (G.putM_mk ?a_Land_known ?i_Land_known ?l_Land_known ?c_Land_known ?k_Land_known) (G.putM_mk ?a_Land_held ?i_Land_held ?l_Land_held ?c_Land_held ?k_Land_held) (G.putM_mk ?a_Land___eq__ ?i_Land___eq__ ?l_Land___eq__ ?c_Land___eq__ ?k_Land___eq__) (G.putM_mk ?a_Land___repr__ ?i_Land___repr__ ?l_Land___repr__ ?c_Land___repr__ ?k_Land___repr__) (G.put_mk ?a_law_bag ?l_law_bag ?c_law_bag ?k_law_bag) (G.put_mk ?a_law_draw ?l_law_draw ?c_law_draw ?k_law_draw) (G.put_mk ?a_law_whole ?l_law_whole ?c_law_whole ?k_law_whole) (G.put_mk ?a_law_same ?l_law_same ?c_law_same ?k_law_same) (G.put_mk ?a_law_any ?l_law_any ?c_law_any ?k_law_any) (G.put_mk ?a_law_rat ?l_law_rat ?c_law_rat ?k_law_rat) (G.put_mk ?a_law_spoil ?l_law_spoil ?c_law_spoil ?k_law_spoil) (G.put_mk ?a_law_name ?l_law_name ?c_law_name ?k_law_name) (G.put_mk ?a_law_names ?l_law_names ?c_law_names ?k_law_names) (G.put_mk ?a_law_ratio ?l_law_ratio ?c_law_ratio ?k_law_ratio) (G.put_mk ?a_law_spot ?l_law_spot ?c_law_spot ?k_law_spot) (G.put_mk ?a_law_ground ?l_law_ground ?c_law_ground ?k_law_ground) (G.put_mk ?a_law_known ?l_law_known ?c_law_known ?k_law_known) (G.put_mk ?a_law_held ?l_law_held ?c_law_held ?k_law_held) (G.put_mk ?a_law_near ?l_law_near ?c_law_near ?k_law_near) (G.put_mk ?a_law ?l_law ?c_law ?k_law) ?aS ?pgS ?hdS ?poS ?saS ?mkS_ ?kcS ?n_own_spots ?n_own_lines ?n_own_sites ?neS ?mroS ?nf_int ?nf_list ?is_list ?s1 ?s2 ?s3 ?isS ?z_len ?z_list ?z_abs ?z_isinstance ?z_int ?z_bool ?z_str ?z_dict ?z_tuple ?z_all ?z_range ?z_sorted ?z_set ?z_repr
    (case aS => k_is)
    (case pgS => k_is)
    (case hdS => k_is)
    (case poS => k_is)
    (case saS => k_is)
    (case mkS_ => k_is)
    (case kcS => k_is)
    (case n_own_spots => k_is)
    (case n_own_lines => k_is)
    (case n_own_sites => k_is)
    (case neS => k_is)
    (case mroS => k_is)
    (case nf_int => first | k_is | rfl)
    (case nf_list => first | k_is | rfl)
    (case is_list => first | k_is | rfl)
    (case s1 => k_is)
    (case s2 => first | k_is | rfl)
    (case s3 => first | k_is | rfl)
    (case isS => first | k_is | rfl)
    (case a_Land___init__ => k_is)
    (case i_Land___init__ => k_is)
    (case l_Land___init__ => k_is)
    (case c_Land___init__ => k_is)
    (case k_Land___init__ => k_is)
    (case a_Land_spots => k_is)
    (case i_Land_spots => k_is)
    (case l_Land_spots => k_is)
    (case c_Land_spots => k_is)
    (case k_Land_spots => k_is)
    (case a_Land_lines => k_is)
    (case i_Land_lines => k_is)
    (case l_Land_lines => k_is)
    (case c_Land_lines => k_is)
    (case k_Land_lines => k_is)
    (case a_Land_sites => k_is)
    (case i_Land_sites => k_is)
    (case l_Land_sites => k_is)
    (case c_Land_sites => k_is)
    (case k_Land_sites => k_is)
    (case a_Land_known => k_is)
    (case i_Land_known => k_is)
    (case l_Land_known => k_is)
    (case c_Land_known => k_is)
    (case k_Land_known => k_is)
    (case a_Land_held => k_is)
    (case i_Land_held => k_is)
    (case l_Land_held => k_is)
    (case c_Land_held => k_is)
    (case k_Land_held => k_is)
    (case a_Land___eq__ => k_is)
    (case i_Land___eq__ => k_is)
    (case l_Land___eq__ => k_is)
    (case c_Land___eq__ => k_is)
    (case k_Land___eq__ => k_is)
    (case a_Land___repr__ => k_is)
    (case i_Land___repr__ => k_is)
    (case l_Land___repr__ => k_is)
    (case c_Land___repr__ => k_is)
    (case k_Land___repr__ => k_is)
    (case a_law_bag => k_is)
    (case l_law_bag => k_is)
    (case c_law_bag => k_is)
    (case k_law_bag => k_is)
    (case a_law_draw => k_is)
    (case l_law_draw => k_is)
    (case c_law_draw => k_is)
    (case k_law_draw => k_is)
    (case a_law_whole => k_is)
    (case l_law_whole => k_is)
    (case c_law_whole => k_is)
    (case k_law_whole => k_is)
    (case a_law_same => k_is)
    (case l_law_same => k_is)
    (case c_law_same => k_is)
    (case k_law_same => k_is)
    (case a_law_any => k_is)
    (case l_law_any => k_is)
    (case c_law_any => k_is)
    (case k_law_any => k_is)
    (case a_law_rat => k_is)
    (case l_law_rat => k_is)
    (case c_law_rat => k_is)
    (case k_law_rat => k_is)
    (case a_law_spoil => k_is)
    (case l_law_spoil => k_is)
    (case c_law_spoil => k_is)
    (case k_law_spoil => k_is)
    (case a_law_name => k_is)
    (case l_law_name => k_is)
    (case c_law_name => k_is)
    (case k_law_name => k_is)
    (case a_law_names => k_is)
    (case l_law_names => k_is)
    (case c_law_names => k_is)
    (case k_law_names => k_is)
    (case a_law_ratio => k_is)
    (case l_law_ratio => k_is)
    (case c_law_ratio => k_is)
    (case k_law_ratio => k_is)
    (case a_law_spot => k_is)
    (case l_law_spot => k_is)
    (case c_law_spot => k_is)
    (case k_law_spot => k_is)
    (case a_law_ground => k_is)
    (case l_law_ground => k_is)
    (case c_law_ground => k_is)
    (case k_law_ground => k_is)
    (case a_law_known => k_is)
    (case l_law_known => k_is)
    (case c_law_known => k_is)
    (case k_law_known => k_is)
    (case a_law_held => k_is)
    (case l_law_held => k_is)
    (case c_law_held => k_is)
    (case k_law_held => k_is)
    (case a_law_near => k_is)
    (case l_law_near => k_is)
    (case c_law_near => k_is)
    (case k_law_near => k_is)
    (case a_law => k_is)
    (case l_law => k_is)
    (case c_law => k_is)
    (case k_law => k_is)
    (case z_len => k_is)
    (case z_list => k_is)
    (case z_abs => k_is)
    (case z_isinstance => k_is)
    (case z_int => k_is)
    (case z_bool => k_is)
    (case z_str => k_is)
    (case z_dict => k_is)
    (case z_tuple => k_is)
    (case z_all => k_is)
    (case z_range => k_is)
    (case z_sorted => k_is)
    (case z_set => k_is)
    (case z_repr => k_is)

