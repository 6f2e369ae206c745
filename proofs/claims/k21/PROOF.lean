import PyProof.Rows.All
import Wide.All
import OpenK.AllK
import Wide.FinOn
import HandS.ForMost
import HandS.ForExc
import HandS.Wide
import HandS.IsInst
import HandS.ExcIs
import HandS.More
import HandS.DictComp
import HandS.SortInts
import HandS.Style
import HandS.Defaults
import HandS.Deep
import HandS.TryOnly
import KE.DataMinMax
import KE.SortData
import HandS.Iter
import PySem.Challenge.RW_gromatic_k21_whole_bare_points
set_option Elab.async false
set_option linter.all false
set_option maxRecDepth 100000
set_option maxHeartbeats 8000000
namespace M
open PySem L2

/-! ### heaps: what is owned may change -/
abbrev AS := List Addr
def Fr (T : AS) (H H' : Hp) : Prop := ∀ a o, H a = some o → a ∉ T → H' a = some o
theorem Fr.refl {T : AS} (H : Hp) : Fr T H H := fun _ _ e _ => e
theorem Fr.trans {T : AS} {H H1 H2 : Hp} (a : Fr T H H1) (b : Fr T H1 H2) : Fr T H H2 := fun p o e n => b p o (a p o e n) n
theorem Fr.same {T : AS} {H H' : Hp} (s : Same H H') : Fr T H H' := fun p o e _ => s p o e
theorem Fr.sub {T T' : AS} {H H' : Hp} (h : ∀ a ∈ T, a ∈ T') (f : Fr T H H') : Fr T' H H' := fun p o e n => f p o e fun m => n (h p m)
theorem Fr.toSame {H H' : Hp} (f : Fr [] H H') : Same H H' := fun p o e => f p o e (by simp)
def Dom (S : AS) (H : Hp) : Prop := ∀ a ∈ S, H a ≠ none
theorem Dom.same {S : AS} {H H' : Hp} (d : Dom S H) (s : Same H H') : Dom S H' := fun a m e => by
  cases q : H a with
  | none => exact d a m q
  | some o => rw [s a o q] at e; cases e
theorem Dom.nil {H : Hp} : Dom [] H := fun a m => by simp at m
theorem Dom.not_mem {S : AS} {H : Hp} {p : Addr} (d : Dom S H) (h : H p = none) : p ∉ S := fun m => d p m h
theorem Dom.cons {S : AS} {H : Hp} {p : Addr} {o : HO} (d : Dom S H) (h : H p = some o) : Dom (p :: S) H := fun a m => by
  rcases List.mem_cons.mp m with rfl | m
  · rw [h]; intro z; cases z
  · exact d a m
theorem same_new {H : Hp} {p : Addr} {o : HO} (h : H p = none) : Same H (upd H p o) := fun b x e => by
  rw [upd_ne (ne_of_none e h)]
  exact e
theorem fr_upd {T : AS} {H : Hp} {p : Addr} {o : HO} (h : p ∈ T) : Fr T H (upd H p o) := fun b x e n => by
  rw [upd_ne (fun z => n (by rw [z]; exact h))]
  exact e
theorem Dom.upd {S : AS} {H : Hp} {p : Addr} {o : HO} (d : Dom S H) : Dom S (upd H p o) := fun a m => by
  by_cases e : a = p
  · subst e; rw [upd_same]; intro z; cases z
  · rw [upd_ne e]; exact d a m

/-! ### pairs of lists -/
abbrev All2 {α β : Type} := @Paired α β
theorem All2.imp {α β : Type} {F G : α → β → Prop} (h : ∀ a b, F a b → G a b) : ∀ {xs : List α} {ys : List β}, All2 F xs ys → All2 G xs ys
  | _, _, .nil => .nil
  | _, _, .cons a r => .cons (h _ _ a) (All2.imp h r)
theorem All2.len {α β : Type} {F : α → β → Prop} : ∀ {xs : List α} {ys : List β}, All2 F xs ys → xs.length = ys.length
  | _, _, .nil => rfl
  | _, _, .cons _ r => by simp [All2.len r]
theorem All2.get {α β : Type} {F : α → β → Prop} : ∀ {xs : List α} {ys : List β} (i : Nat) {y : β}, All2 F xs ys → ys[i]? = some y → ∃ x, xs[i]? = some x ∧ F x y
  | _, _, i, y, .nil, e => by simp at e
  | _, _, 0, y, .cons a _, e => by simp at e; subst e; exact ⟨_, rfl, a⟩
  | _, _, i + 1, y, .cons _ r, e => by
    obtain ⟨x, h1, h2⟩ := All2.get i (y := y) r (by simpa using e)
    exact ⟨x, by simpa using h1, h2⟩
theorem All2.getL {α β : Type} {F : α → β → Prop} : ∀ {xs : List α} {ys : List β} (i : Nat) {x : α}, All2 F xs ys → xs[i]? = some x → ∃ y, ys[i]? = some y ∧ F x y
  | _, _, i, y, .nil, e => by simp at e
  | _, _, 0, y, .cons a _, e => by simp at e; subst e; exact ⟨_, rfl, a⟩
  | _, _, i + 1, y, .cons _ r, e => by
    obtain ⟨x, h1, h2⟩ := All2.getL i (x := y) r (by simpa using e)
    exact ⟨x, by simpa using h1, h2⟩
theorem All2.snoc {α β : Type} {F : α → β → Prop} {x : α} {y : β} : ∀ {xs : List α} {ys : List β}, All2 F xs ys → F x y → All2 F (xs ++ [x]) (ys ++ [y])
  | _, _, .nil, h => .cons h .nil
  | _, _, .cons a r, h => .cons a (All2.snoc r h)
theorem All2.app {α β : Type} {F : α → β → Prop} : ∀ {xs xs' : List α} {ys ys' : List β}, All2 F xs ys → All2 F xs' ys' → All2 F (xs ++ xs') (ys ++ ys')
  | _, _, _, _, .nil, h => h
  | _, _, _, _, .cons a r, h => .cons a (All2.app r h)
theorem All2.drop {α β : Type} {F : α → β → Prop} : ∀ (n : Nat) {xs : List α} {ys : List β}, All2 F xs ys → All2 F (xs.drop n) (ys.drop n)
  | 0, _, _, h => h
  | _ + 1, _, _, .nil => .nil
  | n + 1, _, _, .cons _ r => All2.drop n r
theorem All2.take {α β : Type} {F : α → β → Prop} : ∀ (n : Nat) {xs : List α} {ys : List β}, All2 F xs ys → All2 F (xs.take n) (ys.take n)
  | 0, _, _, _ => .nil
  | _ + 1, _, _, .nil => .nil
  | n + 1, _, _, .cons a r => .cons a (All2.take n r)
theorem All2.set {α β : Type} {F : α → β → Prop} {x : α} {y : β} (h : F x y) : ∀ (n : Nat) {xs : List α} {ys : List β}, All2 F xs ys → All2 F (xs.set n x) (ys.set n y)
  | _, _, _, .nil => .nil
  | 0, _, _, .cons _ r => .cons h r
  | n + 1, _, _, .cons a r => .cons a (All2.set h n r)
theorem All2.at {α β : Type} {F : α → β → Prop} {xs : List α} {ys : List β} {i : Int} {y : β} (h : All2 F xs ys) (e : atI ys i = some y) : ∃ x, atI xs i = some x ∧ F x y := by
  unfold atI at e ⊢
  rw [h.len]
  cases q : ixN ys.length i with
  | none => rw [q] at e; cases e
  | some j =>
    rw [q] at e
    exact h.get j e

/-! ### codes: what a value stands for -/
def nT (K : PySem.W.Frag) (S : AS) (H : Hp) (a : Addr) (xs : List V) : Prop := (Rd H a (.tup xs) ∧ a ∉ S) ∨ SqT K (fun _ => none) a xs
def nL (K : PySem.W.Frag) (S : AS) (H : Hp) (a : Addr) (xs : List V) : Prop := H a = some (.lst xs) ∧ a ∉ S
theorem not_rd {a : Addr} {u : HO} (h : Rd (fun _ => none) a u) : False := by
  rcases h with h | ⟨_, h⟩ <;> cases h
theorem Rd.some {H : Hp} {a : Addr} {u : HO} (h : Rd H a u) : H a ≠ none := by
  rcases h with h | ⟨_, h⟩ <;> rw [h] <;> intro z <;> cases z
theorem Rd.fr {T : AS} {H H' : Hp} {a : Addr} {u : HO} (h : Rd H a u) (f : Fr T H H') (n : a ∉ T) : Rd H' a u := by
  rcases h with h | ⟨o, h⟩
  · exact .inl (f _ _ h n)
  · exact .inr ⟨o, f _ _ h n⟩
theorem nT.sq {K : PySem.W.Frag} {S : AS} {H : Hp} {a : Addr} {xs : List V} (h : nT K S H a xs) : SqT K H a xs := by
  rcases h with h | h | h
  · exact .inl h.1
  · exact (not_rd h).elim
  · exact .inr h
theorem nL.sq {K : PySem.W.Frag} {S : AS} {H : Hp} {a : Addr} {xs : List V} (h : nL K S H a xs) : SqL K H a xs := .inl (.inl h.1)
theorem nT.mono {K : PySem.W.Frag} {S : AS} {H H' : Hp} {a : Addr} {xs : List V} (f : Fr S H H') (h : nT K S H a xs) : nT K S H' a xs := by
  rcases h with h | h
  · exact .inl ⟨Rd.fr h.1 f h.2, h.2⟩
  · exact .inr h
theorem nL.mono {K : PySem.W.Frag} {S : AS} {H H' : Hp} {a : Addr} {xs : List V} (f : Fr S H H') (h : nL K S H a xs) : nL K S H' a xs := ⟨f _ _ h.1 h.2, h.2⟩
theorem not_cons {S : AS} {H : Hp} {p a : Addr} (hp : H p = none) (ha : H a ≠ none) (n : a ∉ S) : a ∉ p :: S := fun m => by
  rcases List.mem_cons.mp m with rfl | m
  · exact ha hp
  · exact n m
theorem nT.ext {K : PySem.W.Frag} {S : AS} {H : Hp} {a p : Addr} {xs : List V} (hp : H p = none) (h : nT K S H a xs) : nT K (p :: S) H a xs := by
  rcases h with h | h
  · exact .inl ⟨h.1, not_cons hp (Rd.some h.1) h.2⟩
  · exact .inr h
theorem nL.ext {K : PySem.W.Frag} {S : AS} {H : Hp} {a p : Addr} {xs : List V} (hp : H p = none) (h : nL K S H a xs) : nL K (p :: S) H a xs := ⟨h.1, not_cons hp (by rw [h.1]; intro z; cases z) h.2⟩
theorem nT.sub {K : PySem.W.Frag} {S S' : AS} {H : Hp} {a : Addr} {xs : List V} (hs : ∀ a ∈ S', a ∈ S) (h : nT K S H a xs) : nT K S' H a xs := by
  rcases h with h | h
  · exact .inl ⟨h.1, fun m => h.2 (hs _ m)⟩
  · exact .inr h
theorem nL.sub {K : PySem.W.Frag} {S S' : AS} {H : Hp} {a : Addr} {xs : List V} (hs : ∀ a ∈ S', a ∈ S) (h : nL K S H a xs) : nL K S' H a xs := ⟨h.1, fun m => h.2 (hs _ m)⟩

structure Ty (K : PySem.W.Frag) (α : Type) where
  rp : AS → Hp → V → α → Prop
  mono : ∀ {S H H' v x}, Fr S H H' → rp S H v x → rp S H' v x
  ext : ∀ {S H p v x}, H p = none → rp S H v x → rp (p :: S) H v x
  sub : ∀ {S S' H v x}, (∀ a ∈ S', a ∈ S) → rp S H v x → rp S' H v x

section
variable {K : PySem.W.Frag} {α β γ δ ε : Type}
def tInt : Ty K Int := ⟨fun _ _ v i => v = .int i, fun _ h => h, fun _ h => h, fun _ h => h⟩
def tBool : Ty K Bool := ⟨fun _ _ v i => v = .bl i, fun _ h => h, fun _ h => h, fun _ h => h⟩
def tStr : Ty K Str := ⟨fun _ _ v i => v = .str i ∧ PyData.strOk i = true, fun _ h => h, fun _ h => h, fun _ h => h⟩
def tNone : Ty K Unit := ⟨fun _ _ v _ => v = .non, fun _ h => h, fun _ h => h, fun _ h => h⟩
def tOpt (c : Ty K α) : Ty K (Option α) where
  rp S H v
    | none => v = .non
    | some x => v ≠ .non ∧ c.rp S H v x
  mono {S H H' v x} f h := by cases x with | none => exact h | some x => exact ⟨h.1, c.mono f h.2⟩
  ext {S H p v x} f h := by cases x with | none => exact h | some x => exact ⟨h.1, c.ext f h.2⟩
  sub {S S' H v x} f h := by cases x with | none => exact h | some x => exact ⟨h.1, c.sub f h.2⟩
def tT2 (c : Ty K α) (d : Ty K β) : Ty K (α × β) where
  rp S H v x := ∃ a u w, v = .ref a ∧ nT K S H a [u, w] ∧ c.rp S H u x.1 ∧ d.rp S H w x.2
  mono f := fun ⟨a, u, w, e, h, h1, h2⟩ => ⟨a, u, w, e, h.mono f, c.mono f h1, d.mono f h2⟩
  ext f := fun ⟨a, u, w, e, h, h1, h2⟩ => ⟨a, u, w, e, h.ext f, c.ext f h1, d.ext f h2⟩
  sub f := fun ⟨a, u, w, e, h, h1, h2⟩ => ⟨a, u, w, e, h.sub f, c.sub f h1, d.sub f h2⟩
def tT3 (c : Ty K α) (d : Ty K β) (g : Ty K γ) : Ty K (α × β × γ) where
  rp S H v x := ∃ a u w z, v = .ref a ∧ nT K S H a [u, w, z] ∧ c.rp S H u x.1 ∧ d.rp S H w x.2.1 ∧ g.rp S H z x.2.2
  mono f := fun ⟨a, u, w, z, e, h, h1, h2, h3⟩ => ⟨a, u, w, z, e, h.mono f, c.mono f h1, d.mono f h2, g.mono f h3⟩
  ext f := fun ⟨a, u, w, z, e, h, h1, h2, h3⟩ => ⟨a, u, w, z, e, h.ext f, c.ext f h1, d.ext f h2, g.ext f h3⟩
  sub f := fun ⟨a, u, w, z, e, h, h1, h2, h3⟩ => ⟨a, u, w, z, e, h.sub f, c.sub f h1, d.sub f h2, g.sub f h3⟩
/-- a tuple of any length; a list -/
def tTs (c : Ty K α) : Ty K (List α) where
  rp S H v xs := ∃ a vs, v = .ref a ∧ nT K S H a vs ∧ All2 (c.rp S H) vs xs
  mono f := fun ⟨a, vs, e, h, h1⟩ => ⟨a, vs, e, h.mono f, h1.imp fun _ _ => c.mono f⟩
  ext f := fun ⟨a, vs, e, h, h1⟩ => ⟨a, vs, e, h.ext f, h1.imp fun _ _ => c.ext f⟩
  sub f := fun ⟨a, vs, e, h, h1⟩ => ⟨a, vs, e, h.sub f, h1.imp fun _ _ => c.sub f⟩
def tL (c : Ty K α) : Ty K (List α) where
  rp S H v xs := ∃ a vs, v = .ref a ∧ nL K S H a vs ∧ All2 (c.rp S H) vs xs
  mono f := fun ⟨a, vs, e, h, h1⟩ => ⟨a, vs, e, h.mono f, h1.imp fun _ _ => c.mono f⟩
  ext f := fun ⟨a, vs, e, h, h1⟩ => ⟨a, vs, e, h.ext f, h1.imp fun _ _ => c.ext f⟩
  sub f := fun ⟨a, vs, e, h, h1⟩ => ⟨a, vs, e, h.sub f, h1.imp fun _ _ => c.sub f⟩
/-- a ratio: a tuple of two numbers in lowest terms -/
def tRat : Ty K Rat where
  rp S H v q := ∃ a, v = .ref a ∧ nT K S H a [.int q.num, .int (q.den : Int)]
  mono f := fun ⟨a, e, h⟩ => ⟨a, e, h.mono f⟩
  ext f := fun ⟨a, e, h⟩ => ⟨a, e, h.ext f⟩
  sub f := fun ⟨a, e, h⟩ => ⟨a, e, h.sub f⟩
abbrev tSpot : Ty K (Rat × Rat) := tT2 tRat tRat
/-- a list that is owned: at p, and p is of S -/
def Own (c : Ty K α) (S : AS) (H : Hp) (p : Addr) (xs : List α) : Prop := ∃ vs, H p = some (.lst vs) ∧ All2 (c.rp S H) vs xs
/-- a new list -/
def nwL (c : Ty K α) (S : AS) (H0 H : Hp) (v : V) (xs : List α) : Prop := ∃ p, v = .ref p ∧ H0 p = none ∧ Own c (p :: S) H p xs
theorem nwL.rp {c : Ty K α} {S : AS} {H0 H : Hp} {v : V} {xs : List α} (h : nwL c S H0 H v xs) (d : Dom S H0) : (tL c).rp S H v xs := by
  obtain ⟨p, e, hp, vs, hv, ha⟩ := h
  exact ⟨p, vs, e, ⟨hv, d.not_mem hp⟩, ha.imp fun _ _ => c.sub fun _ m => List.mem_cons_of_mem _ m⟩

/-! ### what an expression tells -/
structure Rl (α : Type) where
  r : Hp → Hp → V → α → Prop
  back : ∀ {T H0 H1 H2 v x}, Fr T H0 H1 → Dom T H1 → r H1 H2 v x → r H0 H2 v x
def of (c : Ty K α) (S : AS) : Rl α := ⟨fun _ H v x => c.rp S H v x, fun _ _ h => h⟩
theorem fr_back {T : AS} {H0 H1 : Hp} {p : Addr} (f : Fr T H0 H1) (d : Dom T H1) (n : H1 p = none) : H0 p = none := by
  cases q : H0 p with
  | none => rfl
  | some o =>
    rw [f p o q (d.not_mem n)] at n
    cases n
def nw (c : Ty K α) (S : AS) : Rl (List α) := ⟨nwL c S, fun f d ⟨p, e, n, h⟩ => ⟨p, e, fr_back f d n, h⟩⟩
theorem Rl.same (R : Rl α) {H0 H1 H2 : Hp} {v : V} {x : α} (s : Same H0 H1) (h : R.r H1 H2 v x) : R.r H0 H2 v x := R.back (T := []) (Fr.same s) Dom.nil h
/-- S: what is owned; T: what of it may change while the expression is read (the bag) -/
def Ev (S T : AS) (te : TE) (σ : St) (H : Hp) (R : Rl α) (r : Option α) : Prop :=
  ∀ x, r = some x → ∀ H1, Fr T H H1 → Dom S H1 → ∀ Q : VK, (∀ v H2, Same H1 H2 → R.r H1 H2 v x → Q v H2) → te σ H1 Q
def EvB (S T : AS) (tt : TT) (σ : St) (H : Hp) (r : Option Bool) : Prop :=
  ∀ b, r = some b → ∀ H1, Fr T H H1 → Dom S H1 → ∀ Q : Bool → Hp → Prop, (∀ H2, Same H1 H2 → Q b H2) → tt σ H1 Q
abbrev bd (r : Option α) (k : α → Option β) : Option β := Option.bind r k
theorem bd_some {r : Option α} {k : α → Option β} {y : β} (h : bd r k = some y) : ∃ x, r = some x ∧ k x = some y := by
  cases r with
  | none => cases h
  | some x => exact ⟨x, rfl, h⟩
abbrev Sub (T S : AS) : Prop := ∀ a ∈ T, a ∈ S
variable {S T : AS} {σ : St} {H : Hp} {ta tb te : TE} {tt tu : TT} {a : Ty K α} {b : Ty K β} {c : Ty K γ}
theorem ev_var (ts : Sub T S) {i : Nat} {v : V} {x : α} (h : a.rp S H v x) (e : σ[i]? = some (some v)) : Ev S T (tVar i) σ H (of a S) (some x) := by
  intro y ey H1 f d Q q
  cases ey
  exact ⟨v, e, q v H1 (Same.refl _) (a.mono (f.sub ts) h)⟩
theorem ev_c {v : V} {x : α} (h : ∀ H, a.rp S H v x) : Ev S T (tC v) σ H (of a S) (some x) := by
  intro y ey H1 f d Q q
  cases ey
  exact q v H1 (Same.refl _) (h H1)
theorem ev_int {i : Int} : Ev S T (tC (.int i)) σ H (of (K := K) tInt S) (some i) := ev_c fun _ => rfl
theorem ev_bool {i : Bool} : Ev S T (tC (.bl i)) σ H (of (K := K) tBool S) (some i) := ev_c fun _ => rfl
theorem ev_str {i : Str} (h : PyData.strOk i = true := by decide +kernel) : Ev S T (tC (.str i)) σ H (of (K := K) tStr S) (some i) := ev_c fun _ => ⟨rfl, h⟩
theorem ev_none : Ev S T (tC .non) σ H (of (K := K) tNone S) (some ()) := ev_c fun _ => rfl
/-- another code for the same value -/
theorem ev_as {R : Rl α} {R' : Rl β} {r : Option α} {g : α → Option β} (h : Ev S T te σ H R r) (k : ∀ x y, g x = some y → ∀ H1 H2 v, Dom S H1 → R.r H1 H2 v x → R'.r H1 H2 v y) : Ev S T te σ H R' (bd r g) := by
  intro y ey H1 f d Q q
  obtain ⟨x, ex, ey⟩ := bd_some ey
  exact h x ex H1 f d Q fun v H2 s hv => q v H2 s (k x y ey H1 H2 v d hv)
theorem ev_new {r : Option (List α)} (h : Ev S T te σ H (nw a S) r) : Ev S T te σ H (of (tL a) S) r := by
  intro x ex H1 f d Q q
  exact h x ex H1 f d Q fun v H2 s hv => q v H2 s (nwL.rp hv d)
def OpD (a : Ty K α) (b : Ty K β) (S : AS) (R : Rl γ) (r : R2) (f : α → β → Option γ) : Prop :=
  ∀ x y z, f x y = some z → ∀ H1 v w, Dom S H1 → a.rp S H1 v x → b.rp S H1 w y → ∀ Q : VK, (∀ u H2, Same H1 H2 → R.r H1 H2 u z → Q u H2) → r v w H1 Q
theorem ev_op {R : Rl γ} {r : R2} {f : α → β → Option γ} {ra : Option α} {rb : Option β} (h : OpD a b S R r f) (ha : Ev S T ta σ H (of a S) ra) (hb : Ev S T tb σ H (of b S) rb) :
    Ev S T (tOp r ta tb) σ H R (bd ra fun x => bd rb fun y => f x y) := by
  intro z e H1 f1 d Q q
  obtain ⟨x, ex, e⟩ := bd_some e
  obtain ⟨y, ey, e⟩ := bd_some e
  refine ha x ex H1 f1 d _ fun v H2 s2 hv => hb y ey H2 (f1.trans (Fr.same s2)) (d.same s2) _ fun w H3 s3 hw => h x y z e H3 v w ((d.same s2).same s3) (a.mono (Fr.same s3) hv) hw Q fun u H4 s4 hu => q u H4 (s2.trans (s3.trans s4)) (R.same (s2.trans s3) hu)
/-- ints -/
theorem od_I0 {g : Int → Int → V} {k : Int → Int → γ} (h : ∀ i j H, c.rp S H (g i j) (k i j)) : OpD (K := K) tInt tInt S (of c S) (rI0 g) (fun i j => some (k i j)) := by
  intro x y z e H1 v w d hv hw Q q
  cases e
  exact ⟨x, y, hv, hw, q _ H1 (Same.refl _) (h x y H1)⟩
theorem od_I {C : Int → Int → Prop} {p : Int → Int → Bool} {g : Int → Int → V} {k : Int → Int → γ} (hp : ∀ i j, p i j = true → C i j) (h : ∀ i j H, c.rp S H (g i j) (k i j)) : OpD (K := K) tInt tInt S (of c S) (rI C g) (fun i j => if p i j then some (k i j) else none) := by
  intro x y z e H1 v w d hv hw Q q
  dsimp only at e
  split at e
  · rename_i hc
    cases e
    exact ⟨x, y, hv, hw, hp _ _ hc, q _ H1 (Same.refl _) (h x y H1)⟩
  · cases e
def mulP (i j : Int) : Bool := decide (i.natAbs.log2 + j.natAbs.log2 < 1000000)
def mul? (i j : Int) : Option Int := if mulP i j then some (i * j) else none
theorem od_add : OpD (K := K) tInt tInt S (of (K := K) tInt S) (rI0 fun i j => .int (i + j)) (fun i j => some (i + j)) := od_I0 fun _ _ _ => rfl
theorem od_sub : OpD (K := K) tInt tInt S (of (K := K) tInt S) (rI0 fun i j => .int (i - j)) (fun i j => some (i - j)) := od_I0 fun _ _ _ => rfl
theorem od_mul : OpD (K := K) tInt tInt S (of (K := K) tInt S) (rI CMulW fun i j => .int (i * j)) mul? := od_I (fun i j h => show i.natAbs.log2 + j.natAbs.log2 < 1000000 from of_decide_eq_true h) fun _ _ _ => rfl
theorem od_lt : OpD (K := K) tInt tInt S (of (K := K) tBool S) (rI0 fun i j => .bl (decide (i < j))) (fun i j => some (decide (i < j))) := od_I0 fun _ _ _ => rfl
theorem od_le : OpD (K := K) tInt tInt S (of (K := K) tBool S) (rI0 fun i j => .bl (decide (i ≤ j))) (fun i j => some (decide (i ≤ j))) := od_I0 fun _ _ _ => rfl
theorem od_gt : OpD (K := K) tInt tInt S (of (K := K) tBool S) (rI0 fun i j => .bl (decide (j < i))) (fun i j => some (decide (j < i))) := od_I0 fun _ _ _ => rfl
theorem od_ge : OpD (K := K) tInt tInt S (of (K := K) tBool S) (rI0 fun i j => .bl (decide (j ≤ i))) (fun i j => some (decide (j ≤ i))) := od_I0 fun _ _ _ => rfl
theorem od_eqI : OpD (K := K) tInt tInt S (of (K := K) tBool S) rEq (fun i j => some (decide (i = j))) := by
  intro x y z e H1 v w d hv hw Q q
  cases e; cases hv; cases hw
  refine ⟨rfl, ?_⟩
  rw [show decide (V.int x = V.int y) = decide (x = y) by simp]
  exact q _ H1 (Same.refl _) rfl
theorem od_neI : OpD (K := K) tInt tInt S (of (K := K) tBool S) rNe (fun i j => some (!decide (i = j))) := by
  intro x y z e H1 v w d hv hw Q q
  cases e; cases hv; cases hw
  refine ⟨rfl, ?_⟩
  rw [show decide (V.int x = V.int y) = decide (x = y) by simp]
  exact q _ H1 (Same.refl _) rfl
theorem od_eqS : OpD (K := K) tStr tStr S (of (K := K) tBool S) rEq (fun i j => some (decide (i = j))) := by
  intro x y z e H1 v w d hv hw Q q
  obtain ⟨rfl, _⟩ := hv; obtain ⟨rfl, _⟩ := hw; cases e
  refine ⟨rfl, ?_⟩
  rw [show decide (V.str x = V.str y) = decide (x = y) by simp]
  exact q _ H1 (Same.refl _) rfl
theorem od_neS : OpD (K := K) tStr tStr S (of (K := K) tBool S) rNe (fun i j => some (!decide (i = j))) := by
  intro x y z e H1 v w d hv hw Q q
  obtain ⟨rfl, _⟩ := hv; obtain ⟨rfl, _⟩ := hw; cases e
  refine ⟨rfl, ?_⟩
  rw [show decide (V.str x = V.str y) = decide (x = y) by simp]
  exact q _ H1 (Same.refl _) rfl
/-- an item of a list, of a tuple -/
theorem od_ixL : OpD (tL a) (K := K) tInt S (of a S) (rIxL K) (fun xs i => atI xs i) := by
  intro x y z e H1 v w d hv hw Q q
  obtain ⟨p, vs, rfl, hp, ha⟩ := hv
  cases hw
  obtain ⟨u, hu, hz⟩ := ha.at e
  exact ⟨p, vs, y, u, rfl, rfl, hp.sq, hu, q u H1 (Same.refl _) hz⟩
theorem od_ixTs : OpD (tTs a) (K := K) tInt S (of a S) (rIxT K) (fun xs i => atI xs i) := by
  intro x y z e H1 v w d hv hw Q q
  obtain ⟨p, vs, rfl, hp, ha⟩ := hv
  cases hw
  obtain ⟨u, hu, hz⟩ := ha.at e
  exact ⟨p, vs, y, u, rfl, rfl, hp.sq, hu, q u H1 (Same.refl _) hz⟩
/-- an item of a pair of alike things -/
def at2 (x : α × α) (i : Int) : Option α := atI [x.1, x.2] i
theorem od_ix2 : OpD (tT2 a a) (K := K) tInt S (of a S) (rIxT K) at2 := by
  intro x y z e H1 v w d hv hw Q q
  obtain ⟨p, u1, u2, rfl, hp, h1, h2⟩ := hv
  cases hw
  obtain ⟨u, hu, hz⟩ := All2.at (F := a.rp S H1) (.cons h1 (.cons h2 .nil)) e
  exact ⟨p, _, y, u, rfl, rfl, hp.sq, hu, q u H1 (Same.refl _) hz⟩
/-- items 0, 1 of tuples by their written places -/
theorem ev_ixT {R : Rl γ} {i : Int} {ra : Option α} {g : α → γ} (ha : Ev S T ta σ H (of a S) ra) (h : ∀ x H v, a.rp S H v x → ∃ p vs u, v = .ref p ∧ SqT K H p vs ∧ atI vs i = some u ∧ R.r H H u (g x)) :
    Ev S T (tOp (rIxT K) ta (tC (.int i))) σ H R (bd ra fun x => some (g x)) := by
  intro z e H1 f1 d Q q
  obtain ⟨x, ex, e⟩ := bd_some e
  cases e
  refine ha x ex H1 f1 d _ fun v H2 s2 hv => ?_
  obtain ⟨p, vs, u, rfl, hp, hu, hz⟩ := h x H2 v hv
  exact ⟨p, vs, i, u, rfl, rfl, hp, hu, q u H2 s2 (R.same s2 hz)⟩
theorem ev_ix20 {ra : Option (α × β)} (ha : Ev S T ta σ H (of (tT2 a b) S) ra) : Ev S T (tOp (rIxT K) ta (tC (.int 0))) σ H (of a S) (bd ra fun x => some x.1) :=
  ev_ixT ha fun x H v ⟨p, u, w, e, h, h1, h2⟩ => ⟨p, _, u, e, h.sq, rfl, h1⟩
theorem ev_ix21 {ra : Option (α × β)} (ha : Ev S T ta σ H (of (tT2 a b) S) ra) : Ev S T (tOp (rIxT K) ta (tC (.int 1))) σ H (of b S) (bd ra fun x => some x.2) :=
  ev_ixT ha fun x H v ⟨p, u, w, e, h, h1, h2⟩ => ⟨p, _, w, e, h.sq, rfl, h2⟩
theorem ev_ixR0 {ra : Option Rat} (ha : Ev S T ta σ H (of (K := K) tRat S) ra) : Ev S T (tOp (rIxT K) ta (tC (.int 0))) σ H (of (K := K) tInt S) (bd ra fun x => some x.num) :=
  ev_ixT ha fun x H v ⟨p, e, h⟩ => ⟨p, _, _, e, h.sq, rfl, rfl⟩
theorem ev_ixR1 {ra : Option Rat} (ha : Ev S T ta σ H (of (K := K) tRat S) ra) : Ev S T (tOp (rIxT K) ta (tC (.int 1))) σ H (of (K := K) tInt S) (bd ra fun x => some (x.den : Int)) :=
  ev_ixT ha fun x H v ⟨p, e, h⟩ => ⟨p, _, _, e, h.sq, rfl, rfl⟩
/-! tests -/
theorem eb_test {r : Option Bool} (h : Ev S T te σ H (of (K := K) tBool S) r) : EvB S T (tTest te) σ H r := fun x ex H1 f d Q q => h x ex H1 f d _ fun v H2 s hv => ⟨x, hv, q H2 s⟩
theorem eb_B {r : Option Bool} (h : Ev S T te σ H (of (K := K) tBool S) r) : EvB S T (tB te) σ H r := fun x ex H1 f d Q q => h x ex H1 f d _ fun v H2 s hv => ⟨x, hv, q H2 s⟩
theorem eb_not {r : Option Bool} (h : EvB S T tt σ H r) : EvB S T (tNot tt) σ H (bd r fun x => some (!x)) := by
  intro z e H1 f1 d Q q
  obtain ⟨x, ex, e⟩ := bd_some e
  cases e
  exact h x ex H1 f1 d _ fun H2 s => q H2 s
theorem eb_and {r u : Option Bool} (h : EvB S T tt σ H r) (h' : EvB S T tu σ H u) : EvB S T (tAnd tt tu) σ H (bd r fun x => if x then u else some false) := by
  intro z e H1 f1 d Q q
  obtain ⟨x, ex, e⟩ := bd_some e
  refine h x ex H1 f1 d _ fun H2 s => ?_
  cases x with
  | true => exact (if_pos rfl).symm ▸ h' z e H2 (f1.trans (Fr.same s)) (d.same s) Q fun H3 s3 => q H3 (s.trans s3)
  | false => cases e; exact q H2 s
theorem eb_or {r u : Option Bool} (h : EvB S T tt σ H r) (h' : EvB S T tu σ H u) : EvB S T (tOr tt tu) σ H (bd r fun x => if x then some true else u) := by
  intro z e H1 f1 d Q q
  obtain ⟨x, ex, e⟩ := bd_some e
  refine h x ex H1 f1 d _ fun H2 s => ?_
  cases x with
  | false => exact h' z e H2 (f1.trans (Fr.same s)) (d.same s) Q fun H3 s3 => q H3 (s.trans s3)
  | true => cases e; exact q H2 s
theorem ev_if {R : Rl γ} {r : Option Bool} {ra rb : Option γ} (h : EvB S T tt σ H r) (ha : Ev S T ta σ H R ra) (hb : Ev S T tb σ H R rb) : Ev S T (tIf tt ta tb) σ H R (bd r fun x => if x then ra else rb) := by
  intro z e H1 f1 d Q q
  obtain ⟨x, ex, e⟩ := bd_some e
  refine h x ex H1 f1 d _ fun H2 s => ?_
  cases x with
  | true => exact ha z e H2 (f1.trans (Fr.same s)) (d.same s) Q fun v H3 s3 hv => q v H3 (s.trans s3) (R.same s hv)
  | false => exact hb z e H2 (f1.trans (Fr.same s)) (d.same s) Q fun v H3 s3 hv => q v H3 (s.trans s3) (R.same s hv)
theorem ev_and {r u : Option Bool} (h : Ev S T ta σ H (of (K := K) tBool S) r) (h' : Ev S T tb σ H (of (K := K) tBool S) u) : Ev S T (tAndV ta tb) σ H (of (K := K) tBool S) (bd r fun x => if x then u else some false) := by
  intro z e H1 f1 d Q q
  obtain ⟨x, ex, e⟩ := bd_some e
  refine h x ex H1 f1 d _ fun v H2 s hv => ⟨x, hv, ?_⟩
  cases x with
  | true => exact h' z e H2 (f1.trans (Fr.same s)) (d.same s) Q fun v H3 s3 hv => q v H3 (s.trans s3) hv
  | false => cases e; exact q _ H2 s rfl
theorem ev_or {r u : Option Bool} (h : Ev S T ta σ H (of (K := K) tBool S) r) (h' : Ev S T tb σ H (of (K := K) tBool S) u) : Ev S T (tOrV ta tb) σ H (of (K := K) tBool S) (bd r fun x => if x then some true else u) := by
  intro z e H1 f1 d Q q
  obtain ⟨x, ex, e⟩ := bd_some e
  refine h x ex H1 f1 d _ fun v H2 s hv => ⟨x, hv, ?_⟩
  cases x with
  | false => exact h' z e H2 (f1.trans (Fr.same s)) (d.same s) Q fun v H3 s3 hv => q v H3 (s.trans s3) hv
  | true => cases e; exact q _ H2 s rfl
theorem ev_not {r : Option Bool} (h : Ev S T ta σ H (of (K := K) tBool S) r) : Ev S T (tNotV ta) σ H (of (K := K) tBool S) (bd r fun x => some (!x)) := by
  intro z e H1 f1 d Q q
  obtain ⟨x, ex, e⟩ := bd_some e
  cases e
  exact h x ex H1 f1 d _ fun v H2 s hv => ⟨x, hv, q _ H2 s rfl⟩

/-! ### arguments and calls -/
structure TyA (K : PySem.W.Frag) (α : Type) where
  rp : AS → Hp → List V → α → Prop
  mono : ∀ {S H H' v x}, Fr S H H' → rp S H v x → rp S H' v x
def aNil : TyA K Unit := ⟨fun _ _ vs _ => vs = [], fun _ h => h⟩
def aCons (c : Ty K α) (t : TyA K β) : TyA K (α × β) := ⟨fun S H vs x => ∃ v r, vs = v :: r ∧ c.rp S H v x.1 ∧ t.rp S H r x.2, fun f ⟨v, r, e, h, h'⟩ => ⟨v, r, e, c.mono f h, t.mono f h'⟩⟩
def EvA (S T : AS) (ta : TA) (σ : St) (H : Hp) (t : TyA K α) (r : Option α) : Prop :=
  ∀ x, r = some x → ∀ H1, Fr T H H1 → Dom S H1 → ∀ Q : List V → Hp → Prop, (∀ vs H2, Same H1 H2 → t.rp S H2 vs x → Q vs H2) → ta σ H1 Q
theorem ea_nil : EvA S T tNil σ H (K := K) aNil (some ()) := fun _ e H1 f d Q q => q [] H1 (Same.refl _) rfl
theorem ea_cons {tr : TA} {t : TyA K β} {ra : Option α} {rr : Option β} (h : Ev S T ta σ H (of a S) ra) (hr : EvA S T tr σ H t rr) : EvA S T (tCons ta tr) σ H (aCons a t) (bd ra fun x => bd rr fun y => some (x, y)) := by
  intro z e H1 f1 d Q q
  obtain ⟨x, ex, e⟩ := bd_some e
  obtain ⟨y, ey, e⟩ := bd_some e
  cases e
  exact h x ex H1 f1 d _ fun v H2 s2 hv => hr y ey H2 (f1.trans (Fr.same s2)) (d.same s2) _ fun vs H3 s3 hw => q _ H3 (s2.trans s3) ⟨v, vs, rfl, a.mono (Fr.same s3) hv, hw⟩
/-- the promise of a def that changes nothing -/
def spF (t : TyA K α) (R : AS → Rl γ) (f : α → Option γ) : Sp := fun vs H Q _ => ∃ S x z, Dom S H ∧ t.rp S H vs x ∧ f x = some z ∧ ∀ u H', Same H H' → (R S).r H H' u z → Q u H'
theorem ev_call {ta : TA} {t : TyA K α} {R : AS → Rl γ} {f : α → Option γ} {r : Option α} {E : XK} (h : EvA S T ta σ H t r) : Ev S T (tCall (spF t R f) [] E ta) σ H (R S) (bd r f) := by
  intro z e H1 f1 d Q q
  obtain ⟨x, ex, e⟩ := bd_some e
  refine h x ex H1 f1 d _ fun vs H2 s2 hv => ⟨S, x, z, d.same s2, ?_, e, fun u H' s hu => q u H' (s2.trans s) ((R S).same s2 hu)⟩
  rw [List.append_nil]
  exact hv
/-! displays -/
theorem ev_tup2 {ra : Option α} {rb : Option β} (ha : Ev S T ta σ H (of a S) ra) (hb : Ev S T tb σ H (of b S) rb) : Ev S T (tTup (tCons ta (tCons tb tNil))) σ H (of (tT2 a b) S) (bd ra fun x => bd rb fun y => some (x, y)) := by
  intro z e H1 f1 d Q q
  obtain ⟨x, ex, e⟩ := bd_some e
  obtain ⟨y, ey, e⟩ := bd_some e
  cases e
  refine ha x ex H1 f1 d _ fun v H2 s2 hv => hb y ey H2 (f1.trans (Fr.same s2)) (d.same s2) _ fun w H3 s3 hw => ⟨(by show 2 ≤ sizeLine; decide), fun p hp => ?_⟩
  have s4 := same_new (o := .tup [v, w]) hp
  exact q _ _ (s2.trans (s3.trans s4)) ⟨p, v, w, rfl, .inl ⟨.inl upd_same, ((d.same s2).same s3).not_mem hp⟩, a.mono (Fr.same (s3.trans s4)) hv, b.mono (Fr.same s4) hw⟩
end
end M

namespace M
open PySem L2
section
variable {K : PySem.W.Frag} {α β γ δ ε ρ : Type} {S T : AS} {σ : St} {H : Hp} {ta tb te : TE} {tt tu : TT} {a : Ty K α} {b : Ty K β} {c : Ty K γ} {D : Ends} {u t1 t2 : TS}
theorem if_t {A B : Option α} {y : α} (h : (if true = true then A else B) = some y) : A = some y := h
theorem if_f {A B : Option α} {y : α} (h : (if false = true then A else B) = some y) : B = some y := h
theorem q_asg {R : Rl α} {r : Option α} {x : α} {i : Nat} (d : Dom S H) (h : Ev S T te σ H R r) (e : r = some x) (k : ∀ v H1, Same H H1 → R.r H H1 v x → u D (σ.set i (some v)) H1) : tSeq (tAsg te (gName i)) u D σ H := h x e H (Fr.refl _) d _ k
theorem l_asg {R : Rl α} {r : Option α} {x : α} {i : Nat} (d : Dom S H) (h : Ev S T te σ H R r) (e : r = some x) (k : ∀ v H1, Same H H1 → R.r H H1 v x → D.nx (σ.set i (some v)) H1) : tAsg te (gName i) D σ H := h x e H (Fr.refl _) d _ k
theorem q_ret {R : Rl α} {r : Option α} {x : α} (d : Dom S H) (h : Ev S T te σ H R r) (e : r = some x) (k : ∀ v H1, Same H H1 → R.r H H1 v x → D.rt v H1) : tRet te D σ H := h x e H (Fr.refl _) d _ k
theorem l_if {r : Option Bool} {b : Bool} (d : Dom S H) (h : EvB S T tt σ H r) (e : r = some b) (k1 : b = true → ∀ H1, Same H H1 → t1 D σ H1) (k2 : b = false → ∀ H1, Same H H1 → t2 D σ H1) : tIfS tt t1 t2 D σ H := h b e H (Fr.refl _) d _ fun H1 s => by
  cases b with
  | true => exact k1 rfl H1 s
  | false => exact k2 rfl H1 s
theorem q_if {r : Option Bool} {b : Bool} (d : Dom S H) (h : EvB S T tt σ H r) (e : r = some b) (k1 : b = true → ∀ H1, Same H H1 → t1 { D with nx := u D } σ H1) (k2 : b = false → ∀ H1, Same H H1 → t2 { D with nx := u D } σ H1) : tSeq (tIfS tt t1 t2) u D σ H := l_if (D := { D with nx := u D }) d h e k1 k2
theorem q_next {u : TS} {D : Ends} {σ : St} {H : Hp} (h : u D σ H) : tNext { D with nx := u D } σ H := h
theorem l_next (h : D.nx σ H) : tNext D σ H := h
theorem seq_by {t u : TS} (Pv : St → Hp → Prop) (h2 : ∀ σ H, Pv σ H → u D σ H) (h1 : (∀ σ H, Pv σ H → u D σ H) → t { D with nx := u D } σ H) : tSeq t u D σ H := h1 h2
/-- two names at once: a, b = e, f -/
theorem q_par {i j : Nat} {ra : Option α} {rb : Option β} {x : α} {y : β} (d : Dom S H) (ha : Ev S T ta σ H (of a S) ra) (ea : ra = some x) (hb : Ev S T tb σ H (of b S) rb) (eb : rb = some y) (k : ∀ v w H1, Same H H1 → a.rp S H1 v x → b.rp S H1 w y → u D ((σ.set i (some v)).set j (some w)) H1) :
    tSeq (tPar i j (tCons ta (tCons tb tNil))) u D σ H := ha x ea H (Fr.refl _) d _ fun v H1 s1 hv => hb y eb H1 (Fr.same s1) (d.same s1) _ fun w H2 s2 hw => ⟨v, w, rfl, k v w H2 (s1.trans s2) (a.mono (Fr.same s2) hv) hw⟩

theorem q_par2 {i j : Nat} {ra : Option α} {rb : Option β} {x : α} {y : β} (d : Dom S H) (ha : Ev S T ta σ H (of a S) ra) (ea : ra = some x) (hb : Ev S T tb σ H (of b S) rb) (eb : rb = some y) (k : ∀ v w H1, Same H H1 → a.rp S H1 v x → b.rp S H1 w y → u D ((σ.set i (some v)).set j (some w)) H1) :
    tSeq (tAsg (tTup (tCons ta (tCons tb tNil))) (gTup K 2 (gCons (gName i) (gCons (gName j) gNil)))) u D σ H := ha x ea H (Fr.refl _) d _ fun v H1 s1 hv => hb y eb H1 (Fr.same s1) (d.same s1) _ fun w H2 s2 hw => ⟨(by show 2 ≤ sizeLine; decide), fun p hp =>
  ⟨p, _, rfl, .inl (.inl upd_same), rfl, v, _, rfl, w, _, rfl, rfl, k v w _ ((s1.trans s2).trans (same_new hp)) (a.mono (Fr.same (s2.trans (same_new hp))) hv) (b.mono (Fr.same (same_new hp)) hw)⟩⟩
/-! ### loops -/
/-- one turn's end: go on, or tell y -/
inductive Ct (ρ σ : Type) where
  | go (s : σ) | ret (y : ρ) | brk (s : σ)
def loopC (f : δ → α → Option (Ct ρ δ)) : List α → δ → Option (Ct ρ δ)
  | [], s => some (.go s)
  | x :: xs, s => (f s x).bind fun r => match r with | .go s' => loopC f xs s' | .ret y => some (.ret y) | .brk s' => some (.go s')
def rngL (lo : Int) (n : Nat) : List Int := (List.range n).map fun (i : Nat) => lo + (i : Int)
def rngP (i : Int) : Bool := Nat.ble i.natAbs 4611686018427387903
theorem rngP_le {i : Int} (h : rngP i = true) : -(2 ^ 62) ≤ i ∧ i < 2 ^ 62 := by
  have h2 : i.natAbs ≤ 4611686018427387903 := Nat.le_of_ble_eq_true h
  omega
def rng1? (n : Int) : Option (List Int) := if rngP n then some (rngL 0 n.toNat) else none
def rng2? (lo n : Int) : Option (List Int) := if rngP lo && rngP n then some (rngL lo (n - lo).toNat) else none
/-- what is walked: xs, by their values at the heap H0, while nothing of it changes -/
structure Wk (J : It) (a : Ty K α) (S : AS) (H0 : Hp) (xs : List α) : Prop where
  go : ∀ H' i, Fr S H0 H' → i < xs.length → J.go i H'
  yl : ∀ H' i v H'', Fr S H0 H' → J.yld i H' v H'' → ∀ y, xs[i]? = some y → H'' = H' ∧ a.rp S H0 v y
  st : ∀ H' i, Fr S H0 H' → xs.length ≤ i → J.stop i H'
def Sr (S T : AS) (wi : TI) (σ : St) (H : Hp) (a : Ty K α) (r : Option (List α)) : Prop :=
  ∀ xs, r = some xs → ∀ H1, Fr T H H1 → Dom S H1 → ∀ R : It → Hp → Prop, (∀ J H2, Same H1 H2 → Wk J a S H2 xs → R J H2) → wi σ H1 R
theorem wk_list {p : Addr} {vs : List V} {xs : List α} {S : AS} {H : Hp} (hp : nL K S H p vs) (ha : All2 (a.rp S H) vs xs) : Wk (Itl K p) a S H xs where
  go H' i f hi := by
    obtain ⟨v, hv, _⟩ := ha.get i (List.getElem?_eq_getElem hi)
    exact ⟨vs, v, (hp.mono f).sq, hv⟩
  yl H' i v H'' f h y hy := by
    obtain ⟨w, hw, hr⟩ := ha.get i hy
    obtain ⟨e, hx⟩ := h
    have := hx vs (hp.mono f).sq
    rw [hw] at this
    cases this
    exact ⟨e, hr⟩
  st H' i f hi := ⟨vs, (hp.mono f).sq, by rw [ha.len]; exact hi⟩
theorem wk_tup {p : Addr} {vs : List V} {xs : List α} {S : AS} {H : Hp} (hp : nT K S H p vs) (ha : All2 (a.rp S H) vs xs) : Wk (Itt K p) a S H xs where
  go H' i f hi := by
    obtain ⟨v, hv, _⟩ := ha.get i (List.getElem?_eq_getElem hi)
    exact ⟨vs, v, (hp.mono f).sq, hv⟩
  yl H' i v H'' f h y hy := by
    obtain ⟨w, hw, hr⟩ := ha.get i hy
    obtain ⟨e, hx⟩ := h
    have := hx vs (hp.mono f).sq
    rw [hw] at this
    cases this
    exact ⟨e, hr⟩
  st H' i f hi := ⟨vs, (hp.mono f).sq, by rw [ha.len]; exact hi⟩
theorem wk_rng {lo : Int} {n : Nat} {S : AS} {H : Hp} : Wk (Itr lo n) (tInt (K := K)) S H (rngL lo n) where
  go H' i f hi := by
    show i < n
    simpa [rngL] using hi
  yl H' i v H'' f h y hy := by
    obtain ⟨e, hx⟩ := h
    refine ⟨e, ?_⟩
    unfold rngL at hy
    rw [List.getElem?_map] at hy
    cases q : (List.range n)[i]? with
    | none => rw [q] at hy; cases hy
    | some k =>
      rw [q] at hy
      cases hy
      have : k = i := by
        have := (List.getElem?_eq_some_iff.mp q).2
        simp at this
        omega
      subst this
      exact hx
  st H' i f hi := by
    show n ≤ i
    simpa [rngL] using hi
theorem sr_list {tl : TE} {r : Option (List α)} (h : Ev S T tl σ H (of (tL a) S) r) : Sr S T (iList K tl) σ H a r := fun xs e H1 f d R q =>
  h xs e H1 f d _ fun v H2 s ⟨p, vs, ev, hp, ha⟩ => ⟨p, ev, ⟨vs, hp.sq⟩, q _ H2 s (wk_list hp ha)⟩
theorem sr_tup {tl : TE} {r : Option (List α)} (h : Ev S T tl σ H (of (tTs a) S) r) : Sr S T (iTup K tl) σ H a r := fun xs e H1 f d R q =>
  h xs e H1 f d _ fun v H2 s ⟨p, vs, ev, hp, ha⟩ => ⟨p, ev, ⟨vs, hp.sq⟩, q _ H2 s (wk_tup hp ha)⟩
theorem sr_t2 {tl : TE} {r : Option (α × α)} (h : Ev S T tl σ H (of (tT2 a a) S) r) : Sr S T (iTup K tl) σ H a (bd r fun x => some [x.1, x.2]) := fun xs e H1 f d R q => by
  obtain ⟨x, ex, e⟩ := bd_some e
  cases e
  exact h x ex H1 f d _ fun v H2 s ⟨p, u, w, ev, hp, h1, h2⟩ => ⟨p, ev, ⟨_, hp.sq⟩, q _ H2 s (wk_tup hp (.cons h1 (.cons h2 .nil)))⟩
theorem sr_r1 {te : TE} {r : Option Int} (h : Ev S T te σ H (of (K := K) tInt S) r) : Sr S T (iRng1 (tCons te tNil)) σ H (tInt (K := K)) (bd r rng1?) := fun xs e H1 f d R q => by
  obtain ⟨n, en, e⟩ := bd_some e
  unfold rng1? at e
  split at e
  · rename_i hn
    cases e
    have hb := rngP_le hn
    refine h n en H1 f d _ fun v H2 s hv => ?_
    cases hv
    exact ⟨n, rfl, hb.1, hb.2, q _ H2 s wk_rng⟩
  · cases e
theorem sr_r2 {te tg : TE} {r r' : Option Int} (h : Ev S T te σ H (of (K := K) tInt S) r) (h' : Ev S T tg σ H (of (K := K) tInt S) r') : Sr S T (iRng2 (tCons te (tCons tg tNil))) σ H (tInt (K := K)) (bd r fun x => bd r' fun y => rng2? x y) := fun xs e H1 f d R q => by
  obtain ⟨lo, el, e⟩ := bd_some e
  obtain ⟨n, en, e⟩ := bd_some e
  unfold rng2? at e
  split at e
  · rename_i hn
    cases e
    rw [Bool.and_eq_true] at hn
    have hb := rngP_le hn.1
    have hc := rngP_le hn.2
    refine h lo el H1 f d _ fun v H2 s hv => h' n en H2 (f.trans (Fr.same s)) (d.same s) _ fun v' H3 s3 hv' => ?_
    cases hv
    cases hv'
    exact ⟨lo, n, rfl, ⟨hb.1, hb.2, hc.1, hc.2⟩, q _ H3 (s.trans s3) wk_rng⟩
  · cases e
/-- a walk; I: what is known of the state at each turn -/
theorem for_s {wi : TI} {j : Nat} {tb : TS} {r : Option (List α)} {xs : List α} {s0 : δ} {f : δ → α → Option (Ct ρ δ)} {res : Ct ρ δ} (d : Dom S H) (h : Sr S T wi σ H a r) (e : r = some xs) (hf : loopC f xs s0 = some res)
    (I : δ → St → Hp → Prop) (h0 : ∀ H1, Same H H1 → I s0 σ H1)
    (step : (∀ s σ' H', res = .go s → I s σ' H' → D.nx σ' H') → ∀ (s : δ) (x : α) (cr : Ct ρ δ) (v : V) (σ' : St) (H' : Hp), I s σ' H' → a.rp S H' v x → x ∈ xs → f s x = some cr → (∀ y, cr = .ret y → res = .ret y) → (∀ s', cr = .brk s' → res = .go s') →
      tb { D with nx := fun σ2 H2 => ∃ s', cr = .go s' ∧ Fr S H' H2 ∧ I s' σ2 H2, ct := fun σ2 H2 => ∃ s', cr = .go s' ∧ Fr S H' H2 ∧ I s' σ2 H2, bk := D.nx } (σ'.set j (some v)) H')
    (done : ∀ s σ' H', res = .go s → I s σ' H' → D.nx σ' H') : tFor wi (gName j) tb D σ H := by
  refine h xs e H (Fr.refl _) d _ fun J H1 s1 wk => ?_
  refine ⟨fun i m σ' H' => m = xs.length - i ∧ i ≤ xs.length ∧ Fr S H1 H' ∧ ∃ s, I s σ' H' ∧ loopC f (xs.drop i) s = some res, ⟨_, rfl, Nat.zero_le _, Fr.refl _, s0, h0 H1 s1, hf⟩, ?_⟩
  rintro i m σ' H' ⟨rfl, hi, fr, s, hI, hl⟩
  by_cases c : i < xs.length
  · right
    rw [List.drop_eq_getElem_cons c] at hl
    simp only [loopC] at hl
    cases q : f s xs[i] with
    | none => rw [q] at hl; cases hl
    | some cr =>
      rw [q] at hl
      refine ⟨wk.go H' i fr c, fun σ2 H2 => ∃ s', cr = .go s' ∧ Fr S H' H2 ∧ I s' σ2 H2, ?_, ?_⟩
      · rintro σ2 H2 ⟨s', rfl, f2, hI'⟩
        exact ⟨xs.length - (i + 1), by omega, rfl, by omega, fr.trans f2, s', hI', hl⟩
      · intro v H2 hy
        obtain ⟨rfl, hv⟩ := wk.yl H' i v H2 fr hy _ (List.getElem?_eq_getElem c)
        exact step done s xs[i] cr v σ' _ hI (a.mono fr hv) (List.getElem_mem c) q (fun y ey => by subst ey; cases hl; rfl) (fun s' ey => by subst ey; cases hl; rfl)
  · left
    refine ⟨wk.st H' i fr (by omega), ?_⟩
    rw [List.drop_eq_nil_of_le (by omega)] at hl
    cases hl
    exact done s σ' H' rfl hI
theorem q_for_s {wi : TI} {j : Nat} {tb : TS} {r : Option (List α)} {xs : List α} {s0 : δ} {f : δ → α → Option (Ct ρ δ)} {res : Ct ρ δ} (d : Dom S H) (h : Sr S T wi σ H a r) (e : r = some xs) (hf : loopC f xs s0 = some res)
    (I : δ → St → Hp → Prop) (h0 : ∀ H1, Same H H1 → I s0 σ H1)
    (step : (∀ s σ' H', res = .go s → I s σ' H' → u D σ' H') → ∀ (s : δ) (x : α) (cr : Ct ρ δ) (v : V) (σ' : St) (H' : Hp), I s σ' H' → a.rp S H' v x → x ∈ xs → f s x = some cr → (∀ y, cr = .ret y → res = .ret y) → (∀ s', cr = .brk s' → res = .go s') →
      tb { D with nx := fun σ2 H2 => ∃ s', cr = .go s' ∧ Fr S H' H2 ∧ I s' σ2 H2, ct := fun σ2 H2 => ∃ s', cr = .go s' ∧ Fr S H' H2 ∧ I s' σ2 H2, bk := u D } (σ'.set j (some v)) H')
    (done : ∀ s σ' H', res = .go s → I s σ' H' → u D σ' H') : tSeq (tFor wi (gName j) tb) u D σ H := for_s (D := { D with nx := u D }) d h e hf I h0 step done
/-! slices of lists -/
def cutD (xs : List α) (lo hi : Option Int) : List α := (xs.drop (HT.sIx xs.length 0 lo)).take (HT.sIx xs.length xs.length hi - HT.sIx xs.length 0 lo)
theorem All2.cut {F : V → α → Prop} {vs : List V} {xs : List α} (h : All2 F vs xs) (lo hi : Option Int) : All2 F (cutV vs lo hi) (cutD xs lo hi) := by
  unfold cutV cutD
  rw [h.len]
  exact (h.drop _).take _
def EvO (S T : AS) (to : TO) (σ : St) (H : Hp) (r : Option (Option Int)) : Prop :=
  ∀ x, r = some x → ∀ H1, Fr T H H1 → Dom S H1 → ∀ Q : Option Int → Hp → Prop, (∀ H2, Same H1 H2 → Q x H2) → to σ H1 Q
theorem eo_none : EvO S T tNoPart σ H (some none) := fun x e H1 f d Q q => by cases e; exact q H1 (Same.refl _)
theorem eo_some {r : Option Int} (h : Ev S T te σ H (of (K := K) tInt S) r) : EvO S T (tPart te) σ H (bd r fun i => some (some i)) := fun x e H1 f d Q q => by
  obtain ⟨i, ei, e⟩ := bd_some e
  cases e
  exact h i ei H1 f d _ fun v H2 s hv => ⟨i, hv, q H2 s⟩
theorem ev_slL {tl th : TO} {ra : Option (List α)} {rl rh : Option (Option Int)} (ha : Ev S T ta σ H (of (tL a) S) ra) (hl : EvO S T tl σ H rl) (hh : EvO S T th σ H rh) :
    Ev S T (tSl (rSlL K) ta tl th) σ H (nw a S) (bd ra fun xs => bd rl fun l => bd rh fun h => some (cutD xs l h)) := by
  intro z e H1 f1 d Q q
  obtain ⟨xs, ex, e⟩ := bd_some e
  obtain ⟨l, el, e⟩ := bd_some e
  obtain ⟨h, eh, e⟩ := bd_some e
  cases e
  refine ha xs ex H1 f1 d _ fun v H2 s2 hv => hl l el H2 (f1.trans (Fr.same s2)) (d.same s2) _ fun H3 s3 => hh h eh H3 (f1.trans (Fr.same (s2.trans s3))) (d.same (s2.trans s3)) _ fun H4 s4 => ?_
  obtain ⟨p, vs, rfl, hp, hvs⟩ := (tL a).mono (Fr.same (s3.trans s4)) hv
  refine ⟨p, vs, rfl, hp.sq, fun p' hp' => q _ _ ((s2.trans (s3.trans s4)).trans (same_new hp')) ⟨p', rfl, (s2.trans (s3.trans s4)).free hp', _, upd_same, ?_⟩⟩
  exact (hvs.cut l h).imp fun _ _ hh => a.mono (Fr.same (same_new hp')) (a.ext hp' hh)
end
end M

namespace M
open PySem L2
section
variable {K : PySem.W.Frag} {α β γ δ ε ρ : Type} {S T : AS} {σ : St} {H : Hp} {ta tb te : TE} {tt tu : TT} {a : Ty K α} {b : Ty K β} {c : Ty K γ} {D : Ends} {u t1 t2 : TS}
/-! ### ratios -/
/-- a pair of numbers as a ratio -/
def p2r (x : Int × Int) : Option Rat := if (mkRat x.1 x.2.toNat).num = x.1 ∧ ((mkRat x.1 x.2.toNat).den : Int) = x.2 then some (mkRat x.1 x.2.toNat) else none
theorem p2r_rat (q : Rat) : p2r (q.num, (q.den : Int)) = some q := by
  unfold p2r
  simp only [Int.toNat_natCast, Rat.mkRat_self, and_self, if_true]
theorem ev_p2r {r : Option (Int × Int)} (h : Ev S T te σ H (of (K := K) (tT2 tInt tInt) S) r) : Ev S T te σ H (of (K := K) tRat S) (bd r p2r) := ev_as h fun x y e H1 H2 v d ⟨p, u, w, ev, hp, h1, h2⟩ => by
  unfold p2r at e
  split at e
  · rename_i hc
    cases e
    refine ⟨p, ev, ?_⟩
    rw [hc.1, hc.2, ← h1, ← h2]
    exact hp
  · cases e
/-- a ratio as a pair of numbers -/
theorem ev_r2p {r : Option Rat} (h : Ev S T te σ H (of (K := K) tRat S) r) : Ev S T te σ H (of (K := K) (tT2 tInt tInt) S) (bd r fun q => some (q.num, (q.den : Int))) := ev_as h fun x y e H1 H2 v d ⟨p, ev, hp⟩ => by
  cases e
  exact ⟨p, _, _, ev, hp, rfl, rfl⟩
/-! ints -/
theorem ev_neg {r : Option Int} (h : Ev S T te σ H (of (K := K) tInt S) r) : Ev S T (tUn (rU fun i => .int (-i)) te) σ H (of (K := K) tInt S) (bd r fun x => some (-x)) := by
  intro z e H1 f1 d Q q
  obtain ⟨x, ex, e⟩ := bd_some e
  cases e
  exact h x ex H1 f1 d _ fun v H2 s hv => ⟨x, hv, q _ H2 s rfl⟩
theorem ev_abs {r : Option Int} (h : Ev S T te σ H (of (K := K) tInt S) r) : Ev S T (tCB (fun xs H Q => ∃ i, xs = [.int i] ∧ Q (.int (if i < 0 then -i else i)) H) (tCons te tNil)) σ H (of (K := K) tInt S) (bd r fun x => some ((x.natAbs : Nat) : Int)) := by
  intro z e H1 f1 d Q q
  obtain ⟨x, ex, e⟩ := bd_some e
  cases e
  refine h x ex H1 f1 d _ fun v H2 s hv => ?_
  cases hv
  exact ⟨x, rfl, q _ H2 s (by show V.int _ = V.int _; congr 1; split <;> omega)⟩
def fdivP (j : Int) : Bool := decide (j ≠ 0 ∧ j.natAbs.log2 < 9000)
def fdiv? (i j : Int) : Option Int := if fdivP j then some (i.fdiv j) else none
/-! len -/
theorem ev_lenL {r : Option (List α)} (h : Ev S T te σ H (of (tL a) S) r) : Ev S T (tCB (fun xs H Q => ∃ p ys, xs = [.ref p] ∧ (SqL K H p ys ∨ SqT K H p ys) ∧ Q (.int ys.length) H) (tCons te tNil)) σ H (of (K := K) tInt S) (bd r fun x => some (x.length : Int)) := by
  intro z e H1 f1 d Q q
  obtain ⟨x, ex, e⟩ := bd_some e
  cases e
  refine h x ex H1 f1 d _ fun v H2 s hv => ?_
  obtain ⟨p, vs, rfl, hp, ha⟩ := hv
  exact ⟨p, vs, rfl, .inl hp.sq, q _ H2 s (by show V.int _ = V.int _; rw [ha.len])⟩
theorem ev_lenTs {r : Option (List α)} (h : Ev S T te σ H (of (tTs a) S) r) : Ev S T (tCB (fun xs H Q => ∃ p ys, xs = [.ref p] ∧ (SqL K H p ys ∨ SqT K H p ys) ∧ Q (.int ys.length) H) (tCons te tNil)) σ H (of (K := K) tInt S) (bd r fun x => some (x.length : Int)) := by
  intro z e H1 f1 d Q q
  obtain ⟨x, ex, e⟩ := bd_some e
  cases e
  refine h x ex H1 f1 d _ fun v H2 s hv => ?_
  obtain ⟨p, vs, rfl, hp, ha⟩ := hv
  exact ⟨p, vs, rfl, .inr hp.sq, q _ H2 s (by show V.int _ = V.int _; rw [ha.len])⟩
/-! == of things by what they stand for -/
structure TyD (a : Ty K α) where
  dt : α → PyData
  dep : Nat
  dp : ∀ {S H v x}, a.rp S H v x → Dp K H v (dt x)
  shp : ∀ {S H v x}, a.rp S H v x → PyData.canLay0 (dt x) = true
  hd : ∀ x, PyData.depth (dt x) ≤ dep
  eqv : ∀ x y, PyData.eqv (dt x) (dt y) = true ↔ x = y
def dInt : TyD (K := K) tInt := ⟨.int, 0, fun h => by cases h; exact .int _, fun _ => rfl, fun _ => Nat.le_refl _, fun x y => by simp [PyData.eqv]⟩
def dBool : TyD (K := K) tBool := ⟨.bool, 0, fun h => by cases h; exact .bl _, fun _ => rfl, fun _ => Nat.le_refl _, fun x y => by simp [PyData.eqv]⟩
def dStr : TyD (K := K) tStr := ⟨.str, 0, fun h => by rw [h.1]; exact .str _, fun h => h.2, fun _ => Nat.le_refl _, fun x y => by simp [PyData.eqv]⟩
def dNone : TyD (K := K) tNone := ⟨fun _ => .none, 0, fun h => by cases h; exact .non, fun _ => rfl, fun _ => Nat.le_refl _, fun x y => by simp [PyData.eqv]⟩
theorem dpAll {a : Ty K α} (d : TyD a) {S : AS} {H : Hp} : ∀ {vs : List V} {xs : List α}, All2 (a.rp S H) vs xs → DpAll K H vs (xs.map d.dt)
  | _, _, .nil => .nil
  | _, _, .cons h r => .cons (d.dp h) (dpAll d r)
theorem shpAll {a : Ty K α} (d : TyD a) {S : AS} {H : Hp} : ∀ {vs : List V} {xs : List α}, All2 (a.rp S H) vs xs → PyData.canLayAll0 (xs.map d.dt) = true
  | _, _, .nil => rfl
  | _, x :: r, .cons h q => by
    show (PyData.canLay0 (d.dt x) && PyData.canLayAll0 (r.map d.dt)) = true
    rw [d.shp h, shpAll d q]
    rfl
theorem depAll {a : Ty K α} (d : TyD a) : ∀ xs : List α, PyData.depthAll (xs.map d.dt) ≤ d.dep
  | [] => Nat.zero_le _
  | x :: r => by
    show max (PyData.depth (d.dt x)) (PyData.depthAll (r.map d.dt)) ≤ d.dep
    exact Nat.max_le.mpr ⟨d.hd x, depAll d r⟩
theorem eqvAll {a : Ty K α} (d : TyD a) : ∀ xs ys : List α, PyData.eqvAll (xs.map d.dt) (ys.map d.dt) = true ↔ xs = ys
  | [], [] => by simp [PyData.eqvAll]
  | x :: r, [] => by simp [PyData.eqvAll]
  | [], y :: r => by simp [PyData.eqvAll]
  | x :: r, y :: q => by
    show (PyData.eqv (d.dt x) (d.dt y) && PyData.eqvAll (r.map d.dt) (q.map d.dt)) = true ↔ _
    rw [Bool.and_eq_true, d.eqv, eqvAll d r q]
    simp
def dL {a : Ty K α} (d : TyD a) : TyD (tL a) := ⟨fun xs => .list (xs.map d.dt), d.dep + 1, fun ⟨p, vs, e, hp, h⟩ => by subst e; exact .lst hp.sq (dpAll d h), fun ⟨p, vs, e, hp, h⟩ => shpAll d h, fun x => Nat.succ_le_succ (depAll d x), fun x y => eqvAll d x y⟩
def dTs {a : Ty K α} (d : TyD a) : TyD (tTs a) := ⟨fun xs => .tuple (xs.map d.dt), d.dep + 1, fun ⟨p, vs, e, hp, h⟩ => by subst e; exact .tup hp.sq (dpAll d h), fun ⟨p, vs, e, hp, h⟩ => shpAll d h, fun x => Nat.succ_le_succ (depAll d x), fun x y => eqvAll d x y⟩
def dT2 {a : Ty K α} {b : Ty K β} (d : TyD a) (e : TyD b) : TyD (tT2 a b) := ⟨fun x => .tuple [d.dt x.1, e.dt x.2], max d.dep e.dep + 1, fun ⟨p, u, w, z, hp, h1, h2⟩ => by subst z; exact .tup hp.sq (.cons (d.dp h1) (.cons (e.dp h2) .nil)),
  fun {S H v x} ⟨p, u, w, z, hp, h1, h2⟩ => by
    show (PyData.canLay0 (d.dt x.1) && (PyData.canLay0 (e.dt x.2) && true)) = true
    rw [d.shp h1, e.shp h2]
    rfl,
  fun x => by
    show max (PyData.depth (d.dt x.1)) (max (PyData.depth (e.dt x.2)) 0) + 1 ≤ _
    have h1 := d.hd x.1
    have h2 := e.hd x.2
    omega,
  fun x y => by
    show (PyData.eqv (d.dt x.1) (d.dt y.1) && (PyData.eqv (e.dt x.2) (e.dt y.2) && true)) = true ↔ _
    rw [Bool.and_true, Bool.and_eq_true, d.eqv, e.eqv]
    exact ⟨fun h => Prod.ext h.1 h.2, fun h => by subst h; exact ⟨rfl, rfl⟩⟩⟩
def dRat : TyD (K := K) tRat := ⟨fun q => .tuple [.int q.num, .int (q.den : Int)], 1, fun ⟨p, z, hp⟩ => by subst z; exact .tup hp.sq (.cons (.int _) (.cons (.int _) .nil)),
  fun _ => rfl, fun x => by show max 0 (max 0 0) + 1 ≤ 1; decide,
  fun x y => by
    show ((x.num == y.num) && (((x.den : Int) == (y.den : Int)) && true)) = true ↔ _
    rw [Bool.and_true, Bool.and_eq_true, beq_iff_eq, beq_iff_eq]
    exact ⟨fun h => Rat.ext h.1 (by omega), fun h => by subst h; exact ⟨rfl, rfl⟩⟩⟩
abbrev dSpot : TyD (K := K) tSpot := dT2 dRat dRat
theorem TyD.shaped {a : Ty K α} (d : TyD a) (h : d.dep ≤ 64) {S : AS} {H : Hp} {v : V} {x : α} (r : a.rp S H v x) : SeqAt.shaped (d.dt x) = true := by
  unfold SeqAt.shaped
  rw [d.shp r, Bool.true_and]
  exact decide_eq_true (Nat.le_trans (d.hd x) h)
theorem TyD.dec {a : Ty K α} [DecidableEq α] (d : TyD a) (x y : α) : PyData.eqv (d.dt x) (d.dt y) = decide (x = y) := by
  by_cases h : x = y
  · rw [(d.eqv x y).mpr h, decide_eq_true h]
  · rw [decide_eq_false h]
    cases q : PyData.eqv (d.dt x) (d.dt y) with
    | false => rfl
    | true => exact absurd ((d.eqv x y).mp q) h
theorem od_eqD {a : Ty K α} [DecidableEq α] (d : TyD a) (hd : d.dep ≤ 64) : OpD a a S (of (K := K) tBool S) (rEqD K) (fun x y => some (decide (x = y))) := by
  intro x y z e H1 v w dm hv hw Q q
  cases e
  refine ⟨_, _, d.dp hv, d.dp hw, d.shaped hd hv, d.shaped hd hw, ?_⟩
  rw [d.dec]
  exact q _ H1 (Same.refl _) rfl
theorem od_neD {a : Ty K α} [DecidableEq α] (d : TyD a) (hd : d.dep ≤ 64) : OpD a a S (of (K := K) tBool S) (rNeD K) (fun x y => some (!decide (x = y))) := by
  intro x y z e H1 v w dm hv hw Q q
  cases e
  refine ⟨_, _, d.dp hv, d.dp hw, d.shaped hd hv, d.shaped hd hw, ?_⟩
  rw [d.dec]
  exact q _ H1 (Same.refl _) rfl
end
end M

namespace G
open PySem L2
theorem gcd_fmod (a b : Int) : Int.gcd b (a.fmod b) = Int.gcd a b := by
  rw [Int.fmod_def, Int.sub_eq_add_neg, ← Int.mul_neg]
  rw [Int.gcd_add_mul_left_right]
  exact Int.gcd_comm b a
theorem fmod_abs_lt (a : Int) {b : Int} (h : b ≠ 0) : (a.fmod b).natAbs < b.natAbs := by
  rcases Int.lt_or_gt_of_ne h with h | h
  · have e : a.fmod b = -((-a).fmod (-b)) := by
      rw [Int.neg_fmod_neg]; omega
    have h1 := Int.fmod_nonneg_of_pos (-a) (show 0 < -b by omega)
    have h2 := Int.fmod_lt_of_pos (-a) (show 0 < -b by omega)
    omega
  · have h1 := Int.fmod_nonneg_of_pos a h
    have h2 := Int.fmod_lt_of_pos a h
    omega
theorem abs_if (x : Int) : (if x < 0 then -x else x) = ((x.natAbs : Nat) : Int) := by split <;> omega
def cOf (o u : Int) : Int := if u < 0 then -((Int.gcd o u : Nat) : Int) else ((Int.gcd o u : Nat) : Int)
def rN (o u : Int) : Int := o.fdiv (cOf o u)
def rD (o u : Int) : Int := u.fdiv (cOf o u)
def CDivZ (_ j : Int) : Prop := j ≠ 0 ∧ j.natAbs.log2 < 9000
theorem op_fdivZ {X : Cx} : OpR X (binaryOp .FloorDiv) (rI CDivZ fun i j => .int (i.fdiv j)) := opI fun _ _ _ _ _ _ _ hc q => PyProof.Rows.floordiv_int hc.1 q (.inl (PyProof.noPylong_of_log2 hc.2))
theorem cOf_ok {o u : Int} (h : u ≠ 0) (hb : u.natAbs < 2 ^ 9000) (x : Int) : CDivZ x (cOf o u) := by
  have g : 0 < Int.gcd o u := Int.gcd_pos_of_ne_zero_right o h
  have l : Int.gcd o u ≤ u.natAbs := Nat.le_of_dvd (by omega) (Int.gcd_dvd_natAbs_right o u)
  have n : (cOf o u).natAbs = Int.gcd o u := by
    unfold cOf
    split <;> omega
  refine ⟨fun z => ?_, ?_⟩
  · rw [z] at n
    simp at n
    omega
  · rw [n]
    exact PySem.Flt.log2_lt_of (by decide) (Nat.lt_of_le_of_lt l hb)
theorem pow9000 {n : Nat} (h : n < 2 ^ 200) : n < 2 ^ 9000 := Nat.lt_of_lt_of_le h (Nat.pow_le_pow_right (by decide) (by decide))
theorem small_le {n : Nat} (h : n ≤ 1000) : n ≤ sizeLine := Nat.le_of_lt (small1000 h)
theorem two {a b : V} : [a, b].length ≤ sizeLine := by
  show 2 ≤ sizeLine
  decide
theorem cOf_dl (o u : Int) : cOf o u ∣ o := by
  unfold cOf
  split
  · exact Int.neg_dvd.mpr (Int.gcd_dvd_left o u)
  · exact Int.gcd_dvd_left o u
theorem cOf_dr (o u : Int) : cOf o u ∣ u := by
  unfold cOf
  split
  · exact Int.neg_dvd.mpr (Int.gcd_dvd_right o u)
  · exact Int.gcd_dvd_right o u
theorem cOf_ne {o u : Int} (h : u ≠ 0) : cOf o u ≠ 0 := by
  have g : 0 < Int.gcd o u := Int.gcd_pos_of_ne_zero_right o h
  unfold cOf
  split <;> omega
theorem rN_eq (o u : Int) : cOf o u * rN o u = o := Int.mul_fdiv_cancel' (cOf_dl o u)
theorem rD_eq (o u : Int) : cOf o u * rD o u = u := Int.mul_fdiv_cancel' (cOf_dr o u)
theorem rD_pos {o u : Int} (h : u ≠ 0) : 0 < rD o u := by
  have e := rD_eq o u
  have g : 0 < Int.gcd o u := Int.gcd_pos_of_ne_zero_right o h
  unfold cOf at e
  generalize rD o u = d at e
  split at e
  · rename_i hu
    rcases (show 0 < d ∨ d ≤ 0 by omega) with hd | hd
    · exact hd
    · have z : 0 ≤ -((Int.gcd o u : Nat) : Int) * d := Int.mul_nonneg_of_nonpos_of_nonpos (by omega) hd
      omega
  · rcases (show 0 < d ∨ d ≤ 0 by omega) with hd | hd
    · exact hd
    · have z : ((Int.gcd o u : Nat) : Int) * d ≤ 0 := Int.mul_nonpos_of_nonneg_of_nonpos (by omega) hd
      omega
theorem le_of_mul_eq {c k o : Int} (hc : c ≠ 0) (e : c * k = o) : k.natAbs ≤ o.natAbs := by
  rw [← e, Int.natAbs_mul]
  exact Nat.le_mul_of_pos_left _ (by omega)
theorem rN_le {o u : Int} (h : u ≠ 0) : (rN o u).natAbs ≤ o.natAbs := le_of_mul_eq (cOf_ne h) (rN_eq o u)
theorem rD_le {o u : Int} (h : u ≠ 0) : (rD o u).natAbs ≤ u.natAbs := le_of_mul_eq (cOf_ne h) (rD_eq o u)
theorem rDiv {o u : Int} (h : 0 < u) : (rN o u).fdiv (rD o u) = o.fdiv u := by
  have c0 : 0 < cOf o u := by
    have g : 0 < Int.gcd o u := Int.gcd_pos_of_ne_zero_right o (by omega)
    unfold cOf
    split <;> omega
  have e := Int.mul_fdiv_mul_of_pos (rN o u) (rD o u) c0
  rw [rN_eq, rD_eq] at e
  exact e.symm
structure Bag (H : Hp) (b c : Addr) : Prop where
  ne : b ≠ c
  at_ : ∃ (ns : List Int) (slot seed : Int), H b = some (.lst [.ref c, .int slot, .int seed]) ∧ H c = some (.lst (ns.map V.int)) ∧ ns.length ≤ 63 ∧ 0 ≤ slot ∧ 0 ≤ seed ∧ seed < 2147483647
/-- all but what stands at b and c stands -/
def Kept (b c : Addr) (H H' : Hp) : Prop := ∀ p o, H p = some o → p ≠ b → p ≠ c → H' p = some o
theorem Kept.refl {b c : Addr} {H : Hp} : Kept b c H H := fun _ _ e _ _ => e
theorem Kept.trans {b c : Addr} {H H' H'' : Hp} (h : Kept b c H H') (h' : Kept b c H' H'') : Kept b c H H'' := fun p o e n m => h' p o (h p o e n m) n m
theorem kept_same {b c : Addr} {H H' : Hp} (h : Same H H') : Kept b c H H' := fun p o e _ _ => h p o e
theorem same_upd {H : Hp} {p : Addr} {o : HO} (h : H p = none) : Same H (upd H p o) := fun b x e => by
  rw [upd_ne (ne_of_none e h)]
  exact e
theorem Kept.upd {b c p : Addr} {H H' : Hp} {o : HO} (h : Kept b c H H') (hp : H' p = none) : Kept b c H (upd H' p o) := h.trans (kept_same (same_upd hp))
theorem Bag.same {H H' : Hp} {b c : Addr} (h : Bag H b c) (s : Same H H') : Bag H' b c := by
  obtain ⟨ne, ns, sl, sd, h1, h2, r⟩ := h
  exact ⟨ne, ns, sl, sd, s _ _ h1, s _ _ h2, r⟩
theorem Bag.upd {b c p : Addr} {H : Hp} {o : HO} (h : Bag H b c) (hp : H p = none) : Bag (upd H p o) b c := h.same (same_upd hp)
theorem Bag.off {H : Hp} {b c p : Addr} (h : Bag H b c) (hp : H p = none) : p ≠ b ∧ p ≠ c := by
  obtain ⟨_, ns, sl, sd, h1, h2, _⟩ := h
  exact ⟨(ne_of_none h1 hp).symm, (ne_of_none h2 hp).symm⟩
/-- a thing that is no list of the bag's -/
theorem Bag.tup {H : Hp} {b c p : Addr} {xs : List V} (h : Bag H b c) (hp : H p = some (.tup xs)) : p ≠ b ∧ p ≠ c := by
  obtain ⟨_, ns, sl, sd, h1, h2, _⟩ := h
  exact ⟨ne_of hp h1 (by intro z; cases z), ne_of hp h2 (by intro z; cases z)⟩
theorem seq_by {t u : TS} {D : Ends} {σ : St} {H : Hp} (Pv : St → Hp → Prop) (h2 : ∀ σ H, Pv σ H → u D σ H) (h1 : (∀ σ H, Pv σ H → u D σ H) → t { D with nx := u D } σ H) : tSeq t u D σ H := h1 h2
theorem seq_c {u : TS} {i : Nat} {v : V} {D : Ends} {σ : St} {H : Hp} (h : u D (σ.set i (some v)) H) : tSeq (tAsg (tC v) (gName i)) u D σ H := h
theorem seq_asg {te : TE} {u : TS} {i : Nat} {D : Ends} {σ : St} {H : Hp} (h : te σ H fun x H1 => u D (σ.set i (some x)) H1) : tSeq (tAsg te (gName i)) u D σ H := h
theorem seq_sub {te ta ti : TE} {r : TSet} {u : TS} {D : Ends} {σ : St} {H : Hp} (h : te σ H fun x H1 => gSub ta ti r x σ H1 fun σ' H' => u D σ' H') : tSeq (tAsg te (gSub ta ti r)) u D σ H := h
theorem seq_drop {te : TE} {u : TS} {D : Ends} {σ : St} {H : Hp} (h : te σ H fun _ H1 => u D σ H1) : tSeq (tDrop te) u D σ H := h
theorem next_u {u : TS} {D : Ends} {σ : St} {H : Hp} (h : u D σ H) : tNext { D with nx := u D } σ H := h
theorem nx_u {u : TS} {D : Ends} {rt : VK} {bk ct : St → Hp → Prop} {σ : St} {H : Hp} (h : u D σ H) : Ends.nx { nx := u D, rt := rt, bk := bk, ct := ct } σ H := h
theorem yes_ {σ : St} {H : Hp} {A B : Hp → Prop} (h : A H) : tYes σ H (fun b H3 => if b = true then A H3 else B H3) := by
  show if true = true then A H else B H
  exact iteT h
theorem int_at {ns : List Int} {i : Int} (h0 : 0 ≤ i) (h : i < (ns.length : Int)) : ∃ v : Int, atI (ns.map V.int) i = some (.int v) := by
  have ek : i = ((i.toNat : Nat) : Int) := by omega
  have hk : i.toNat < ns.length := by omega
  rw [ek]
  exact ⟨ns[i.toNat], atI_nat (by rw [List.getElem?_map, List.getElem?_eq_getElem hk] <;> rfl)⟩
theorem ix_at {n : Nat} {i : Int} (h0 : 0 ≤ i) (h : i < (n : Int)) : ixN n i = some i.toNat := by
  unfold ixN
  rw [if_pos h0, if_pos h]
theorem set_ints (ns : List Int) (j : Nat) (v : Int) : (ns.map V.int).set j (.int v) = (ns.set j v).map V.int := by
  rw [List.map_set]
theorem at_mem {xs : List V} {r : Int} (h0 : 0 ≤ r) (h : r < (xs.length : Int)) : ∃ v, v ∈ xs ∧ atI xs r = some v := by
  have hk : r.toNat < xs.length := by omega
  have e := atI_nat (xs := xs) (j := r.toNat) (List.getElem?_eq_getElem hk)
  rw [show ((r.toNat : Nat) : Int) = r by omega] at e
  exact ⟨_, List.getElem_mem hk, e⟩
theorem cut_ints (ns : List Int) (lo hi : Option Int) : ∃ ms : List Int, cutV (ns.map V.int) lo hi = ms.map V.int ∧ ms.length ≤ ns.length := by
  refine ⟨(ns.drop (HT.sIx (ns.map V.int).length 0 lo)).take (HT.sIx (ns.map V.int).length (ns.map V.int).length hi - HT.sIx (ns.map V.int).length 0 lo), ?_, ?_⟩
  · unfold cutV
    rw [List.map_take, List.map_drop]
  · rw [List.length_take, List.length_drop]
    omega
theorem ne_true {u : Int} (z : (!decide (V.int u = V.int 0)) = true) : u ≠ 0 := fun e => by
  subst e
  exact absurd z (by decide)
theorem ne_false {u : Int} (z : ¬ (!decide (V.int u = V.int 0)) = true) : u = 0 := by
  by_cases e : u = 0
  · exact e
  · exact absurd (show (!decide (V.int u = V.int 0)) = true by rw [decide_eq_false (fun q => e (V.int.inj q))]; rfl) z
def leS (a b : Str) : Prop := a.cps.toList ≤ b.cps.toList
theorem leS_trans {a b c : Str} (h : leS a b) (h' : leS b c) : leS a c := List.le_trans h h'
theorem leS_anti {a b : Str} (h : leS a b) (h' : leS b a) : a = b := by
  have e : a.cps.toList = b.cps.toList := List.le_antisymm h h'
  cases a
  cases b
  exact congrArg Str.mk (Array.toList_inj.mp e)
theorem ris_all : ∀ (l : List Str) (p : Str), PyProof.Rows.risingS p l = true → (∀ x ∈ l, leS p x) ∧ l.Pairwise leS
  | [], _, _ => ⟨(fun _ h => nomatch h), .nil⟩
  | x :: r, p, h => by
    unfold PyProof.Rows.risingS at h
    rw [Bool.and_eq_true, Bool.not_eq_true'] at h
    rw [PyProof.Rows.ltCps_eq] at h
    have hx : leS p x := of_decide_eq_false h.1
    obtain ⟨i1, i2⟩ := ris_all r x h.2
    refine ⟨fun y hy => ?_, List.pairwise_cons.mpr ⟨i1, i2⟩⟩
    rcases List.mem_cons.mp hy with rfl | hy
    · exact hx
    · exact leS_trans hx (i1 y hy)
theorem srt_pw : ∀ {l : List Str}, PyProof.Rows.sortedS l = true → l.Pairwise leS
  | [], _ => .nil
  | x :: r, h => List.pairwise_cons.mpr (ris_all r x h)
theorem srt_same {a b : List Str} (hp : a.Perm b) (ha : PyProof.Rows.sortedS a = true) (hb : PyProof.Rows.sortedS b = true) : a = b :=
  hp.eq_of_pairwise (fun _ _ _ _ h1 h2 => leS_anti h1 h2) (srt_pw ha) (srt_pw hb)
theorem srtI_same {a b : List Int} (hp : a.Perm b) (ha : a.Pairwise (· ≤ ·)) (hb : b.Pairwise (· ≤ ·)) : a = b :=
  hp.eq_of_pairwise (fun _ _ _ _ h1 h2 => Int.le_antisymm h1 h2) ha hb
theorem lay_all : ∀ {ds : List PyData}, (∀ d ∈ ds, d.canLay0 = true) → PyData.canLayAll0 ds = true
  | [], _ => rfl
  | d :: r, h => by
    unfold PyData.canLayAll0
    rw [h d List.mem_cons_self, lay_all fun x hx => h x (List.mem_cons_of_mem _ hx)]
    rfl
theorem depth_all : ∀ {ds : List PyData} {n : Nat}, (∀ d ∈ ds, d.depth ≤ n) → PyData.depthAll ds ≤ n
  | [], _, _ => Nat.zero_le _
  | d :: r, n, h => by
    unfold PyData.depthAll
    exact Nat.max_le.mpr ⟨h d List.mem_cons_self, depth_all fun x hx => h x (List.mem_cons_of_mem _ hx)⟩

/-! ### ratios of the program are Lean's -/
theorem gcd_rND {o u : Int} (h : u ≠ 0) : Int.gcd (rN o u) (rD o u) = 1 := by
  have g : 0 < Int.gcd o u := Int.gcd_pos_of_ne_zero_right o h
  have e : Int.gcd o u = (cOf o u).natAbs * Int.gcd (rN o u) (rD o u) := by
    rw [← Int.gcd_mul_left, rN_eq, rD_eq]
  have n : (cOf o u).natAbs = Int.gcd o u := by
    unfold cOf
    split <;> omega
  rw [n] at e
  exact (Nat.eq_of_mul_eq_mul_left g (by rw [Nat.mul_one]; exact e)).symm
theorem rat_rND {o u : Int} (h : u ≠ 0) : (Rat.divInt o u).num = rN o u ∧ ((Rat.divInt o u).den : Int) = rD o u := by
  have p := rD_pos (o := o) h
  have c : Nat.Coprime (rN o u).natAbs (rD o u).toNat := by
    have := gcd_rND (o := o) h
    unfold Int.gcd at this
    rw [show (rD o u).natAbs = (rD o u).toNat by omega] at this
    exact this
  have e : Rat.divInt o u = ⟨rN o u, (rD o u).toNat, by omega, c⟩ := by
    rw [Rat.mk_eq_divInt, Int.toNat_of_nonneg (by omega)]
    have e2 := @Rat.divInt_mul_left (rN o u) (rD o u) (cOf o u) (cOf_ne h)
    rw [rN_eq, rD_eq] at e2
    exact e2
  rw [e]
  exact ⟨rfl, by show (((rD o u).toNat : Nat) : Int) = _; omega⟩
end G


namespace M
open PySem L2
section
variable {K : PySem.W.Frag} {α β γ δ ε ρ : Type} {S T : AS} {σ : St} {H : Hp} {ta tb te : TE} {tt tu : TT} {a : Ty K α} {b : Ty K β} {c : Ty K γ} {D : Ends} {u t1 t2 : TS}
theorem if_and {g : Bool} {A : Option α} {y : α} (h : (if g then A else none) = some y) : g = true ∧ A = some y := by
  cases g with
  | true => exact ⟨rfl, h⟩
  | false => cases h
theorem sub_cons {p : Addr} {S S' : AS} (h : Sub S S') : Sub S (p :: S') := fun a m => List.mem_cons_of_mem _ (h a m)
theorem cons_sub {p : Addr} {S S' : AS} (h : p ∈ S') (h' : Sub S S') : Sub (p :: S) S' := fun a m => by
  rcases List.mem_cons.mp m with rfl | m
  · exact h
  · exact h' a m
theorem nwL.sub {c : Ty K α} {S S' T : AS} {H0 H H1 : Hp} {v : V} {xs : List α} (h : nwL c S H H1 v xs) (hs : Sub S' S) (f : Fr T H0 H) (d : Dom T H) : nwL c S' H0 H1 v xs := by
  obtain ⟨p, e, n, vs, hv, ha⟩ := h
  exact ⟨p, e, fr_back f d n, vs, hv, ha.imp fun _ _ => c.sub fun a m => by
    rcases List.mem_cons.mp m with rfl | m
    · exact List.mem_cons_self ..
    · exact List.mem_cons_of_mem _ (hs a m)⟩
theorem Own.same {c : Ty K α} {S : AS} {H H' : Hp} {p : Addr} {xs : List α} (h : Own c S H p xs) (s : Same H H') : Own c S H' p xs := by
  obtain ⟨vs, hv, ha⟩ := h
  exact ⟨vs, s _ _ hv, ha.imp fun _ _ => c.mono (Fr.same s)⟩
theorem Own.fr {c : Ty K α} {S T : AS} {H H' : Hp} {p : Addr} {xs : List α} (h : Own c S H p xs) (f : Fr T H H') (ts : Sub T S) (n : p ∉ T) : Own c S H' p xs := by
  obtain ⟨vs, hv, ha⟩ := h
  exact ⟨vs, f _ _ hv n, ha.imp fun _ _ => c.mono (f.sub ts)⟩
theorem Own.ext {c : Ty K α} {S : AS} {H : Hp} {p q : Addr} {xs : List α} (h : Own c S H p xs) (n : H q = none) : Own c (q :: S) H p xs := by
  obtain ⟨vs, hv, ha⟩ := h
  exact ⟨vs, hv, ha.imp fun _ _ => c.ext n⟩
theorem Own.ne {c : Ty K α} {S : AS} {H : Hp} {p q : Addr} {xs : List α} (h : Own c S H p xs) (n : H q = none) : p ≠ q := by
  obtain ⟨vs, hv, ha⟩ := h
  exact ne_of_none hv n
theorem Own.sub {c : Ty K α} {S S' : AS} {H : Hp} {p : Addr} {xs : List α} (h : Own c S H p xs) (hs : Sub S' S) : Own c S' H p xs := by
  obtain ⟨vs, hv, ha⟩ := h
  exact ⟨vs, hv, ha.imp fun _ _ => c.sub hs⟩
/-! items put behind an owned list -/
def app? (xs : List α) (x : α) : Option (List α) := if xs.length < 100000 then some (xs ++ [x]) else none
/-- all but p stands, and what p held is H1 p -/
structure Mut1 (p : Addr) (H H' : Hp) : Prop where
  k : ∀ a o, H a = some o → a ≠ p → H' a = some o
  p' : H' p ≠ none
theorem l_app {p : Addr} {xs ys : List α} {i : Nat} {r : Option α} {x : α} (d : Dom S H) (o : Own a S H p xs) (im : p ∈ S) (nt : p ∉ T) (ts : Sub T S) (hi : σ[i]? = some (some (.ref p))) (h : Ev S T te σ H (of a S) r) (e : r = some x) (f : app? xs x = some ys)
    (k : ∀ H1, Mut1 p H H1 → Fr S H H1 → Own a S H1 p ys → D.nx σ H1) : tDrop (tBM K "list" rAppend (tVar i) (tCons te tNil)) D σ H := by
  obtain ⟨vs, hv, ha⟩ := o
  unfold app? at f
  split at f
  · rename_i hl
    cases f
    refine ⟨_, hi, Or.inl ⟨rfl, vs, .inl (.inl hv)⟩, h x e H (Fr.refl _) d _ fun v H1 s1 hx => ?_⟩
    refine ⟨p, vs, v, rfl, rfl, s1 _ _ hv, Nat.lt_of_lt_of_le (by rw [ha.len]; exact hl) (by decide), ?_⟩
    have f1 : Fr S H1 (upd H1 p (.lst (vs ++ [v]))) := fr_upd im
    refine k _ ⟨fun b ob e n => by rw [upd_ne n]; exact s1 _ _ e, by rw [upd_same]; intro z; cases z⟩ ((Fr.same s1).trans f1) ⟨vs ++ [v], upd_same, ?_⟩
    exact ((ha.imp fun _ _ h => a.mono (Fr.same s1) h).snoc hx).imp fun _ _ h => a.mono f1 h
  · cases f
theorem q_app {p : Addr} {xs ys : List α} {i : Nat} {r : Option α} {x : α} (d : Dom S H) (o : Own a S H p xs) (im : p ∈ S) (nt : p ∉ T) (ts : Sub T S) (hi : σ[i]? = some (some (.ref p))) (h : Ev S T te σ H (of a S) r) (e : r = some x) (f : app? xs x = some ys)
    (k : ∀ H1, Mut1 p H H1 → Fr S H H1 → Own a S H1 p ys → u D σ H1) : tSeq (tDrop (tBM K "list" rAppend (tVar i) (tCons te tNil))) u D σ H := l_app (D := { D with nx := u D }) d o im nt ts hi h e f k
theorem Fr.mut {p : Addr} {H0 H H' : Hp} (f : Fr T H0 H) (d : Dom T H) (n : H0 p = none) (m : Mut1 p H H') : Fr T H0 H' := fun b o e nb => m.k b o (f b o e nb) (ne_of_none e n)
theorem Mut1.fr {p : Addr} {H H' : Hp} (m : Mut1 p H H') (h : p ∈ S) : Fr S H H' := fun b o e nb => m.k b o e fun z => nb (by rw [z]; exact h)
theorem Fr.mutN {p : Addr} {H0 H H' : Hp} (f : Fr T H0 H) (n : H0 p = none) (m : Mut1 p H H') : Fr T H0 H' := fun b o e nb => m.k b o (f b o e nb) (ne_of_none e n)
theorem Dom.sub {S' : AS} (d : Dom S H) (h : Sub S' S) : Dom S' H := fun a m => d a (h a m)
theorem Dom.fx {p : Addr} {H H' : Hp} (d : Dom S H) (f : Fr S H H') (m : Mut1 p H H') : Dom S H' := fun b mb e => by
  by_cases q : b = p
  · subst q; exact m.p' e
  · cases z : H b with
    | none => exact d b mb z
    | some o => rw [m.k b o z q] at e; cases e
theorem Own.mut {c : Ty K α} {S : AS} {H H' : Hp} {p q : Addr} {xs : List α} (h : Own c S H p xs) (f : Fr S H H') (m : Mut1 q H H') (n : p ≠ q) : Own c S H' p xs := by
  obtain ⟨vs, hv, ha⟩ := h
  exact ⟨vs, m.k _ _ hv n, ha.imp fun _ _ => c.mono f⟩
theorem seq_last {t : TS} (Pv : St → Hp → Prop) (h2 : ∀ σ H, Pv σ H → D.nx σ H) (h1 : (∀ σ H, Pv σ H → D.nx σ H) → t D σ H) : t D σ H := h1 h2
/-! lists made -/
theorem ev_lst0 : Ev S T (tLst tNil) σ H (nw a S) (some []) := fun x e H1 f d Q q => by
  cases e
  exact ⟨Nat.zero_le _, fun p hp => q _ _ (same_new hp) ⟨p, rfl, hp, [], upd_same, .nil⟩⟩
theorem ev_list {r : Option (List α)} (h : Ev S T te σ H (of (tL a) S) r) : Ev S T (tCB (fun xs H Q => ∃ p ys, xs = [.ref p] ∧ (SqL K H p ys ∨ SqT K H p ys) ∧ ∀ l, H l = none → Q (.ref l) (upd H l (.lst ys))) (tCons te tNil)) σ H (nw a S) r := fun x e H1 f d Q q => by
  refine h x e H1 f d _ fun v H2 s2 hv => ?_
  obtain ⟨p, vs, rfl, hp, ha⟩ := hv
  exact ⟨p, vs, rfl, .inl hp.sq, fun l hl => q _ _ (s2.trans (same_new hl)) ⟨l, rfl, s2.free hl, vs, upd_same, ha.imp fun _ _ h => a.mono (Fr.same (same_new hl)) (a.ext hl h)⟩⟩
def EvE (S T : AS) (ta : TA) (σ : St) (H : Hp) (a : Ty K α) (n : Nat) (r : Option (List α)) : Prop :=
  ∀ x, r = some x → ∀ H1, Fr T H H1 → Dom S H1 → ∀ Q : List V → Hp → Prop, (∀ vs H2, vs.length = n → Same H1 H2 → All2 (a.rp S H2) vs x → Q vs H2) → ta σ H1 Q
theorem el_nil : EvE S T tNil σ H a 0 (some []) := fun _ e H1 f d Q q => by cases e; exact q [] H1 rfl (Same.refl _) .nil
theorem el_cons {tr : TA} {n : Nat} {ra : Option α} {rr : Option (List α)} (h : Ev S T ta σ H (of a S) ra) (hr : EvE S T tr σ H a n rr) : EvE S T (tCons ta tr) σ H a (n + 1) (bd ra fun x => bd rr fun y => some (x :: y)) := by
  intro z e H1 f1 d Q q
  obtain ⟨x, ex, e⟩ := bd_some e
  obtain ⟨y, ey, e⟩ := bd_some e
  cases e
  exact h x ex H1 f1 d _ fun v H2 s2 hv => hr y ey H2 (f1.trans (Fr.same s2)) (d.same s2) _ fun vs H3 hl s3 hw => q _ H3 (by simp [hl]) (s2.trans s3) (.cons (a.mono (Fr.same s3) hv) hw)
theorem ev_lst {tr : TA} {n : Nat} {rr : Option (List α)} (h : EvE S T tr σ H a n rr) (hn : n ≤ sizeLine) : Ev S T (tLst tr) σ H (nw a S) rr := fun x e H1 f d Q q =>
  h x e H1 f d _ fun vs H2 hl s2 ha => ⟨by rw [hl]; exact hn, fun p hp => q _ _ (s2.trans (same_new hp)) ⟨p, rfl, s2.free hp, vs, upd_same, ha.imp fun _ _ h => a.mono (Fr.same (same_new hp)) (a.ext hp h)⟩⟩
theorem All2.bools {S : AS} {H : Hp} : ∀ {vs : List V} {xs : List Bool}, All2 ((tBool (K := K)).rp S H) vs xs → vs = xs.map V.bl
  | _, _, .nil => rfl
  | _, _, .cons h r => by rw [List.map_cons, ← All2.bools r, show _ = _ from h]
theorem ev_all {r : Option (List Bool)} (h : Ev S T te σ H (of (K := K) (tL tBool) S) r) : Ev S T (tCB (rAll K) (tCons te tNil)) σ H (of (K := K) tBool S) (bd r fun x => some (x.all id)) := by
  intro z e H1 f1 d Q q
  obtain ⟨x, ex, e⟩ := bd_some e
  cases e
  refine h x ex H1 f1 d _ fun v H2 s hv => ?_
  obtain ⟨p, vs, rfl, hp, ha⟩ := hv
  refine ⟨p, x, rfl, ?_, q _ H2 s rfl⟩
  rw [← ha.bools]
  exact hp.sq
theorem ev_intB {r : Option Bool} (h : Ev S T te σ H (of (K := K) tBool S) r) : Ev S T (tCB (fun xs H Q => (∃ i, xs = [.int i] ∧ Q (.int i) H) ∨ ∃ k, xs = [.bl k] ∧ Q (.int (if k then 1 else 0)) H) (tCons te tNil)) σ H (of (K := K) tInt S) (bd r fun x => some (if x then 1 else 0 : Int)) := by
  intro z e H1 f1 d Q q
  obtain ⟨x, ex, e⟩ := bd_some e
  cases e
  refine h x ex H1 f1 d _ fun v H2 s hv => ?_
  cases hv
  exact .inr ⟨x, rfl, q _ H2 s rfl⟩
/-! comprehensions over a list -/
def mapO (f : α → Option β) : List α → Option (List β)
  | [] => some []
  | x :: xs => bd (f x) fun y => bd (mapO f xs) fun ys => some (y :: ys)
theorem mapO_get {f : α → Option β} : ∀ {xs : List α} {ys : List β} {i : Nat} {x : α}, mapO f xs = some ys → xs[i]? = some x → ∃ y, f x = some y ∧ ys[i]? = some y
  | [], _, i, x, _, e => by simp at e
  | z :: xs, ys, i, x, h, e => by
    obtain ⟨y, hy, h⟩ := bd_some h
    obtain ⟨r, hr, h⟩ := bd_some h
    cases h
    cases i with
    | zero => simp at e; subst e; exact ⟨y, hy, rfl⟩
    | succ i =>
      obtain ⟨w, h1, h2⟩ := mapO_get (i := i) hr (by simpa using e)
      exact ⟨w, h1, by simpa using h2⟩
theorem mapO_len {f : α → Option β} : ∀ {xs : List α} {ys : List β}, mapO f xs = some ys → ys.length = xs.length
  | [], _, h => by cases h; rfl
  | z :: xs, ys, h => by
    obtain ⟨y, hy, h⟩ := bd_some h
    obtain ⟨r, hr, h⟩ := bd_some h
    cases h
    simp [mapO_len hr]
def filO (f : α → Option (Option β)) : List α → Option (List β)
  | [] => some []
  | x :: xs => bd (f x) fun o => bd (filO f xs) fun ys => match o with | some y => some (y :: ys) | none => some ys
theorem filO_map {f : α → Option β} : ∀ xs : List α, filO (fun x => bd (f x) fun y => some (some y)) xs = mapO f xs
  | [] => rfl
  | x :: r => by
    simp only [filO, mapO, bd, filO_map r]
    cases f x <;> rfl
def mapL? (f : α → Option β) (xs : List α) : Option (List β) := if xs.length < 100000 then mapO f xs else none
/-- [te for x in wi] -/
theorem lc_core2 {wi : TI} {j : Nat} {ws : List Nat} {r : Option (List α)} {f : α → Option (Option β)} (h : Sr S T wi σ H a r) (hw : ∀ x, wipe ((wipe σ ws).set j (some x)) ws = wipe σ ws)
    (he : ∀ (x : α) (v : V) (H2 H' : Hp) (p : Addr) (o : Option β), Fr T H H2 → H2 p = none → Same H2 H' → a.rp (p :: S) H' v x → Dom (p :: S) H' → f x = some o → ∀ (Q1 : V → Hp → Prop) (Q0 : Hp → Prop), (∀ y w H3, o = some y → Same H' H3 → b.rp (p :: S) H3 w y → Q1 w H3) → (∀ H3, o = none → Same H' H3 → Q0 H3) →
      tt ((wipe σ ws).set j (some v)) H' fun k H3 => if k = true then te ((wipe σ ws).set j (some v)) H3 Q1 else Q0 H3) :
    Ev S T (tLc wi (gName j) tt te ws) σ H (nw b S) (bd r fun xs => if xs.length < 100000 then filO f xs else none) := by
  intro z e H1 f1 d Q q
  obtain ⟨xs, ex, e⟩ := bd_some e
  split at e
  rotate_left
  · cases e
  rename_i hlen
  refine h xs ex H1 f1 d _ fun J H2 s2 wk => fun Dl hD => ?_
  have d2 := d.same s2
  have sD : Same H2 (upd H2 Dl (.lst [])) := same_new hD
  refine ⟨fun i m H' => m = xs.length - i ∧ i ≤ xs.length ∧ ∃ acc pre, H' Dl = some (.lst acc) ∧ Same H2 H' ∧ acc.length ≤ i ∧ All2 (b.rp (Dl :: S) H') acc pre ∧ ∃ suf, filO f (xs.drop i) = some suf ∧ z = pre ++ suf, ⟨_, rfl, Nat.zero_le _, [], [], upd_same, sD, Nat.zero_le _, .nil, z, e, rfl⟩, ?_⟩
  rintro i m H' ⟨rfl, hi, acc, pre, h1, h2, h3, h4, suf, h5, h6⟩
  by_cases c : i < xs.length
  · right
    rw [List.drop_eq_getElem_cons c] at h5
    obtain ⟨o, ho, h5⟩ := bd_some h5
    obtain ⟨suf', hs', h5⟩ := bd_some h5
    refine ⟨wk.go H' i (Fr.same h2) c, fun H3 => ∃ acc pre, H3 Dl = some (.lst acc) ∧ Same H2 H3 ∧ acc.length ≤ i + 1 ∧ All2 (b.rp (Dl :: S) H3) acc pre ∧ ∃ suf, filO f (xs.drop (i + 1)) = some suf ∧ z = pre ++ suf, ?_, ?_⟩
    · rintro H3 ⟨acc, pre, g1, g2, g3, g4, suf, g5, g6⟩
      exact ⟨xs.length - (i + 1), by omega, rfl, by omega, acc, pre, g1, g2, g3, g4, suf, g5, g6⟩
    · intro v H3 hy
      obtain ⟨rfl, hv⟩ := wk.yl H' i v H3 (Fr.same h2) hy _ (List.getElem?_eq_getElem c)
      refine ⟨hw v, ?_⟩
      refine he xs[i] v H2 _ Dl o (f1.trans (Fr.same s2)) hD h2 (a.mono (Fr.same h2) (a.ext hD hv)) ((d2.same h2).cons h1) ho _ _ (fun y w H4 eo s4 hw4 => ?_) (fun H4 eo s4 => ?_)
      · subst eo
        cases h5
        refine ⟨acc, s4 _ _ h1, Nat.lt_of_lt_of_le (by omega : acc.length < 100000) (by decide), acc ++ [w], pre ++ [y], upd_same, fun p ob eb => ?_, by simp; omega, ?_, suf', hs', by rw [h6]; simp⟩
        · rw [upd_ne (ne_of_none eb hD)]
          exact s4 _ _ (h2 _ _ eb)
        · have fD : Fr (Dl :: S) H4 (upd H4 Dl (.lst (acc ++ [w]))) := fr_upd (List.mem_cons_self ..)
          exact ((h4.imp fun _ _ h => b.mono (Fr.same s4) h).snoc hw4).imp fun _ _ h => b.mono fD h
      · subst eo
        cases h5
        exact ⟨acc, pre, s4 _ _ h1, fun p ob eb => s4 _ _ (h2 _ _ eb), by omega, h4.imp fun _ _ h => b.mono (Fr.same s4) h, _, hs', h6⟩
  · left
    rw [List.drop_eq_nil_of_le (by omega)] at h5
    cases h5
    rw [List.append_nil] at h6
    subst h6
    exact ⟨wk.st H' i (Fr.same h2) (by omega), q _ _ (s2.trans h2) ⟨Dl, rfl, s2.free hD, acc, h1, h4⟩⟩
theorem ev_lc {wi : TI} {j : Nat} {ws : List Nat} {r : Option (List α)} {f : α → Option β} (h : Sr S T wi σ H a r) (hw : ∀ x, wipe ((wipe σ ws).set j (some x)) ws = wipe σ ws)
    (he : ∀ (x : α) (v : V) (H2 H' : Hp) (p : Addr), Fr T H H2 → H2 p = none → Same H2 H' → a.rp (p :: S) H' v x → Ev (p :: S) [] te ((wipe σ ws).set j (some v)) H' (of b (p :: S)) (f x)) :
    Ev S T (tLc wi (gName j) tYes te ws) σ H (nw b S) (bd r fun xs => mapL? f xs) := by
  have k := lc_core2 (tt := tYes) (te := te) (b := b) (f := fun x => bd (f x) fun y => some (some y)) h hw fun x v H2 H' p o g1 g2 g3 g4 g5 g6 Q1 Q0 g7 g8 => by
    obtain ⟨y, hy, g6⟩ := bd_some g6
    cases g6
    refine G.yes_ ?_
    exact he x v H2 H' p g1 g2 g3 g4 y hy H' (Fr.refl _) g5 _ fun w H3 s3 hw3 => g7 y w H3 rfl s3 hw3
  intro z e
  refine k z ?_
  obtain ⟨xs, ex, e⟩ := bd_some e
  rw [ex]
  unfold mapL? at e
  show (if xs.length < 100000 then filO _ xs else none) = some z
  split at e
  · rename_i hl
    rw [if_pos hl, filO_map]
    exact e
  · cases e
/-- with a test -/
def filL? (g : α → Option Bool) (f : α → Option β) (xs : List α) : Option (List β) := if xs.length < 100000 then filO (fun x => bd (g x) fun k => if k then bd (f x) fun y => some (some y) else some none) xs else none
theorem ev_lcF {wi : TI} {j : Nat} {ws : List Nat} {r : Option (List α)} {g : α → Option Bool} {f : α → Option β} (h : Sr S T wi σ H a r) (hw : ∀ x, wipe ((wipe σ ws).set j (some x)) ws = wipe σ ws)
    (ht : ∀ (x : α) (v : V) (H2 H' : Hp) (p : Addr), Fr T H H2 → H2 p = none → Same H2 H' → a.rp (p :: S) H' v x → EvB (p :: S) [] tt ((wipe σ ws).set j (some v)) H' (g x))
    (he : ∀ (x : α) (v : V) (H2 H' : Hp) (p : Addr), Fr T H H2 → H2 p = none → Same H2 H' → a.rp (p :: S) H' v x → Ev (p :: S) [] te ((wipe σ ws).set j (some v)) H' (of b (p :: S)) (f x)) :
    Ev S T (tLc wi (gName j) tt te ws) σ H (nw b S) (bd r fun xs => filL? g f xs) :=
  lc_core2 (tt := tt) (te := te) (b := b) (f := fun x => bd (g x) fun k => if k then bd (f x) fun y => some (some y) else some none) h hw fun x v H2 H' p o g1 g2 g3 g4 g5 g6 Q1 Q0 g7 g8 => by
    obtain ⟨k, hk, g6⟩ := bd_some g6
    refine ht x v H2 H' p g1 g2 g3 g4 k hk H' (Fr.refl _) g5 _ fun H3 s3 => ?_
    cases k with
    | true =>
      obtain ⟨y, hy, g6⟩ := bd_some (if_t g6)
      cases g6
      show if true = true then _ else _
      rw [if_pos rfl]
      exact he x v H2 H' p g1 g2 g3 g4 y hy H3 (Fr.same s3) (g5.same s3) _ fun w H4 s4 hw4 => g7 y w H4 rfl (s3.trans s4) hw4
    | false =>
      cases (if_f g6)
      show if false = true then _ else _
      rw [if_neg (by decide)]
      exact g8 H3 rfl s3
end
end M

namespace M
open PySem L2 G
abbrev Wp (α : Type) := (α → Prop) → Prop
def lf {α : Type} (r : Option α) : Wp α := fun P => ∃ x, r = some x ∧ P x
def opW {α β γ : Type} (f : α → β → Option γ) (wa : Wp α) (wb : Wp β) : Wp γ := fun P => wa fun x => wb fun y => lf (f x y) P
def unW {α γ : Type} (g : α → Option γ) (wa : Wp α) : Wp γ := fun P => wa fun x => lf (g x) P
def tup2W {α β : Type} (wa : Wp α) (wb : Wp β) : Wp (α × β) := fun P => wa fun x => wb fun y => P (x, y)
def consW {α : Type} (wa : Wp α) (wb : Wp (List α)) : Wp (List α) := fun P => wa fun x => wb fun y => P (x :: y)
def andW (r v : Wp Bool) : Wp Bool := fun P => r fun x => if x then v P else P false
def orW (r v : Wp Bool) : Wp Bool := fun P => r fun x => if x then P true else v P
def callBW {α γ : Type} (m : α → Wp γ) (w : Wp α) : Wp γ := fun P => w fun a => m a P
theorem lf_some {α : Type} {x : α} {P : α → Prop} : lf (some x) P ↔ P x := ⟨fun ⟨y, e, h⟩ => by cases e; exact h, fun h => ⟨x, rfl, h⟩⟩
theorem _root_.G.Bag.dom {H : Hp} {b c : Addr} (h : Bag H b c) : Dom [b, c] H := fun a m e => by
  obtain ⟨_, ns, sl, sd, h1, h2, _⟩ := h
  simp only [List.mem_cons, List.not_mem_nil, or_false] at m
  rcases m with rfl | rfl
  · rw [h1] at e; cases e
  · rw [h2] at e; cases e
theorem dom_fr {S : AS} {H H' : Hp} {b c : Addr} (d : Dom S H) (f : Fr [b, c] H H') (h : Bag H' b c) : Dom S H' := fun a m e => by
  by_cases q : a ∈ [b, c]
  · exact h.dom a q e
  · cases z : H a with
    | none => exact d a m z
    | some o => rw [f a o z q] at e; cases e
section
variable {K : PySem.W.Frag} {α β γ δ ε ρ : Type} {S T : AS} {σ : St} {H : Hp} {ta tb te : TE} {tt tu : TT} {a : Ty K α} {b' : Ty K β} {c' : Ty K γ} {D : Ends} {u t1 t2 : TS} {b c : Addr}
def EvW (b c : Addr) (S : AS) (te : TE) (σ : St) (H : Hp) (R : Rl α) (w : Wp α) : Prop :=
  Sub [b, c] S → ∀ P, w P → ∀ H1, Fr [b, c] H H1 → Dom S H1 → Bag H1 b c → ∀ Q : VK, (∀ v H2 x, P x → Fr [b, c] H1 H2 → Dom S H2 → Bag H2 b c → R.r H1 H2 v x → Q v H2) → te σ H1 Q
def BvW (b c : Addr) (S : AS) (tt : TT) (σ : St) (H : Hp) (w : Wp Bool) : Prop :=
  Sub [b, c] S → ∀ P, w P → ∀ H1, Fr [b, c] H H1 → Dom S H1 → Bag H1 b c → ∀ Q : Bool → Hp → Prop, (∀ H2 x, P x → Fr [b, c] H1 H2 → Dom S H2 → Bag H2 b c → Q x H2) → tt σ H1 Q
theorem ew_pure {R : Rl α} {r : Option α} (h : Ev S [b, c] te σ H R r) : EvW b c S te σ H R (lf r) := fun ts P ⟨x, e, hP⟩ H1 f d hB Q q =>
  h x e H1 f d Q fun v H2 s hv => q v H2 x hP (Fr.same s) (d.same s) (hB.same s) hv
theorem ew_new {w : Wp (List α)} (h : EvW b c S te σ H (nw a S) w) : EvW b c S te σ H (of (tL a) S) w := fun ts P hP H1 f d hB Q q =>
  h ts P hP H1 f d hB Q fun v H2 x hx f2 d2 hB2 hv => q v H2 x hx f2 d2 hB2 (nwL.rp hv d)
theorem ew_op {R : Rl γ} {r : R2} {f : α → β → Option γ} {wa : Wp α} {wb : Wp β} (h : OpD a b' S R r f) (ha : EvW b c S ta σ H (of a S) wa) (hb : EvW b c S tb σ H (of b' S) wb) :
    EvW b c S (tOp r ta tb) σ H R (opW f wa wb) := fun ts P hP H1 f1 d hB Q q =>
  ha ts _ hP H1 f1 d hB _ fun v H2 x hx f2 d2 hB2 hv => hb ts _ hx H2 (f1.trans f2) d2 hB2 _ fun w H3 y ⟨z, e, hz⟩ f3 d3 hB3 hw => h x y z e H3 v w d3 (a.mono (f3.sub ts) hv) hw Q fun u H4 s4 hu => q u H4 z hz ((f2.trans f3).trans (Fr.same s4)) (d3.same s4) (hB3.same s4) (R.back (f2.trans f3) hB3.dom hu)
theorem ew_ixT {R : Rl γ} {i : Int} {wa : Wp α} {g : α → γ} (ha : EvW b c S ta σ H (of a S) wa) (h : ∀ x H v, a.rp S H v x → ∃ p vs u, v = .ref p ∧ SqT K H p vs ∧ atI vs i = some u ∧ R.r H H u (g x)) :
    EvW b c S (tOp (rIxT K) ta (tC (.int i))) σ H R (unW (fun x => some (g x)) wa) := fun ts P hP H1 f1 d hB Q q => by
  refine ha ts _ hP H1 f1 d hB _ fun v H2 x ⟨z, e, hz⟩ f2 d2 hB2 hv => ?_
  cases e
  obtain ⟨p, vs, u, rfl, hp, hu, hr⟩ := h x H2 v hv
  exact ⟨p, vs, i, u, rfl, rfl, hp, hu, q u H2 _ hz f2 d2 hB2 (R.back f2 hB2.dom hr)⟩
theorem ew_ix20 {ra : Wp (α × β)} (ha : EvW b c S ta σ H (of (tT2 a b') S) ra) : EvW b c S (tOp (rIxT K) ta (tC (.int 0))) σ H (of a S) (unW (fun x => some x.1) ra) :=
  ew_ixT ha fun x H v ⟨p, u, w, e, h, h1, h2⟩ => ⟨p, _, u, e, h.sq, rfl, h1⟩
theorem ew_ix21 {ra : Wp (α × β)} (ha : EvW b c S ta σ H (of (tT2 a b') S) ra) : EvW b c S (tOp (rIxT K) ta (tC (.int 1))) σ H (of b' S) (unW (fun x => some x.2) ra) :=
  ew_ixT ha fun x H v ⟨p, u, w, e, h, h1, h2⟩ => ⟨p, _, w, e, h.sq, rfl, h2⟩
theorem ew_tup2 {wa : Wp α} {wb : Wp β} (ha : EvW b c S ta σ H (of a S) wa) (hb : EvW b c S tb σ H (of b' S) wb) : EvW b c S (tTup (tCons ta (tCons tb tNil))) σ H (of (tT2 a b') S) (tup2W wa wb) := fun ts P hP H1 f1 d hB Q q => by
  refine ha ts _ hP H1 f1 d hB _ fun v H2 x hx f2 d2 hB2 hv => hb ts _ hx H2 (f1.trans f2) d2 hB2 _ fun w H3 y hy f3 d3 hB3 hw => ⟨(by show 2 ≤ sizeLine; decide), fun p hp => ?_⟩
  have s4 := same_new (o := .tup [v, w]) hp
  exact q _ _ (x, y) hy ((f2.trans f3).trans (Fr.same s4)) (d3.same s4) (hB3.same s4) ⟨p, v, w, rfl, .inl ⟨.inl upd_same, d3.not_mem hp⟩, a.mono (Fr.same s4) (a.mono (f3.sub ts) hv), b'.mono (Fr.same s4) hw⟩
/-! tests -/
theorem bw_pure {r : Option Bool} (h : EvB S [b, c] tt σ H r) : BvW b c S tt σ H (lf r) := fun ts P ⟨x, e, hP⟩ H1 f d hB Q q => h x e H1 f d Q fun H2 s => q H2 x hP (Fr.same s) (d.same s) (hB.same s)
theorem bw_test {w : Wp Bool} (h : EvW b c S te σ H (of (K := K) tBool S) w) : BvW b c S (tTest te) σ H w := fun ts P hP H1 f d hB Q q => h ts P hP H1 f d hB _ fun v H2 x hx f2 d2 hB2 hv => ⟨x, hv, q H2 x hx f2 d2 hB2⟩
theorem bw_B {w : Wp Bool} (h : EvW b c S te σ H (of (K := K) tBool S) w) : BvW b c S (tB te) σ H w := fun ts P hP H1 f d hB Q q => h ts P hP H1 f d hB _ fun v H2 x hx f2 d2 hB2 hv => ⟨x, hv, q H2 x hx f2 d2 hB2⟩
theorem bw_and {r v : Wp Bool} (h : BvW b c S tt σ H r) (h' : BvW b c S tu σ H v) : BvW b c S (tAnd tt tu) σ H (andW r v) := fun ts P hP H1 f1 d hB Q q => by
  refine h ts _ hP H1 f1 d hB _ fun H2 x hx f2 d2 hB2 => ?_
  cases x with
  | true => exact h' ts P hx H2 (f1.trans f2) d2 hB2 Q fun H3 y hy f3 d3 hB3 => q H3 y hy (f2.trans f3) d3 hB3
  | false => exact q H2 false hx f2 d2 hB2
theorem bw_or {r v : Wp Bool} (h : BvW b c S tt σ H r) (h' : BvW b c S tu σ H v) : BvW b c S (tOr tt tu) σ H (orW r v) := fun ts P hP H1 f1 d hB Q q => by
  refine h ts _ hP H1 f1 d hB _ fun H2 x hx f2 d2 hB2 => ?_
  cases x with
  | false => exact h' ts P hx H2 (f1.trans f2) d2 hB2 Q fun H3 y hy f3 d3 hB3 => q H3 y hy (f2.trans f3) d3 hB3
  | true => exact q H2 true hx f2 d2 hB2
theorem ew_and {r v : Wp Bool} (h : EvW b c S ta σ H (of (K := K) tBool S) r) (h' : EvW b c S tb σ H (of (K := K) tBool S) v) : EvW b c S (tAndV ta tb) σ H (of (K := K) tBool S) (andW r v) := fun ts P hP H1 f1 d hB Q q => by
  refine h ts _ hP H1 f1 d hB _ fun v H2 x hx f2 d2 hB2 hv => ⟨x, hv, ?_⟩
  cases x with
  | true => exact h' ts P hx H2 (f1.trans f2) d2 hB2 Q fun v H3 y hy f3 d3 hB3 hv => q v H3 y hy (f2.trans f3) d3 hB3 hv
  | false => exact q _ H2 false hx f2 d2 hB2 rfl
theorem ew_or {r v : Wp Bool} (h : EvW b c S ta σ H (of (K := K) tBool S) r) (h' : EvW b c S tb σ H (of (K := K) tBool S) v) : EvW b c S (tOrV ta tb) σ H (of (K := K) tBool S) (orW r v) := fun ts P hP H1 f1 d hB Q q => by
  refine h ts _ hP H1 f1 d hB _ fun v H2 x hx f2 d2 hB2 hv => ⟨x, hv, ?_⟩
  cases x with
  | false => exact h' ts P hx H2 (f1.trans f2) d2 hB2 Q fun v H3 y hy f3 d3 hB3 hv => q v H3 y hy (f2.trans f3) d3 hB3 hv
  | true => exact q _ H2 true hx f2 d2 hB2 rfl
/-! arguments, calls -/
def EvWA (b c : Addr) (S : AS) (ta : TA) (σ : St) (H : Hp) (t : TyA K α) (w : Wp α) : Prop :=
  Sub [b, c] S → ∀ P, w P → ∀ H1, Fr [b, c] H H1 → Dom S H1 → Bag H1 b c → ∀ Q : List V → Hp → Prop, (∀ vs H2 x, P x → Fr [b, c] H1 H2 → Dom S H2 → Bag H2 b c → t.rp S H2 vs x → Q vs H2) → ta σ H1 Q
theorem wa_nil : EvWA b c S tNil σ H (K := K) aNil (lf (some ())) := fun ts P ⟨x, e, hP⟩ H1 f d hB Q q => q [] H1 x hP (Fr.refl _) d hB rfl
theorem wa_cons {tr : TA} {t : TyA K β} {wa : Wp α} {wr : Wp β} (h : EvW b c S ta σ H (of a S) wa) (hr : EvWA b c S tr σ H t wr) : EvWA b c S (tCons ta tr) σ H (aCons a t) (tup2W wa wr) := fun ts P hP H1 f1 d hB Q q =>
  h ts _ hP H1 f1 d hB _ fun v H2 x hx f2 d2 hB2 hv => hr ts _ hx H2 (f1.trans f2) d2 hB2 _ fun vs H3 y hy f3 d3 hB3 hw => q _ H3 (x, y) hy (f2.trans f3) d3 hB3 ⟨v, vs, rfl, a.mono (f3.sub ts) hv, hw⟩
theorem ew_call {ta : TA} {t : TyA K α} {R : AS → Rl γ} {f : α → Option γ} {w : Wp α} {E : XK} (h : EvWA b c S ta σ H t w) : EvW b c S (tCall (spF t R f) [] E ta) σ H (R S) (unW f w) := fun ts P hP H1 f1 d hB Q q => by
  refine h ts _ hP H1 f1 d hB _ fun vs H2 x ⟨z, e, hz⟩ f2 d2 hB2 hv => ⟨S, x, z, d2, ?_, e, fun u H' s hu => q u H' z hz (f2.trans (Fr.same s)) (d2.same s) (hB2.same s) ((R S).back f2 hB2.dom hu)⟩
  rw [List.append_nil]
  exact hv
/-- the promise of a def that draws from the bag -/
def spB (t : TyA K α) (R : AS → Rl γ) (m : α → Wp γ) : Sp := fun vs H Q _ => ∃ S b c r x P, vs = .ref b :: r ∧ Dom S H ∧ Sub [b, c] S ∧ Bag H b c ∧ t.rp S H r x ∧ m x P ∧ ∀ u H' z, P z → Fr [b, c] H H' → Bag H' b c → (R S).r H H' u z → Q u H'
theorem ew_callB {ta : TA} {t : TyA K α} {R : AS → Rl γ} {m : α → Wp γ} {w : Wp α} {E : XK} {i : Nat} (hi : σ[i]? = some (some (.ref b))) (h : EvWA b c S ta σ H t w) :
    EvW b c S (tCall (spB t R m) [] E (tCons (tVar i) ta)) σ H (R S) (callBW m w) := fun ts P hP H1 f1 d hB Q q => by
  refine ⟨_, hi, h ts _ hP H1 f1 d hB _ fun vs H2 x hx f2 d2 hB2 hv => ⟨S, b, c, vs, x, P, by rw [List.append_nil], d2, ts, hB2, hv, hx, fun u H' z hz f3 hB3 hu => q u H' z hz (f2.trans f3) (dom_fr d2 f3 hB3) hB3 ((R S).back f2 hB2.dom hu)⟩⟩
/-! lists made -/
def EvWE (b c : Addr) (S : AS) (ta : TA) (σ : St) (H : Hp) (a : Ty K α) (n : Nat) (w : Wp (List α)) : Prop :=
  Sub [b, c] S → ∀ P, w P → ∀ H1, Fr [b, c] H H1 → Dom S H1 → Bag H1 b c → ∀ Q : List V → Hp → Prop, (∀ vs H2 x, P x → vs.length = n → Fr [b, c] H1 H2 → Dom S H2 → Bag H2 b c → All2 (a.rp S H2) vs x → Q vs H2) → ta σ H1 Q
theorem wl_nil : EvWE b c S tNil σ H a 0 (lf (some [])) := fun ts P ⟨x, e, hP⟩ H1 f d hB Q q => by cases e; exact q [] H1 [] hP rfl (Fr.refl _) d hB .nil
theorem wl_cons {tr : TA} {n : Nat} {wa : Wp α} {wr : Wp (List α)} (h : EvW b c S ta σ H (of a S) wa) (hr : EvWE b c S tr σ H a n wr) : EvWE b c S (tCons ta tr) σ H a (n + 1) (consW wa wr) := fun ts P hP H1 f1 d hB Q q =>
  h ts _ hP H1 f1 d hB _ fun v H2 x hx f2 d2 hB2 hv => hr ts _ hx H2 (f1.trans f2) d2 hB2 _ fun vs H3 y hy hl f3 d3 hB3 hw => q _ H3 (x :: y) hy (by simp [hl]) (f2.trans f3) d3 hB3 (.cons (a.mono (f3.sub ts) hv) hw)
theorem ew_lst {tr : TA} {n : Nat} {wr : Wp (List α)} (h : EvWE b c S tr σ H a n wr) (hn : n ≤ sizeLine) : EvW b c S (tLst tr) σ H (nw a S) wr := fun ts P hP H1 f d hB Q q =>
  h ts P hP H1 f d hB _ fun vs H2 x hx hl f2 d2 hB2 ha => ⟨by rw [hl]; exact hn, fun p hp => q _ _ x hx (f2.trans (Fr.same (same_new hp))) (d2.same (same_new hp)) (hB2.same (same_new hp)) ⟨p, rfl, fr_back f2 hB2.dom hp, vs, upd_same, ha.imp fun _ _ h => a.mono (Fr.same (same_new hp)) (a.ext hp h)⟩⟩
/-! statements -/
theorem lw_asg {R : Rl α} {w : Wp α} {P : α → Prop} {i : Nat} (d : Dom S H) (hB : Bag H b c) (ts : Sub [b, c] S) (h : EvW b c S te σ H R w) (e : w P) (k : ∀ v H1 x, P x → Fr [b, c] H H1 → Dom S H1 → Bag H1 b c → R.r H H1 v x → D.nx (σ.set i (some v)) H1) : tAsg te (gName i) D σ H := h ts P e H (Fr.refl _) d hB _ k
theorem qw_asg {R : Rl α} {w : Wp α} {P : α → Prop} {i : Nat} (d : Dom S H) (hB : Bag H b c) (ts : Sub [b, c] S) (h : EvW b c S te σ H R w) (e : w P) (k : ∀ v H1 x, P x → Fr [b, c] H H1 → Dom S H1 → Bag H1 b c → R.r H H1 v x → u D (σ.set i (some v)) H1) : tSeq (tAsg te (gName i)) u D σ H := h ts P e H (Fr.refl _) d hB _ k
theorem qw_ret {R : Rl α} {w : Wp α} {P : α → Prop} (d : Dom S H) (hB : Bag H b c) (ts : Sub [b, c] S) (h : EvW b c S te σ H R w) (e : w P) (k : ∀ v H1 x, P x → Fr [b, c] H H1 → Dom S H1 → Bag H1 b c → R.r H H1 v x → D.rt v H1) : tRet te D σ H := h ts P e H (Fr.refl _) d hB _ k
theorem lw_if {w : Wp Bool} {P : Bool → Prop} (d : Dom S H) (hB : Bag H b c) (ts : Sub [b, c] S) (h : BvW b c S tt σ H w) (e : w P) (k1 : ∀ H1, P true → Fr [b, c] H H1 → Dom S H1 → Bag H1 b c → t1 D σ H1) (k2 : ∀ H1, P false → Fr [b, c] H H1 → Dom S H1 → Bag H1 b c → t2 D σ H1) : tIfS tt t1 t2 D σ H := h ts P e H (Fr.refl _) d hB _ fun H1 x hx f d hB => by
  cases x with
  | true => exact k1 H1 hx f d hB
  | false => exact k2 H1 hx f d hB
theorem qw_if {w : Wp Bool} {P : Bool → Prop} (d : Dom S H) (hB : Bag H b c) (ts : Sub [b, c] S) (h : BvW b c S tt σ H w) (e : w P) (k1 : ∀ H1, P true → Fr [b, c] H H1 → Dom S H1 → Bag H1 b c → t1 { D with nx := u D } σ H1) (k2 : ∀ H1, P false → Fr [b, c] H H1 → Dom S H1 → Bag H1 b c → t2 { D with nx := u D } σ H1) : tSeq (tIfS tt t1 t2) u D σ H := lw_if (D := { D with nx := u D }) d hB ts h e k1 k2
theorem ifp_t {A B : Prop} (h : if true = true then A else B) : A := h
theorem ifp_f {A B : Prop} (h : if false = true then A else B) : B := h
theorem ifp_and {g : Bool} {A : Prop} (h : if g then A else False) : g = true ∧ A := by
  cases g with
  | true => exact ⟨rfl, h⟩
  | false => exact h.elim
/-! loops -/
def loopW (f : δ → α → Wp (Ct ρ δ)) : List α → δ → Wp (Ct ρ δ)
  | [], s, P => P (.go s)
  | x :: xs, s, P => f s x fun r => match r with | .go s' => loopW f xs s' P | .ret y => P (.ret y) | .brk s' => P (.go s')
def SrW (b c : Addr) (S : AS) (wi : TI) (σ : St) (H : Hp) (a : Ty K α) (w : Wp (List α)) : Prop :=
  Sub [b, c] S → ∀ P, w P → ∀ H1, Fr [b, c] H H1 → Dom S H1 → Bag H1 b c → ∀ R : It → Hp → Prop, (∀ J H2 xs, P xs → Fr [b, c] H1 H2 → Dom S H2 → Bag H2 b c → Wk J a S H2 xs → R J H2) → wi σ H1 R
theorem srw_pure {wi : TI} {r : Option (List α)} (h : Sr S [b, c] wi σ H a r) : SrW b c S wi σ H a (lf r) := fun ts P ⟨xs, e, hP⟩ H1 f d hB R q => h xs e H1 f d R fun J H2 s wk => q J H2 xs hP (Fr.same s) (d.same s) (hB.same s) wk
theorem srw_r1 {te : TE} {w : Wp Int} (h : EvW b c S te σ H (of (K := K) tInt S) w) : SrW b c S (iRng1 (tCons te tNil)) σ H (tInt (K := K)) (unW rng1? w) := fun ts P hP H1 f d hB R q => by
  refine h ts _ hP H1 f d hB _ fun v H2 n ⟨xs, e, hx⟩ f2 d2 hB2 hv => ?_
  unfold rng1? at e
  split at e
  · rename_i hn
    cases e
    have hb := rngP_le hn
    cases hv
    exact ⟨n, rfl, hb.1, hb.2, q _ H2 _ hx f2 d2 hB2 wk_rng⟩
  · cases e
theorem lw_for_s {wi : TI} {j : Nat} {tb : TS} {w : Wp (List α)} {s0 : δ} {f : δ → α → Wp (Ct ρ δ)} {P : Ct ρ δ → Prop} (d : Dom S H) (hB : Bag H b c) (ts : Sub [b, c] S) (h : SrW b c S wi σ H a w) (hf : w fun xs => loopW f xs s0 P)
    (I : δ → St → Hp → Prop) (h0 : ∀ H1, Fr [b, c] H H1 → Dom S H1 → Bag H1 b c → I s0 σ H1)
    (step : (∀ s σ' H', P (.go s) → I s σ' H' → D.nx σ' H') → ∀ (s : δ) (x : α) (C : Ct ρ δ → Prop) (v : V) (σ' : St) (H' : Hp), I s σ' H' → a.rp S H' v x → f s x C → (∀ y, C (.ret y) → P (.ret y)) → (∀ s', C (.brk s') → P (.go s')) →
      tb { D with nx := fun σ2 H2 => ∃ s', C (.go s') ∧ Fr S H' H2 ∧ I s' σ2 H2, ct := fun σ2 H2 => ∃ s', C (.go s') ∧ Fr S H' H2 ∧ I s' σ2 H2, bk := D.nx } (σ'.set j (some v)) H')
    (done : ∀ s σ' H', P (.go s) → I s σ' H' → D.nx σ' H') : tFor wi (gName j) tb D σ H := by
  refine h ts _ hf H (Fr.refl _) d hB _ fun J H1 xs hl0 f1 d1 hB1 wk => ?_
  refine ⟨fun i m σ' H' => m = xs.length - i ∧ i ≤ xs.length ∧ Fr S H1 H' ∧ ∃ s, I s σ' H' ∧ loopW f (xs.drop i) s P, ⟨_, rfl, Nat.zero_le _, Fr.refl _, s0, h0 H1 f1 d1 hB1, hl0⟩, ?_⟩
  rintro i m σ' H' ⟨rfl, hi, fr, s, hI, hl⟩
  by_cases c : i < xs.length
  · right
    rw [List.drop_eq_getElem_cons c] at hl
    simp only [loopW] at hl
    refine ⟨wk.go H' i fr c, fun σ2 H2 => ∃ s', loopW f (xs.drop (i + 1)) s' P ∧ Fr S H' H2 ∧ I s' σ2 H2, ?_, ?_⟩
    · rintro σ2 H2 ⟨s', hl', f2, hI'⟩
      exact ⟨xs.length - (i + 1), by omega, rfl, by omega, fr.trans f2, s', hI', hl'⟩
    · intro v H2 hy
      obtain ⟨rfl, hv⟩ := wk.yl H' i v H2 fr hy _ (List.getElem?_eq_getElem c)
      exact step done s xs[i] _ v σ' _ hI (a.mono fr hv) hl (fun y ey => ey) (fun s' ey => ey)
  · left
    refine ⟨wk.st H' i fr (by omega), ?_⟩
    rw [List.drop_eq_nil_of_le (by omega)] at hl
    exact done s σ' H' hl hI
theorem qw_for_s {wi : TI} {j : Nat} {tb : TS} {w : Wp (List α)} {s0 : δ} {f : δ → α → Wp (Ct ρ δ)} {P : Ct ρ δ → Prop} (d : Dom S H) (hB : Bag H b c) (ts : Sub [b, c] S) (h : SrW b c S wi σ H a w) (hf : w fun xs => loopW f xs s0 P)
    (I : δ → St → Hp → Prop) (h0 : ∀ H1, Fr [b, c] H H1 → Dom S H1 → Bag H1 b c → I s0 σ H1)
    (step : (∀ s σ' H', P (.go s) → I s σ' H' → u D σ' H') → ∀ (s : δ) (x : α) (C : Ct ρ δ → Prop) (v : V) (σ' : St) (H' : Hp), I s σ' H' → a.rp S H' v x → f s x C → (∀ y, C (.ret y) → P (.ret y)) → (∀ s', C (.brk s') → P (.go s')) →
      tb { D with nx := fun σ2 H2 => ∃ s', C (.go s') ∧ Fr S H' H2 ∧ I s' σ2 H2, ct := fun σ2 H2 => ∃ s', C (.go s') ∧ Fr S H' H2 ∧ I s' σ2 H2, bk := u D } (σ'.set j (some v)) H')
    (done : ∀ s σ' H', P (.go s) → I s σ' H' → u D σ' H') : tSeq (tFor wi (gName j) tb) u D σ H := lw_for_s (D := { D with nx := u D }) d hB ts h hf I h0 step done
theorem _root_.G.Bag.mut {p : Addr} {H H' : Hp} (h : Bag H b c) (m : Mut1 p H H') (n : p ∉ [b, c]) : Bag H' b c := by
  obtain ⟨ne, ns, sl, sd, h1, h2, r⟩ := h
  simp only [List.mem_cons, List.not_mem_nil, or_false, not_or] at n
  exact ⟨ne, ns, sl, sd, m.k _ _ h1 (Ne.symm n.1), m.k _ _ h2 (Ne.symm n.2), r⟩
def jn (f : (δ → Prop) → Prop) (k : δ → Prop) : Prop := f k
theorem jn_open {f : (δ → Prop) → Prop} {k : δ → Prop} (h : jn f k) : ∃ K_ : δ → Prop, (∀ j, K_ j → k j) ∧ f K_ := ⟨k, fun _ h => h, h⟩
/-! owned lists read -/
theorem ev_ownIx {p : Addr} {xs : List α} {i : Nat} {r : Option Int} (o : Own a S H p xs) (nt : p ∉ T) (ts : Sub T S) (hi : σ[i]? = some (some (.ref p))) (h : Ev S T te σ H (of (K := K) tInt S) r) : Ev S T (tOp (rIxL K) (tVar i) te) σ H (of a S) (bd r fun y => atI xs y) := by
  intro z e H1 f1 d Q q
  obtain ⟨y, ey, e⟩ := bd_some e
  refine ⟨_, hi, h y ey H1 f1 d _ fun v H2 s2 hv => ?_⟩
  cases hv
  obtain ⟨vs, hvs, ha⟩ := (o.fr f1 ts nt).same s2
  obtain ⟨w, hw, hz⟩ := ha.at e
  exact ⟨p, vs, y, w, rfl, rfl, .inl (.inl hvs), hw, q _ _ s2 hz⟩
theorem ev_ownLen {p : Addr} {xs : List α} {i : Nat} (o : Own a S H p xs) (nt : p ∉ T) (ts : Sub T S) (hi : σ[i]? = some (some (.ref p))) : Ev S T (tCB (fun xs H Q => ∃ p ys, xs = [.ref p] ∧ (SqL K H p ys ∨ SqT K H p ys) ∧ Q (.int ys.length) H) (tCons (tVar i) tNil)) σ H (of (K := K) tInt S) (some (xs.length : Int)) := by
  intro z e H1 f1 d Q q
  cases e
  obtain ⟨vs, hvs, ha⟩ := o.fr f1 ts nt
  exact ⟨_, hi, p, vs, rfl, .inl (.inl (.inl hvs)), q _ _ (Same.refl _) (by show V.int _ = V.int _; rw [ha.len])⟩
theorem ev_ownNe [DecidableEq α] (dt : TyD a) (hd : (dL dt).dep ≤ 64) {p : Addr} {xs : List α} {i : Nat} {r : Option (List α)} (o : Own a S H p xs) (nt : p ∉ T) (ts : Sub T S) (hi : σ[i]? = some (some (.ref p))) (h : Ev S T te σ H (of (tL a) S) r) : Ev S T (tOp (rNeD K) (tVar i) te) σ H (of (K := K) tBool S) (bd r fun y => some (!decide (xs = y))) := by
  intro z e H1 f1 d Q q
  obtain ⟨y, ey, e⟩ := bd_some e
  cases e
  refine ⟨_, hi, h y ey H1 f1 d _ fun v H2 s2 hv => ?_⟩
  obtain ⟨vs, hvs, ha⟩ := (o.fr f1 ts nt).same s2
  have rp0 : (tL a).rp [] H2 (.ref p) xs := ⟨p, vs, rfl, ⟨hvs, by simp⟩, ha.imp fun _ _ => a.sub fun _ m => by simp at m⟩
  refine ⟨_, _, (dL dt).dp rp0, (dL dt).dp hv, (dL dt).shaped hd rp0, (dL dt).shaped hd hv, ?_⟩
  rw [(dL dt).dec]
  exact q _ _ s2 rfl
end
end M

namespace M
open PySem L2 G
section
variable {K : PySem.W.Frag} {α β γ δ ε ρ : Type} {S T : AS} {σ : St} {H : Hp} {ta tb te tc td : TE} {tt tu : TT} {a : Ty K α} {b' : Ty K β} {c' : Ty K γ} {d' : Ty K δ} {D : Ends} {u t1 t2 : TS} {b c : Addr}
/-! ### None or a thing -/
def optM (o : Option α) (A : β) (B : α → β) : β := match o with | none => A | some x => B x
theorem opt_cases {o : Option α} {A : Option β} {B : α → Option β} {y : β} (h : optM o A B = some y) : (o = none ∧ A = some y) ∨ ∃ x, o = some x ∧ B x = some y := by
  cases o with
  | none => exact .inl ⟨rfl, h⟩
  | some x => exact .inr ⟨x, rfl, h⟩
theorem optp_cases {o : Option α} {A : Prop} {B : α → Prop} (h : optM o A B) : (o = none ∧ A) ∨ ∃ x, o = some x ∧ B x := by
  cases o with
  | none => exact .inl ⟨rfl, h⟩
  | some x => exact .inr ⟨x, rfl, h⟩
/-- a code whose things are never None -/
class NN (a : Ty K α) : Prop where
  h : ∀ {S H v x}, a.rp S H v x → v ≠ .non
instance : NN (K := K) tInt := ⟨fun h => by rw [show _ = _ from h]; intro z; cases z⟩
instance : NN (K := K) tBool := ⟨fun h => by rw [show _ = _ from h]; intro z; cases z⟩
instance : NN (K := K) tStr := ⟨fun h => by rw [h.1]; intro z; cases z⟩
instance : NN (K := K) tRat := ⟨fun ⟨p, e, _⟩ => by rw [e]; intro z; cases z⟩
instance : NN (tT2 a b') := ⟨fun ⟨p, u, w, e, _⟩ => by rw [e]; intro z; cases z⟩
instance : NN (tL a) := ⟨fun ⟨p, u, e, _⟩ => by rw [e]; intro z; cases z⟩
instance : NN (tTs a) := ⟨fun ⟨p, u, e, _⟩ => by rw [e]; intro z; cases z⟩
theorem ev_oN {r : Option Unit} (h : Ev S T te σ H (of (K := K) tNone S) r) : Ev S T te σ H (of (tOpt a) S) (bd r fun _ => some none) := ev_as h fun x y e H1 H2 v d hv => by
  cases e
  exact hv
theorem ev_oS [NN a] {r : Option α} (h : Ev S T te σ H (of a S) r) : Ev S T te σ H (of (tOpt a) S) (bd r fun x => some (some x)) := ev_as h fun x y e H1 H2 v d hv => by
  cases e
  exact ⟨NN.h hv, hv⟩
theorem eb_isN (ts : Sub T S) {i : Nat} {v : V} {x : Option α} (h : (tOpt a).rp S H v x) (e : σ[i]? = some (some v)) : EvB S T (tTest (tOp (fun x y H Q => y = .non ∧ Q (.bl (decide (x = .non))) H) (tVar i) (tC .non))) σ H (some x.isNone) := by
  intro z ez H1 f d Q q
  cases ez
  refine ⟨v, e, rfl, _, rfl, ?_⟩
  cases x with
  | none => rw [show v = .non from h]; exact q H1 (Same.refl _)
  | some y => rw [decide_eq_false h.1]; exact q H1 (Same.refl _)
theorem eb_notN (ts : Sub T S) {i : Nat} {v : V} {x : Option α} (h : (tOpt a).rp S H v x) (e : σ[i]? = some (some v)) : EvB S T (tTest (tOp (fun x y H Q => y = .non ∧ Q (.bl (!decide (x = .non))) H) (tVar i) (tC .non))) σ H (some x.isSome) := by
  intro z ez H1 f d Q q
  cases ez
  refine ⟨v, e, rfl, _, rfl, ?_⟩
  cases x with
  | none => rw [show v = .non from h]; exact q H1 (Same.refl _)
  | some y => rw [decide_eq_false h.1]; exact q H1 (Same.refl _)
theorem opt_is {v : V} {x : Option α} {y : α} (h : (tOpt a).rp S H v x) (e : x = some y) : a.rp S H v y := by
  subst e
  exact h.2
theorem opt_back [NN a] {v : V} {x : Option α} {y : α} (h : a.rp S H v y) (e : x = some y) : (tOpt a).rp S H v x := by
  subst e
  exact ⟨NN.h h, h⟩
/-! ### tuples of four -/
def tT4 (c1 : Ty K α) (c2 : Ty K β) (c3 : Ty K γ) (c4 : Ty K δ) : Ty K (α × β × γ × δ) where
  rp S H v x := ∃ a u1 u2 u3 u4, v = .ref a ∧ nT K S H a [u1, u2, u3, u4] ∧ c1.rp S H u1 x.1 ∧ c2.rp S H u2 x.2.1 ∧ c3.rp S H u3 x.2.2.1 ∧ c4.rp S H u4 x.2.2.2
  mono f := fun ⟨a, u1, u2, u3, u4, e, h, h1, h2, h3, h4⟩ => ⟨a, u1, u2, u3, u4, e, h.mono f, c1.mono f h1, c2.mono f h2, c3.mono f h3, c4.mono f h4⟩
  ext f := fun ⟨a, u1, u2, u3, u4, e, h, h1, h2, h3, h4⟩ => ⟨a, u1, u2, u3, u4, e, h.ext f, c1.ext f h1, c2.ext f h2, c3.ext f h3, c4.ext f h4⟩
  sub f := fun ⟨a, u1, u2, u3, u4, e, h, h1, h2, h3, h4⟩ => ⟨a, u1, u2, u3, u4, e, h.sub f, c1.sub f h1, c2.sub f h2, c3.sub f h3, c4.sub f h4⟩
theorem ev_tup4 {ra : Option α} {rb : Option β} {rc : Option γ} {rd : Option δ} (ha : Ev S T ta σ H (of a S) ra) (hb : Ev S T tb σ H (of b' S) rb) (hc : Ev S T tc σ H (of c' S) rc) (hd : Ev S T td σ H (of d' S) rd) :
    Ev S T (tTup (tCons ta (tCons tb (tCons tc (tCons td tNil))))) σ H (of (tT4 a b' c' d') S) (bd ra fun x => bd rb fun y => bd rc fun z => bd rd fun w => some (x, y, z, w)) := by
  intro z e H1 f1 d Q q
  obtain ⟨x, ex, e⟩ := bd_some e
  obtain ⟨y, ey, e⟩ := bd_some e
  obtain ⟨z3, ez, e⟩ := bd_some e
  obtain ⟨w4, ew, e⟩ := bd_some e
  cases e
  refine ha x ex H1 f1 d _ fun v1 H2 s2 h1 => hb y ey H2 (f1.trans (Fr.same s2)) (d.same s2) _ fun v2 H3 s3 h2 => hc z3 ez H3 (f1.trans (Fr.same (s2.trans s3))) (d.same (s2.trans s3)) _ fun v3 H4 s4 h3 => hd w4 ew H4 (f1.trans (Fr.same ((s2.trans s3).trans s4))) (d.same ((s2.trans s3).trans s4)) _ fun v4 H5 s5 h4 => ⟨(by show 4 ≤ sizeLine; decide), fun p hp => ?_⟩
  have sn := same_new (o := .tup [v1, v2, v3, v4]) hp
  have dd := d.same (((s2.trans s3).trans s4).trans s5)
  exact q _ _ ((((s2.trans s3).trans s4).trans s5).trans sn) ⟨p, v1, v2, v3, v4, rfl, .inl ⟨.inl upd_same, dd.not_mem hp⟩, a.mono (Fr.same (((s3.trans s4).trans s5).trans sn)) h1, b'.mono (Fr.same ((s4.trans s5).trans sn)) h2, c'.mono (Fr.same (s5.trans sn)) h3, d'.mono (Fr.same sn) h4⟩
/-! a, b = e -/
theorem q_unp2 {i j : Nat} {r : Option (α × β)} {x : α × β} (d : Dom S H) (h : Ev S T te σ H (of (tT2 a b') S) r) (e : r = some x) (k : ∀ v w H1, Same H H1 → a.rp S H1 v x.1 → b'.rp S H1 w x.2 → u D ((σ.set i (some v)).set j (some w)) H1) :
    tSeq (tAsg te (gTup K 2 (gCons (gName i) (gCons (gName j) gNil)))) u D σ H := h x e H (Fr.refl _) d _ fun v H1 s1 ⟨p, u1, u2, ev, hp, h1, h2⟩ => ⟨p, _, ev, hp.sq, rfl, u1, _, rfl, u2, _, rfl, rfl, k u1 u2 H1 s1 h1 h2⟩
theorem q_unp4 {i j l m : Nat} {r : Option (α × β × γ × δ)} {x : α × β × γ × δ} (d : Dom S H) (h : Ev S T te σ H (of (tT4 a b' c' d') S) r) (e : r = some x) (k : ∀ v1 v2 v3 v4 H1, Same H H1 → a.rp S H1 v1 x.1 → b'.rp S H1 v2 x.2.1 → c'.rp S H1 v3 x.2.2.1 → d'.rp S H1 v4 x.2.2.2 → u D ((((σ.set i (some v1)).set j (some v2)).set l (some v3)).set m (some v4)) H1) :
    tSeq (tAsg te (gTup K 4 (gCons (gName i) (gCons (gName j) (gCons (gName l) (gCons (gName m) gNil)))))) u D σ H := h x e H (Fr.refl _) d _ fun v H1 s1 ⟨p, u1, u2, u3, u4, ev, hp, h1, h2, h3, h4⟩ => ⟨p, _, ev, hp.sq, rfl, u1, _, rfl, u2, _, rfl, u3, _, rfl, u4, _, rfl, rfl, k u1 u2 u3 u4 H1 s1 h1 h2 h3 h4⟩
theorem ev_revL {r : Option (List α)} (h : Ev S T te σ H (of (tL a) S) r) : Ev S T (tRevL K te) σ H (nw a S) (bd r fun x => some x.reverse) := by
  intro z e H1 f1 d Q q
  obtain ⟨x, ex, e⟩ := bd_some e
  cases e
  refine h x ex H1 f1 d _ fun v H2 s2 hv => ?_
  obtain ⟨p, vs, rfl, hp, ha⟩ := hv
  have hr : ∀ {vs : List V} {xs : List α}, All2 (a.rp S H2) vs xs → All2 (a.rp S H2) vs.reverse xs.reverse := fun {vs xs} h => by
    induction h with
    | nil => exact .nil
    | cons h _ ih => rw [List.reverse_cons, List.reverse_cons]; exact ih.snoc h
  exact ⟨p, vs, rfl, hp.sq, fun l hl => q _ _ (s2.trans (same_new hl)) ⟨l, rfl, s2.free hl, _, upd_same, (hr ha).imp fun _ _ h => a.mono (Fr.same (same_new hl)) (a.ext hl h)⟩⟩
end
end M

namespace M
open PySem L2 G
section
variable {K : PySem.W.Frag} {α β γ δ ε ρ : Type} {S T : AS} {σ : St} {H : Hp} {ta tb te tc td : TE} {tt tu : TT} {a : Ty K α} {b' : Ty K β} {c' : Ty K γ} {d' : Ty K δ} {D : Ends} {u t1 t2 : TS} {b c : Addr}
def rLenQ (K : PySem.W.Frag) : List V → Hp → VK → Prop := fun xs H Q => ∃ p ys, xs = [.ref p] ∧ (SqL K H p ys ∨ SqT K H p ys) ∧ Q (.int ys.length) H
/-! ### lists put together -/
def cat? (xs ys : List α) : Option (List α) := if xs.length + ys.length ≤ 100000 then some (xs ++ ys) else none
theorem od_cat : OpD (tL a) (tL a) S (nw a S) rCat cat? := by
  intro x y z e H1 v w d hv hw Q q
  unfold cat? at e
  split at e
  · rename_i hl
    cases e
    obtain ⟨p, vs, rfl, hp, ha⟩ := hv
    obtain ⟨p', ws, rfl, hp', hb⟩ := hw
    refine ⟨p, p', vs, ws, rfl, rfl, hp.1, hp'.1, Nat.le_trans (by rw [ha.len, hb.len]; exact hl) (by decide), fun l hl => q _ _ (same_new hl) ⟨l, rfl, hl, _, upd_same, (ha.app hb).imp fun _ _ h => a.mono (Fr.same (same_new hl)) (a.ext hl h)⟩⟩
  · cases e
theorem ev_catO {p : Addr} {ys : List α} {i : Nat} {ra : Option (List α)} (o : Own a S H p ys) (nt : p ∉ T) (ts : Sub T S) (hi : σ[i]? = some (some (.ref p))) (ha : Ev S T ta σ H (of (tL a) S) ra) : Ev S T (tOp rCat ta (tVar i)) σ H (nw a S) (bd ra fun x => cat? x ys) := by
  intro z e H1 f1 d Q q
  obtain ⟨x, ex, e⟩ := bd_some e
  unfold cat? at e
  split at e
  · rename_i hl
    cases e
    refine ha x ex H1 f1 d _ fun v H2 s2 hv => ⟨_, hi, ?_⟩
    obtain ⟨ws, hw, hb⟩ := (o.fr f1 ts nt).same s2
    obtain ⟨p', vs, rfl, hp, hvs⟩ := hv
    exact ⟨p', p, vs, ws, rfl, rfl, hp.1, hw, Nat.le_trans (by rw [hvs.len, hb.len]; exact hl) (by decide), fun l hl => q _ _ (s2.trans (same_new hl)) ⟨l, rfl, s2.free hl, _, upd_same, (hvs.app hb).imp fun _ _ h => a.mono (Fr.same (same_new hl)) (a.ext hl h)⟩⟩
  · cases e
theorem Fr.transx {S S' : AS} {H0 H1 H2 : Hp} (f : Fr S H0 H1) (g : Fr S' H1 H2) (h : ∀ a ∈ S', a ∉ S → H0 a = none) : Fr S H0 H2 := fun a o e n => g a o (f a o e n) fun m => by rw [h a m n] at e; cases e
theorem fresh_cons {S S' : AS} {H0 : Hp} {p : Addr} (h : ∀ a ∈ S', a ∉ S → H0 a = none) (n : H0 p = none) : ∀ a ∈ p :: S', a ∉ S → H0 a = none := fun a m k => by
  rcases List.mem_cons.mp m with rfl | m
  · exact n
  · exact h a m k
def rep? (xs : List α) (k : Int) : Option (List α) := if 0 ≤ k ∧ k ≤ 1000 ∧ xs.length ≤ 100 then some (List.replicate k.toNat xs).flatten else none
theorem All2.rep {F : V → α → Prop} {vs : List V} {xs : List α} (h : All2 F vs xs) : ∀ n : Nat, All2 F (List.replicate n vs).flatten (List.replicate n xs).flatten
  | 0 => .nil
  | n + 1 => by
    rw [List.replicate_succ, List.replicate_succ, List.flatten_cons, List.flatten_cons]
    exact h.app (All2.rep h n)
theorem od_rep : OpD (tL a) (K := K) tInt S (nw a S) rRep rep? := by
  intro x y z e H1 v w d hv hw Q q
  unfold rep? at e
  split at e
  · rename_i hl
    cases e
    obtain ⟨p, vs, rfl, hp, ha⟩ := hv
    cases hw
    refine ⟨p, y, vs, rfl, rfl, hp.1, by omega, by omega, ?_, fun l hl => q _ _ (same_new hl) ⟨l, rfl, hl, _, upd_same, (ha.rep _).imp fun _ _ h => a.mono (Fr.same (same_new hl)) (a.ext hl h)⟩⟩
    refine Nat.le_trans (Nat.mul_le_mul (show vs.length ≤ 100 by rw [ha.len]; omega) (show y.toNat ≤ 1000 by omega)) (by decide)
  · cases e
/-! ### the least of several -/
theorem All2.ints {S : AS} {H : Hp} : ∀ {vs : List V} {xs : List Int}, All2 ((tInt (K := K)).rp S H) vs xs → vs = xs.map V.int
  | _, _, .nil => rfl
  | _, _, .cons h r => by rw [List.map_cons, ← All2.ints r, show _ = _ from h]
theorem ev_min {r : Option (List Int)} (h : Ev S T te σ H (of (K := K) (tL tInt) S) r) : Ev S T (tCB (rMin K) (tCons te tNil)) σ H (of (K := K) tInt S) (bd r fun x => x.min?) := by
  intro z e H1 f1 d Q q
  obtain ⟨x, ex, e⟩ := bd_some e
  have hm := List.min?_eq_some_iff.mp e
  refine h x ex H1 f1 d _ fun v H2 s hv => ?_
  obtain ⟨p, vs, rfl, hp, ha⟩ := hv
  refine ⟨p, x, rfl, by rw [← ha.ints]; exact hp.sq, List.length_pos_of_mem hm.1, fun m h1 h2 => ?_⟩
  have : m = z := Int.le_antisymm (h2 z hm.1) (hm.2 m h1)
  rw [this]
  exact q _ H2 s rfl
/-! ### in -/
theorem inV_int (i : Int) : ∀ xs : List Int, inV (.int i) (xs.map V.int) = decide (i ∈ xs)
  | [] => by simp [inV]
  | x :: r => by
    have ih := inV_int i r
    unfold inV at ih ⊢
    rw [List.map_cons, List.any_cons, ih]
    have : eqV (.int x) (.int i) = decide (x = i) := by
      simp [eqV]
      rfl
    rw [this]
    by_cases c : x = i
    · subst c; simp
    · have : ¬ i = x := fun z => c z.symm
      simp [c, this]
theorem flat_ints : ∀ xs : List Int, (xs.map V.int).all flatV = true
  | [] => rfl
  | x :: r => by rw [List.map_cons, List.all_cons, flat_ints r]; rfl
theorem od_inI {neg : Bool} : OpD (K := K) tInt (tL tInt) S (of (K := K) tBool S) (rIn K neg) (fun x xs => some (if neg then !decide (x ∈ xs) else decide (x ∈ xs))) := by
  intro x y z e H1 v w d hv hw Q q
  cases e
  obtain ⟨p, vs, rfl, hp, ha⟩ := hw
  cases hv
  refine ⟨p, vs, rfl, .inl hp.sq, rfl, by rw [ha.ints]; exact flat_ints y, ?_⟩
  rw [ha.ints, inV_int]
  exact q _ H1 (Same.refl _) rfl
theorem od_inIT {neg : Bool} : OpD (K := K) tInt (tTs tInt) S (of (K := K) tBool S) (rIn K neg) (fun x xs => some (if neg then !decide (x ∈ xs) else decide (x ∈ xs))) := by
  intro x y z e H1 v w d hv hw Q q
  cases e
  obtain ⟨p, vs, rfl, hp, ha⟩ := hw
  cases hv
  refine ⟨p, vs, rfl, .inr hp.sq, rfl, by rw [ha.ints]; exact flat_ints y, ?_⟩
  rw [ha.ints, inV_int]
  exact q _ H1 (Same.refl _) rfl
/-! ### a list or a tuple -/
def tSq (a : Ty K α) : Ty K (List α) where
  rp S H v xs := (tL a).rp S H v xs ∨ (tTs a).rp S H v xs
  mono f := fun h => h.elim (fun h => .inl ((tL a).mono f h)) (fun h => .inr ((tTs a).mono f h))
  ext f := fun h => h.elim (fun h => .inl ((tL a).ext f h)) (fun h => .inr ((tTs a).ext f h))
  sub f := fun h => h.elim (fun h => .inl ((tL a).sub f h)) (fun h => .inr ((tTs a).sub f h))
theorem ev_L2Sq {r : Option (List α)} (h : Ev S T te σ H (of (tL a) S) r) : Ev S T te σ H (of (tSq a) S) r := fun x e H1 f d Q q => h x e H1 f d Q fun v H2 s hv => q v H2 s (.inl hv)
theorem ev_T2Sq {r : Option (List α)} (h : Ev S T te σ H (of (tTs a) S) r) : Ev S T te σ H (of (tSq a) S) r := fun x e H1 f d Q q => h x e H1 f d Q fun v H2 s hv => q v H2 s (.inr hv)
theorem od_inISq {neg : Bool} : OpD (K := K) tInt (tSq tInt) S (of (K := K) tBool S) (rIn K neg) (fun x xs => some (if neg then !decide (x ∈ xs) else decide (x ∈ xs))) := by
  intro x y z e H1 v w d hv hw Q q
  rcases hw with hw | hw
  · exact od_inI x y z e H1 v w d hv hw Q q
  · exact od_inIT x y z e H1 v w d hv hw Q q
theorem ev_listSq {r : Option (List α)} (h : Ev S T te σ H (of (tSq a) S) r) : Ev S T (tCB (fun xs H Q => ∃ p ys, xs = [.ref p] ∧ (SqL K H p ys ∨ SqT K H p ys) ∧ ∀ l, H l = none → Q (.ref l) (upd H l (.lst ys))) (tCons te tNil)) σ H (nw a S) r := fun x e H1 f d Q q => by
  refine h x e H1 f d _ fun v H2 s2 hv => ?_
  rcases hv with ⟨p, vs, rfl, hp, ha⟩ | ⟨p, vs, rfl, hp, ha⟩
  · exact ⟨p, vs, rfl, .inl hp.sq, fun l hl => q _ _ (s2.trans (same_new hl)) ⟨l, rfl, s2.free hl, vs, upd_same, ha.imp fun _ _ h => a.mono (Fr.same (same_new hl)) (a.ext hl h)⟩⟩
  · exact ⟨p, vs, rfl, .inr hp.sq, fun l hl => q _ _ (s2.trans (same_new hl)) ⟨l, rfl, s2.free hl, vs, upd_same, ha.imp fun _ _ h => a.mono (Fr.same (same_new hl)) (a.ext hl h)⟩⟩
/-! ### tuple(xs) -/
theorem ev_tupleL {r : Option (List α)} (h : Ev S T te σ H (of (tL a) S) r) : Ev S T (tCB (fun xs H Q => ∃ p ys, xs = [.ref p] ∧ ((SqL K H p ys ∧ ∀ l, H l = none → Q (.ref l) (upd H l (.tup ys))) ∨ (SqT K H p ys ∧ Q (.ref p) H))) (tCons te tNil)) σ H (of (tTs a) S) r := fun x e H1 f d Q q => by
  refine h x e H1 f d _ fun v H2 s2 hv => ?_
  obtain ⟨p, vs, rfl, hp, ha⟩ := hv
  exact ⟨p, vs, rfl, .inl ⟨hp.sq, fun l hl => q _ _ (s2.trans (same_new hl)) ⟨l, vs, rfl, .inl ⟨.inl upd_same, (d.same s2).not_mem hl⟩, ha.imp fun _ _ h => a.mono (Fr.same (same_new hl)) h⟩⟩⟩
/-! ### xs[i] = e of an owned list -/
def set? (xs : List α) (i : Int) (x : α) : Option (List α) := (ixN xs.length i).bind fun j => some (xs.set j x)
theorem l_set {p : Addr} {xs ys : List α} {i : Nat} {r : Option α} {ri : Option Int} {x : α} {k : Int} (d : Dom S H) (o : Own a S H p xs) (im : p ∈ S) (nt : p ∉ T) (ts : Sub T S) (hi : σ[i]? = some (some (.ref p))) (h : Ev S T te σ H (of a S) r) (e : r = some x) (hk : Ev S T td σ H (of (K := K) tInt S) ri) (ek : ri = some k) (f : set? xs k x = some ys)
    (q : ∀ H1, Mut1 p H H1 → Fr S H H1 → Own a S H1 p ys → D.nx σ H1) : tAsg te (gSub (tVar i) td rSetL) D σ H := by
  obtain ⟨vs, hv, ha⟩ := o
  obtain ⟨j, ej, f⟩ := bd_some f
  cases f
  refine h x e H (Fr.refl _) d _ fun v H1 s1 hx => ⟨_, hi, hk k ek H1 (Fr.same s1) (d.same s1) _ fun w H2 s2 hw => ?_⟩
  cases hw
  refine ⟨p, vs, k, j, rfl, rfl, s2 _ _ (s1 _ _ hv), by rw [ha.len]; exact ej, ?_⟩
  have f1 : Fr S H2 (upd H2 p (.lst (vs.set j v))) := fr_upd im
  refine q _ ⟨fun b ob e n => by rw [upd_ne n]; exact s2 _ _ (s1 _ _ e), by rw [upd_same]; intro z; cases z⟩ ((Fr.same (s1.trans s2)).trans f1) ⟨_, upd_same, ?_⟩
  exact (All2.set (a.mono (Fr.same s2) hx) j (ha.imp fun _ _ h => a.mono (Fr.same (s1.trans s2)) h)).imp fun _ _ h => a.mono f1 h
theorem q_set {p : Addr} {xs ys : List α} {i : Nat} {r : Option α} {ri : Option Int} {x : α} {k : Int} (d : Dom S H) (o : Own a S H p xs) (im : p ∈ S) (nt : p ∉ T) (ts : Sub T S) (hi : σ[i]? = some (some (.ref p))) (h : Ev S T te σ H (of a S) r) (e : r = some x) (hk : Ev S T td σ H (of (K := K) tInt S) ri) (ek : ri = some k) (f : set? xs k x = some ys)
    (q : ∀ H1, Mut1 p H H1 → Fr S H H1 → Own a S H1 p ys → u D σ H1) : tSeq (tAsg te (gSub (tVar i) td rSetL)) u D σ H := l_set (D := { D with nx := u D }) d o im nt ts hi h e hk ek f q
/-! ### range(a, b, -1) -/
def dnL (i : Int) (n : Nat) : List Int := (List.range n).map fun (k : Nat) => i - (k : Int)
def rng3? (i j : Int) : Option (List Int) := if rngP i && rngP j then some (dnL i (i - j).toNat) else none
theorem wk_dn {i : Int} {n : Nat} : Wk (Itc i (-1) n) (tInt (K := K)) S H (dnL i n) where
  go H' k f hi := by
    show k < n
    simpa [dnL] using hi
  yl H' k v H'' f h y hy := by
    obtain ⟨e, hx⟩ := h
    refine ⟨e, ?_⟩
    unfold dnL at hy
    rw [List.getElem?_map] at hy
    cases q : (List.range n)[k]? with
    | none => rw [q] at hy; cases hy
    | some m =>
      rw [q] at hy
      cases hy
      have : m = k := by
        have := (List.getElem?_eq_some_iff.mp q).2
        simp at this
        omega
      subst this
      rw [hx]
      show V.int (i + ((m : Nat) : Int) * -1) = V.int (i - (m : Int))
      congr 1
      omega
  st H' k f hi := by
    show n ≤ k
    simpa [dnL] using hi
theorem sr_r3 {te tg : TE} {r r' : Option Int} (h : Ev S T te σ H (of (K := K) tInt S) r) (h' : Ev S T tg σ H (of (K := K) tInt S) r') : Sr S T (iRng3 (tCons te (tCons tg (tCons (tUn (rU fun i => .int (-i)) (tC (.int 1))) tNil)))) σ H (tInt (K := K)) (bd r fun x => bd r' fun y => rng3? x y) := fun xs e H1 f d R q => by
  obtain ⟨lo, el, e⟩ := bd_some e
  obtain ⟨n, en, e⟩ := bd_some e
  unfold rng3? at e
  split at e
  · rename_i hn
    cases e
    rw [Bool.and_eq_true] at hn
    have hb := rngP_le hn.1
    have hc := rngP_le hn.2
    refine h lo el H1 f d _ fun v H2 s hv => h' n en H2 (f.trans (Fr.same s)) (d.same s) _ fun v' H3 s3 hv' => ?_
    cases hv
    cases hv'
    exact ⟨1, rfl, lo, n, -1, _, rfl, RgC.neg hb.1 hb.2 hc.1 hc.2, q _ H3 (s.trans s3) wk_dn⟩
  · cases e
end
end M

namespace M
open PySem L2 G
section
variable {K : PySem.W.Frag} {α β γ δ ε ρ : Type} {S T : AS} {σ : St} {H : Hp} {ta tb te tc td : TE} {tt tu : TT} {a : Ty K α} {b' : Ty K β} {D : Ends} {u t1 t2 : TS} {b c : Addr}
/-! ### comprehensions that draw -/
def filW (f : α → Wp (Option β)) : List α → Wp (List β)
  | [], P => P []
  | x :: xs, P => f x fun o => filW f xs fun ys => P (o.toList ++ ys)
def lcW (w : Wp (List α)) (f : α → Wp (Option β)) : Wp (List β) := fun P => w fun xs => if xs.length < 100000 then filW f xs P else False
theorem ew_lcCore {wi : TI} {j : Nat} {ws : List Nat} {w : Wp (List α)} {f : α → Wp (Option β)} (h : SrW b c S wi σ H a w) (hw : ∀ x, wipe ((wipe σ ws).set j (some x)) ws = wipe σ ws)
    (he : ∀ (x : α) (v : V) (H2 H' : Hp) (p : Addr) (Po : Option β → Prop), Sub [b, c] S → Fr [b, c] H H2 → H2 p = none → Fr [b, c] H2 H' → a.rp (p :: S) H' v x → Dom (p :: S) H' → Bag H' b c → f x Po → ∀ (Q1 : V → Hp → Prop) (Q0 : Hp → Prop),
      (∀ y w H3, Po (some y) → Fr [b, c] H' H3 → Dom (p :: S) H3 → Bag H3 b c → b'.rp (p :: S) H3 w y → Q1 w H3) → (∀ H3, Po none → Fr [b, c] H' H3 → Dom (p :: S) H3 → Bag H3 b c → Q0 H3) →
      tt ((wipe σ ws).set j (some v)) H' fun k H3 => if k = true then te ((wipe σ ws).set j (some v)) H3 Q1 else Q0 H3) :
    EvW b c S (tLc wi (gName j) tt te ws) σ H (nw b' S) (lcW w f) := fun ts P hP H1 f1 d hB Q q => by
  refine h ts _ hP H1 f1 d hB _ fun J H2 xs hx f2 d2 hB2 wk => fun Dl hD => ?_
  split at hx
  rotate_left
  · exact hx.elim
  rename_i hlen
  have nD : Dl ∉ [b, c] := hB2.dom.not_mem hD
  have sD : Same H2 (upd H2 Dl (.lst [])) := same_new hD
  refine ⟨fun i m H' => m = xs.length - i ∧ i ≤ xs.length ∧ ∃ acc pre, H' Dl = some (.lst acc) ∧ Fr [b, c] H2 H' ∧ Dom (Dl :: S) H' ∧ Bag H' b c ∧ acc.length ≤ i ∧ All2 (b'.rp (Dl :: S) H') acc pre ∧ filW f (xs.drop i) fun suf => P (pre ++ suf),
    ⟨_, rfl, Nat.zero_le _, [], [], upd_same, Fr.same sD, (d2.same sD).cons upd_same, hB2.same sD, Nat.zero_le _, .nil, hx⟩, ?_⟩
  rintro i m H' ⟨rfl, hi, acc, pre, h1, h2, h3, h4, h5, h6, h7⟩
  have g2 : Fr S H2 H' := h2.sub ts
  by_cases cc : i < xs.length
  · right
    rw [List.drop_eq_getElem_cons cc] at h7
    simp only [filW] at h7
    refine ⟨wk.go H' i g2 cc, fun H3 => ∃ acc pre, H3 Dl = some (.lst acc) ∧ Fr [b, c] H2 H3 ∧ Dom (Dl :: S) H3 ∧ Bag H3 b c ∧ acc.length ≤ i + 1 ∧ All2 (b'.rp (Dl :: S) H3) acc pre ∧ filW f (xs.drop (i + 1)) fun suf => P (pre ++ suf), ?_, ?_⟩
    · rintro H3 ⟨acc, pre, k⟩
      exact ⟨xs.length - (i + 1), by omega, rfl, by omega, acc, pre, k⟩
    · intro v H3 hy
      obtain ⟨rfl, hv⟩ := wk.yl H' i v H3 g2 hy _ (List.getElem?_eq_getElem cc)
      refine ⟨hw v, ?_⟩
      refine he xs[i] v H2 _ Dl _ ts (f1.trans f2) hD h2 (a.mono (h2.sub (sub_cons ts)) (a.ext hD hv)) h3 h4 h7 _ _ (fun y w H4 hPo f4 d4 hB4 hw4 => ?_) (fun H4 hPo f4 d4 hB4 => ?_)
      · have fD : Fr (Dl :: S) H4 (upd H4 Dl (.lst (acc ++ [w]))) := fr_upd (List.mem_cons_self ..)
        refine ⟨acc, f4 _ _ h1 nD, Nat.lt_of_lt_of_le (by omega : acc.length < 100000) (by decide), acc ++ [w], pre ++ [y], upd_same, fun p ob eb nb => ?_, d4.upd, ?_, by simp; omega, ?_, ?_⟩
        · rw [upd_ne (ne_of_none eb hD)]
          exact f4 _ _ (h2 _ _ eb nb) nb
        · obtain ⟨ne, ns, sl, sd, e1, e2, r⟩ := hB4
          simp only [List.mem_cons, List.not_mem_nil, or_false, not_or] at nD
          exact ⟨ne, ns, sl, sd, by rw [upd_ne (Ne.symm nD.1)]; exact e1, by rw [upd_ne (Ne.symm nD.2)]; exact e2, r⟩
        · exact ((h6.imp fun _ _ h => b'.mono (f4.sub (sub_cons ts)) h).snoc hw4).imp fun _ _ h => b'.mono fD h
        · simpa using hPo
      · refine ⟨acc, pre, f4 _ _ h1 nD, h2.trans f4, d4, hB4, by omega, h6.imp fun _ _ h => b'.mono (f4.sub (sub_cons ts)) h, ?_⟩
        simpa using hPo
  · left
    rw [List.drop_eq_nil_of_le (by omega)] at h7
    refine ⟨wk.st H' i g2 (by omega), q _ _ pre (by simpa [filW] using h7) (f2.trans h2) (h3.sub (sub_cons fun a m => m)) h4 ⟨Dl, rfl, fr_back f2 hB2.dom hD, acc, h1, h6⟩⟩
theorem ew_lc {wi : TI} {j : Nat} {ws : List Nat} {w : Wp (List α)} {f : α → Wp β} (h : SrW b c S wi σ H a w) (hw : ∀ x, wipe ((wipe σ ws).set j (some x)) ws = wipe σ ws)
    (he : ∀ (x : α) (v : V) (H2 H' : Hp) (p : Addr), Sub [b, c] S → Fr [b, c] H H2 → H2 p = none → Fr [b, c] H2 H' → a.rp (p :: S) H' v x → EvW b c (p :: S) te ((wipe σ ws).set j (some v)) H' (of b' (p :: S)) (f x)) :
    EvW b c S (tLc wi (gName j) tYes te ws) σ H (nw b' S) (lcW w fun x Po => f x fun y => Po (some y)) :=
  ew_lcCore h hw fun x v H2 H' p Po ts g1 g2 g3 g4 g5 g6 g7 Q1 Q0 q1 q0 => by
    refine G.yes_ ?_
    exact he x v H2 H' p ts g1 g2 g3 g4 (sub_cons ts) _ g7 H' (Fr.refl _) g5 g6 _ fun w H3 y hy f3 d3 hB3 hw3 => q1 y w H3 hy f3 d3 hB3 hw3
theorem ew_lcF {wi : TI} {j : Nat} {ws : List Nat} {w : Wp (List α)} {t : α → Wp Bool} {f : α → Wp β} (h : SrW b c S wi σ H a w) (hw : ∀ x, wipe ((wipe σ ws).set j (some x)) ws = wipe σ ws)
    (ht : ∀ (x : α) (v : V) (H2 H' : Hp) (p : Addr), Sub [b, c] S → Fr [b, c] H H2 → H2 p = none → Fr [b, c] H2 H' → a.rp (p :: S) H' v x → BvW b c (p :: S) tt ((wipe σ ws).set j (some v)) H' (t x))
    (he : ∀ (x : α) (v : V) (H2 H' : Hp) (p : Addr), Sub [b, c] S → Fr [b, c] H H2 → H2 p = none → Fr [b, c] H2 H' → a.rp (p :: S) H' v x → EvW b c (p :: S) te ((wipe σ ws).set j (some v)) H' (of b' (p :: S)) (f x)) :
    EvW b c S (tLc wi (gName j) tt te ws) σ H (nw b' S) (lcW w fun x Po => t x fun k => if k then f x fun y => Po (some y) else Po none) :=
  ew_lcCore h hw fun x v H2 H' p Po ts g1 g2 g3 g4 g5 g6 g7 Q1 Q0 q1 q0 => by
    refine ht x v H2 H' p ts g1 g2 g3 g4 (sub_cons ts) _ g7 H' (Fr.refl _) g5 g6 _ fun H3 k hk f3 d3 hB3 => ?_
    cases k with
    | true =>
      have hk := ifp_t hk
      show if true = true then _ else _
      rw [if_pos rfl]
      refine he x v H2 H' p ts g1 g2 g3 g4 (sub_cons ts) _ hk H3 f3 d3 hB3 _ fun w H4 y hy f4 d4 hB4 hw4 => q1 y w H4 hy (f3.trans f4) d4 hB4 hw4
    | false =>
      have hk := ifp_f hk
      show if false = true then _ else _
      rw [if_neg (by decide)]
      exact q0 H3 hk f3 d3 hB3
end
end M

namespace M
open PySem L2 G
/-! ### a def with one keyword-only parameter that has a default -/
structure AtK (K : PySem.W.Frag) (mg : Str → Option Value) (name : String) (st : Stmt) (ps : List Str) (n : Nat) (kw : Str) (dv : V) (f : Addr) (fd : FuncData) : Prop where
  F : Fun K (Str.ofString name) (Str.ofString name) st f fd
  m : mg (Str.ofString name) = some (.ref f)
  kb : KBn K fd ps n [kw] (fun us ws => us ++ ws) (fun vs zs => vs ++ zs)
  b0 : ∃ ds, Vals [dv] ds ∧ Binds K fd ps ds
theorem kb_of {K : PySem.W.Frag} {x : Str} {st : Stmt} {f : Addr} {fd : FuncData} {ps : List Str} {n : Nat} {kw : Str} (F : Fun K x x st f fd)
    (h : ∀ (kV doc pm : Value) (an : Option Addr) (cdv ct : Value) (us ws : List Value), us.length = n → ws.length = 1 → bindArgs (PySem.W.fnOf x x (defArgs st) (defBody st) (defScope st) .none kV doc pm an cdv ct) ⟨us, [kw].zip ws⟩ = pure (ps.zip (us ++ ws))) :
    KBn K fd ps n [kw] (fun us ws => us ++ ws) (fun vs zs => vs ++ zs) := by
  obtain ⟨oc, od, kV, doc, pm, an, cdv, ct, osl, rfl, lk, hcd⟩ := F.ex
  exact ⟨fun s us ws X h1 h2 => .of_eq (h kV doc pm an cdv ct us ws h1 h2), fun r1 r2 => r1.append r2⟩
section
variable {K : PySem.W.Frag} {α β γ δ ε ρ : Type} {S T : AS} {σ : St} {H : Hp} {t1 t2 t3 t4 t5 : TE} {a1 : Ty K α} {a2 : Ty K β} {a3 : Ty K γ} {R : AS → Rl ρ} {E : XK}
theorem ev_callK {f : α × β × γ × Unit → Option ρ} {r1 : Option α} {r2 : Option β} {r3 : Option γ} (h1 : Ev S T t1 σ H (of a1 S) r1) (h2 : Ev S T t2 σ H (of a2 S) r2) (h3 : Ev S T t3 σ H (of a3 S) r3) :
    Ev S T (tCallN 2 1 (spF (aCons a1 (aCons a2 (aCons a3 aNil))) R f) (fun vs zs => vs ++ zs) E (tCons t1 (tCons t2 tNil)) (tCons t3 tNil)) σ H (R S) (bd r1 fun x => bd r2 fun y => bd r3 fun z => f (x, y, z, ())) := by
  intro o e H1 f1 d Q q
  obtain ⟨x, ex, e⟩ := bd_some e
  obtain ⟨y, ey, e⟩ := bd_some e
  obtain ⟨z, ez, e⟩ := bd_some e
  refine h1 x ex H1 f1 d _ fun v1 H2 s2 g1 => h2 y ey H2 (f1.trans (Fr.same s2)) (d.same s2) _ fun v2 H3 s3 g2 => h3 z ez H3 (f1.trans (Fr.same (s2.trans s3))) (d.same (s2.trans s3)) _ fun v3 H4 s4 g3 => ⟨rfl, rfl, S, (x, y, z, ()), o, d.same ((s2.trans s3).trans s4), ⟨v1, _, rfl, a1.mono (Fr.same (s3.trans s4)) g1, v2, _, rfl, a2.mono (Fr.same s4) g2, v3, _, rfl, g3, rfl⟩, e, fun u H' s hu => q u H' (((s2.trans s3).trans s4).trans s) ((R S).same ((s2.trans s3).trans s4) hu)⟩
theorem ev_callD {f : α × β × γ × Unit → Option ρ} {r1 : Option α} {r2 : Option β} {dv : V} {z : γ} (hz : ∀ S H, a3.rp S H dv z) (h1 : Ev S T t1 σ H (of a1 S) r1) (h2 : Ev S T t2 σ H (of a2 S) r2) :
    Ev S T (tCall (spF (aCons a1 (aCons a2 (aCons a3 aNil))) R f) [dv] E (tCons t1 (tCons t2 tNil))) σ H (R S) (bd r1 fun x => bd r2 fun y => f (x, y, z, ())) := by
  intro o e H1 f1 d Q q
  obtain ⟨x, ex, e⟩ := bd_some e
  obtain ⟨y, ey, e⟩ := bd_some e
  refine h1 x ex H1 f1 d _ fun v1 H2 s2 g1 => h2 y ey H2 (f1.trans (Fr.same s2)) (d.same s2) _ fun v2 H3 s3 g2 => ⟨S, (x, y, z, ()), o, d.same (s2.trans s3), ⟨v1, _, rfl, a1.mono (Fr.same s3) g1, v2, _, rfl, g2, dv, _, rfl, hz S H3, rfl⟩, e, fun u H' s hu => q u H' ((s2.trans s3).trans s) ((R S).same (s2.trans s3) hu)⟩
end
end M

namespace M
open PySem L2 G
section
variable {K : PySem.W.Frag} {α β γ δ ε ρ : Type} {S T : AS} {σ : St} {H : Hp} {ta tb te tc : TE} {tt tu : TT} {a : Ty K α} {b' : Ty K β} {c' : Ty K γ} {D : Ends} {u t1 t2 : TS} {b c : Addr}
/-! ### while -/
def whileC (t : δ → Option Bool) (f : δ → Option (Ct ρ δ)) : Nat → δ → Option (Ct ρ δ)
  | 0, _ => none
  | n + 1, s => (t s).bind fun k => if k then (f s).bind fun r => match r with | .go s' => whileC t f n s' | .ret y => some (.ret y) | .brk s' => some (.go s') else some (.go s)
theorem while_s {tb : TS} {n : Nat} {s0 : δ} {t : δ → Option Bool} {f : δ → Option (Ct ρ δ)} {res : Ct ρ δ} (hf : whileC t f n s0 = some res)
    (I : δ → St → Hp → Prop) (h0 : I s0 σ H)
    (test : ∀ s σ' H', I s σ' H' → ∃ S', Dom S' H' ∧ EvB S' T tt σ' H' (t s))
    (step : (∀ s σ' H' H1, res = .go s → I s σ' H' → Same H' H1 → D.nx σ' H1) → ∀ (s : δ) (cr : Ct ρ δ) (σ' : St) (H' H1 : Hp), I s σ' H' → Same H' H1 → f s = some cr → (∀ y, cr = .ret y → res = .ret y) → (∀ s', cr = .brk s' → res = .go s') →
      tb { D with nx := fun σ2 H2 => ∃ s', cr = .go s' ∧ Fr S H1 H2 ∧ I s' σ2 H2, ct := fun σ2 H2 => ∃ s', cr = .go s' ∧ Fr S H1 H2 ∧ I s' σ2 H2, bk := D.nx } σ' H1)
    (done : ∀ s σ' H' H1, res = .go s → I s σ' H' → Same H' H1 → D.nx σ' H1) : tWhile tt tb D σ H := by
  refine ⟨fun m σ' H' => ∃ s, I s σ' H' ∧ whileC t f m s = some res, ⟨n, s0, h0, hf⟩, ?_⟩
  rintro m σ' H' ⟨s, hI, hw⟩
  cases m with
  | zero => cases hw
  | succ m =>
    simp only [whileC] at hw
    cases q : t s with
    | none => rw [q] at hw; cases hw
    | some k =>
      rw [q] at hw
      obtain ⟨S', dm, hev⟩ := test s σ' H' hI
      refine hev k q H' (Fr.refl _) dm _ fun H1 s1 => ?_
      cases k with
      | false =>
        cases hw
        rw [if_neg (by decide)]
        exact done s σ' H' H1 rfl hI s1
      | true =>
        rw [if_pos rfl]
        simp only [Option.bind_some, if_true] at hw
        cases q2 : f s with
        | none => rw [q2] at hw; cases hw
        | some cr =>
          rw [q2] at hw
          refine ⟨fun σ2 H2 => ∃ s', cr = .go s' ∧ Fr S H1 H2 ∧ I s' σ2 H2, ?_, ?_⟩
          · rintro σ2 H2 ⟨s', rfl, f2, hI'⟩
            exact ⟨m, Nat.lt_succ_self _, s', hI', hw⟩
          · exact step done s cr σ' H' H1 hI s1 q2 (fun y ey => by subst ey; cases hw; rfl) (fun s' ey => by subst ey; cases hw; rfl)
theorem q_while_s {tb : TS} {n : Nat} {s0 : δ} {t : δ → Option Bool} {f : δ → Option (Ct ρ δ)} {res : Ct ρ δ} (hf : whileC t f n s0 = some res)
    (I : δ → St → Hp → Prop) (h0 : I s0 σ H)
    (test : ∀ s σ' H', I s σ' H' → ∃ S', Dom S' H' ∧ EvB S' T tt σ' H' (t s))
    (step : (∀ s σ' H' H1, res = .go s → I s σ' H' → Same H' H1 → u D σ' H1) → ∀ (s : δ) (cr : Ct ρ δ) (σ' : St) (H' H1 : Hp), I s σ' H' → Same H' H1 → f s = some cr → (∀ y, cr = .ret y → res = .ret y) → (∀ s', cr = .brk s' → res = .go s') →
      tb { D with nx := fun σ2 H2 => ∃ s', cr = .go s' ∧ Fr S H1 H2 ∧ I s' σ2 H2, ct := fun σ2 H2 => ∃ s', cr = .go s' ∧ Fr S H1 H2 ∧ I s' σ2 H2, bk := u D } σ' H1)
    (done : ∀ s σ' H' H1, res = .go s → I s σ' H' → Same H' H1 → u D σ' H1) : tSeq (tWhile tt tb) u D σ H := while_s (D := { D with nx := u D }) (S := S) (T := T) hf I h0 test step done
theorem whileC_go {t : δ → Option Bool} {f : δ → Option (Ct ρ δ)} {n : Nat} {s s' : δ} (h : t s = some true) (h' : f s = some (.go s')) : whileC t f (n + 1) s = whileC t f n s' := by simp [whileC, h, h']
theorem whileC_stop {t : δ → Option Bool} {f : δ → Option (Ct ρ δ)} {n : Nat} {s : δ} (h : t s = some false) : whileC t f (n + 1) s = some (.go s) := by simp [whileC, h]
/-! ### chains of comparisons -/
theorem ev_chain {r r' : R2} {f g : α → α → Bool} {ra rb rc : Option α} (h : OpD a a S (of (K := K) tBool S) r (fun x y => some (f x y))) (h' : OpD a a S (of (K := K) tBool S) r' (fun x y => some (g x y)))
    (ha : Ev S T ta σ H (of a S) ra) (hb : Ev S T tb σ H (of a S) rb) (hc : Ev S T tc σ H (of a S) rc) :
    Ev S T (tChain r r' ta tb tc) σ H (of (K := K) tBool S) (bd ra fun x => bd rb fun y => if f x y then bd rc fun z => some (g y z) else some false) := by
  intro z e H1 f1 d Q q
  obtain ⟨x, ex, e⟩ := bd_some e
  obtain ⟨y, ey, e⟩ := bd_some e
  refine ha x ex H1 f1 d _ fun v H2 s2 hv => hb y ey H2 (f1.trans (Fr.same s2)) (d.same s2) _ fun w H3 s3 hw => ?_
  have d3 := (d.same s2).same s3
  refine h x y _ rfl H3 v w d3 (a.mono (Fr.same s3) hv) hw _ fun k H4 s4 hk => ⟨_, hk, ?_⟩
  by_cases c1 : f x y = true
  · rw [if_pos c1] at e
    rw [if_pos c1]
    obtain ⟨z', ez, e⟩ := bd_some e
    cases e
    refine hc z' ez H4 (f1.trans (Fr.same ((s2.trans s3).trans s4))) (d3.same s4) _ fun w' H5 s5 hw' => ?_
    refine h' y z' _ rfl H5 w w' ((d3.same s4).same s5) (a.mono (Fr.same (s4.trans s5)) hw) hw' Q fun u' H6 s6 hu => q u' H6 (((s2.trans s3).trans (s4.trans s5)).trans s6) hu
  · rw [if_neg c1] at e
    rw [if_neg c1]
    cases e
    exact q _ H4 ((s2.trans s3).trans s4) rfl
/-! ### x in l by data -/
def memD [DecidableEq α] (x : α) (xs : List α) : Bool := decide (x ∈ xs)
theorem _root_.L2.Room.units65 {k : Nat} {A : Around} (r : Room k A) : A.units + 65 < cLine := by have := r.un; omega
theorem any_eqv {a : Ty K α} [DecidableEq α] (d : TyD a) (x : α) : ∀ xs : List α, ((xs.map d.dt).any fun z => PyData.eqv z (d.dt x)) = memD x xs
  | [] => by simp [memD]
  | y :: ys => by
    rw [List.map_cons, List.any_cons, d.dec, any_eqv d x ys]
    unfold memD
    by_cases h : y = x
    · subst h; simp
    · by_cases h2 : x ∈ ys
      · simp [h2]
      · simp [h, h2, Ne.symm h]
theorem od_inD [DecidableEq α] (d : TyD a) (hd : d.dep ≤ 63) : OpD a (tL a) S (of (K := K) tBool S) (rInD K) (fun x xs => some (memD x xs)) := by
  intro x xs z e H1 v w dm hv hw Q q
  cases e
  have h2 := (dL d).dp hw
  refine ⟨d.dt x, xs.map d.dt, d.dp hv, h2, d.shaped (by omega) hv, (dL d).shaped (by show d.dep + 1 ≤ 64; omega) hw, ?_⟩
  rw [any_eqv]
  exact q _ H1 (Same.refl _) rfl
theorem od_notInD [DecidableEq α] (d : TyD a) (hd : d.dep ≤ 63) : OpD a (tL a) S (of (K := K) tBool S) (rNotInD K) (fun x xs => some (!memD x xs)) := by
  intro x xs z e H1 v w dm hv hw Q q
  cases e
  have h2 := (dL d).dp hw
  refine ⟨d.dt x, xs.map d.dt, d.dp hv, h2, d.shaped (by omega) hv, (dL d).shaped (by show d.dep + 1 ≤ 64; omega) hw, ?_⟩
  rw [any_eqv]
  exact q _ H1 (Same.refl _) rfl
/-! ### powers of constants -/
theorem ev_powC {i j : Int} (hc : 0 ≤ j ∧ j ≤ 1000000 ∧ i.natAbs < 2 ^ 64) : Ev S T (tOp (rI (fun i j => 0 ≤ j ∧ j ≤ 1000000 ∧ i.natAbs < 2 ^ 64) fun i j => .int (i ^ j.toNat)) (tC (.int i)) (tC (.int j))) σ H (of (K := K) tInt S) (some (i ^ j.toNat)) := by
  intro y ey H1 f d Q q
  cases ey
  exact ⟨i, j, rfl, rfl, hc, q _ H1 (Same.refl _) rfl⟩
/-! ### None or not, of any expression -/
theorem eb_isNe {r : Option (Option α)} (h : Ev S T te σ H (of (tOpt a) S) r) : EvB S T (tTest (tOp (fun x y H Q => y = .non ∧ Q (.bl (decide (x = .non))) H) te (tC .non))) σ H (bd r fun x => some x.isNone) := by
  intro z ez H1 f d Q q
  obtain ⟨x, ex, ez⟩ := bd_some ez
  cases ez
  refine h x ex H1 f d _ fun v H2 s hv => ⟨rfl, _, rfl, ?_⟩
  cases x with
  | none => rw [show v = .non from hv]; exact q H2 s
  | some y => rw [decide_eq_false hv.1]; exact q H2 s
theorem eb_notNe {r : Option (Option α)} (h : Ev S T te σ H (of (tOpt a) S) r) : EvB S T (tTest (tOp (fun x y H Q => y = .non ∧ Q (.bl (!decide (x = .non))) H) te (tC .non))) σ H (bd r fun x => some x.isSome) := by
  intro z ez H1 f d Q q
  obtain ⟨x, ex, ez⟩ := bd_some ez
  cases ez
  refine h x ex H1 f d _ fun v H2 s hv => ⟨rfl, _, rfl, ?_⟩
  cases x with
  | none => rw [show v = .non from hv]; exact q H2 s
  | some y => rw [decide_eq_false hv.1]; exact q H2 s
/-! ### max of two -/
theorem ev_max2 {ra rb : Option Int} (ha : Ev S T ta σ H (of (K := K) tInt S) ra) (hb : Ev S T tb σ H (of (K := K) tInt S) rb) :
    Ev S T (tCB (fun xs H Q => ∃ i j, xs = [.int i, .int j] ∧ Q (.int (if j > i then j else i)) H) (tCons ta (tCons tb tNil))) σ H (of (K := K) tInt S) (bd ra fun x => bd rb fun y => some (max x y)) := by
  intro z e H1 f1 d Q q
  obtain ⟨x, ex, e⟩ := bd_some e
  obtain ⟨y, ey, e⟩ := bd_some e
  cases e
  refine ha x ex H1 f1 d _ fun v H2 s2 hv => hb y ey H2 (f1.trans (Fr.same s2)) (d.same s2) _ fun w H3 s3 hw => ?_
  cases hv
  cases hw
  refine ⟨x, y, rfl, q _ H3 (s2.trans s3) ?_⟩
  show V.int _ = V.int _
  congr 1
  omega
/-! ### calls with keywords -/
def EvAn (S T : AS) (ta : TA) (σ : St) (H : Hp) (n : Nat) (t : TyA K α) (r : Option α) : Prop :=
  ∀ x, r = some x → ∀ H1, Fr T H H1 → Dom S H1 → ∀ Q : List V → Hp → Prop, (∀ vs H2, vs.length = n → Same H1 H2 → t.rp S H2 vs x → Q vs H2) → ta σ H1 Q
theorem en_nil : EvAn S T tNil σ H 0 (K := K) aNil (some ()) := fun _ e H1 f d Q q => q [] H1 rfl (Same.refl _) rfl
theorem en_cons {n : Nat} {tr : TA} {t : TyA K β} {ra : Option α} {rr : Option β} (h : Ev S T ta σ H (of a S) ra) (hr : EvAn S T tr σ H n t rr) : EvAn S T (tCons ta tr) σ H (n + 1) (aCons a t) (bd ra fun x => bd rr fun y => some (x, y)) := by
  intro z e H1 f1 d Q q
  obtain ⟨x, ex, e⟩ := bd_some e
  obtain ⟨y, ey, e⟩ := bd_some e
  cases e
  exact h x ex H1 f1 d _ fun v H2 s2 hv => hr y ey H2 (f1.trans (Fr.same s2)) (d.same s2) _ fun vs H3 l s3 hvs => q (v :: vs) H3 (by simp [l]) (s2.trans s3) ⟨v, vs, rfl, a.mono (Fr.same s3) hv, hvs⟩
/-- first t, then tk: together they are the arguments -/
def EvA2 (S T : AS) (ta tk : TA) (σ : St) (H : Hp) (n m : Nat) (t : TyA K α) (r : Option α) : Prop :=
  ∀ x, r = some x → ∀ H1, Fr T H H1 → Dom S H1 → ∀ Q : List V → List V → Hp → Prop, (∀ vs zs H2, vs.length = n → zs.length = m → Same H1 H2 → t.rp S H2 (vs ++ zs) x → Q vs zs H2) → ta σ H1 fun vs H2 => tk σ H2 fun zs H3 => Q vs zs H3
theorem e2_nil {tk : TA} {m : Nat} {t : TyA K α} {r : Option α} (h : EvAn S T tk σ H m t r) : EvA2 S T tNil tk σ H 0 m t r := fun x e H1 f d Q q => h x e H1 f d _ fun vs H2 l s hv => q [] vs H2 rfl l s hv
theorem e2_cons {n m : Nat} {tr tk : TA} {t : TyA K β} {ra : Option α} {rr : Option β} (h : Ev S T ta σ H (of a S) ra) (hr : EvA2 S T tr tk σ H n m t rr) : EvA2 S T (tCons ta tr) tk σ H (n + 1) m (aCons a t) (bd ra fun x => bd rr fun y => some (x, y)) := by
  intro z e H1 f1 d Q q
  obtain ⟨x, ex, e⟩ := bd_some e
  obtain ⟨y, ey, e⟩ := bd_some e
  cases e
  exact h x ex H1 f1 d _ fun v H2 s2 hv => hr y ey H2 (f1.trans (Fr.same s2)) (d.same s2) _ fun vs zs H3 l l' s3 hvs => q (v :: vs) zs H3 (by simp [l]) l' (s2.trans s3) ⟨v, vs ++ zs, rfl, a.mono (Fr.same s3) hv, hvs⟩
theorem ev_callN {n m : Nat} {ta tk : TA} {t : TyA K α} {R : AS → Rl γ} {f : α → Option γ} {r : Option α} {E : XK} (h : EvA2 S T ta tk σ H n m t r) : Ev S T (tCallN n m (spF t R f) (fun vs zs => vs ++ zs) E ta tk) σ H (R S) (bd r f) := by
  intro z e H1 f1 d Q q
  obtain ⟨x, ex, e⟩ := bd_some e
  exact h x ex H1 f1 d _ fun vs zs H2 l l' s2 hv => ⟨l, l', S, x, z, d.same s2, hv, e, fun u H' s hu => q u H' (s2.trans s) ((R S).same s2 hu)⟩
/-- .. with a default behind -/
def EvAd (S T : AS) (ta : TA) (σ : St) (H : Hp) (ds : List V) (t : TyA K α) (r : Option α) : Prop :=
  ∀ x, r = some x → ∀ H1, Fr T H H1 → Dom S H1 → ∀ Q : List V → Hp → Prop, (∀ vs H2, Same H1 H2 → t.rp S H2 (vs ++ ds) x → Q vs H2) → ta σ H1 Q
theorem edd_nil {dv : V} {z : α} (hz : ∀ S H, a.rp S H dv z) : EvAd S T tNil σ H [dv] (aCons a aNil) (some (z, ())) := fun _ e H1 f d Q q => by cases e; exact q [] H1 (Same.refl _) ⟨dv, [], rfl, hz S H1, rfl⟩
theorem edd_cons {ds : List V} {tr : TA} {t : TyA K β} {ra : Option α} {rr : Option β} (h : Ev S T ta σ H (of a S) ra) (hr : EvAd S T tr σ H ds t rr) : EvAd S T (tCons ta tr) σ H ds (aCons a t) (bd ra fun x => bd rr fun y => some (x, y)) := by
  intro z e H1 f1 d Q q
  obtain ⟨x, ex, e⟩ := bd_some e
  obtain ⟨y, ey, e⟩ := bd_some e
  cases e
  exact h x ex H1 f1 d _ fun v H2 s2 hv => hr y ey H2 (f1.trans (Fr.same s2)) (d.same s2) _ fun vs H3 s3 hvs => q (v :: vs) H3 (s2.trans s3) ⟨v, vs ++ ds, rfl, a.mono (Fr.same s3) hv, hvs⟩
theorem ev_callDn {ds : List V} {ta : TA} {t : TyA K α} {R : AS → Rl γ} {f : α → Option γ} {r : Option α} {E : XK} (h : EvAd S T ta σ H ds t r) : Ev S T (tCall (spF t R f) ds E ta) σ H (R S) (bd r f) := by
  intro z e H1 f1 d Q q
  obtain ⟨x, ex, e⟩ := bd_some e
  exact h x ex H1 f1 d _ fun vs H2 s2 hv => ⟨S, x, z, d.same s2, hv, e, fun u H' s hu => q u H' (s2.trans s) ((R S).same s2 hu)⟩
/-! .. while drawing -/
def EvWAn (b c : Addr) (S : AS) (ta : TA) (σ : St) (H : Hp) (n : Nat) (t : TyA K α) (w : Wp α) : Prop :=
  Sub [b, c] S → ∀ P, w P → ∀ H1, Fr [b, c] H H1 → Dom S H1 → Bag H1 b c → ∀ Q : List V → Hp → Prop, (∀ vs H2 x, vs.length = n → P x → Fr [b, c] H1 H2 → Dom S H2 → Bag H2 b c → t.rp S H2 vs x → Q vs H2) → ta σ H1 Q
theorem wn_nil : EvWAn b c S tNil σ H 0 (K := K) aNil (lf (some ())) := fun ts P ⟨x, e, hP⟩ H1 f d hB Q q => by cases e; exact q [] H1 () rfl hP (Fr.refl _) d hB rfl
theorem wn_cons {n : Nat} {tr : TA} {t : TyA K β} {wa : Wp α} {wr : Wp β} (h : EvW b c S ta σ H (of a S) wa) (hr : EvWAn b c S tr σ H n t wr) : EvWAn b c S (tCons ta tr) σ H (n + 1) (aCons a t) (tup2W wa wr) := fun ts P hP H1 f1 d hB Q q =>
  h ts _ hP H1 f1 d hB _ fun v H2 x hx f2 d2 hB2 hv => hr ts _ hx H2 (f1.trans f2) d2 hB2 _ fun vs H3 y l hy f3 d3 hB3 hvs => q (v :: vs) H3 (x, y) (by simp [l]) hy (f2.trans f3) d3 hB3 ⟨v, vs, rfl, a.mono (f3.sub ts) hv, hvs⟩
def EvWA2 (b c : Addr) (S : AS) (ta tk : TA) (σ : St) (H : Hp) (n m : Nat) (t : TyA K α) (w : Wp α) : Prop :=
  Sub [b, c] S → ∀ P, w P → ∀ H1, Fr [b, c] H H1 → Dom S H1 → Bag H1 b c → ∀ Q : List V → List V → Hp → Prop, (∀ vs zs H2 x, vs.length = n → zs.length = m → P x → Fr [b, c] H1 H2 → Dom S H2 → Bag H2 b c → t.rp S H2 (vs ++ zs) x → Q vs zs H2) → ta σ H1 fun vs H2 => tk σ H2 fun zs H3 => Q vs zs H3
theorem w2_nil {tk : TA} {m : Nat} {t : TyA K α} {w : Wp α} (h : EvWAn b c S tk σ H m t w) : EvWA2 b c S tNil tk σ H 0 m t w := fun ts P hP H1 f d hB Q q => h ts P hP H1 f d hB _ fun vs H2 x l hx f2 d2 hB2 hv => q [] vs H2 x rfl l hx f2 d2 hB2 hv
theorem w2_cons {n m : Nat} {tr tk : TA} {t : TyA K β} {wa : Wp α} {wr : Wp β} (h : EvW b c S ta σ H (of a S) wa) (hr : EvWA2 b c S tr tk σ H n m t wr) : EvWA2 b c S (tCons ta tr) tk σ H (n + 1) m (aCons a t) (tup2W wa wr) := fun ts P hP H1 f1 d hB Q q =>
  h ts _ hP H1 f1 d hB _ fun v H2 x hx f2 d2 hB2 hv => hr ts _ hx H2 (f1.trans f2) d2 hB2 _ fun vs zs H3 y l l' hy f3 d3 hB3 hvs => q (v :: vs) zs H3 (x, y) (by simp [l]) l' hy (f2.trans f3) d3 hB3 ⟨v, vs ++ zs, rfl, a.mono (f3.sub ts) hv, hvs⟩
theorem ew_callN {n m : Nat} {ta tk : TA} {t : TyA K α} {R : AS → Rl γ} {f : α → Option γ} {w : Wp α} {E : XK} (h : EvWA2 b c S ta tk σ H n m t w) : EvW b c S (tCallN n m (spF t R f) (fun vs zs => vs ++ zs) E ta tk) σ H (R S) (unW f w) := fun ts P hP H1 f1 d hB Q q =>
  h ts _ hP H1 f1 d hB _ fun vs zs H2 x l l' ⟨z, e, hz⟩ f2 d2 hB2 hv => ⟨l, l', S, x, z, d2, hv, e, fun u H' s hu => q u H' z hz (f2.trans (Fr.same s)) (d2.same s) (hB2.same s) ((R S).back f2 hB2.dom hu)⟩
/-! ### any; truth of a list -/
theorem ev_any {r : Option (List Bool)} (h : Ev S T te σ H (of (K := K) (tL tBool) S) r) : Ev S T (tCB (rAny K) (tCons te tNil)) σ H (of (K := K) tBool S) (bd r fun x => some (x.any id)) := by
  intro z e H1 f1 d Q q
  obtain ⟨x, ex, e⟩ := bd_some e
  cases e
  refine h x ex H1 f1 d _ fun v H2 s hv => ?_
  obtain ⟨p, vs, rfl, hp, ha⟩ := hv
  refine ⟨p, x, rfl, ?_, q _ H2 s rfl⟩
  rw [← ha.bools]
  exact hp.sq
theorem All2.empty {F : V → α → Prop} {vs : List V} {xs : List α} (h : All2 F vs xs) : vs.isEmpty = xs.isEmpty := by cases h <;> rfl
theorem eb_truL {r : Option (List α)} (h : Ev S T te σ H (of (tL a) S) r) : EvB S T (fun σ H Q => te σ H fun x H' => ∃ k, TruV K x H' k ∧ Q k H') σ H (bd r fun x => some (!x.isEmpty)) := by
  intro z ez H1 f d Q q
  obtain ⟨x, ex, ez⟩ := bd_some ez
  cases ez
  refine h x ex H1 f d _ fun v H2 s ⟨p, vs, ev, hp, ha⟩ => ⟨_, ?_, q H2 s⟩
  subst ev
  exact .inl ⟨vs, hp.sq, by rw [ha.empty]⟩
/-! ### an owned list that is owned no more -/
theorem sub_keep {p : Addr} {S S' : AS} (h : Sub S S') : Sub (p :: S) (p :: S') := fun a m => by
  rcases List.mem_cons.mp m with rfl | m
  · exact List.mem_cons_self ..
  · exact List.mem_cons_of_mem _ (h a m)
theorem nmc {p q : Addr} {S : AS} (h : p ≠ q) (n : p ∉ S) : p ∉ q :: S := fun m => by
  rcases List.mem_cons.mp m with e | m
  · exact h e
  · exact n m
theorem Own.frz {p : Addr} {xs : List α} {S' : AS} (o : Own a S H p xs) (hs : Sub S' S) (n : p ∉ S') : (tL a).rp S' H (.ref p) xs := by
  obtain ⟨vs, hv, ha⟩ := o
  exact ⟨p, vs, rfl, ⟨hv, n⟩, ha.imp fun _ _ => a.sub hs⟩
/-! ### walks that unpack pairs -/
theorem for_s2 {wi : TI} {j j2 : Nat} {tb : TS} {r : Option (List (α × β))} {xs : List (α × β)} {s0 : δ} {f : δ → α × β → Option (Ct ρ δ)} {res : Ct ρ δ} (d : Dom S H) (h : Sr S T wi σ H (tT2 a b') r) (e : r = some xs) (hf : loopC f xs s0 = some res)
    (I : δ → St → Hp → Prop) (h0 : ∀ H1, Same H H1 → I s0 σ H1)
    (step : (∀ s σ' H', res = .go s → I s σ' H' → D.nx σ' H') → ∀ (s : δ) (x : α × β) (cr : Ct ρ δ) (v w : V) (σ' : St) (H' : Hp), I s σ' H' → a.rp S H' v x.1 → b'.rp S H' w x.2 → x ∈ xs → f s x = some cr → (∀ y, cr = .ret y → res = .ret y) → (∀ s', cr = .brk s' → res = .go s') →
      tb { D with nx := fun σ2 H2 => ∃ s', cr = .go s' ∧ Fr S H' H2 ∧ I s' σ2 H2, ct := fun σ2 H2 => ∃ s', cr = .go s' ∧ Fr S H' H2 ∧ I s' σ2 H2, bk := D.nx } ((σ'.set j (some v)).set j2 (some w)) H')
    (done : ∀ s σ' H', res = .go s → I s σ' H' → D.nx σ' H') : tFor wi (gTup K 2 (gCons (gName j) (gCons (gName j2) gNil))) tb D σ H := by
  refine h xs e H (Fr.refl _) d _ fun J H1 s1 wk => ?_
  refine ⟨fun i m σ' H' => m = xs.length - i ∧ i ≤ xs.length ∧ Fr S H1 H' ∧ ∃ s, I s σ' H' ∧ loopC f (xs.drop i) s = some res, ⟨_, rfl, Nat.zero_le _, Fr.refl _, s0, h0 H1 s1, hf⟩, ?_⟩
  rintro i m σ' H' ⟨rfl, hi, fr, s, hI, hl⟩
  by_cases c : i < xs.length
  · right
    rw [List.drop_eq_getElem_cons c] at hl
    simp only [loopC] at hl
    cases q : f s xs[i] with
    | none => rw [q] at hl; cases hl
    | some cr =>
      rw [q] at hl
      refine ⟨wk.go H' i fr c, fun σ2 H2 => ∃ s', cr = .go s' ∧ Fr S H' H2 ∧ I s' σ2 H2, ?_, ?_⟩
      · rintro σ2 H2 ⟨s', rfl, f2, hI'⟩
        exact ⟨xs.length - (i + 1), by omega, rfl, by omega, fr.trans f2, s', hI', hl⟩
      · intro v H2 hy
        obtain ⟨rfl, hv⟩ := wk.yl H' i v H2 fr hy _ (List.getElem?_eq_getElem c)
        obtain ⟨p, v1, v2, rfl, hp, h1, h2⟩ := (tT2 a b').mono fr hv
        exact ⟨p, _, rfl, hp.sq, rfl, v1, _, rfl, v2, _, rfl, rfl, step done s xs[i] cr v1 v2 σ' _ hI h1 h2 (List.getElem_mem c) q (fun y ey => by subst ey; cases hl; rfl) (fun s' ey => by subst ey; cases hl; rfl)⟩
  · left
    refine ⟨wk.st H' i fr (by omega), ?_⟩
    rw [List.drop_eq_nil_of_le (by omega)] at hl
    cases hl
    exact done s σ' H' rfl hI
theorem q_for_s2 {wi : TI} {j j2 : Nat} {tb : TS} {r : Option (List (α × β))} {xs : List (α × β)} {s0 : δ} {f : δ → α × β → Option (Ct ρ δ)} {res : Ct ρ δ} (d : Dom S H) (h : Sr S T wi σ H (tT2 a b') r) (e : r = some xs) (hf : loopC f xs s0 = some res)
    (I : δ → St → Hp → Prop) (h0 : ∀ H1, Same H H1 → I s0 σ H1)
    (step : (∀ s σ' H', res = .go s → I s σ' H' → u D σ' H') → ∀ (s : δ) (x : α × β) (cr : Ct ρ δ) (v w : V) (σ' : St) (H' : Hp), I s σ' H' → a.rp S H' v x.1 → b'.rp S H' w x.2 → x ∈ xs → f s x = some cr → (∀ y, cr = .ret y → res = .ret y) → (∀ s', cr = .brk s' → res = .go s') →
      tb { D with nx := fun σ2 H2 => ∃ s', cr = .go s' ∧ Fr S H' H2 ∧ I s' σ2 H2, ct := fun σ2 H2 => ∃ s', cr = .go s' ∧ Fr S H' H2 ∧ I s' σ2 H2, bk := u D } ((σ'.set j (some v)).set j2 (some w)) H')
    (done : ∀ s σ' H', res = .go s → I s σ' H' → u D σ' H') : tSeq (tFor wi (gTup K 2 (gCons (gName j) (gCons (gName j2) gNil))) tb) u D σ H := for_s2 (D := { D with nx := u D }) d h e hf I h0 step done
end
end M

namespace M
open PySem L2 G
section
variable {K : PySem.W.Frag} {α β γ δ ε ρ : Type} {S T : AS} {σ : St} {H : Hp} {ta tb te tc : TE} {tt tu : TT} {a : Ty K α} {b' : Ty K β} {c' : Ty K γ} {D : Ends} {u t1 t2 : TS} {b c : Addr}
/-! ### isinstance, by the code -/
theorem tyTm {H : Hp} {a : Addr} {xs : List V} (h : SqT K H a xs) : TyX K H (.ref a) (.type "tuple") := by
  rcases h with (h | ⟨o, h⟩) | ⟨o, _, _, h, hc, _⟩
  · exact .base (.tup h)
  · exact .fTuple h
  · exact .kTuple h hc
theorem tyLm {H : Hp} {a : Addr} {xs : List V} (h : SqL K H a xs) : TyX K H (.ref a) (.type "list") := by
  rcases h with (h | ⟨o, h⟩) | ⟨o, _, _, h, hc, _⟩
  · exact .base (.lst h)
  · exact .base (.frz h)
  · exact .kList h hc
class IsTy (a : Ty K α) (t : outParam String) : Prop where
  h : ∀ {S H v x}, a.rp S H v x → TyX K H v (.type t)
instance : IsTy (K := K) tInt "int" := ⟨fun h => by rw [show _ = _ from h]; exact .base (.int _)⟩
instance : IsTy (K := K) tBool "bool" := ⟨fun h => by rw [show _ = _ from h]; exact .base (.bl _)⟩
instance : IsTy (K := K) tStr "str" := ⟨fun h => by rw [h.1]; exact .base (.str _)⟩
instance : IsTy (K := K) tRat "tuple" := ⟨fun ⟨p, e, h⟩ => by rw [e]; exact tyTm h.sq⟩
instance : IsTy (tT2 a b') "tuple" := ⟨fun ⟨p, _, _, e, h, _⟩ => by rw [e]; exact tyTm h.sq⟩
instance : IsTy (tTs a) "tuple" := ⟨fun ⟨p, _, e, h, _⟩ => by rw [e]; exact tyTm h.sq⟩
instance : IsTy (tL a) "list" := ⟨fun ⟨p, _, e, h, _⟩ => by rw [e]; exact tyLm h.sq⟩
theorem ev_isi {r : Option α} {t n : String} {k : Bool} [hi : IsTy a t] (h : Ev S T te σ H (of a S) r) (hk : kitB t n = some k) :
    Ev S T (tCB (rIsi K) (tCons te (tCons (tC (.ty n)) tNil))) σ H (of (K := K) tBool S) (bd r fun _ => some k) := by
  intro z e H1 f1 d Q q
  obtain ⟨x, ex, e⟩ := bd_some e
  cases e
  exact h x ex H1 f1 d _ fun v H2 s hv => ⟨v, _, _, _, k, rfl, .ty _, hi.h hv, kit_ty hk, q _ H2 s rfl⟩
theorem ev_lenR {r : Option Rat} (h : Ev S T te σ H (of (K := K) tRat S) r) : Ev S T (tCB (fun xs H Q => ∃ p ys, xs = [.ref p] ∧ (SqL K H p ys ∨ SqT K H p ys) ∧ Q (.int ys.length) H) (tCons te tNil)) σ H (of (K := K) tInt S) (bd r fun _ => some (2 : Int)) := by
  intro z e H1 f1 d Q q
  obtain ⟨x, ex, e⟩ := bd_some e
  cases e
  exact h x ex H1 f1 d _ fun v H2 s ⟨p, ev, hp⟩ => by subst ev; exact ⟨p, _, rfl, .inr hp.sq, q _ H2 s rfl⟩
/-! ### pairs as tuples of any length -/
theorem ev_t2Sq {r : Option (α × α)} (h : Ev S T te σ H (of (tT2 a a) S) r) : Ev S T te σ H (of (tSq a) S) (bd r fun x => some [x.1, x.2]) := ev_as h fun x y e H1 H2 v d ⟨p, u, w, ev, hp, h1, h2⟩ => by
  cases e
  exact .inr ⟨p, _, ev, hp, .cons h1 (.cons h2 .nil)⟩
theorem sr_t4 {tl : TE} {r : Option (α × α × α × α)} (h : Ev S T tl σ H (of (tT4 a a a a) S) r) : Sr S T (iTup K tl) σ H a (bd r fun x => some [x.1, x.2.1, x.2.2.1, x.2.2.2]) := fun xs e H1 f d R q => by
  obtain ⟨x, ex, e⟩ := bd_some e
  cases e
  exact h x ex H1 f d _ fun v H2 s ⟨p, u1, u2, u3, u4, ev, hp, h1, h2, h3, h4⟩ => ⟨p, ev, ⟨_, hp.sq⟩, q _ H2 s (wk_tup hp (.cons h1 (.cons h2 (.cons h3 (.cons h4 .nil)))))⟩
/-! ### targets that take lists and tuples -/
def gOr (g g' : TG) : TG := fun v σ H Q => g v σ H Q ∨ g' v σ H Q
theorem pg_or {X : Cx} {e : Expr} {g g' : TG} (h : PG X e g) (h' : PG X e g') : PG X e (gOr g g') := ⟨fun pins s σ H v u Q I r hw => by
  rcases hw with hw | hw
  · exact h.run pins s σ H v u Q I r hw
  · exact h'.run pins s σ H v u Q I r hw⟩
def two? : List α → Option (α × α)
  | [x, y] => some (x, y)
  | _ => none
theorem two_some {xs : List α} {p : α × α} (h : two? xs = some p) : xs = [p.1, p.2] := by
  match xs, h with
  | [x, y], h => cases h; rfl
theorem for_s2q {wi : TI} {j j2 : Nat} {tb : TS} {r : Option (List (List α))} {xs : List (List α)} {ps : List (α × α)} {s0 : δ} {f : δ → α × α → Option (Ct ρ δ)} {res : Ct ρ δ} (d : Dom S H) (h : Sr S T wi σ H (tSq a) r) (e : r = some xs) (e2 : mapO two? xs = some ps) (hf : loopC f ps s0 = some res)
    (I : δ → St → Hp → Prop) (h0 : ∀ H1, Same H H1 → I s0 σ H1)
    (step : (∀ s σ' H', res = .go s → I s σ' H' → D.nx σ' H') → ∀ (s : δ) (x : α × α) (cr : Ct ρ δ) (v w : V) (σ' : St) (H' : Hp), I s σ' H' → a.rp S H' v x.1 → a.rp S H' w x.2 → x ∈ ps → f s x = some cr → (∀ y, cr = .ret y → res = .ret y) → (∀ s', cr = .brk s' → res = .go s') →
      tb { D with nx := fun σ2 H2 => ∃ s', cr = .go s' ∧ Fr S H' H2 ∧ I s' σ2 H2, ct := fun σ2 H2 => ∃ s', cr = .go s' ∧ Fr S H' H2 ∧ I s' σ2 H2, bk := D.nx } ((σ'.set j (some v)).set j2 (some w)) H')
    (done : ∀ s σ' H', res = .go s → I s σ' H' → D.nx σ' H') : tFor wi (gOr (gTup K 2 (gCons (gName j) (gCons (gName j2) gNil))) (gLst K 2 (gCons (gName j) (gCons (gName j2) gNil)))) tb D σ H := by
  refine h xs e H (Fr.refl _) d _ fun J H1 s1 wk => ?_
  have ln := mapO_len e2
  refine ⟨fun i m σ' H' => m = ps.length - i ∧ i ≤ ps.length ∧ Fr S H1 H' ∧ ∃ s, I s σ' H' ∧ loopC f (ps.drop i) s = some res, ⟨_, rfl, Nat.zero_le _, Fr.refl _, s0, h0 H1 s1, hf⟩, ?_⟩
  rintro i m σ' H' ⟨rfl, hi, fr, s, hI, hl⟩
  by_cases c : i < ps.length
  · right
    rw [List.drop_eq_getElem_cons c] at hl
    simp only [loopC] at hl
    cases q : f s ps[i] with
    | none => rw [q] at hl; cases hl
    | some cr =>
      rw [q] at hl
      refine ⟨wk.go H' i fr (by omega), fun σ2 H2 => ∃ s', cr = .go s' ∧ Fr S H' H2 ∧ I s' σ2 H2, ?_, ?_⟩
      · rintro σ2 H2 ⟨s', rfl, f2, hI'⟩
        exact ⟨ps.length - (i + 1), by omega, rfl, by omega, fr.trans f2, s', hI', hl⟩
      · intro v H2 hy
        have hx : i < xs.length := by omega
        obtain ⟨rfl, hv⟩ := wk.yl H' i v H2 fr hy _ (List.getElem?_eq_getElem hx)
        obtain ⟨p, ep, ep2⟩ := mapO_get e2 (List.getElem?_eq_getElem hx)
        have : p = ps[i] := by rw [List.getElem?_eq_getElem c] at ep2; exact (Option.some.inj ep2).symm
        subst this
        have hv := (tSq a).mono fr hv
        rw [two_some ep] at hv
        rcases hv with ⟨p, vs, ev, hp, ha⟩ | ⟨p, vs, ev, hp, ha⟩
        · subst ev
          cases ha with
          | cons g1 ha => cases ha with
            | cons g2 ha => cases ha with
              | nil =>
                right
                refine ⟨p, _, rfl, hp.sq, rfl, _, _, rfl, _, _, rfl, rfl, ?_⟩
                exact step done s ps[i] cr _ _ σ' _ hI g1 g2 (List.getElem_mem c) q (fun y ey => by subst ey; cases hl; rfl) (fun s' ey => by subst ey; cases hl; rfl)
        · subst ev
          cases ha with
          | cons g1 ha => cases ha with
            | cons g2 ha => cases ha with
              | nil =>
                left
                refine ⟨p, _, rfl, hp.sq, rfl, _, _, rfl, _, _, rfl, rfl, ?_⟩
                exact step done s ps[i] cr _ _ σ' _ hI g1 g2 (List.getElem_mem c) q (fun y ey => by subst ey; cases hl; rfl) (fun s' ey => by subst ey; cases hl; rfl)
  · left
    refine ⟨wk.st H' i fr (by omega), ?_⟩
    rw [List.drop_eq_nil_of_le (by omega)] at hl
    cases hl
    exact done s σ' H' rfl hI
theorem q_for_s2q {wi : TI} {j j2 : Nat} {tb : TS} {r : Option (List (List α))} {xs : List (List α)} {ps : List (α × α)} {s0 : δ} {f : δ → α × α → Option (Ct ρ δ)} {res : Ct ρ δ} (d : Dom S H) (h : Sr S T wi σ H (tSq a) r) (e : r = some xs) (e2 : mapO two? xs = some ps) (hf : loopC f ps s0 = some res)
    (I : δ → St → Hp → Prop) (h0 : ∀ H1, Same H H1 → I s0 σ H1)
    (step : (∀ s σ' H', res = .go s → I s σ' H' → u D σ' H') → ∀ (s : δ) (x : α × α) (cr : Ct ρ δ) (v w : V) (σ' : St) (H' : Hp), I s σ' H' → a.rp S H' v x.1 → a.rp S H' w x.2 → x ∈ ps → f s x = some cr → (∀ y, cr = .ret y → res = .ret y) → (∀ s', cr = .brk s' → res = .go s') →
      tb { D with nx := fun σ2 H2 => ∃ s', cr = .go s' ∧ Fr S H' H2 ∧ I s' σ2 H2, ct := fun σ2 H2 => ∃ s', cr = .go s' ∧ Fr S H' H2 ∧ I s' σ2 H2, bk := u D } ((σ'.set j (some v)).set j2 (some w)) H')
    (done : ∀ s σ' H', res = .go s → I s σ' H' → u D σ' H') : tSeq (tFor wi (gOr (gTup K 2 (gCons (gName j) (gCons (gName j2) gNil))) (gLst K 2 (gCons (gName j) (gCons (gName j2) gNil)))) tb) u D σ H := for_s2q (D := { D with nx := u D }) d h e e2 hf I h0 step done
/-! ### slices, two names at once, while drawing -/
def EvWO (b c : Addr) (S : AS) (to : TO) (σ : St) (H : Hp) (w : Wp (Option Int)) : Prop :=
  Sub [b, c] S → ∀ P, w P → ∀ H1, Fr [b, c] H H1 → Dom S H1 → Bag H1 b c → ∀ Q : Option Int → Hp → Prop, (∀ H2 x, P x → Fr [b, c] H1 H2 → Dom S H2 → Bag H2 b c → Q x H2) → to σ H1 Q
theorem wo_pure {to : TO} {r : Option (Option Int)} (h : EvO S [b, c] to σ H r) : EvWO b c S to σ H (lf r) := fun ts P ⟨x, e, hP⟩ H1 f d hB Q q => h x e H1 f d Q fun H2 s => q H2 x hP (Fr.same s) (d.same s) (hB.same s)
theorem wo_some {w : Wp Int} (h : EvW b c S te σ H (of (K := K) tInt S) w) : EvWO b c S (tPart te) σ H (unW (fun i => some (some i)) w) := fun ts P hP H1 f d hB Q q =>
  h ts _ hP H1 f d hB _ fun v H2 i ⟨z, e, hz⟩ f2 d2 hB2 hv => ⟨i, hv, q H2 _ (by cases e; exact hz) f2 d2 hB2⟩
def slW (wa : Wp (List α)) (wl wh : Wp (Option Int)) : Wp (List α) := fun P => wa fun xs => wl fun l => wh fun h => P (cutD xs l h)
theorem ew_slL {tl th : TO} {wa : Wp (List α)} {wl wh : Wp (Option Int)} (ha : EvW b c S ta σ H (of (tL a) S) wa) (hl : EvWO b c S tl σ H wl) (hh : EvWO b c S th σ H wh) :
    EvW b c S (tSl (rSlL K) ta tl th) σ H (nw a S) (slW wa wl wh) := fun ts P hP H1 f1 d hB Q q => by
  refine ha ts _ hP H1 f1 d hB _ fun v H2 xs hx f2 d2 hB2 hv => hl ts _ hx H2 (f1.trans f2) d2 hB2 _ fun H3 l hl' f3 d3 hB3 => hh ts _ hl' H3 ((f1.trans f2).trans f3) d3 hB3 _ fun H4 h hh' f4 d4 hB4 => ?_
  obtain ⟨p, vs, rfl, hp, hvs⟩ := (tL a).mono ((f3.trans f4).sub ts) hv
  refine ⟨p, vs, rfl, hp.sq, fun p' hp' => q _ _ _ hh' (((f2.trans f3).trans f4).trans (Fr.same (same_new hp'))) (d4.same (same_new hp')) (hB4.same (same_new hp')) ⟨p', rfl, fr_back ((f2.trans f3).trans f4) hB4.dom hp', _, upd_same, ?_⟩⟩
  exact (hvs.cut l h).imp fun _ _ hh => a.mono (Fr.same (same_new hp')) (a.ext hp' hh)
theorem qw_par {i j : Nat} {wa : Wp α} {wb : Wp β} {P : α → β → Prop} (d : Dom S H) (hB : Bag H b c) (ts : Sub [b, c] S) (ha : EvW b c S ta σ H (of a S) wa) (hb : EvW b c S tb σ H (of b' S) wb) (e : wa fun x => wb fun y => P x y)
    (k : ∀ v w H1 x y, P x y → Fr [b, c] H H1 → Dom S H1 → Bag H1 b c → a.rp S H1 v x → b'.rp S H1 w y → u D ((σ.set i (some v)).set j (some w)) H1) :
    tSeq (tPar i j (tCons ta (tCons tb tNil))) u D σ H := ha ts _ e H (Fr.refl _) d hB _ fun v H1 x hx f1 d1 hB1 hv => hb ts _ hx H1 f1 d1 hB1 _ fun w H2 y hy f2 d2 hB2 hw => ⟨v, w, rfl, k v w H2 x y hy (f1.trans f2) d2 hB2 (a.mono (f2.sub ts) hv) hw⟩
theorem qw_par2 {i j : Nat} {wa : Wp α} {wb : Wp β} {P : α → β → Prop} (d : Dom S H) (hB : Bag H b c) (ts : Sub [b, c] S) (ha : EvW b c S ta σ H (of a S) wa) (hb : EvW b c S tb σ H (of b' S) wb) (e : wa fun x => wb fun y => P x y)
    (k : ∀ v w H1 x y, P x y → Fr [b, c] H H1 → Dom S H1 → Bag H1 b c → a.rp S H1 v x → b'.rp S H1 w y → u D ((σ.set i (some v)).set j (some w)) H1) :
    tSeq (tAsg (tTup (tCons ta (tCons tb tNil))) (gTup K 2 (gCons (gName i) (gCons (gName j) gNil)))) u D σ H := ha ts _ e H (Fr.refl _) d hB _ fun v H1 x hx f1 d1 hB1 hv => hb ts _ hx H1 f1 d1 hB1 _ fun w H2 y hy f2 d2 hB2 hw => ⟨(by show 2 ≤ sizeLine; decide), fun p hp =>
  ⟨p, _, rfl, .inl (.inl upd_same), rfl, v, _, rfl, w, _, rfl, rfl, k v w _ x y hy ((f1.trans f2).trans (Fr.same (same_new hp))) (d2.same (same_new hp)) (hB2.same (same_new hp)) (a.mono (Fr.same (same_new hp)) (a.mono (f2.sub ts) hv)) (b'.mono (Fr.same (same_new hp)) hw)⟩⟩
end
end M

namespace M
open PySem L2 G
theorem mapO_all {α β : Type} {f : α → Option β} {g : α → β} : ∀ {xs : List α}, (∀ x ∈ xs, f x = some (g x)) → mapO f xs = some (xs.map g)
  | [], _ => rfl
  | x :: r, h => by
    simp only [mapO, bd, h x (List.mem_cons_self ..), Option.bind_some, mapO_all (fun y hy => h y (List.mem_cons_of_mem _ hy)), List.map_cons]
theorem cut_mem {α : Type} {xs : List α} {lo hi : Option Int} {x : α} (h : x ∈ cutD xs lo hi) : x ∈ xs := by
  unfold cutD at h
  exact List.mem_of_mem_drop (List.mem_of_mem_take h)
theorem cut_len {α : Type} (xs : List α) (lo hi : Option Int) : (cutD xs lo hi).length ≤ xs.length := by
  unfold cutD
  rw [List.length_take, List.length_drop]
  omega
theorem at_in {α : Type} {xs : List α} {i : Int} (h0 : 0 ≤ i) (h : i < xs.length) : ∃ x, atI xs i = some x ∧ x ∈ xs := by
  have hk : i.toNat < xs.length := by omega
  have e := atI_nat (xs := xs) (j := i.toNat) (List.getElem?_eq_getElem hk)
  rw [show ((i.toNat : Nat) : Int) = i by omega] at e
  exact ⟨_, e, List.getElem_mem hk⟩
theorem rngP_of {n : Int} (h : -1000000 ≤ n ∧ n ≤ 1000000) : rngP n = true := by
  unfold rngP
  exact Nat.ble_eq_true_of_le (by omega)
theorem rng2_eq {a b : Int} (ha : -1000000 ≤ a ∧ a ≤ 1000000) (hb : -1000000 ≤ b ∧ b ≤ 1000000) : rng2? a b = some (rngL a (b - a).toNat) := by
  unfold rng2?
  rw [rngP_of ha, rngP_of hb]
  rfl
theorem rng1_eq {b : Int} (hb : -1000000 ≤ b ∧ b ≤ 1000000) : rng1? b = some (rngL 0 b.toNat) := by
  unfold rng1?
  rw [rngP_of hb]
  rfl
theorem rngL_succ (a : Int) (m : Nat) : rngL a (m + 1) = a :: rngL (a + 1) m := by
  unfold rngL
  rw [List.range_succ_eq_map, List.map_cons, List.map_map]
  congr 1
  · simp
  · apply List.map_congr_left
    intro k _
    simp only [Function.comp_apply]
    omega
theorem app_eq {α : Type} {xs : List α} (x : α) (h : xs.length < 100000) : app? xs x = some (xs ++ [x]) := by
  unfold app?
  rw [if_pos h]
theorem rng_len (lo : Int) (n : Nat) : (rngL lo n).length = n := by simp [rngL]
theorem rng_mem {lo x : Int} {n : Nat} (h : x ∈ rngL lo n) : lo ≤ x ∧ x < lo + n := by
  unfold rngL at h
  obtain ⟨i, hi, rfl⟩ := List.mem_map.mp h
  have := List.mem_range.mp hi
  omega
theorem mapL_eq {α β : Type} {f : α → Option β} {g : α → β} {xs : List α} (hl : xs.length ≤ 1000) (h : ∀ x ∈ xs, f x = some (g x)) : mapL? f xs = some (xs.map g) := by
  have h2 : xs.length < 100000 := Nat.lt_of_le_of_lt hl (by decide)
  have e : mapL? f xs = mapO f xs := if_pos h2
  rw [e]
  exact mapO_all h
theorem atI_toNat {α : Type} {xs : List α} {j : Int} (h0 : 0 ≤ j) (h : j < xs.length) : atI xs j = xs[j.toNat]? := by
  have hk : j.toNat < xs.length := by omega
  have e := atI_nat (xs := xs) (j := j.toNat) (List.getElem?_eq_getElem hk)
  rw [show ((j.toNat : Nat) : Int) = j by omega] at e
  rw [e, List.getElem?_eq_getElem hk]
theorem cut_nat {α : Type} {xs : List α} {a b : Nat} (ha : a ≤ b) (hb : b ≤ xs.length) : cutD xs (some (a : Int)) (some (b : Int)) = (xs.drop a).take (b - a) := by
  unfold cutD
  rw [HT.sIx_nat, HT.sIx_nat, show min a xs.length = a by omega, show min b xs.length = b by omega]
theorem cut_from {α : Type} {xs : List α} {a : Nat} (ha : a ≤ xs.length) : cutD xs (some (a : Int)) none = xs.drop a := by
  unfold cutD
  rw [HT.sIx_nat, show min a xs.length = a by omega]
  rw [show HT.sIx xs.length xs.length none = xs.length from rfl]
  exact List.take_of_length_le (by rw [List.length_drop]; omega)
theorem loopW_ix {α δ ρ : Type} {f : δ → α → Wp (Ct ρ δ)} {P : Ct ρ δ → Prop} (J : Nat → δ → Prop) : ∀ (xs : List α) (i : Nat) (s : δ), J i s →
    (∀ (k : Nat) (s : δ) (x : α) (C : Ct ρ δ → Prop), i ≤ k → k < i + xs.length → J k s → x ∈ xs → (∀ s', J (k + 1) s' → C (.go s')) → f s x C) → (∀ s, J (i + xs.length) s → P (.go s)) → loopW f xs s P
  | [], i, s, h, _, e => e s h
  | x :: r, i, s, h, st, e => by
    unfold loopW
    refine st i s x _ (Nat.le_refl _) (by simp) h (List.mem_cons_self ..) fun s' h' => ?_
    show loopW f r s' P
    refine loopW_ix J r (i + 1) s' h' (fun k s x C h1 h2 hJ hx hC => st k s x C (by omega) (by simp at h2 ⊢; omega) hJ (List.mem_cons_of_mem _ hx) hC) fun s hs => e s ?_
    rw [List.length_cons, show i + (r.length + 1) = i + 1 + r.length by omega]
    exact hs
theorem loopW_all {α δ ρ : Type} {f : δ → α → Wp (Ct ρ δ)} {P : Ct ρ δ → Prop} (J : δ → Prop) (xs : List α) (s : δ) (h : J s) (st : ∀ (s : δ) (x : α) (C : Ct ρ δ → Prop), J s → x ∈ xs → (∀ s', J s' → C (.go s')) → f s x C) (e : ∀ s, J s → P (.go s)) : loopW f xs s P :=
  loopW_ix (fun _ => J) xs 0 s h (fun _ s x C _ _ hJ hx hC => st s x C hJ hx hC) (fun s hs => e s hs)
theorem last_at {α : Type} {xs : List α} (h : xs ≠ []) : ∃ x, atI xs (-1) = some x ∧ x ∈ xs := by
  have l := List.length_pos_iff.mpr h
  have hk : xs.length - 1 < xs.length := by omega
  refine ⟨xs[xs.length - 1], ?_, List.getElem_mem hk⟩
  unfold atI ixN
  rw [if_neg (by decide), if_pos (by omega), Option.bind_some, show ((-1 : Int) + (xs.length : Int)).toNat = xs.length - 1 by omega]
  exact List.getElem?_eq_getElem hk
theorem jn_of {δ : Type} {f : (δ → Prop) → Prop} {k : δ → Prop} (Gd : δ → Prop) (h1 : ∀ K : δ → Prop, (∀ j, Gd j → K j) → f K) (h2 : ∀ j, Gd j → k j) : jn f k := h1 k h2
theorem filW_all {α β : Type} {f : α → Wp (Option β)} {p : β → Prop} : ∀ {xs : List α} {P : List β → Prop}, (∀ x ∈ xs, ∀ Po : Option β → Prop, (∀ y, p y → Po (some y)) → Po none → f x Po) → (∀ ys, ys.length ≤ xs.length → (∀ y ∈ ys, p y) → P ys) → filW f xs P
  | [], P, _, h => h [] (by simp) (fun y hy => by simp at hy)
  | x :: r, P, hf, h => by
    unfold filW
    refine hf x (List.mem_cons_self ..) _ (fun y hy => ?_) ?_
    · refine filW_all (fun z hz => hf z (List.mem_cons_of_mem _ hz)) fun ys hl hp => h _ (by simp; omega) fun z hz => ?_
      simp at hz
      rcases hz with rfl | hz
      · exact hy
      · exact hp z hz
    · refine filW_all (fun z hz => hf z (List.mem_cons_of_mem _ hz)) fun ys hl hp => h _ (by simp; omega) fun z hz => hp z (by simpa using hz)
theorem loopW_rng {δ ρ : Type} {f : δ → Int → Wp (Ct ρ δ)} {P : Ct ρ δ → Prop} (J : Nat → δ → Prop) : ∀ (n : Nat) {a : Nat} (s : δ), J a s → (∀ (k : Nat) (s : δ) (C : Ct ρ δ → Prop), a ≤ k → k < a + n → J k s → (∀ s', J (k + 1) s' → C (.go s')) → f s (k : Int) C) → (∀ s, J (a + n) s → P (.go s)) → loopW f (rngL (a : Int) n) s P
  | 0, a, s, h, _, e => e s h
  | n + 1, a, s, h, st, e => by
    rw [rngL_succ]
    unfold loopW
    refine st a s _ (Nat.le_refl _) (by omega) h fun s' h' => ?_
    show loopW f (rngL ((a : Int) + 1) n) s' P
    have := loopW_rng (f := f) (P := P) J n (a := a + 1) s' h' (fun k s C h1 h2 hJ hC => st k s C (by omega) (by omega) hJ hC) (fun s hs => e s (by rw [show a + (n + 1) = a + 1 + n by omega]; exact hs))
    simpa using this
theorem loopC_chk {α : Type} {f : Unit → α → Option (Ct Bool Unit)} {g : α → Bool} : ∀ (xs : List α), (∀ x ∈ xs, f () x = some (if g x then .ret false else .go ())) → loopC f xs () = some (if xs.any g then .ret false else .go ())
  | [], _ => rfl
  | x :: r, h => by
    have hx := h x (List.mem_cons_self ..)
    have hr := loopC_chk r fun y hy => h y (List.mem_cons_of_mem _ hy)
    unfold loopC
    rw [hx, Option.bind_some]
    by_cases c : g x = true
    · simp [c]
    · simp only [c, Bool.false_eq_true, if_false, List.any_cons, Bool.false_or]
      exact hr
theorem loopC_app {α β ρ : Type} {f : List β → α → Option (Ct ρ (List β))} {g : α → List β} {M c : Nat} : ∀ (xs : List α) (s : List β), (∀ x ∈ xs, (g x).length ≤ c ∧ ∀ s, s.length + c ≤ M → f s x = some (.go (s ++ g x))) → s.length + xs.length * c ≤ M → loopC f xs s = some (.go (s ++ xs.flatMap g))
  | [], s, _, _ => by simp [loopC]
  | x :: r, s, h, hb => by
    have hx := h x (List.mem_cons_self ..)
    have e : (x :: r).length * c = c + r.length * c := by rw [List.length_cons, Nat.succ_mul, Nat.add_comm]
    rw [e] at hb
    unfold loopC
    rw [hx.2 s (by omega), Option.bind_some]
    refine (loopC_app r (s ++ g x) (fun y hy => h y (List.mem_cons_of_mem _ hy)) ?_).trans ?_
    · rw [List.length_append]
      have := hx.1
      omega
    · simp
theorem filO_gen {α : Type} {g : α → Option Bool} {p : α → Bool} : ∀ (xs : List α), (∀ x ∈ xs, g x = some (p x)) → filO (fun x => bd (g x) fun k => if k then bd (some x) fun y => some (some y) else some none) xs = some (xs.filter p)
  | [], _ => rfl
  | x :: r, h => by
    have hr := filO_gen r fun y hy => h y (List.mem_cons_of_mem _ hy)
    simp only [filO, h x (List.mem_cons_self ..), bd, Option.bind_some] at hr ⊢
    by_cases c : p x = true
    · simp [c, hr]
    · simp [c, hr]
theorem fil_gen {α : Type} {g : α → Option Bool} {p : α → Bool} {xs : List α} (hl : xs.length ≤ 1000) (h : ∀ x ∈ xs, g x = some (p x)) : filL? g (fun x => some x) xs = some (xs.filter p) := by
  unfold filL?
  rw [if_pos (by omega)]
  exact filO_gen xs h
theorem at_get {α : Type} {xs : List α} {j : Int} (d : α) (h0 : 0 ≤ j) (h : j < xs.length) : atI xs j = some (xs.getD j.toNat d) := by
  rw [atI_toNat h0 h, List.getD_eq_getElem?_getD, List.getElem?_eq_getElem (by omega)]
  rfl
theorem at_lastD {α : Type} {xs : List α} (d : α) (h : xs ≠ []) : atI xs (-1) = some (xs.getD (xs.length - 1) d) := by
  have hl := List.length_pos_iff.mpr h
  unfold atI ixN
  rw [if_neg (by decide), if_pos (by omega), Option.bind_some, show ((-1 : Int) + (xs.length : Int)).toNat = xs.length - 1 by omega, List.getD_eq_getElem?_getD, List.getElem?_eq_getElem (by omega)]
  rfl
theorem rng_memI {lo x : Int} {n : Nat} (h : lo ≤ x ∧ x < lo + n) : x ∈ rngL lo n := by
  unfold rngL
  rw [List.mem_map]
  exact ⟨(x - lo).toNat, by simp; omega, by omega⟩
theorem memD_iff {α : Type} [DecidableEq α] {x : α} {xs : List α} : memD x xs = true ↔ x ∈ xs := by simp [memD]
theorem flatMap_len {α β : Type} {g : α → List β} {c : Nat} : ∀ xs : List α, (∀ x ∈ xs, (g x).length ≤ c) → (xs.flatMap g).length ≤ xs.length * c
  | [], _ => by simp
  | x :: r, h => by
    have := flatMap_len r fun y hy => h y (List.mem_cons_of_mem _ hy)
    have := h x (List.mem_cons_self ..)
    rw [List.flatMap_cons, List.length_append, List.length_cons, Nat.succ_mul]
    omega
theorem whileC_meas {δ ρ : Type} {t : δ → Option Bool} {f : δ → Option (Ct ρ δ)} (J : δ → Prop) (μ : δ → Nat) (h : ∀ s, J s → t s = some false ∨ (t s = some true ∧ ∃ s', f s = some (.go s') ∧ J s' ∧ μ s' < μ s)) : ∀ (n : Nat) (s : δ), J s → μ s < n → ∃ s', whileC t f n s = some (.go s') ∧ J s' ∧ t s' = some false
  | 0, s, _, hm => by omega
  | n + 1, s, hJ, hm => by
    rcases h s hJ with h1 | ⟨h1, s', h2, h3, h4⟩
    · exact ⟨s, whileC_stop h1, hJ, h1⟩
    · obtain ⟨z, e1, e2, e3⟩ := whileC_meas J μ h n s' h3 (by omega)
      exact ⟨z, by rw [whileC_go h1 h2, e1], e2, e3⟩
theorem min_mem {xs : List Int} (h : xs ≠ []) : ∃ m, xs.min? = some m ∧ m ∈ xs := by
  cases e : xs.min? with
  | none => exact absurd (List.min?_eq_none_iff.mp e) h
  | some m => exact ⟨m, rfl, List.min?_mem e⟩
theorem cat_eq {α : Type} {xs ys : List α} (h : xs.length + ys.length ≤ 1000) : cat? xs ys = some (xs ++ ys) := by
  unfold cat?
  rw [if_pos (by omega)]
end M

namespace M
open PySem L2 G
section
variable {K : PySem.W.Frag} {α β γ δ ε ρ : Type} {S T : AS} {σ : St} {H : Hp} {ta tb te tc : TE} {tt tu : TT} {a : Ty K α} {b' : Ty K β} {c' : Ty K γ} {D : Ends} {u t1 t2 : TS} {b c : Addr}
theorem kitAny2 {t n1 n2 : String} {k1 k2 : Bool} (h1 : kitB t n1 = some k1) (h2 : kitB t n2 = some k2) : PySem.W.kitAny K (.type t) [.type n1, .type n2] = some (k1 || k2) := by
  cases k1 with
  | true => exact kitAny_cons (b := true) (kit_ty h1) (fun z => nomatch z) (fun _ => rfl)
  | false =>
    refine kitAny_cons (b := false) (kit_ty h1) (fun _ => ?_) (fun z => nomatch z)
    cases k2 with
    | true => exact kitAny_cons (b := true) (kit_ty h2) (fun z => nomatch z) (fun _ => rfl)
    | false => exact kitAny_cons (b := false) (kit_ty h2) (fun _ => rfl) (fun z => nomatch z)
theorem ev_isi2 {r : Option α} {t n1 n2 : String} {k1 k2 : Bool} [hi : IsTy a t] (h : Ev S T te σ H (of a S) r) (h1 : kitB t n1 = some k1) (h2 : kitB t n2 = some k2) :
    Ev S T (tCB (rIsiT K) (tCons te (tCons (tTup (tCons (tC (.ty n1)) (tCons (tC (.ty n2)) tNil))) tNil))) σ H (of (K := K) tBool S) (bd r fun _ => some (k1 || k2)) := by
  intro z e H1 f1 d Q q
  obtain ⟨x, ex, e⟩ := bd_some e
  cases e
  exact h x ex H1 f1 d _ fun v H2 s hv => ⟨(by show 2 ≤ sizeLine; decide), fun p hp => ⟨v, p, _, _, _, _, rfl, upd_same, .cons (.ty _) (.cons (.ty _) .nil), hi.h (a.mono (Fr.same (same_new hp)) hv), kitAny2 h1 h2, q _ _ (s.trans (same_new hp)) rfl⟩⟩
theorem ev_isNv [NN a] {r : Option α} (h : Ev S T te σ H (of a S) r) : Ev S T (tOp (fun x y H Q => y = .non ∧ Q (.bl (decide (x = .non))) H) te (tC .non)) σ H (of (K := K) tBool S) (bd r fun _ => some false) := by
  intro z e H1 f1 d Q q
  obtain ⟨x, ex, e⟩ := bd_some e
  cases e
  exact h x ex H1 f1 d _ fun v H2 s hv => ⟨rfl, q _ H2 s (by show V.bl _ = V.bl false; rw [decide_eq_false (NN.h hv)])⟩
theorem ev_slO {p : Addr} {xs : List α} {i : Nat} {tl th : TO} {rl rh : Option (Option Int)} (o : Own a S H p xs) (nt : p ∉ T) (ts : Sub T S) (hi : σ[i]? = some (some (.ref p))) (hl : EvO S T tl σ H rl) (hh : EvO S T th σ H rh) :
    Ev S T (tSl (rSlL K) (tVar i) tl th) σ H (nw a S) (bd rl fun l => bd rh fun h => some (cutD xs l h)) := by
  intro z e H1 f1 d Q q
  obtain ⟨l, el, e⟩ := bd_some e
  obtain ⟨h, eh, e⟩ := bd_some e
  cases e
  refine ⟨_, hi, hl l el H1 f1 d _ fun H2 s2 => hh h eh H2 (f1.trans (Fr.same s2)) (d.same s2) _ fun H3 s3 => ?_⟩
  obtain ⟨vs, hv, ha⟩ := ((o.fr f1 ts nt).same s2).same s3
  refine ⟨p, vs, rfl, .inl (.inl hv), fun p' hp' => q _ _ ((s2.trans s3).trans (same_new hp')) ⟨p', rfl, (s2.trans s3).free hp', _, upd_same, ?_⟩⟩
  exact (ha.cut l h).imp fun _ _ hh => a.mono (Fr.same (same_new hp')) (a.ext hp' hh)
theorem lw_set {p : Addr} {xs : List α} {i : Nat} {w : Wp α} {td : TE} {ri : Option Int} {R : List α → Prop} (d : Dom S H) (hB : Bag H b c) (ts : Sub [b, c] S) (o : Own a S H p xs) (im : p ∈ S) (nt : p ∉ [b, c]) (hi : σ[i]? = some (some (.ref p))) (h : EvW b c S te σ H (of a S) w) (hk : Ev S [b, c] td σ H (of (K := K) tInt S) ri)
    (e : w fun x => lf ri fun k => lf (set? xs k x) R)
    (q : ∀ ys H1 H2, R ys → Fr [b, c] H H1 → Dom S H1 → Bag H1 b c → Mut1 p H1 H2 → Fr S H1 H2 → Own a S H2 p ys → D.nx σ H2) : tAsg te (gSub (tVar i) td rSetL) D σ H := by
  refine h ts _ e H (Fr.refl _) d hB _ fun v H1 x ⟨k, ek, ys, ey, hR⟩ f1 d1 hB1 hx => ⟨_, hi, hk k ek H1 f1 d1 _ fun w H2 s2 hw => ?_⟩
  cases hw
  obtain ⟨vs, hv, ha⟩ := o.fr f1 ts nt
  obtain ⟨j, ej, ey⟩ := bd_some ey
  cases ey
  refine ⟨p, vs, k, j, rfl, rfl, s2 _ _ hv, by rw [ha.len]; exact ej, ?_⟩
  have g1 : Fr S H2 (upd H2 p (.lst (vs.set j v))) := fr_upd im
  refine q _ H1 _ hR f1 d1 hB1 ⟨fun b ob e n => by rw [upd_ne n]; exact s2 _ _ e, by rw [upd_same]; intro z; cases z⟩ ((Fr.same s2).trans g1) ⟨_, upd_same, ?_⟩
  exact (All2.set (a.mono (Fr.same s2) hx) j (ha.imp fun _ _ h => a.mono (Fr.same s2) h)).imp fun _ _ h => a.mono g1 h
theorem qw_set {p : Addr} {xs : List α} {i : Nat} {w : Wp α} {td : TE} {ri : Option Int} {R : List α → Prop} (d : Dom S H) (hB : Bag H b c) (ts : Sub [b, c] S) (o : Own a S H p xs) (im : p ∈ S) (nt : p ∉ [b, c]) (hi : σ[i]? = some (some (.ref p))) (h : EvW b c S te σ H (of a S) w) (hk : Ev S [b, c] td σ H (of (K := K) tInt S) ri)
    (e : w fun x => lf ri fun k => lf (set? xs k x) R)
    (q : ∀ ys H1 H2, R ys → Fr [b, c] H H1 → Dom S H1 → Bag H1 b c → Mut1 p H1 H2 → Fr S H1 H2 → Own a S H2 p ys → u D σ H2) : tSeq (tAsg te (gSub (tVar i) td rSetL)) u D σ H := lw_set (D := { D with nx := u D }) d hB ts o im nt hi h hk e q
end
end M

namespace M
open PySem L2 G
open PyProof.Rows (itemOrd)
open PySem.W (dataLt alike alikeAll AlikeAll minD min_list_data alike_unique)
/-! ### min of a list of data -/
theorem fold_mem {α : Type} (f : α → α → Bool) : ∀ (xs : List α) (x : α), xs.foldl (fun a y => if f y a then y else a) x ∈ x :: xs
  | [], x => by simp
  | y :: r, x => by
    rw [List.foldl_cons]
    have := fold_mem f r (if f y x then y else x)
    rcases List.mem_cons.mp this with e | m
    · rw [e]
      split <;> simp
    · exact List.mem_cons_of_mem _ (List.mem_cons_of_mem _ m)
def rMinA (K : PySem.W.Frag) : List V → Hp → VK → Prop := fun vs H Q => ∃ (a : Addr) (xs : List V) (d : PyData) (ds : List PyData), vs = [.ref a] ∧ SqL K H a xs ∧ DpAll K H xs (d :: ds) ∧ AlikeAll (d :: ds) ∧ PyData.depthAll (d :: ds) ≤ 60 ∧
  ∀ (i : Nat) (v : V), xs[i]? = some v → (d :: ds)[i]? = some (minD d ds) → Q v H
theorem cr_minA {X : Cx} (hc : X.calm = true) (hu : X.A.units + 65 < cLine) : CallR X (.builtin "min") (rMinA X.K) := by
  intro pins s σ H vs us Q I r h
  obtain ⟨a, xs, d, ds, rfl, hs, hd, hal, hdp, q⟩ := h
  obtain ⟨its, rv, hl, _⟩ := I.list hs
  rw [Vals.ref1 r]
  obtain ⟨as, hr⟩ := Dp.readsAll I (d :: ds) xs its hd rv
  refine min_list_data (I.ok.hd hc) hl.isList (by simpa using hr) hal (by omega) fun i v h' tk bs hv hr' hk => ?_
  have hv' : its[i]? = some v := by simpa using hv
  have hlen := rv.length
  have hi : i < its.length := (List.getElem?_eq_some_iff.mp hv').1
  obtain ⟨x, hx⟩ : ∃ x, xs[i]? = some x := ⟨_, List.getElem?_eq_getElem (by omega)⟩
  have rx : RelV x v := by
    obtain ⟨u, hu', ru⟩ := Vals.get rv hx
    rw [hv'] at hu'
    cases hu'
    exact ru
  obtain ⟨cs, rc, hin, _, _⟩ := PySem.W.readsAll_at hr i v hv'
  have e : (d :: ds).getD i .none = minD d ds := by
    have r1 := PySem.W.reads_keeps hk rc
    refine alike_unique _ _ v _ _ ?_ r1 hr'
    refine hal.1 _ ?_ _ ?_
    · rw [List.getD_eq_getElem?_getD, List.getElem?_eq_getElem hin]
      exact List.getElem_mem _
    · exact fold_mem _ _ _
  refine ⟨x, H, I.kept hk, rx, q i x hx ?_⟩
  rw [← e, List.getD_eq_getElem?_getD, List.getElem?_eq_getElem hin]
  rfl
/-- codes whose things can be ordered -/
structure TyLt {K : PySem.W.Frag} {α : Type} {a : Ty K α} (d : TyD a) (lt : α → α → Bool) : Prop where
  al : ∀ x y, alike (d.dt x) (d.dt y) = true
  nn : ∀ x, d.dt x ≠ .none
  lt : ∀ x y, dataLt (d.dt x) (d.dt y) = lt x y
def minBy? {α : Type} (lt : α → α → Bool) : List α → Option α
  | [] => none
  | x :: xs => some (xs.foldl (fun a y => if lt y a then y else a) x)
theorem minD_map {K : PySem.W.Frag} {α : Type} {a : Ty K α} {d : TyD a} {lt : α → α → Bool} (h : TyLt d lt) : ∀ (xs : List α) (x : α), minD (d.dt x) (xs.map d.dt) = d.dt (xs.foldl (fun a y => if lt y a then y else a) x)
  | [], x => rfl
  | y :: r, x => by
    have ih := minD_map h r (if lt y x then y else x)
    unfold minD at ih ⊢
    rw [List.map_cons, List.foldl_cons, List.foldl_cons, h.lt, ← ih]
    congr 1
    split <;> rfl
theorem ev_minBy {K : PySem.W.Frag} {α : Type} {S T : AS} {σ : St} {H : Hp} {te : TE} {a : Ty K α} [DecidableEq α] {d : TyD a} {lt : α → α → Bool} {r : Option (List α)} (hd : d.dep ≤ 60) (hl : TyLt d lt) (h : Ev S T te σ H (of (tL a) S) r) :
    Ev S T (tCB (rMinA K) (tCons te tNil)) σ H (of a S) (bd r fun x => minBy? lt x) := by
  intro z e H1 f1 dm Q q
  obtain ⟨x, ex, e⟩ := bd_some e
  refine h x ex H1 f1 dm _ fun v H2 s ⟨p, vs, ev, hp, ha⟩ => ?_
  subst ev
  cases x with
  | nil => cases e
  | cons y ys =>
    cases e
    have da := dpAll d ha
    rw [List.map_cons] at da
    refine ⟨p, vs, d.dt y, ys.map d.dt, rfl, hp.sq, da, ⟨fun u hu w hw => ?_, fun u hu => ?_⟩, ?_, fun i w hw he => ?_⟩
    · rw [← List.map_cons] at hu hw
      obtain ⟨u', _, rfl⟩ := List.mem_map.mp hu
      obtain ⟨w', _, rfl⟩ := List.mem_map.mp hw
      exact hl.al _ _
    · rw [← List.map_cons] at hu
      obtain ⟨u', _, rfl⟩ := List.mem_map.mp hu
      exact hl.nn _
    · rw [← List.map_cons]
      exact Nat.le_trans (depAll d (y :: ys)) hd
    · rw [← List.map_cons, List.getElem?_map, minD_map hl] at he
      obtain ⟨c, hc, rc⟩ := ha.getL i hw
      rw [hc] at he
      have ec : c = ys.foldl (fun a y => if lt y a then y else a) y := by
        have := Option.some.inj he
        have e2 := d.dec c (ys.foldl (fun a y => if lt y a then y else a) y)
        rw [this, d.dec] at e2
        simpa using e2.symm
      subst ec
      exact q w H2 s rc
/-! lists of ints, as Python orders them -/
def lexI : List Int → List Int → Bool
  | [], [] => false
  | [], _ :: _ => true
  | _ :: _, [] => false
  | x :: xs, y :: ys => if x = y then lexI xs ys else decide (x < y)
theorem lexI_toks : ∀ xs ys : List Int, PyProof.Rows.lexLt itemOrd (PySem.W.keyToksAll (xs.map .int)) (PySem.W.keyToksAll (ys.map .int)) = lexI xs ys
  | [], [] => by rfl
  | [], y :: ys => by rfl
  | x :: xs, [] => by rfl
  | x :: xs, y :: ys => by
    rw [List.map_cons, List.map_cons]
    have al : alike (.int x) (.int y) = true := rfl
    unfold lexI
    by_cases c : x = y
    · rw [if_pos c, PySem.W.dataLt_all_yes al (by simp [PyData.eqv, c])]
      exact lexI_toks xs ys
    · rw [if_neg c, PySem.W.dataLt_all_no al (by simp [PyData.eqv, c]), PySem.W.dataLt_int]
theorem alike_ints' : ∀ xs ys : List Int, alikeAll (xs.map .int) (ys.map .int) = true
  | [], ys => by simp [alikeAll]
  | x :: xs, [] => by simp [alikeAll]
  | x :: xs, y :: ys => by simp [alikeAll, alike, alike_ints' xs ys]
theorem lt_LI {K : PySem.W.Frag} : TyLt (K := K) (dL dInt) lexI := ⟨fun x y => by show alike (.list _) (.list _) = true; rw [alike]; exact alike_ints' x y, fun x z => (by cases z), fun x y => by show dataLt (.list _) (.list _) = _; rw [PySem.W.dataLt_list]; exact lexI_toks x y⟩
/-! one taken out of a list -/
def popAt? {α : Type} (xs : List α) (i : Int) : Option (α × List α) := if 0 ≤ i then (xs[i.toNat]?).map fun y => (y, xs.eraseIdx i.toNat) else none
theorem All2.erase {α β : Type} {F : α → β → Prop} : ∀ (n : Nat) {xs : List α} {ys : List β}, All2 F xs ys → All2 F (xs.eraseIdx n) (ys.eraseIdx n)
  | _, _, _, .nil => .nil
  | 0, _, _, .cons _ r => r
  | n + 1, _, _, .cons a r => .cons a (All2.erase n r)
end M

namespace M
open PySem L2 G
open PyProof.Rows (itemOrd)
open PySem.W (dataLt alike alikeAll AllAlike Sortable dataLe sorted_data EachIs)
/-! ### sorted of a list of data -/
def rSortA (K : PySem.W.Frag) : List V → Hp → VK → Prop := fun vs H Q => ∃ (a : Addr) (bs : List (V × PyData)), vs = [.ref a] ∧ SqL K H a (bs.map (·.1)) ∧ (∀ b ∈ bs, Dp K H b.1 b.2) ∧ AllAlike (bs.map (·.2)) ∧ Sortable (bs.map (·.2)) ∧ (∀ b ∈ bs, b.2.depth ≤ 60) ∧
  ∀ p, H p = none → Q (.ref p) (upd H p (.lst ((bs.mergeSort (dataLe false (·.2))).map (·.1))))
theorem each_vals {X : Cx} {pins : List (Addr × Obj)} {σ : St} {H : Hp} {s : Shared} (I : Inv X pins σ H s) : ∀ {bs : List (V × PyData)} {its : List Value}, Vals (bs.map (·.1)) its → (∀ b ∈ bs, Dp X.K H b.1 b.2) →
    EachIs (fun v (b : V × PyData) => RelV b.1 v) its bs ∧ EachIs (fun v (b : V × PyData) => ∃ as, Reads s.heap v b.2 as) its bs
  | [], _, .nil, _ => ⟨.nil, .nil⟩
  | b :: r, _, .cons h t, hd => by
    obtain ⟨e1, e2⟩ := each_vals I t fun x hx => hd x (List.mem_cons_of_mem _ hx)
    exact ⟨.cons h e1, .cons (Dp.reads I b.2 b.1 _ (hd b (List.mem_cons_self ..)) h) e2⟩
theorem vals_each : ∀ {out : List Value} {bs : List (V × PyData)}, EachIs (fun v (b : V × PyData) => RelV b.1 v) out bs → Vals (bs.map (·.1)) out
  | _, _, .nil => .nil
  | _, _, .cons h t => .cons h (vals_each t)
theorem cr_sortA {X : Cx} (hu : X.A.units + 65 < cLine) : CallR X (.builtin "sorted") (rSortA X.K) := by
  intro pins s σ H vs us Q I r h
  obtain ⟨a, bs, rfl, hs, hd, hal, hk, hdp, q⟩ := h
  obtain ⟨its, rv, hl, hz⟩ := I.list hs
  rw [Vals.ref1 r]
  obtain ⟨e1, e2⟩ := each_vals I rv hd
  have hz' : bs.length ≤ sizeLine := by simpa using hz
  refine sorted_data (bs := bs) (enc := (·.2)) hl.isList e1 e2 hal hk hz' (fun b hb => by have := hdp b hb; omega) fun out ho he => ?_
  obtain ⟨ep, he'⟩ := PyProof.Rows.sortedAll_at s.heap its out.toArray
  have hlen : ((bs.mergeSort (dataLe false (·.2))).map (·.1)).length ≤ sizeLine := by rw [List.length_map, List.length_mergeSort]; exact hz'
  exact ⟨.ref _, upd H (s.heap.objs.size + 1) (.lst ((bs.mergeSort (dataLe false (·.2))).map (·.1))), I.laid (t' := s.toks) (fun _ _ => PyProof.Rows.sortedAll_old) (Nat.le_succ _) ⟨hlen, out, ep, vals_each he, by simpa using he'⟩, rfl, q _ (I.hok.fresh (Nat.le_succ _))⟩
def sortBy {α : Type} (lt : α → α → Bool) (xs : List α) : List α := xs.mergeSort fun x y => !lt y x
theorem dataLe_not {β : Type} (k : β → PyData) (x y : β) : dataLe false k x y = !dataLt (k y) (k x) := by
  first | rfl | (unfold dataLe dataLt; rfl)
/-- codes of which all are tuples with an item, or none is -/
def Srt {K : PySem.W.Frag} {α : Type} {a : Ty K α} (d : TyD a) : Prop := (∀ x, ∃ y r, d.dt x = .tuple (y :: r)) ∨ ∀ x ys, d.dt x ≠ .tuple ys
theorem ev_sortBy {K : PySem.W.Frag} {α : Type} {S T : AS} {σ : St} {H : Hp} {te : TE} {a : Ty K α} {d : TyD a} {lt : α → α → Bool} {r : Option (List α)} (hd : d.dep ≤ 60) (hl : TyLt d lt) (hs : Srt d) (h : Ev S T te σ H (of (tL a) S) r) :
    Ev S T (tCB (rSortA K) (tCons te tNil)) σ H (nw a S) (bd r fun x => some (sortBy lt x)) := by
  intro z e H1 f1 dm Q q
  obtain ⟨xs, ex, e⟩ := bd_some e
  cases e
  refine h xs ex H1 f1 dm _ fun v H2 s ⟨p, vs, ev, hp, ha⟩ => ?_
  subst ev
  have len := ha.len
  have m1 : ((vs.zip xs).map fun t : V × α => (t.1, d.dt t.2)).map (·.1) = vs := by
    rw [List.map_map]
    exact List.map_fst_zip (by omega)
  have m2 : (vs.zip xs).map Prod.snd = xs := List.map_snd_zip (by omega)
  have hz : ∀ t ∈ vs.zip xs, a.rp S H2 t.1 t.2 := fun t ht => by
    obtain ⟨i, hi, rfl⟩ := List.mem_iff_getElem.mp ht
    rw [List.length_zip] at hi
    rw [List.getElem_zip]
    obtain ⟨w, hw, hr⟩ := ha.get i (List.getElem?_eq_getElem (show i < xs.length by omega))
    rw [List.getElem?_eq_getElem (by omega)] at hw
    cases hw
    exact hr
  refine ⟨p, (vs.zip xs).map fun t => (t.1, d.dt t.2), rfl, by rw [m1]; exact hp.sq, fun b hb => ?_, ?_, ?_, fun b hb => ?_, fun p' hp' => ?_⟩
  · obtain ⟨t, ht, rfl⟩ := List.mem_map.mp hb
    exact d.dp (hz t ht)
  · intro u hu w hw
    rw [List.map_map] at hu hw
    obtain ⟨t, _, rfl⟩ := List.mem_map.mp hu
    obtain ⟨t', _, rfl⟩ := List.mem_map.mp hw
    exact hl.al _ _
  · rcases hs with hs | hs
    · left
      intro u hu
      rw [List.map_map] at hu
      obtain ⟨t, _, rfl⟩ := List.mem_map.mp hu
      exact hs _
    · right
      intro u hu
      rw [List.map_map] at hu
      obtain ⟨t, _, rfl⟩ := List.mem_map.mp hu
      exact ⟨hl.nn _, hs _⟩
  · obtain ⟨t, _, rfl⟩ := List.mem_map.mp hb
    exact Nat.le_trans (d.hd _) hd
  · have k1 := List.map_mergeSort (r := fun t t' : V × α => !lt t'.2 t.2) (s := dataLe false (fun b : V × PyData => b.2)) (f := fun t : V × α => (t.1, d.dt t.2)) (l := vs.zip xs) (fun t _ t' _ => by rw [dataLe_not, hl.lt])
    have k2 := List.map_mergeSort (r := fun t t' : V × α => !lt t'.2 t.2) (s := fun x y => !lt y x) (f := Prod.snd) (l := vs.zip xs) (fun t _ t' _ => rfl)
    rw [m2] at k2
    rw [← k1, List.map_map]
    have s4 := same_new (o := .lst (((vs.zip xs).mergeSort fun t t' : V × α => !lt t'.2 t.2).map fun t => t.1)) hp'
    refine q _ _ (s.trans s4) ⟨p', rfl, s.free hp', _, upd_same, ?_⟩
    unfold sortBy
    rw [← k2]
    have al : ∀ ts : List (V × α), (∀ t ∈ ts, a.rp S H2 t.1 t.2) → All2 (a.rp (p' :: S) (upd H2 p' (.lst (((vs.zip xs).mergeSort fun t t' : V × α => !lt t'.2 t.2).map fun t => t.1)))) (ts.map fun t => t.1) (ts.map Prod.snd) := by
      intro ts
      induction ts with
      | nil => exact fun _ => .nil
      | cons t r ih => exact fun ht => .cons (a.mono (Fr.same s4) (a.ext hp' (ht t (List.mem_cons_self ..)))) (ih fun x hx => ht x (List.mem_cons_of_mem _ hx))
    exact al _ fun t ht => hz t (List.mem_mergeSort.mp ht)
/-! pairs of a number and a list of numbers; texts -/
def ltPL (x y : Int × List Int) : Bool := if x.1 = y.1 then lexI x.2 y.2 else decide (x.1 < y.1)
theorem lt_PL {K : PySem.W.Frag} : TyLt (K := K) (dT2 dInt (dL dInt)) ltPL := by
  have al1 : ∀ n m : Int, alike (.int n) (.int m) = true := fun _ _ => rfl
  have al2 : ∀ x y : List Int, alike (.list (x.map .int)) (.list (y.map .int)) = true := fun x y => by rw [alike]; exact alike_ints' x y
  refine ⟨fun x y => ?_, fun x z => (by cases z), fun x y => ?_⟩
  · show alike (.tuple [.int x.1, .list (x.2.map .int)]) (.tuple [.int y.1, .list (y.2.map .int)]) = true
    rw [alike, alikeAll, alikeAll, al1, al2, alikeAll]
    rfl
  · show dataLt (.tuple [.int x.1, .list (x.2.map .int)]) (.tuple [.int y.1, .list (y.2.map .int)]) = ltPL x y
    rw [PySem.W.dataLt_tuple]
    unfold ltPL
    by_cases c : x.1 = y.1
    · rw [if_pos c, PySem.W.dataLt_all_yes (al1 _ _) (by simp [PyData.eqv, c])]
      have e2 : PyData.eqv (.list (x.2.map .int)) (.list (y.2.map .int)) = decide (x.2 = y.2) := (dL (K := K) dInt).dec x.2 y.2
      by_cases c2 : x.2 = y.2
      · rw [PySem.W.dataLt_all_yes (al2 _ _) (by rw [e2]; exact decide_eq_true c2), c2]
        have irr : ∀ l : List Int, lexI l l = false := fun l => by induction l with | nil => rfl | cons a r ih => simp [lexI, ih]
        rw [irr]
        rfl
      · rw [PySem.W.dataLt_all_no (al2 _ _) (by rw [e2]; exact decide_eq_false c2), PySem.W.dataLt_list]
        exact lexI_toks _ _
    · rw [if_neg c, PySem.W.dataLt_all_no (al1 _ _) (by simp [PyData.eqv, c]), PySem.W.dataLt_int]
theorem srt_PL {K : PySem.W.Frag} : Srt (K := K) (dT2 dInt (dL dInt)) := .inl fun x => ⟨_, _, rfl⟩
def ltS (x y : Str) : Bool := decide (x.cps.toList < y.cps.toList)
theorem lt_S {K : PySem.W.Frag} : TyLt (K := K) dStr ltS := ⟨fun x y => rfl, fun x z => (by cases z), fun x y => PySem.W.dataLt_str x y⟩
theorem srt_S {K : PySem.W.Frag} : Srt (K := K) dStr := .inr fun x ys z => (by cases z)
def ltI (x y : Int) : Bool := decide (x < y)
theorem lt_I {K : PySem.W.Frag} : TyLt (K := K) dInt ltI := ⟨fun x y => rfl, fun x z => (by cases z), fun x y => PySem.W.dataLt_int x y⟩
theorem srt_I {K : PySem.W.Frag} : Srt (K := K) dInt := .inr fun x ys z => (by cases z)
end M

namespace M
open PySem L2 G
section
variable {K : PySem.W.Frag} {α β γ δ ε ρ : Type} {S T : AS} {σ : St} {H : Hp} {ta tb te : TE} {tt tu : TT} {a : Ty K α} {b : Ty K β} {c : Ty K γ}
/-! ### a list of two things of two kinds -/
def tL2 (c : Ty K α) (d : Ty K β) : Ty K (α × β) where
  rp S H v x := ∃ a u w, v = .ref a ∧ nL K S H a [u, w] ∧ c.rp S H u x.1 ∧ d.rp S H w x.2
  mono f := fun ⟨a, u, w, e, h, h1, h2⟩ => ⟨a, u, w, e, h.mono f, c.mono f h1, d.mono f h2⟩
  ext f := fun ⟨a, u, w, e, h, h1, h2⟩ => ⟨a, u, w, e, h.ext f, c.ext f h1, d.ext f h2⟩
  sub f := fun ⟨a, u, w, e, h, h1, h2⟩ => ⟨a, u, w, e, h.sub f, c.sub f h1, d.sub f h2⟩
theorem ev_lst2 {ra : Option α} {rb : Option β} (ha : Ev S T ta σ H (of a S) ra) (hb : Ev S T tb σ H (of b S) rb) : Ev S T (tLst (tCons ta (tCons tb tNil))) σ H (of (tL2 a b) S) (bd ra fun x => bd rb fun y => some (x, y)) := by
  intro z e H1 f1 d Q q
  obtain ⟨x, ex, e⟩ := bd_some e
  obtain ⟨y, ey, e⟩ := bd_some e
  cases e
  refine ha x ex H1 f1 d _ fun v H2 s2 hv => hb y ey H2 (f1.trans (Fr.same s2)) (d.same s2) _ fun w H3 s3 hw => ⟨(by show 2 ≤ sizeLine; decide), fun p hp => ?_⟩
  have s4 := same_new (o := .lst [v, w]) hp
  exact q _ _ (s2.trans (s3.trans s4)) ⟨p, v, w, rfl, ⟨upd_same, ((d.same s2).same s3).not_mem hp⟩, a.mono (Fr.same (s3.trans s4)) hv, b.mono (Fr.same s4) hw⟩
theorem ev_ixL_ {R : Rl γ} {i : Int} {ra : Option α} {g : α → γ} (ha : Ev S T ta σ H (of a S) ra) (h : ∀ x H v, a.rp S H v x → ∃ p vs u, v = .ref p ∧ SqL K H p vs ∧ atI vs i = some u ∧ R.r H H u (g x)) :
    Ev S T (tOp (rIxL K) ta (tC (.int i))) σ H R (bd ra fun x => some (g x)) := by
  intro z e H1 f1 d Q q
  obtain ⟨x, ex, e⟩ := bd_some e
  cases e
  refine ha x ex H1 f1 d _ fun v H2 s2 hv => ?_
  obtain ⟨p, vs, u, rfl, hp, hu, hz⟩ := h x H2 v hv
  exact ⟨p, vs, i, u, rfl, rfl, hp, hu, q u H2 s2 (R.same s2 hz)⟩
theorem ev_ixL20 {ra : Option (α × β)} (ha : Ev S T ta σ H (of (tL2 a b) S) ra) : Ev S T (tOp (rIxL K) ta (tC (.int 0))) σ H (of a S) (bd ra fun x => some x.1) :=
  ev_ixL_ ha fun x H v ⟨p, u, w, e, h, h1, h2⟩ => ⟨p, _, u, e, h.sq, rfl, h1⟩
theorem ev_ixL21 {ra : Option (α × β)} (ha : Ev S T ta σ H (of (tL2 a b) S) ra) : Ev S T (tOp (rIxL K) ta (tC (.int 1))) σ H (of b S) (bd ra fun x => some x.2) :=
  ev_ixL_ ha fun x H v ⟨p, u, w, e, h, h1, h2⟩ => ⟨p, _, w, e, h.sq, rfl, h2⟩
def dL2 {a : Ty K α} {b : Ty K β} (d : TyD a) (e : TyD b) : TyD (tL2 a b) := ⟨fun x => .list [d.dt x.1, e.dt x.2], max d.dep e.dep + 1, fun ⟨p, u, w, z, hp, h1, h2⟩ => by subst z; exact .lst hp.sq (.cons (d.dp h1) (.cons (e.dp h2) .nil)),
  fun {S H v x} ⟨p, u, w, z, hp, h1, h2⟩ => by
    show (PyData.canLay0 (d.dt x.1) && (PyData.canLay0 (e.dt x.2) && true)) = true
    rw [d.shp h1, e.shp h2]
    rfl,
  fun x => by
    show max (PyData.depth (d.dt x.1)) (max (PyData.depth (e.dt x.2)) 0) + 1 ≤ _
    have h1 := d.hd x.1
    have h2 := e.hd x.2
    omega,
  fun x y => by
    show (PyData.eqv (d.dt x.1) (d.dt y.1) && (PyData.eqv (e.dt x.2) (e.dt y.2) && true)) = true ↔ _
    rw [Bool.and_true, Bool.and_eq_true, d.eqv, e.eqv]
    exact ⟨fun h => Prod.ext h.1 h.2, fun h => by subst h; exact ⟨rfl, rfl⟩⟩⟩
/-! ### // and % -/
theorem od_fdiv : OpD (K := K) tInt tInt S (of (K := K) tInt S) (rI CDivZ fun i j => .int (i.fdiv j)) fdiv? := od_I (p := fun _ j => fdivP j) (fun i j h => show j ≠ 0 ∧ j.natAbs.log2 < 9000 from of_decide_eq_true h) fun _ _ _ => rfl
def fmod? (i j : Int) : Option Int := if decide (j ≠ 0) then some (i.fmod j) else none
theorem od_fmod : OpD (K := K) tInt tInt S (of (K := K) tInt S) (rI (fun _ j => j ≠ 0) fun i j => .int (i.fmod j)) fmod? := od_I (p := fun _ j => decide (j ≠ 0)) (fun i j h => of_decide_eq_true h) fun _ _ _ => rfl
/-! ### is not True -/
theorem od_isB : OpD (K := K) tBool tBool S (of (K := K) tBool S) rIsB (fun i j => some (decide (i = j))) := by
  intro x y z e H1 v w d hv hw Q q
  cases e; cases hv; cases hw
  exact ⟨x, y, rfl, rfl, q _ H1 (Same.refl _) rfl⟩
theorem od_notB : OpD (K := K) tBool tBool S (of (K := K) tBool S) rNotB (fun i j => some (!decide (i = j))) := by
  intro x y z e H1 v w d hv hw Q q
  cases e; cases hv; cases hw
  exact ⟨x, y, rfl, rfl, q _ H1 (Same.refl _) rfl⟩
/-! ### a test over fewer owned lists -/
theorem eb_shr {S' : AS} {r : Option Bool} (hs : Sub S' S) (h : EvB S' T tt σ H r) : EvB S T tt σ H r := fun x ex H1 f d Q q => h x ex H1 f (d.sub hs) Q q
/-! ### [te for x, y in zip(xs, ys)] -/
theorem ev_lcZ {tl tm : TE} {j j2 : Nat} {ws : List Nat} {r : Option (List α)} {r' : Option (List β)} {f : α × β → Option γ} (h : Ev S T tl σ H (of (tL a) S) r) (h' : Ev S T tm σ H (of (tL b) S) r') (hw : ∀ x y, wipe (((wipe σ ws).set j (some x)).set j2 (some y)) ws = wipe σ ws)
    (he : ∀ (x : α × β) (v w : V) (H2 H' : Hp) (p : Addr), Fr T H H2 → H2 p = none → Same H2 H' → a.rp (p :: S) H' v x.1 → b.rp (p :: S) H' w x.2 → Ev (p :: S) [] te (((wipe σ ws).set j (some v)).set j2 (some w)) H' (of c (p :: S)) (f x)) :
    Ev S T (tLc (iZip K (tCons tl (tCons tm tNil))) (gTup K 2 (gCons (gName j) (gCons (gName j2) gNil))) tYes te ws) σ H (nw c S) (bd r fun xs => bd r' fun ys => mapL? f (xs.zip ys)) := by
  intro z e H1 f1 d Q q
  obtain ⟨xs, ex, e⟩ := bd_some e
  obtain ⟨ys, ey, e⟩ := bd_some e
  unfold mapL? at e
  split at e
  rotate_left
  · cases e
  rename_i hlen
  refine h xs ex H1 f1 d _ fun v H2 s2 ⟨p, vs, ev, hp, ha⟩ => h' ys ey H2 (f1.trans (Fr.same s2)) (d.same s2) _ fun v' H3 s3 ⟨p', vs', ev', hp', ha'⟩ => ?_
  subst ev
  subst ev'
  have hp := hp.mono (Fr.same s3)
  have ha := ha.imp fun _ _ => a.mono (Fr.same s3)
  have la := ha.len
  have la' := ha'.len
  refine ⟨p, p', vs, vs', rfl, hp.sq, hp'.sq, fun Dl hD => ?_⟩
  have d3 := (d.same s2).same s3
  have sD : Same H3 (upd H3 Dl (.lst [])) := same_new hD
  refine ⟨fun i m H' => m = (xs.zip ys).length - i ∧ i ≤ (xs.zip ys).length ∧ ∃ acc pre, H' Dl = some (.lst acc) ∧ Same H3 H' ∧ acc.length ≤ i ∧ All2 (c.rp (Dl :: S) H') acc pre ∧ ∃ suf, mapO f ((xs.zip ys).drop i) = some suf ∧ z = pre ++ suf, ⟨_, rfl, Nat.zero_le _, [], [], upd_same, sD, Nat.zero_le _, .nil, z, e, rfl⟩, ?_⟩
  rintro i m H' ⟨rfl, hi, acc, pre, h1, h2, h3, h4, suf, h5, h6⟩
  by_cases k : i < (xs.zip ys).length
  · right
    have k' := k
    rw [List.length_zip] at k'
    rw [List.drop_eq_getElem_cons k] at h5
    obtain ⟨o, ho, h5⟩ := bd_some h5
    obtain ⟨suf', hs', h5⟩ := bd_some h5
    cases h5
    obtain ⟨u, hu, ru⟩ := ha.get i (List.getElem?_eq_getElem (show i < xs.length by omega))
    obtain ⟨u', hu', ru'⟩ := ha'.get i (List.getElem?_eq_getElem (show i < ys.length by omega))
    have q1 : SqL K H' p vs := (hp.mono (Fr.same h2)).sq
    have q2 : SqL K H' p' vs' := (hp'.mono (Fr.same h2)).sq
    refine ⟨⟨vs, vs', u, u', q1, q2, hu, hu'⟩, fun H4 => ∃ acc pre, H4 Dl = some (.lst acc) ∧ Same H3 H4 ∧ acc.length ≤ i + 1 ∧ All2 (c.rp (Dl :: S) H4) acc pre ∧ ∃ suf, mapO f ((xs.zip ys).drop (i + 1)) = some suf ∧ z = pre ++ suf, ?_, ?_⟩
    · rintro H4 ⟨acc, pre, g1, g2, g3, g4, suf, g5, g6⟩
      exact ⟨(xs.zip ys).length - (i + 1), by omega, rfl, by omega, acc, pre, g1, g2, g3, g4, suf, g5, g6⟩
    · intro v H4 hy
      obtain ⟨T', x', y', rfl, hT, rfl, e1, e2⟩ := hy
      have := e1 vs q1
      rw [hu] at this
      cases this
      have := e2 vs' q2
      rw [hu'] at this
      cases this
      have sT : Same H' (upd H' T' (.tup [u, u'])) := same_new hT
      refine ⟨T', [u, u'], rfl, .inl (.inl upd_same), rfl, u, _, rfl, u', _, rfl, rfl, hw _ _, G.yes_ ?_⟩
      have hs4 := h2.trans sT
      have gz : (xs.zip ys)[i] = (xs[i]'(by omega), ys[i]'(by omega)) := by rw [List.getElem_zip]
      refine he (xs.zip ys)[i] u u' H3 _ Dl (f1.trans (Fr.same (s2.trans s3))) hD hs4 (by rw [gz]; exact a.mono (Fr.same hs4) (a.ext hD ru)) (by rw [gz]; exact b.mono (Fr.same hs4) (b.ext hD ru')) o ho _ (Fr.refl _) ((d3.same hs4).cons (sT _ _ h1)) _ fun w H5 s5 hw5 => ?_
      have s6 := sT.trans s5
      refine ⟨acc, s6 _ _ h1, Nat.lt_of_lt_of_le (by omega : acc.length < 100000) (by decide), acc ++ [w], pre ++ [o], upd_same, fun p ob eb => ?_, by simp; omega, ?_, suf', hs', by rw [h6]; simp⟩
      · rw [upd_ne (ne_of_none eb hD)]
        exact s6 _ _ (h2 _ _ eb)
      · have fD : Fr (Dl :: S) H5 (upd H5 Dl (.lst (acc ++ [w]))) := fr_upd (List.mem_cons_self ..)
        exact ((h4.imp fun _ _ h => c.mono (Fr.same s6) h).snoc hw5).imp fun _ _ h => c.mono fD h
  · left
    rw [List.drop_eq_nil_of_le (by omega)] at h5
    cases h5
    rw [List.append_nil] at h6
    subst h6
    refine ⟨⟨vs, vs', (hp.mono (Fr.same h2)).sq, (hp'.mono (Fr.same h2)).sq, ?_⟩, q _ _ ((s2.trans s3).trans h2) ⟨Dl, rfl, (s2.trans s3).free hD, acc, h1, h4⟩⟩
    rw [List.length_zip] at k
    omega
end
end M

namespace M
open PySem L2 G
section
variable {K : PySem.W.Frag} {α β γ δ ε ρ : Type} {S T : AS} {σ : St} {H : Hp} {b c : Addr} {ta tb te : TE} {tt tu : TT} {a : Ty K α} {b' : Ty K β} {c' : Ty K γ} {D : Ends} {u : TS}
/-! ### a list that was made behind the heap Hs: it may be owned later -/
theorem Own.sub2 {p : Addr} {xs : List α} {S' : AS} (o : Own a S H p xs) (h : ∀ q ∈ S', q ∈ S) : Own a S' H p xs := by
  obtain ⟨vs, hv, ha⟩ := o
  exact ⟨vs, hv, ha.imp fun _ _ => a.sub h⟩
def tFL (Hs : Hp) (a : Ty K α) : Ty K (List α) where
  rp S H v xs := ∃ p, v = .ref p ∧ Hs p = none ∧ p ∉ S ∧ Own a (p :: S) H p xs
  mono {S H H' v x} f := fun ⟨p, e, n, ns, vs, hv, ha⟩ => ⟨p, e, n, ns, vs, f _ _ hv ns, ha.imp fun _ _ => a.mono (Fr.sub (fun q m => List.mem_cons_of_mem _ m) f)⟩
  ext {S H q v x} hq := fun ⟨p, e, n, ns, vs, hv, ha⟩ => ⟨p, e, n, not_cons hq (by rw [hv]; intro z; cases z) ns, vs, hv, ha.imp fun _ _ h => a.sub (fun r m => by simp only [List.mem_cons] at m ⊢; grind) (a.ext hq h)⟩
  sub {S S' H v x} hs := fun ⟨p, e, n, ns, vs, hv, ha⟩ => ⟨p, e, n, fun m => ns (hs _ m), vs, hv, ha.imp fun _ _ => a.sub fun r m => by
    rcases List.mem_cons.mp m with e | m
    · rw [e]; exact List.mem_cons_self ..
    · exact List.mem_cons_of_mem _ (hs _ m)⟩
theorem ev_FL {Hs : Hp} {r : Option (List α)} (ts : Sub T S) (fs : Fr T Hs H) (h : Ev S T te σ H (nw a S) r) : Ev S T te σ H (of (tFL Hs a) S) r := by
  intro x ex H1 f d Q q
  exact h x ex H1 f d Q fun v H2 s ⟨p, e, n, o⟩ => q v H2 s ⟨p, e, fr_back (fs.trans f) (d.sub ts) n, d.not_mem n, o⟩
theorem ew_FL {Hs : Hp} {w : Wp (List α)} (fs : Fr [b, c] Hs H) (h : EvW b c S te σ H (nw a S) w) : EvW b c S te σ H (of (tFL Hs a) S) w := fun ts P hP H1 f d hB Q q =>
  h ts P hP H1 f d hB Q fun v H2 x hx f2 d2 hB2 ⟨p, e, n, o⟩ => q v H2 x hx f2 d2 hB2 ⟨p, e, fr_back (fs.trans f) hB.dom n, d.not_mem n, o⟩
theorem ev_FL2L {Hs : Hp} {r : Option (List α)} (h : Ev S T te σ H (of (tFL Hs a) S) r) : Ev S T te σ H (of (tL a) S) r := by
  intro x ex H1 f d Q q
  exact h x ex H1 f d Q fun v H2 s ⟨p, e, n, ns, vs, hv, ha⟩ => q v H2 s ⟨p, vs, e, ⟨hv, ns⟩, ha.imp fun _ _ => a.sub fun r m => List.mem_cons_of_mem _ m⟩
theorem Fr.reflOf {H0 : Hp} (f : Fr T H0 H) : Fr T H H := Fr.refl _
/-! ### a value that is not None -/
theorem ev_unopt {r : Option (Option α)} (h : Ev S T te σ H (of (tOpt a) S) r) : Ev S T te σ H (of a S) (bd r fun x => x) := by
  intro y ey H1 f d Q q
  obtain ⟨x, ex, ey⟩ := bd_some ey
  exact h x ex H1 f d Q fun v H2 s hv => q v H2 s (by subst ey; exact hv.2)
/-! ### walks over what a draw tells; list(xs) of an owned list -/
theorem srw_list {tl : TE} {w : Wp (List α)} (h : EvW b c S tl σ H (of (tL a) S) w) : SrW b c S (iList K tl) σ H a w := fun ts P hP H1 f d hB R q =>
  h ts P hP H1 f d hB _ fun v H2 x hx f2 d2 hB2 ⟨p, vs, ev, hp, ha⟩ => ⟨p, ev, ⟨vs, hp.sq⟩, q _ H2 x hx f2 d2 hB2 (wk_list hp ha)⟩
theorem ev_listO {p : Addr} {xs : List α} {i : Nat} (o : Own a S H p xs) (nt : p ∉ T) (ts : Sub T S) (hi : σ[i]? = some (some (.ref p))) : Ev S T (tCB (fun xs H Q => ∃ p ys, xs = [.ref p] ∧ (SqL K H p ys ∨ SqT K H p ys) ∧ ∀ l, H l = none → Q (.ref l) (upd H l (.lst ys))) (tCons (tVar i) tNil)) σ H (nw a S) (some xs) := by
  intro z e H1 f1 d Q q
  cases e
  obtain ⟨vs, hv, ha⟩ := o.fr f1 ts nt
  exact ⟨_, hi, p, vs, rfl, .inl (.inl (.inl hv)), fun l hl => q _ _ (same_new hl) ⟨l, rfl, hl, vs, upd_same, ha.imp fun _ _ h => a.mono (Fr.same (same_new hl)) (a.ext hl h)⟩⟩
/-! ### two new lists at once -/
theorem q_par0 {i j : Nat} (a : Ty K α) (b' : Ty K β) (k : ∀ v w Hm H1, Same H Hm → nwL a S H Hm v [] → Same Hm H1 → (∀ p, v = .ref p → nwL b' (p :: S) Hm H1 w []) → u D ((σ.set i (some v)).set j (some w)) H1) : tSeq (tPar i j (tCons (tLst tNil) (tCons (tLst tNil) tNil))) u D σ H :=
  ⟨Nat.zero_le _, fun p hp => ⟨Nat.zero_le _, fun q hq => ⟨.ref p, .ref q, rfl, k _ _ _ _ (same_new hp) ⟨p, rfl, hp, [], upd_same, .nil⟩ (same_new hq) fun p' e => ⟨q, rfl, hq, [], upd_same, .nil⟩⟩⟩⟩
theorem ev_lenT2 {r : Option (α × β)} (h : Ev S T te σ H (of (tT2 a b') S) r) : Ev S T (tCB (fun xs H Q => ∃ p ys, xs = [.ref p] ∧ (SqL K H p ys ∨ SqT K H p ys) ∧ Q (.int ys.length) H) (tCons te tNil)) σ H (of (K := K) tInt S) (bd r fun _ => some (2 : Int)) := by
  intro z e H1 f1 d Q q
  obtain ⟨x, ex, e⟩ := bd_some e
  cases e
  refine h x ex H1 f1 d _ fun v H2 s hv => ?_
  obtain ⟨p, u, w, rfl, hp, _, _⟩ := hv
  exact ⟨p, _, rfl, .inr hp.sq, q _ H2 s rfl⟩
end
end M

namespace G
open PySem L2 M

def top (i : Nat) : Stmt := PySem.Challenge.pw_gromatic_k21_whole_bare_points.main.body.getD i (.Pass ⟨0, 0, 0, 0⟩)
abbrev s_greatest_common : Stmt := top 5
abbrev n_greatest_common : List Str := ["one", "other"]
abbrev p_greatest_common : List Str := ["one", "other"]
theorem sc_greatest_common : FnScope n_greatest_common p_greatest_common (defScope s_greatest_common) := ⟨rfl, rfl, rfl, by decide +kernel, rfl, by decide +kernel, by decide +kernel⟩
abbrev s_ratio : Stmt := top 6
abbrev n_ratio : List Str := ["over", "under", "common"]
abbrev p_ratio : List Str := ["over", "under"]
theorem sc_ratio : FnScope n_ratio p_ratio (defScope s_ratio) := ⟨rfl, rfl, rfl, by decide +kernel, rfl, by decide +kernel, by decide +kernel⟩
abbrev s_plus : Stmt := top 7
abbrev n_plus : List Str := ["one", "other"]
abbrev p_plus : List Str := ["one", "other"]
theorem sc_plus : FnScope n_plus p_plus (defScope s_plus) := ⟨rfl, rfl, rfl, by decide +kernel, rfl, by decide +kernel, by decide +kernel⟩
abbrev s_minus : Stmt := top 8
abbrev n_minus : List Str := ["one", "other"]
abbrev p_minus : List Str := ["one", "other"]
theorem sc_minus : FnScope n_minus p_minus (defScope s_minus) := ⟨rfl, rfl, rfl, by decide +kernel, rfl, by decide +kernel, by decide +kernel⟩
abbrev s_times : Stmt := top 9
abbrev n_times : List Str := ["one", "other"]
abbrev p_times : List Str := ["one", "other"]
theorem sc_times : FnScope n_times p_times (defScope s_times) := ⟨rfl, rfl, rfl, by decide +kernel, rfl, by decide +kernel, by decide +kernel⟩
abbrev s_divided : Stmt := top 10
abbrev n_divided : List Str := ["one", "other"]
abbrev p_divided : List Str := ["one", "other"]
theorem sc_divided : FnScope n_divided p_divided (defScope s_divided) := ⟨rfl, rfl, rfl, by decide +kernel, rfl, by decide +kernel, by decide +kernel⟩
abbrev s_order : Stmt := top 11
abbrev n_order : List Str := ["one", "other", "gap"]
abbrev p_order : List Str := ["one", "other"]
theorem sc_order : FnScope n_order p_order (defScope s_order) := ⟨rfl, rfl, rfl, by decide +kernel, rfl, by decide +kernel, by decide +kernel⟩
abbrev s_size : Stmt := top 12
abbrev n_size : List Str := ["one"]
abbrev p_size : List Str := ["one"]
theorem sc_size : FnScope n_size p_size (defScope s_size) := ⟨rfl, rfl, rfl, by decide +kernel, rfl, by decide +kernel, by decide +kernel⟩
abbrev s_lesser : Stmt := top 13
abbrev n_lesser : List Str := ["one", "other"]
abbrev p_lesser : List Str := ["one", "other"]
theorem sc_lesser : FnScope n_lesser p_lesser (defScope s_lesser) := ⟨rfl, rfl, rfl, by decide +kernel, rfl, by decide +kernel, by decide +kernel⟩
abbrev s_greater : Stmt := top 14
abbrev n_greater : List Str := ["one", "other"]
abbrev p_greater : List Str := ["one", "other"]
theorem sc_greater : FnScope n_greater p_greater (defScope s_greater) := ⟨rfl, rfl, rfl, by decide +kernel, rfl, by decide +kernel, by decide +kernel⟩
abbrev s_stretch : Stmt := top 15
abbrev n_stretch : List Str := ["start", "end"]
abbrev p_stretch : List Str := ["start", "end"]
theorem sc_stretch : FnScope n_stretch p_stretch (defScope s_stretch) := ⟨rfl, rfl, rfl, by decide +kernel, rfl, by decide +kernel, by decide +kernel⟩
abbrev s_between : Stmt := top 16
abbrev n_between : List Str := ["start", "end", "share"]
abbrev p_between : List Str := ["start", "end", "share"]
theorem sc_between : FnScope n_between p_between (defScope s_between) := ⟨rfl, rfl, rfl, by decide +kernel, rfl, by decide +kernel, by decide +kernel⟩
abbrev s_gap : Stmt := top 18
abbrev n_gap : List Str := ["one", "other"]
abbrev p_gap : List Str := ["one", "other"]
theorem sc_gap : FnScope n_gap p_gap (defScope s_gap) := ⟨rfl, rfl, rfl, by decide +kernel, rfl, by decide +kernel, by decide +kernel⟩
abbrev s_pieces_of : Stmt := top 19
abbrev n_pieces_of : List Str := ["polyline", "at"]
abbrev p_pieces_of : List Str := ["polyline"]
theorem sc_pieces_of : FnScope n_pieces_of p_pieces_of (defScope s_pieces_of) := ⟨rfl, rfl, rfl, by decide +kernel, rfl, by decide +kernel, by decide +kernel⟩
abbrev s_turns : Stmt := top 20
abbrev n_turns : List Str := ["spot", "piece", "x", "y", "shares", "start", "end", "share"]
abbrev p_turns : List Str := ["spot", "piece"]
theorem sc_turns : FnScope n_turns p_turns (defScope s_turns) := ⟨rfl, rfl, rfl, by decide +kernel, rfl, by decide +kernel, by decide +kernel⟩
abbrev s_apart : Stmt := top 21
abbrev n_apart : List Str := ["spot", "polyline", "least", "piece", "share"]
abbrev p_apart : List Str := ["spot", "polyline"]
theorem sc_apart : FnScope n_apart p_apart (defScope s_apart) := ⟨rfl, rfl, rfl, by decide +kernel, rfl, by decide +kernel, by decide +kernel⟩
abbrev s_narrowed : Stmt := top 22
abbrev n_narrowed : List Str := ["span", "start", "end", "low", "high", "way", "shares", "first", "last"]
abbrev p_narrowed : List Str := ["span", "start", "end", "low", "high"]
theorem sc_narrowed : FnScope n_narrowed p_narrowed (defScope s_narrowed) := ⟨rfl, rfl, rfl, by decide +kernel, rfl, by decide +kernel, by decide +kernel⟩
abbrev s_off_side : Stmt := top 23
abbrev n_off_side : List Str := ["piece", "spot", "start", "end"]
abbrev p_off_side : List Str := ["piece", "spot"]
theorem sc_off_side : FnScope n_off_side p_off_side (defScope s_off_side) := ⟨rfl, rfl, rfl, by decide +kernel, rfl, by decide +kernel, by decide +kernel⟩
abbrev s_span_near : Stmt := top 24
abbrev n_span_near : List Str := ["piece", "other", "slack", "span", "way", "low", "high", "room"]
abbrev p_span_near : List Str := ["piece", "other", "slack"]
theorem sc_span_near : FnScope n_span_near p_span_near (defScope s_span_near) := ⟨rfl, rfl, rfl, by decide +kernel, rfl, by decide +kernel, by decide +kernel⟩
abbrev s_covered_to : Stmt := top 25
abbrev n_covered_to : List Str := ["spans", "reach", "growing", "low", "high"]
abbrev p_covered_to : List Str := ["spans"]
theorem sc_covered_to : FnScope n_covered_to p_covered_to (defScope s_covered_to) := ⟨rfl, rfl, rfl, by decide +kernel, rfl, by decide +kernel, by decide +kernel⟩
abbrev s_bare_share : Stmt := top 26
abbrev n_bare_share : List Str := ["spans", "reach", "ahead", "low", "high"]
abbrev p_bare_share : List Str := ["spans"]
theorem sc_bare_share : FnScope n_bare_share p_bare_share (defScope s_bare_share) := ⟨rfl, rfl, rfl, by decide +kernel, rfl, by decide +kernel, by decide +kernel⟩
abbrev s_bare : Stmt := top 27
abbrev n_bare : List Str := ["ones", "others", "slack", "near", "piece", "spans", "share", "other", "span"]
abbrev p_bare : List Str := ["ones", "others", "slack"]
theorem sc_bare : FnScope n_bare p_bare (defScope s_bare) := ⟨rfl, rfl, rfl, by decide +kernel, rfl, by decide +kernel, by decide +kernel⟩
abbrev s_law_bag : Stmt := top 29
abbrev n_law_bag : List Str := ["_law_script"]
abbrev p_law_bag : List Str := ["_law_script"]
theorem sc_law_bag : FnScope n_law_bag p_law_bag (defScope s_law_bag) := ⟨rfl, rfl, rfl, by decide +kernel, rfl, by decide +kernel, by decide +kernel⟩
abbrev s_law_draw : Stmt := top 30
abbrev n_law_draw : List Str := ["_law_bag_here", "_law_many", "_law_cells", "_law_slot", "_law_cell", "_law_seed"]
abbrev p_law_draw : List Str := ["_law_bag_here", "_law_many"]
theorem sc_law_draw : FnScope n_law_draw p_law_draw (defScope s_law_draw) := ⟨rfl, rfl, rfl, by decide +kernel, rfl, by decide +kernel, by decide +kernel⟩
abbrev s_law_whole : Stmt := top 31
abbrev n_law_whole : List Str := ["_law_found"]
abbrev p_law_whole : List Str := ["_law_found"]
theorem sc_law_whole : FnScope n_law_whole p_law_whole (defScope s_law_whole) := ⟨rfl, rfl, rfl, by decide +kernel, rfl, by decide +kernel, by decide +kernel⟩
abbrev s_law_any : Stmt := top 32
abbrev n_law_any : List Str := ["_law_bag_here", "_law_some"]
abbrev p_law_any : List Str := ["_law_bag_here", "_law_some"]
theorem sc_law_any : FnScope n_law_any p_law_any (defScope s_law_any) := ⟨rfl, rfl, rfl, by decide +kernel, rfl, by decide +kernel, by decide +kernel⟩
abbrev s_law_rat : Stmt := top 33
abbrev n_law_rat : List Str := ["_law_over", "_law_under", "_law_one", "_law_two"]
abbrev p_law_rat : List Str := ["_law_over", "_law_under"]
theorem sc_law_rat : FnScope n_law_rat p_law_rat (defScope s_law_rat) := ⟨rfl, rfl, rfl, by decide +kernel, rfl, by decide +kernel, by decide +kernel⟩
abbrev s_law_sum : Stmt := top 34
abbrev n_law_sum : List Str := ["_law_one", "_law_two"]
abbrev p_law_sum : List Str := ["_law_one", "_law_two"]
theorem sc_law_sum : FnScope n_law_sum p_law_sum (defScope s_law_sum) := ⟨rfl, rfl, rfl, by decide +kernel, rfl, by decide +kernel, by decide +kernel⟩
abbrev s_law_dif : Stmt := top 35
abbrev n_law_dif : List Str := ["_law_one", "_law_two"]
abbrev p_law_dif : List Str := ["_law_one", "_law_two"]
theorem sc_law_dif : FnScope n_law_dif p_law_dif (defScope s_law_dif) := ⟨rfl, rfl, rfl, by decide +kernel, rfl, by decide +kernel, by decide +kernel⟩
abbrev s_law_prod : Stmt := top 36
abbrev n_law_prod : List Str := ["_law_one", "_law_two"]
abbrev p_law_prod : List Str := ["_law_one", "_law_two"]
theorem sc_law_prod : FnScope n_law_prod p_law_prod (defScope s_law_prod) := ⟨rfl, rfl, rfl, by decide +kernel, rfl, by decide +kernel, by decide +kernel⟩
abbrev s_law_quo : Stmt := top 37
abbrev n_law_quo : List Str := ["_law_one", "_law_two"]
abbrev p_law_quo : List Str := ["_law_one", "_law_two"]
theorem sc_law_quo : FnScope n_law_quo p_law_quo (defScope s_law_quo) := ⟨rfl, rfl, rfl, by decide +kernel, rfl, by decide +kernel, by decide +kernel⟩
abbrev s_law_comp : Stmt := top 38
abbrev n_law_comp : List Str := ["_law_one", "_law_two"]
abbrev p_law_comp : List Str := ["_law_one", "_law_two"]
theorem sc_law_comp : FnScope n_law_comp p_law_comp (defScope s_law_comp) := ⟨rfl, rfl, rfl, by decide +kernel, rfl, by decide +kernel, by decide +kernel⟩
abbrev s_law_is_ratio : Stmt := top 39
abbrev n_law_is_ratio : List Str := ["_law_one"]
abbrev p_law_is_ratio : List Str := ["_law_one"]
theorem sc_law_is_ratio : FnScope n_law_is_ratio p_law_is_ratio (defScope s_law_is_ratio) := ⟨rfl, rfl, rfl, by decide +kernel, rfl, by decide +kernel, by decide +kernel⟩
abbrev s_law_is_spot : Stmt := top 40
abbrev n_law_is_spot : List Str := ["_law_spot_here"]
abbrev p_law_is_spot : List Str := ["_law_spot_here"]
theorem sc_law_is_spot : FnScope n_law_is_spot p_law_is_spot (defScope s_law_is_spot) := ⟨rfl, rfl, rfl, by decide +kernel, rfl, by decide +kernel, by decide +kernel⟩
abbrev s_law_ratio : Stmt := top 41
abbrev n_law_ratio : List Str := ["_law_bag_here", "_law_reach", "_law_low", "_law_room"]
abbrev p_law_ratio : List Str := ["_law_bag_here", "_law_reach"]
theorem sc_law_ratio : FnScope n_law_ratio p_law_ratio (defScope s_law_ratio) := ⟨rfl, rfl, rfl, by decide +kernel, rfl, by decide +kernel, by decide +kernel⟩
abbrev s_law_spot : Stmt := top 42
abbrev n_law_spot : List Str := ["_law_bag_here", "_law_reach"]
abbrev p_law_spot : List Str := ["_law_bag_here", "_law_reach"]
theorem sc_law_spot : FnScope n_law_spot p_law_spot (defScope s_law_spot) := ⟨rfl, rfl, rfl, by decide +kernel, rfl, by decide +kernel, by decide +kernel⟩
abbrev s_law_on : Stmt := top 43
abbrev n_law_on : List Str := ["_law_one", "_law_two", "_law_part", "_law_x"]
abbrev p_law_on : List Str := ["_law_one", "_law_two", "_law_part"]
theorem sc_law_on : FnScope n_law_on p_law_on (defScope s_law_on) := ⟨rfl, rfl, rfl, by decide +kernel, rfl, by decide +kernel, by decide +kernel⟩
abbrev s_law_corners : Stmt := top 44
abbrev n_law_corners : List Str := ["_law_bag_here", "_law_many", "_law_row", "_law_k", "_law_spot_here", "_law_x"]
abbrev p_law_corners : List Str := ["_law_bag_here", "_law_many"]
theorem sc_law_corners : FnScope n_law_corners p_law_corners (defScope s_law_corners) := ⟨rfl, rfl, rfl, by decide +kernel, rfl, by decide +kernel, by decide +kernel⟩
abbrev s_law_span : Stmt := top 45
abbrev n_law_span : List Str := ["_law_bits_here", "_law_start", "_law_far", "_law_low", "_law_high", "_law_good", "_law_ends", "_law_first", "_law_last"]
abbrev p_law_span : List Str := ["_law_bits_here", "_law_start", "_law_far", "_law_low", "_law_high"]
theorem sc_law_span : FnScope n_law_span p_law_span (defScope s_law_span) := ⟨rfl, rfl, rfl, by decide +kernel, rfl, by decide +kernel, by decide +kernel⟩
abbrev s_law_clip : Stmt := top 46
abbrev n_law_clip : List Str := ["_law_one", "_law_two", "_law_low", "_law_high", "_law_bits_here", "_law_k"]
abbrev p_law_clip : List Str := ["_law_one", "_law_two", "_law_low", "_law_high"]
theorem sc_law_clip : FnScope n_law_clip p_law_clip (defScope s_law_clip) := ⟨rfl, rfl, rfl, by decide +kernel, rfl, by decide +kernel, by decide +kernel⟩
abbrev s_law_reaches : Stmt := top 47
abbrev n_law_reaches : List Str := ["_law_spot_here", "_law_polyline", "_law_room", "_law_low", "_law_high", "_law_k", "_law_one"]
abbrev p_law_reaches : List Str := ["_law_spot_here", "_law_polyline", "_law_room"]
theorem sc_law_reaches : FnScope n_law_reaches p_law_reaches (defScope s_law_reaches) := ⟨rfl, rfl, rfl, by decide +kernel, rfl, by decide +kernel, by decide +kernel⟩
abbrev s_law_bits : Stmt := top 48
abbrev n_law_bits : List Str := ["_law_one", "_law_two", "_law_a", "_law_b", "_law_room", "_law_low", "_law_high", "_law_k", "_law_ends"]
abbrev p_law_bits : List Str := ["_law_one", "_law_two", "_law_a", "_law_b", "_law_room"]
theorem sc_law_bits : FnScope n_law_bits p_law_bits (defScope s_law_bits) := ⟨rfl, rfl, rfl, by decide +kernel, rfl, by decide +kernel, by decide +kernel⟩
abbrev s_law_spots_of : Stmt := top 49
abbrev n_law_spots_of : List Str := ["_law_bag_here", "_law_ones", "_law_others", "_law_room", "_law_found", "_law_k", "_law_one", "_law_two", "_law_parts", "_law_here", "_law_bits_here", "_law_part", "_law_more", "_law_near"]
abbrev p_law_spots_of : List Str := ["_law_bag_here", "_law_ones", "_law_others", "_law_room"]
theorem sc_law_spots_of : FnScope n_law_spots_of p_law_spots_of (defScope s_law_spots_of) := ⟨rfl, rfl, rfl, by decide +kernel, rfl, by decide +kernel, by decide +kernel⟩
abbrev s_law : Stmt := top 50
abbrev n_law : List Str := ["_law_script", "_law_bag_here", "_law_good", "_law_turn", "_law_ones", "_law_others", "_law_gone", "_law_room", "_law_handed", "_law_told", "_law_spot_here"]
abbrev p_law : List Str := ["_law_script"]
theorem sc_law : FnScope n_law p_law (defScope s_law) := ⟨rfl, rfl, rfl, by decide +kernel, rfl, by decide +kernel, by decide +kernel⟩
structure Bt (mg : Str → Option Value) : Prop where
  len_ : mg "len" = none
  list_ : mg "list" = none
  abs_ : mg "abs" = none
  isinstance_ : mg "isinstance" = none
  int_ : mg "int" = none
  bool_ : mg "bool" = none
  str_ : mg "str" = none
  dict_ : mg "dict" = none
  tuple_ : mg "tuple" = none
  all_ : mg "all" = none
  range_ : mg "range" = none
  sorted_ : mg "sorted" = none
  min_ : mg "min" = none
  max_ : mg "max" = none
  any_ : mg "any" = none
structure At (K : PySem.W.Frag) (mg : Str → Option Value) (name : String) (st : Stmt) (ps : List Str) (f : Addr) (fd : FuncData) : Prop where
  F : Fun K (Str.ofString name) (Str.ofString name) st f fd
  b : Binds K fd ps []
  m : mg (Str.ofString name) = some (.ref f)
structure AtM (K : PySem.W.Frag) (C : Addr) (name qual : String) (st : Stmt) (ps : List Str) (f : Addr) (fd : FuncData) : Prop where
  F : Fun K (Str.ofString name) (Str.ofString qual) st f fd
  b : Binds K fd ps []
  me : Meth K C (Str.ofString name) f
structure NoR (K : PySem.W.Frag) (mg : Str → Option Value) (C : Addr) : Prop where
  g : mg "NoRatio" = some (.ref C)
  x : PySem.W.excIn K C [.type "ZeroDivisionError", .type "ArithmeticError", .type "Exception", .type "BaseException", .type "object"] "ZeroDivisionError.__new__" = true
  k : PySem.W.keepIn K (.ref C) = true
  b : PySem.W.subIn K (.ref C) (.type "BaseException") = some true
  t : PySem.W.typeIn K (.ref C) = some (.type "type")
  te : PySem.W.exmOne K (.ref C) (.ref C) = some true
structure Env (K : PySem.W.Frag) (mg : Str → Option Value) where
  f_greatest_common : Addr
  d_greatest_common : FuncData
  f_ratio : Addr
  d_ratio : FuncData
  f_plus : Addr
  d_plus : FuncData
  f_minus : Addr
  d_minus : FuncData
  f_times : Addr
  d_times : FuncData
  f_divided : Addr
  d_divided : FuncData
  f_order : Addr
  d_order : FuncData
  f_size : Addr
  d_size : FuncData
  f_lesser : Addr
  d_lesser : FuncData
  f_greater : Addr
  d_greater : FuncData
  f_stretch : Addr
  d_stretch : FuncData
  f_between : Addr
  d_between : FuncData
  f_gap : Addr
  d_gap : FuncData
  f_pieces_of : Addr
  d_pieces_of : FuncData
  f_turns : Addr
  d_turns : FuncData
  f_apart : Addr
  d_apart : FuncData
  f_narrowed : Addr
  d_narrowed : FuncData
  f_off_side : Addr
  d_off_side : FuncData
  f_span_near : Addr
  d_span_near : FuncData
  f_covered_to : Addr
  d_covered_to : FuncData
  f_bare_share : Addr
  d_bare_share : FuncData
  f_bare : Addr
  d_bare : FuncData
  f_law_bag : Addr
  d_law_bag : FuncData
  f_law_draw : Addr
  d_law_draw : FuncData
  f_law_whole : Addr
  d_law_whole : FuncData
  f_law_any : Addr
  d_law_any : FuncData
  f_law_rat : Addr
  d_law_rat : FuncData
  f_law_sum : Addr
  d_law_sum : FuncData
  f_law_dif : Addr
  d_law_dif : FuncData
  f_law_prod : Addr
  d_law_prod : FuncData
  f_law_quo : Addr
  d_law_quo : FuncData
  f_law_comp : Addr
  d_law_comp : FuncData
  f_law_is_ratio : Addr
  d_law_is_ratio : FuncData
  f_law_is_spot : Addr
  d_law_is_spot : FuncData
  f_law_ratio : Addr
  d_law_ratio : FuncData
  f_law_spot : Addr
  d_law_spot : FuncData
  f_law_on : Addr
  d_law_on : FuncData
  f_law_corners : Addr
  d_law_corners : FuncData
  f_law_span : Addr
  d_law_span : FuncData
  f_law_clip : Addr
  d_law_clip : FuncData
  f_law_reaches : Addr
  d_law_reaches : FuncData
  f_law_bits : Addr
  d_law_bits : FuncData
  f_law_spots_of : Addr
  d_law_spots_of : FuncData
  f_law : Addr
  d_law : FuncData
  C_NoRatio : Addr
  a_NOUGHT : Addr
  a_ONE : Addr
  A_greatest_common : At K mg "greatest_common" s_greatest_common p_greatest_common f_greatest_common d_greatest_common
  A_ratio : At K mg "ratio" s_ratio p_ratio f_ratio d_ratio
  A_plus : At K mg "plus" s_plus p_plus f_plus d_plus
  A_minus : At K mg "minus" s_minus p_minus f_minus d_minus
  A_times : At K mg "times" s_times p_times f_times d_times
  A_divided : At K mg "divided" s_divided p_divided f_divided d_divided
  A_order : At K mg "order" s_order p_order f_order d_order
  A_size : At K mg "size" s_size p_size f_size d_size
  A_lesser : At K mg "lesser" s_lesser p_lesser f_lesser d_lesser
  A_greater : At K mg "greater" s_greater p_greater f_greater d_greater
  A_stretch : At K mg "stretch" s_stretch p_stretch f_stretch d_stretch
  A_between : At K mg "between" s_between p_between f_between d_between
  A_gap : At K mg "gap" s_gap p_gap f_gap d_gap
  A_pieces_of : At K mg "pieces_of" s_pieces_of p_pieces_of f_pieces_of d_pieces_of
  A_turns : At K mg "turns" s_turns p_turns f_turns d_turns
  A_apart : At K mg "apart" s_apart p_apart f_apart d_apart
  A_narrowed : At K mg "narrowed" s_narrowed p_narrowed f_narrowed d_narrowed
  A_off_side : At K mg "off_side" s_off_side p_off_side f_off_side d_off_side
  A_span_near : At K mg "span_near" s_span_near p_span_near f_span_near d_span_near
  A_covered_to : At K mg "covered_to" s_covered_to p_covered_to f_covered_to d_covered_to
  A_bare_share : At K mg "bare_share" s_bare_share p_bare_share f_bare_share d_bare_share
  A_bare : At K mg "bare" s_bare p_bare f_bare d_bare
  A_law_bag : At K mg "_law_bag" s_law_bag p_law_bag f_law_bag d_law_bag
  A_law_draw : At K mg "_law_draw" s_law_draw p_law_draw f_law_draw d_law_draw
  A_law_whole : At K mg "_law_whole" s_law_whole p_law_whole f_law_whole d_law_whole
  A_law_any : At K mg "_law_any" s_law_any p_law_any f_law_any d_law_any
  A_law_rat : At K mg "_law_rat" s_law_rat p_law_rat f_law_rat d_law_rat
  A_law_sum : At K mg "_law_sum" s_law_sum p_law_sum f_law_sum d_law_sum
  A_law_dif : At K mg "_law_dif" s_law_dif p_law_dif f_law_dif d_law_dif
  A_law_prod : At K mg "_law_prod" s_law_prod p_law_prod f_law_prod d_law_prod
  A_law_quo : At K mg "_law_quo" s_law_quo p_law_quo f_law_quo d_law_quo
  A_law_comp : At K mg "_law_comp" s_law_comp p_law_comp f_law_comp d_law_comp
  A_law_is_ratio : At K mg "_law_is_ratio" s_law_is_ratio p_law_is_ratio f_law_is_ratio d_law_is_ratio
  A_law_is_spot : At K mg "_law_is_spot" s_law_is_spot p_law_is_spot f_law_is_spot d_law_is_spot
  A_law_ratio : At K mg "_law_ratio" s_law_ratio p_law_ratio f_law_ratio d_law_ratio
  A_law_spot : At K mg "_law_spot" s_law_spot p_law_spot f_law_spot d_law_spot
  A_law_on : At K mg "_law_on" s_law_on p_law_on f_law_on d_law_on
  A_law_corners : At K mg "_law_corners" s_law_corners p_law_corners f_law_corners d_law_corners
  A_law_span : At K mg "_law_span" s_law_span p_law_span f_law_span d_law_span
  A_law_clip : At K mg "_law_clip" s_law_clip p_law_clip f_law_clip d_law_clip
  A_law_reaches : At K mg "_law_reaches" s_law_reaches p_law_reaches f_law_reaches d_law_reaches
  A_law_bits : At K mg "_law_bits" s_law_bits p_law_bits f_law_bits d_law_bits
  A_law_spots_of : At K mg "_law_spots_of" s_law_spots_of p_law_spots_of f_law_spots_of d_law_spots_of
  A_law : At K mg "law" s_law p_law f_law d_law
  B : Bt mg
  X_NoRatio : NoR K mg C_NoRatio
  c_NOUGHT : mg "NOUGHT" = some (.ref a_NOUGHT)
  q_NOUGHT : ∀ H, SqT K H a_NOUGHT [.int 0, .int 1]
  c_ONE : mg "ONE" = some (.ref a_ONE)
  q_ONE : ∀ H, SqT K H a_ONE [.int 1, .int 1]
section
variable {P : Program} {w : World} {K : PySem.W.Frag} {mg : Str → Option Value} {base : Heap}

/-! ### the greatest common number -/
def spGcd : Sp := fun vs H Q _ => ∃ a b : Int, vs = [.int a, .int b] ∧ Q (.int ((Int.gcd a b : Nat) : Int)) H
theorem ok_greatest_common (ev : Env K mg) : FnOk P w K mg base CX0 1 ev.f_greatest_common ev.d_greatest_common p_greatest_common spGcd := by
  refine ev.A_greatest_common.F.ok sc_greatest_common (fun vs H Q E h => ?_) (fun cdv A outer s H vs Q E hr h => ?_)
  · obtain ⟨a, b, rfl, _⟩ := h
    rfl
  obtain ⟨a, b, rfl, q⟩ := h
  refine ⟨_, (pss_cons (ps_while PassesOwn.never (pt_cmpR op_ne (pv 1) pe_int (nomark _))
    (pss_one (ps_par (i := 0) (j := 1) (by rfl) sc_greatest_common.nd rfl rfl (by decide) rfl rfl (pa_cons (pv 1) (pa_cons (pe_op op_modN (pv 0) (pv 1)) pa_nil)) (by rfl))))
    (pss_one (ps_ret (pe_callB call_abs (by rfl) ev.B.abs_ (by decide +kernel) (pa_cons (pv 0) pa_nil))))), ?_⟩
  refine ⟨fun m σ H' => H' = H ∧ ∃ x y : Int, σ = [some (.int x), some (.int y)] ∧ m = y.natAbs ∧ Int.gcd x y = Int.gcd a b, ⟨_, rfl, a, b, rfl, rfl, rfl⟩, ?_⟩
  rintro m σ H' ⟨rfl, x, y, rfl, rfl, e⟩
  refine ⟨_, rfl, rfl, _, rfl, ?_⟩
  refine ite2 (fun c => ?_) (fun c => ?_)
  · have hy : y ≠ 0 := ne_true c
    refine ⟨fun σ' H2 => H2 = H' ∧ σ' = [some (.int y), some (.int (x.fmod y))], ?_, ?_⟩
    · rintro σ' H2 ⟨rfl, rfl⟩
      exact ⟨_, fmod_abs_lt x hy, rfl, y, _, rfl, rfl, (gcd_fmod x y).trans e⟩
    · exact ⟨_, rfl, _, rfl, _, rfl, _, _, rfl, rfl, hy, _, _, rfl, rfl, rfl⟩
  · have hy : y = 0 := ne_false c
    subst hy
    refine ⟨_, rfl, _, rfl, ?_⟩
    rw [Int.gcd_zero_right] at e
    rw [abs_if, e]
    exact q

/-! ### ratio -/
def spRatio (C : Addr) : Sp := fun vs H Q E => ∃ o u : Int, vs = [.int o, .int u] ∧ u.natAbs < 2 ^ 9000 ∧ (u = 0 → E (.ref C) none H) ∧ (u ≠ 0 → ∀ p, H p = none → Q (.ref p) (upd H p (.tup [.int (rN o u), .int (rD o u)])))
theorem ok_ratio (ev : Env K mg) : FnOk P w K mg base (L2.CX P w) 2 ev.f_ratio ev.d_ratio p_ratio (spRatio ev.C_NoRatio) := by
  refine ev.A_ratio.F.okX sc_ratio (fun vs H Q E h => ?_) (fun cdv A outer s H vs Q E hr h => ?_)
  · obtain ⟨o, u, rfl, _⟩ := h
    rfl
  obtain ⟨o, u, rfl, hb, q0, q1⟩ := h
  refine ⟨_, (pss_cons (ps_if (pt_cmpR op_eq (pv 1) pe_int (nomark _))
    (pss_one (ps_raise rfl (takes_of rfl rfl rfl rfl) (pmk_own PySem.F.excBase_ZeroDivisionError ev.X_NoRatio.x ev.X_NoRatio.g ev.X_NoRatio.k (raises_own ev.X_NoRatio.b ev.X_NoRatio.t) (by exact rfl)))) pss_nil) (PSs.nox (pss_cons (ps_set (i := 2) sc_ratio.nd rfl (Or.inl rfl) (pe_call (ok_greatest_common ev) (hr.mono (by decide)) (by rfl) ev.A_greatest_common.m ev.A_greatest_common.F.kp ev.A_greatest_common.b .nil pass0 (pa_cons (pv 0) (pa_cons (pv 1) pa_nil))))
    (pss_cons (ps_if (pt_cmpR op_lt (pv 1) pe_int (nomark _))
    (pss_one (ps_set (i := 2) sc_ratio.nd rfl (Or.inl rfl) (pe_un un_neg (pv 2)))) pss_nil)
    (pss_one (ps_ret (pe_tup (pa_cons (pe_op op_fdivZ (pv 0) (pv 2)) (pa_cons (pe_op op_fdivZ (pv 1) (pv 2)) pa_nil))))))))), ?_⟩
  refine ⟨_, rfl, rfl, _, rfl, ?_⟩
  refine ite2 (fun c => ?_) (fun c => ?_)
  · exact q0 (V.int.inj (of_decide_eq_true c))
  have hu0 : u ≠ 0 := fun z => c (decide_eq_true (congrArg V.int z))
  refine next_u ?_
  refine seq_asg ⟨_, rfl, _, rfl, o, u, rfl, ?_⟩
  refine seq_by (fun σ H' => H' = H ∧ σ = [some (.int o), some (.int u), some (.int (cOf o u))]) ?_ (fun k => ?_)
  rotate_left
  · refine ⟨_, rfl, _, _, rfl, rfl, _, rfl, ?_⟩
    refine ite2 (fun z => ?_) (fun z => ?_)
    · have z' : u < 0 := of_decide_eq_true z
      refine ⟨_, rfl, _, rfl, k _ _ ⟨rfl, ?_⟩⟩
      unfold cOf
      rw [if_pos z']
      all_goals rfl
    · have z' : ¬ u < 0 := fun e => z (decide_eq_true e)
      refine k _ _ ⟨rfl, ?_⟩
      unfold cOf
      rw [if_neg z']
      all_goals rfl
  rintro σ H' ⟨rfl, rfl⟩
  exact ⟨_, rfl, _, rfl, _, _, rfl, rfl, cOf_ok hu0 hb _, _, rfl, _, rfl, _, _, rfl, rfl, cOf_ok hu0 hb _, (by show 2 ≤ sizeLine; decide), fun p hp => q1 hu0 p hp⟩

/-! ### ratios, mirrored -/
def ratioP (u : Int) : Prop := u ≠ 0 ∧ u.natAbs < 2 ^ 9000
instance : DecidablePred ratioP := fun u => inferInstanceAs (Decidable (_ ∧ _))
def ratio? (o u : Int) : Option Rat := if ratioP u then some (Rat.divInt o u) else none
theorem ev_ratio {S T : AS} {σ : St} {H : Hp} {C : Addr} {E : St → XK} {ta : TA} {r : Option (Int × Int × Unit)} (h : EvA S T ta σ H (K := K) (aCons tInt (aCons tInt aNil)) r) :
    Ev S T (tCallS (spRatio C) E ta) σ H (of (K := K) tRat S) (bd r fun a => ratio? a.1 a.2.1) := by
  intro z e H1 f1 d Q q
  obtain ⟨x, ex, e⟩ := bd_some e
  unfold ratio? at e
  split at e
  · rename_i hc
    cases e
    refine h x ex H1 f1 d _ fun vs H2 s2 hv => ?_
    obtain ⟨v, _, rfl, h1, w, _, rfl, h2, rfl⟩ := hv
    cases h1
    cases h2
    refine ⟨x.1, x.2.1, rfl, hc.2, fun z => absurd z hc.1, fun _ p hp => q _ _ (s2.trans (same_new hp)) ⟨p, rfl, .inl ⟨.inl ?_, (d.same s2).not_mem hp⟩⟩⟩
    rw [upd_same, (rat_rND hc.1).1, (rat_rND hc.1).2]
  · cases e

end
end G

namespace G
open PySem L2 M
section
variable {P : Program} {w : World} {K : PySem.W.Frag} {mg : Str → Option Value} {base : Heap}

def m_plus (d_one : Rat) (d_other : Rat) : Option Rat :=
  (bd (bd (bd (bd (bd (some d_one) fun x => some x.num) fun x => bd (bd (some d_other) fun x => some (x.den : Int)) fun y => mul? x y) fun x => bd (bd (bd (some d_other) fun x => some x.num) fun x => bd (bd (some d_one) fun x => some (x.den : Int)) fun y => mul? x y) fun y => some (x + y)) fun x => bd (bd (bd (bd (some d_one) fun x => some (x.den : Int)) fun x => bd (bd (some d_other) fun x => some (x.den : Int)) fun y => mul? x y) fun x => bd (some ()) fun y => some (x, y)) fun y => some (x, y)) fun a => ratio? a.1 a.2.1)
abbrev sp_plus (K : PySem.W.Frag) : Sp := spF (K := K) (aCons tRat (aCons tRat aNil)) (fun S => of (K := K) tRat S) (fun a => m_plus a.1 a.2.1)
theorem ok_plus (ev : Env K mg) : FnOk P w K mg base CX0 3 ev.f_plus ev.d_plus p_plus (sp_plus K) := by
  refine ev.A_plus.F.ok sc_plus (fun vs H Q E h => ?_) (fun cdv A outer s H0 vs Q E hr h => ?_)
  · obtain ⟨S, ⟨d_one, d_other, _⟩, y, _, ⟨v_one, _, rfl, h_one, v_other, _, rfl, h_other, rfl⟩, _⟩ := h
    rfl
  obtain ⟨S, ⟨d_one, d_other, _⟩, y, dm, ⟨v_one, _, rfl, h_one, v_other, _, rfl, h_other, rfl⟩, hm, q⟩ := h
  have ts : Sub [] S := fun a m => by simp at m
  have fr0 := Fr.refl (T := []) H0
  have sub0 : Sub S S := fun a m => m
  refine ⟨_, (pss_one (ps_ret (pe_callS (ok_ratio ev) (hr.mono (by decide)) (by rfl) ev.A_ratio.m ev.A_ratio.F.kp ev.A_ratio.b (fun σ => passAt takes0 σ) (pa_cons (pe_op op_add (pe_op op_mulW (pe_ix ix_tup (pv 0) pe_int (fun _ _ => rfl)) (pe_ix ix_tup (pv 1) pe_int (fun _ _ => rfl))) (pe_op op_mulW (pe_ix ix_tup (pv 1) pe_int (fun _ _ => rfl)) (pe_ix ix_tup (pv 0) pe_int (fun _ _ => rfl)))) (pa_cons (pe_op op_mulW (pe_ix ix_tup (pv 0) pe_int (fun _ _ => rfl)) (pe_ix ix_tup (pv 1) pe_int (fun _ _ => rfl))) pa_nil))))), ?_⟩
  dsimp only [m_plus] at hm
  have er := hm
  exact q_ret (T := []) dm (ev_ratio (ea_cons (ev_op (od_add (K := K)) (ev_op (od_mul (K := K)) (ev_ixR0 (ev_var ts h_one rfl)) (ev_ixR1 (ev_var ts h_other rfl))) (ev_op (od_mul (K := K)) (ev_ixR0 (ev_var ts h_other rfl)) (ev_ixR1 (ev_var ts h_one rfl)))) (ea_cons (ev_op (od_mul (K := K)) (ev_ixR1 (ev_var ts h_one rfl)) (ev_ixR1 (ev_var ts h_other rfl))) ea_nil))) er (fun v H1 s1 hv => q v H1 (fr0.trans (Fr.same s1)).toSame ((tRat : Ty K Rat).sub (S := S) (H := H1) sub0 hv))
def m_minus (d_one : Rat) (d_other : Rat) : Option Rat :=
  (bd (bd (bd (bd (bd (some d_one) fun x => some x.num) fun x => bd (bd (some d_other) fun x => some (x.den : Int)) fun y => mul? x y) fun x => bd (bd (bd (some d_other) fun x => some x.num) fun x => bd (bd (some d_one) fun x => some (x.den : Int)) fun y => mul? x y) fun y => some (x - y)) fun x => bd (bd (bd (bd (some d_one) fun x => some (x.den : Int)) fun x => bd (bd (some d_other) fun x => some (x.den : Int)) fun y => mul? x y) fun x => bd (some ()) fun y => some (x, y)) fun y => some (x, y)) fun a => ratio? a.1 a.2.1)
abbrev sp_minus (K : PySem.W.Frag) : Sp := spF (K := K) (aCons tRat (aCons tRat aNil)) (fun S => of (K := K) tRat S) (fun a => m_minus a.1 a.2.1)
theorem ok_minus (ev : Env K mg) : FnOk P w K mg base CX0 3 ev.f_minus ev.d_minus p_minus (sp_minus K) := by
  refine ev.A_minus.F.ok sc_minus (fun vs H Q E h => ?_) (fun cdv A outer s H0 vs Q E hr h => ?_)
  · obtain ⟨S, ⟨d_one, d_other, _⟩, y, _, ⟨v_one, _, rfl, h_one, v_other, _, rfl, h_other, rfl⟩, _⟩ := h
    rfl
  obtain ⟨S, ⟨d_one, d_other, _⟩, y, dm, ⟨v_one, _, rfl, h_one, v_other, _, rfl, h_other, rfl⟩, hm, q⟩ := h
  have ts : Sub [] S := fun a m => by simp at m
  have fr0 := Fr.refl (T := []) H0
  have sub0 : Sub S S := fun a m => m
  refine ⟨_, (pss_one (ps_ret (pe_callS (ok_ratio ev) (hr.mono (by decide)) (by rfl) ev.A_ratio.m ev.A_ratio.F.kp ev.A_ratio.b (fun σ => passAt takes0 σ) (pa_cons (pe_op op_sub (pe_op op_mulW (pe_ix ix_tup (pv 0) pe_int (fun _ _ => rfl)) (pe_ix ix_tup (pv 1) pe_int (fun _ _ => rfl))) (pe_op op_mulW (pe_ix ix_tup (pv 1) pe_int (fun _ _ => rfl)) (pe_ix ix_tup (pv 0) pe_int (fun _ _ => rfl)))) (pa_cons (pe_op op_mulW (pe_ix ix_tup (pv 0) pe_int (fun _ _ => rfl)) (pe_ix ix_tup (pv 1) pe_int (fun _ _ => rfl))) pa_nil))))), ?_⟩
  dsimp only [m_minus] at hm
  have er := hm
  exact q_ret (T := []) dm (ev_ratio (ea_cons (ev_op (od_sub (K := K)) (ev_op (od_mul (K := K)) (ev_ixR0 (ev_var ts h_one rfl)) (ev_ixR1 (ev_var ts h_other rfl))) (ev_op (od_mul (K := K)) (ev_ixR0 (ev_var ts h_other rfl)) (ev_ixR1 (ev_var ts h_one rfl)))) (ea_cons (ev_op (od_mul (K := K)) (ev_ixR1 (ev_var ts h_one rfl)) (ev_ixR1 (ev_var ts h_other rfl))) ea_nil))) er (fun v H1 s1 hv => q v H1 (fr0.trans (Fr.same s1)).toSame ((tRat : Ty K Rat).sub (S := S) (H := H1) sub0 hv))
def m_times (d_one : Rat) (d_other : Rat) : Option Rat :=
  (bd (bd (bd (bd (some d_one) fun x => some x.num) fun x => bd (bd (some d_other) fun x => some x.num) fun y => mul? x y) fun x => bd (bd (bd (bd (some d_one) fun x => some (x.den : Int)) fun x => bd (bd (some d_other) fun x => some (x.den : Int)) fun y => mul? x y) fun x => bd (some ()) fun y => some (x, y)) fun y => some (x, y)) fun a => ratio? a.1 a.2.1)
abbrev sp_times (K : PySem.W.Frag) : Sp := spF (K := K) (aCons tRat (aCons tRat aNil)) (fun S => of (K := K) tRat S) (fun a => m_times a.1 a.2.1)
theorem ok_times (ev : Env K mg) : FnOk P w K mg base CX0 3 ev.f_times ev.d_times p_times (sp_times K) := by
  refine ev.A_times.F.ok sc_times (fun vs H Q E h => ?_) (fun cdv A outer s H0 vs Q E hr h => ?_)
  · obtain ⟨S, ⟨d_one, d_other, _⟩, y, _, ⟨v_one, _, rfl, h_one, v_other, _, rfl, h_other, rfl⟩, _⟩ := h
    rfl
  obtain ⟨S, ⟨d_one, d_other, _⟩, y, dm, ⟨v_one, _, rfl, h_one, v_other, _, rfl, h_other, rfl⟩, hm, q⟩ := h
  have ts : Sub [] S := fun a m => by simp at m
  have fr0 := Fr.refl (T := []) H0
  have sub0 : Sub S S := fun a m => m
  refine ⟨_, (pss_one (ps_ret (pe_callS (ok_ratio ev) (hr.mono (by decide)) (by rfl) ev.A_ratio.m ev.A_ratio.F.kp ev.A_ratio.b (fun σ => passAt takes0 σ) (pa_cons (pe_op op_mulW (pe_ix ix_tup (pv 0) pe_int (fun _ _ => rfl)) (pe_ix ix_tup (pv 1) pe_int (fun _ _ => rfl))) (pa_cons (pe_op op_mulW (pe_ix ix_tup (pv 0) pe_int (fun _ _ => rfl)) (pe_ix ix_tup (pv 1) pe_int (fun _ _ => rfl))) pa_nil))))), ?_⟩
  dsimp only [m_times] at hm
  have er := hm
  exact q_ret (T := []) dm (ev_ratio (ea_cons (ev_op (od_mul (K := K)) (ev_ixR0 (ev_var ts h_one rfl)) (ev_ixR0 (ev_var ts h_other rfl))) (ea_cons (ev_op (od_mul (K := K)) (ev_ixR1 (ev_var ts h_one rfl)) (ev_ixR1 (ev_var ts h_other rfl))) ea_nil))) er (fun v H1 s1 hv => q v H1 (fr0.trans (Fr.same s1)).toSame ((tRat : Ty K Rat).sub (S := S) (H := H1) sub0 hv))
def m_divided (d_one : Rat) (d_other : Rat) : Option Rat :=
  (bd (bd (bd (bd (some d_one) fun x => some x.num) fun x => bd (bd (some d_other) fun x => some (x.den : Int)) fun y => mul? x y) fun x => bd (bd (bd (bd (some d_one) fun x => some (x.den : Int)) fun x => bd (bd (some d_other) fun x => some x.num) fun y => mul? x y) fun x => bd (some ()) fun y => some (x, y)) fun y => some (x, y)) fun a => ratio? a.1 a.2.1)
abbrev sp_divided (K : PySem.W.Frag) : Sp := spF (K := K) (aCons tRat (aCons tRat aNil)) (fun S => of (K := K) tRat S) (fun a => m_divided a.1 a.2.1)
theorem ok_divided (ev : Env K mg) : FnOk P w K mg base CX0 3 ev.f_divided ev.d_divided p_divided (sp_divided K) := by
  refine ev.A_divided.F.ok sc_divided (fun vs H Q E h => ?_) (fun cdv A outer s H0 vs Q E hr h => ?_)
  · obtain ⟨S, ⟨d_one, d_other, _⟩, y, _, ⟨v_one, _, rfl, h_one, v_other, _, rfl, h_other, rfl⟩, _⟩ := h
    rfl
  obtain ⟨S, ⟨d_one, d_other, _⟩, y, dm, ⟨v_one, _, rfl, h_one, v_other, _, rfl, h_other, rfl⟩, hm, q⟩ := h
  have ts : Sub [] S := fun a m => by simp at m
  have fr0 := Fr.refl (T := []) H0
  have sub0 : Sub S S := fun a m => m
  refine ⟨_, (pss_one (ps_ret (pe_callS (ok_ratio ev) (hr.mono (by decide)) (by rfl) ev.A_ratio.m ev.A_ratio.F.kp ev.A_ratio.b (fun σ => passAt takes0 σ) (pa_cons (pe_op op_mulW (pe_ix ix_tup (pv 0) pe_int (fun _ _ => rfl)) (pe_ix ix_tup (pv 1) pe_int (fun _ _ => rfl))) (pa_cons (pe_op op_mulW (pe_ix ix_tup (pv 0) pe_int (fun _ _ => rfl)) (pe_ix ix_tup (pv 1) pe_int (fun _ _ => rfl))) pa_nil))))), ?_⟩
  dsimp only [m_divided] at hm
  have er := hm
  exact q_ret (T := []) dm (ev_ratio (ea_cons (ev_op (od_mul (K := K)) (ev_ixR0 (ev_var ts h_one rfl)) (ev_ixR1 (ev_var ts h_other rfl))) (ea_cons (ev_op (od_mul (K := K)) (ev_ixR1 (ev_var ts h_one rfl)) (ev_ixR0 (ev_var ts h_other rfl))) ea_nil))) er (fun v H1 s1 hv => q v H1 (fr0.trans (Fr.same s1)).toSame ((tRat : Ty K Rat).sub (S := S) (H := H1) sub0 hv))
def m_order (d_one : Rat) (d_other : Rat) : Option Int :=
  (bd (bd (bd (bd (some d_one) fun x => some x.num) fun x => bd (bd (some d_other) fun x => some (x.den : Int)) fun y => mul? x y) fun x => bd (bd (bd (some d_other) fun x => some x.num) fun x => bd (bd (some d_one) fun x => some (x.den : Int)) fun y => mul? x y) fun y => some (x - y)) fun gap_1 => (bd (bd (some gap_1) fun x => bd (some (0 : Int)) fun y => some (decide (x < y))) fun c2 => if c2 then (bd (some (1 : Int)) fun x => some (-x)) else (bd (bd (some gap_1) fun x => bd (some (0 : Int)) fun y => some (decide (y < x))) fun c3 => if c3 then (some (1 : Int)) else (some (0 : Int)))))
abbrev sp_order (K : PySem.W.Frag) : Sp := spF (K := K) (aCons tRat (aCons tRat aNil)) (fun S => of (K := K) tInt S) (fun a => m_order a.1 a.2.1)
theorem ok_order (ev : Env K mg) : FnOk P w K mg base CX0 1 ev.f_order ev.d_order p_order (sp_order K) := by
  refine ev.A_order.F.ok sc_order (fun vs H Q E h => ?_) (fun cdv A outer s H0 vs Q E hr h => ?_)
  · obtain ⟨S, ⟨d_one, d_other, _⟩, y, _, ⟨v_one, _, rfl, h_one, v_other, _, rfl, h_other, rfl⟩, _⟩ := h
    rfl
  obtain ⟨S, ⟨d_one, d_other, _⟩, y, dm, ⟨v_one, _, rfl, h_one, v_other, _, rfl, h_other, rfl⟩, hm, q⟩ := h
  have ts : Sub [] S := fun a m => by simp at m
  have fr0 := Fr.refl (T := []) H0
  have sub0 : Sub S S := fun a m => m
  refine ⟨_, (pss_cons (ps_set (i := 2) sc_order.nd rfl (Or.inl rfl) (pe_op op_sub (pe_op op_mulW (pe_ix ix_tup (pv 0) pe_int (fun _ _ => rfl)) (pe_ix ix_tup (pv 1) pe_int (fun _ _ => rfl))) (pe_op op_mulW (pe_ix ix_tup (pv 1) pe_int (fun _ _ => rfl)) (pe_ix ix_tup (pv 0) pe_int (fun _ _ => rfl)))))
    (pss_cons (ps_if (pt_cmpR op_lt (pv 2) pe_int (nomark _))
    (pss_one (ps_ret (pe_un un_neg pe_int))) pss_nil)
    (pss_cons (ps_if (pt_cmpR op_gt (pv 2) pe_int (nomark _))
    (pss_one (ps_ret pe_int)) pss_nil)
    (pss_one (ps_ret pe_int))))), ?_⟩
  dsimp only [m_order] at hm
  obtain ⟨gap_1, e1, hm⟩ := bd_some hm
  refine q_asg (T := []) dm (ev_op (od_sub (K := K)) (ev_op (od_mul (K := K)) (ev_ixR0 (ev_var ts h_one rfl)) (ev_ixR1 (ev_var ts h_other rfl))) (ev_op (od_mul (K := K)) (ev_ixR0 (ev_var ts h_other rfl)) (ev_ixR1 (ev_var ts h_one rfl)))) e1 (fun v_gap H1 s1 h_gap => ?_)
  have fr0 := fr0.trans (Fr.same s1)
  have dm := dm.same s1
  have h_one := (tRat : Ty K Rat).mono (S := S) (Fr.same s1) h_one
  have h_other := (tRat : Ty K Rat).mono (S := S) (Fr.same s1) h_other
  have h_gap : (tInt : Ty K Int).rp S H1 v_gap gap_1 := h_gap
  obtain ⟨c2, e2, hm⟩ := bd_some hm
  refine q_if (T := []) dm (eb_test (K := K) (ev_op (od_lt (K := K)) (ev_var ts h_gap rfl) (ev_int (K := K)))) e2 (fun hc H2 s2 => ?_) (fun hc H2 s2 => ?_)
  · skip
    subst hc
    have hm := if_t hm
    have fr0 := fr0.trans (Fr.same s2)
    have dm := dm.same s2
    have h_one := (tRat : Ty K Rat).mono (S := S) (Fr.same s2) h_one
    have h_other := (tRat : Ty K Rat).mono (S := S) (Fr.same s2) h_other
    have h_gap := (tInt : Ty K Int).mono (S := S) (Fr.same s2) h_gap
    have er := hm
    exact q_ret (T := []) dm (ev_neg (ev_int (K := K))) er (fun v H4 s4 hv => q v H4 (fr0.trans (Fr.same s4)).toSame ((tInt : Ty K Int).sub (S := S) (H := H4) sub0 hv))
  subst hc
  have hm := if_f hm
  have fr0 := fr0.trans (Fr.same s2)
  have dm := dm.same s2
  have h_one := (tRat : Ty K Rat).mono (S := S) (Fr.same s2) h_one
  have h_other := (tRat : Ty K Rat).mono (S := S) (Fr.same s2) h_other
  have h_gap := (tInt : Ty K Int).mono (S := S) (Fr.same s2) h_gap
  refine q_next ?_
  obtain ⟨c3, e3, hm⟩ := bd_some hm
  refine q_if (T := []) dm (eb_test (K := K) (ev_op (od_gt (K := K)) (ev_var ts h_gap rfl) (ev_int (K := K)))) e3 (fun hc H3 s3 => ?_) (fun hc H3 s3 => ?_)
  · skip
    subst hc
    have hm := if_t hm
    have fr0 := fr0.trans (Fr.same s3)
    have dm := dm.same s3
    have h_one := (tRat : Ty K Rat).mono (S := S) (Fr.same s3) h_one
    have h_other := (tRat : Ty K Rat).mono (S := S) (Fr.same s3) h_other
    have h_gap := (tInt : Ty K Int).mono (S := S) (Fr.same s3) h_gap
    have er := hm
    exact q_ret (T := []) dm (ev_int (K := K)) er (fun v H5 s5 hv => q v H5 (fr0.trans (Fr.same s5)).toSame ((tInt : Ty K Int).sub (S := S) (H := H5) sub0 hv))
  subst hc
  have hm := if_f hm
  have fr0 := fr0.trans (Fr.same s3)
  have dm := dm.same s3
  have h_one := (tRat : Ty K Rat).mono (S := S) (Fr.same s3) h_one
  have h_other := (tRat : Ty K Rat).mono (S := S) (Fr.same s3) h_other
  have h_gap := (tInt : Ty K Int).mono (S := S) (Fr.same s3) h_gap
  refine q_next ?_
  have er := hm
  exact q_ret (T := []) dm (ev_int (K := K)) er (fun v H6 s6 hv => q v H6 (fr0.trans (Fr.same s6)).toSame ((tInt : Ty K Int).sub (S := S) (H := H6) sub0 hv))
def m_size (d_one : Rat) : Option Rat :=
  (bd (bd (bd (bd (some d_one) fun x => some x.num) fun x => some ((x.natAbs : Nat) : Int)) fun x => bd (bd (some d_one) fun x => some (x.den : Int)) fun y => some (x, y)) p2r)
abbrev sp_size (K : PySem.W.Frag) : Sp := spF (K := K) (aCons tRat aNil) (fun S => of (K := K) tRat S) (fun a => m_size a.1)
theorem ok_size (ev : Env K mg) : FnOk P w K mg base CX0 1 ev.f_size ev.d_size p_size (sp_size K) := by
  refine ev.A_size.F.ok sc_size (fun vs H Q E h => ?_) (fun cdv A outer s H0 vs Q E hr h => ?_)
  · obtain ⟨S, ⟨d_one, _⟩, y, _, ⟨v_one, _, rfl, h_one, rfl⟩, _⟩ := h
    rfl
  obtain ⟨S, ⟨d_one, _⟩, y, dm, ⟨v_one, _, rfl, h_one, rfl⟩, hm, q⟩ := h
  have ts : Sub [] S := fun a m => by simp at m
  have fr0 := Fr.refl (T := []) H0
  have sub0 : Sub S S := fun a m => m
  refine ⟨_, (pss_one (ps_ret (pe_tup (pa_cons (pe_callB call_abs (by rfl) ev.B.abs_ (by decide +kernel) (pa_cons (pe_ix ix_tup (pv 0) pe_int (fun _ _ => rfl)) pa_nil)) (pa_cons (pe_ix ix_tup (pv 0) pe_int (fun _ _ => rfl)) pa_nil))))), ?_⟩
  dsimp only [m_size] at hm
  have er := hm
  exact q_ret (T := []) dm (ev_p2r (ev_tup2 (ev_abs (ev_ixR0 (ev_var ts h_one rfl))) (ev_ixR1 (ev_var ts h_one rfl)))) er (fun v H1 s1 hv => q v H1 (fr0.trans (Fr.same s1)).toSame ((tRat : Ty K Rat).sub (S := S) (H := H1) sub0 hv))
def m_lesser (d_one : Rat) (d_other : Rat) : Option Rat :=
  (bd (bd (bd (bd (some d_one) fun x => bd (bd (some d_other) fun x => bd (some ()) fun y => some (x, y)) fun y => some (x, y)) fun a => m_order a.1 a.2.1) fun x => bd (some (0 : Int)) fun y => some (decide (x < y))) fun x => if x then (some d_one) else (some d_other))
abbrev sp_lesser (K : PySem.W.Frag) : Sp := spF (K := K) (aCons tRat (aCons tRat aNil)) (fun S => of (K := K) tRat S) (fun a => m_lesser a.1 a.2.1)
theorem ok_lesser (ev : Env K mg) : FnOk P w K mg base CX0 2 ev.f_lesser ev.d_lesser p_lesser (sp_lesser K) := by
  refine ev.A_lesser.F.ok sc_lesser (fun vs H Q E h => ?_) (fun cdv A outer s H0 vs Q E hr h => ?_)
  · obtain ⟨S, ⟨d_one, d_other, _⟩, y, _, ⟨v_one, _, rfl, h_one, v_other, _, rfl, h_other, rfl⟩, _⟩ := h
    rfl
  obtain ⟨S, ⟨d_one, d_other, _⟩, y, dm, ⟨v_one, _, rfl, h_one, v_other, _, rfl, h_other, rfl⟩, hm, q⟩ := h
  have ts : Sub [] S := fun a m => by simp at m
  have fr0 := Fr.refl (T := []) H0
  have sub0 : Sub S S := fun a m => m
  refine ⟨_, (pss_one (ps_ret (pe_ifExp (pt_cmpR op_lt (pe_call (ok_order ev) (hr.mono (by decide)) (by rfl) ev.A_order.m ev.A_order.F.kp ev.A_order.b .nil pass0 (pa_cons (pv 0) (pa_cons (pv 1) pa_nil))) pe_int (nomark _)) (pv 0) (pv 1)))), ?_⟩
  dsimp only [m_lesser] at hm
  have er := hm
  exact q_ret (T := []) dm (ev_if (eb_test (K := K) (ev_op (od_lt (K := K)) (ev_call (ea_cons (ev_var ts h_one rfl) (ea_cons (ev_var ts h_other rfl) ea_nil))) (ev_int (K := K)))) (ev_var ts h_one rfl) (ev_var ts h_other rfl)) er (fun v H1 s1 hv => q v H1 (fr0.trans (Fr.same s1)).toSame ((tRat : Ty K Rat).sub (S := S) (H := H1) sub0 hv))
def m_greater (d_one : Rat) (d_other : Rat) : Option Rat :=
  (bd (bd (bd (bd (some d_one) fun x => bd (bd (some d_other) fun x => bd (some ()) fun y => some (x, y)) fun y => some (x, y)) fun a => m_order a.1 a.2.1) fun x => bd (some (0 : Int)) fun y => some (decide (y < x))) fun x => if x then (some d_one) else (some d_other))
abbrev sp_greater (K : PySem.W.Frag) : Sp := spF (K := K) (aCons tRat (aCons tRat aNil)) (fun S => of (K := K) tRat S) (fun a => m_greater a.1 a.2.1)
theorem ok_greater (ev : Env K mg) : FnOk P w K mg base CX0 2 ev.f_greater ev.d_greater p_greater (sp_greater K) := by
  refine ev.A_greater.F.ok sc_greater (fun vs H Q E h => ?_) (fun cdv A outer s H0 vs Q E hr h => ?_)
  · obtain ⟨S, ⟨d_one, d_other, _⟩, y, _, ⟨v_one, _, rfl, h_one, v_other, _, rfl, h_other, rfl⟩, _⟩ := h
    rfl
  obtain ⟨S, ⟨d_one, d_other, _⟩, y, dm, ⟨v_one, _, rfl, h_one, v_other, _, rfl, h_other, rfl⟩, hm, q⟩ := h
  have ts : Sub [] S := fun a m => by simp at m
  have fr0 := Fr.refl (T := []) H0
  have sub0 : Sub S S := fun a m => m
  refine ⟨_, (pss_one (ps_ret (pe_ifExp (pt_cmpR op_gt (pe_call (ok_order ev) (hr.mono (by decide)) (by rfl) ev.A_order.m ev.A_order.F.kp ev.A_order.b .nil pass0 (pa_cons (pv 0) (pa_cons (pv 1) pa_nil))) pe_int (nomark _)) (pv 0) (pv 1)))), ?_⟩
  dsimp only [m_greater] at hm
  have er := hm
  exact q_ret (T := []) dm (ev_if (eb_test (K := K) (ev_op (od_gt (K := K)) (ev_call (ea_cons (ev_var ts h_one rfl) (ea_cons (ev_var ts h_other rfl) ea_nil))) (ev_int (K := K)))) (ev_var ts h_one rfl) (ev_var ts h_other rfl)) er (fun v H1 s1 hv => q v H1 (fr0.trans (Fr.same s1)).toSame ((tRat : Ty K Rat).sub (S := S) (H := H1) sub0 hv))
def m_stretch (d_start : (Rat × Rat)) (d_end : (Rat × Rat)) : Option Rat :=
  (bd (bd (bd (bd (bd (bd (bd (some d_end) fun x => some x.1) fun x => bd (bd (bd (some d_start) fun x => some x.1) fun x => bd (some ()) fun y => some (x, y)) fun y => some (x, y)) fun a => m_minus a.1 a.2.1) fun x => bd (some ()) fun y => some (x, y)) fun a => m_size a.1) fun x => bd (bd (bd (bd (bd (bd (bd (some d_end) fun x => some x.2) fun x => bd (bd (bd (some d_start) fun x => some x.2) fun x => bd (some ()) fun y => some (x, y)) fun y => some (x, y)) fun a => m_minus a.1 a.2.1) fun x => bd (some ()) fun y => some (x, y)) fun a => m_size a.1) fun x => bd (some ()) fun y => some (x, y)) fun y => some (x, y)) fun a => m_plus a.1 a.2.1)
abbrev sp_stretch (K : PySem.W.Frag) : Sp := spF (K := K) (aCons (tT2 tRat tRat) (aCons (tT2 tRat tRat) aNil)) (fun S => of (K := K) tRat S) (fun a => m_stretch a.1 a.2.1)
theorem ok_stretch (ev : Env K mg) : FnOk P w K mg base CX0 4 ev.f_stretch ev.d_stretch p_stretch (sp_stretch K) := by
  refine ev.A_stretch.F.ok sc_stretch (fun vs H Q E h => ?_) (fun cdv A outer s H0 vs Q E hr h => ?_)
  · obtain ⟨S, ⟨d_start, d_end, _⟩, y, _, ⟨v_start, _, rfl, h_start, v_end, _, rfl, h_end, rfl⟩, _⟩ := h
    rfl
  obtain ⟨S, ⟨d_start, d_end, _⟩, y, dm, ⟨v_start, _, rfl, h_start, v_end, _, rfl, h_end, rfl⟩, hm, q⟩ := h
  have ts : Sub [] S := fun a m => by simp at m
  have fr0 := Fr.refl (T := []) H0
  have sub0 : Sub S S := fun a m => m
  refine ⟨_, (pss_one (ps_ret (pe_call (ok_plus ev) (hr.mono (by decide)) (by rfl) ev.A_plus.m ev.A_plus.F.kp ev.A_plus.b .nil pass0 (pa_cons (pe_call (ok_size ev) (hr.mono (by decide)) (by rfl) ev.A_size.m ev.A_size.F.kp ev.A_size.b .nil pass0 (pa_cons (pe_call (ok_minus ev) (hr.mono (by decide)) (by rfl) ev.A_minus.m ev.A_minus.F.kp ev.A_minus.b .nil pass0 (pa_cons (pe_ix ix_tup (pv 1) pe_int (fun _ _ => rfl)) (pa_cons (pe_ix ix_tup (pv 0) pe_int (fun _ _ => rfl)) pa_nil))) pa_nil)) (pa_cons (pe_call (ok_size ev) (hr.mono (by decide)) (by rfl) ev.A_size.m ev.A_size.F.kp ev.A_size.b .nil pass0 (pa_cons (pe_call (ok_minus ev) (hr.mono (by decide)) (by rfl) ev.A_minus.m ev.A_minus.F.kp ev.A_minus.b .nil pass0 (pa_cons (pe_ix ix_tup (pv 1) pe_int (fun _ _ => rfl)) (pa_cons (pe_ix ix_tup (pv 0) pe_int (fun _ _ => rfl)) pa_nil))) pa_nil)) pa_nil))))), ?_⟩
  dsimp only [m_stretch] at hm
  have er := hm
  exact q_ret (T := []) dm (ev_call (ea_cons (ev_call (ea_cons (ev_call (ea_cons (ev_ix20 (ev_var ts h_end rfl)) (ea_cons (ev_ix20 (ev_var ts h_start rfl)) ea_nil))) ea_nil)) (ea_cons (ev_call (ea_cons (ev_call (ea_cons (ev_ix21 (ev_var ts h_end rfl)) (ea_cons (ev_ix21 (ev_var ts h_start rfl)) ea_nil))) ea_nil)) ea_nil))) er (fun v H1 s1 hv => q v H1 (fr0.trans (Fr.same s1)).toSame ((tRat : Ty K Rat).sub (S := S) (H := H1) sub0 hv))
def m_between (d_start : (Rat × Rat)) (d_end : (Rat × Rat)) (d_share : Rat) : Option (Rat × Rat) :=
  (bd (bd (bd (bd (some d_start) fun x => some x.1) fun x => bd (bd (bd (bd (some d_share) fun x => bd (bd (bd (bd (bd (some d_end) fun x => some x.1) fun x => bd (bd (bd (some d_start) fun x => some x.1) fun x => bd (some ()) fun y => some (x, y)) fun y => some (x, y)) fun a => m_minus a.1 a.2.1) fun x => bd (some ()) fun y => some (x, y)) fun y => some (x, y)) fun a => m_times a.1 a.2.1) fun x => bd (some ()) fun y => some (x, y)) fun y => some (x, y)) fun a => m_plus a.1 a.2.1) fun x => bd (bd (bd (bd (some d_start) fun x => some x.2) fun x => bd (bd (bd (bd (some d_share) fun x => bd (bd (bd (bd (bd (some d_end) fun x => some x.2) fun x => bd (bd (bd (some d_start) fun x => some x.2) fun x => bd (some ()) fun y => some (x, y)) fun y => some (x, y)) fun a => m_minus a.1 a.2.1) fun x => bd (some ()) fun y => some (x, y)) fun y => some (x, y)) fun a => m_times a.1 a.2.1) fun x => bd (some ()) fun y => some (x, y)) fun y => some (x, y)) fun a => m_plus a.1 a.2.1) fun y => some (x, y))
abbrev sp_between (K : PySem.W.Frag) : Sp := spF (K := K) (aCons (tT2 tRat tRat) (aCons (tT2 tRat tRat) (aCons tRat aNil))) (fun S => of (K := K) (tT2 tRat tRat) S) (fun a => m_between a.1 a.2.1 a.2.2.1)
theorem ok_between (ev : Env K mg) : FnOk P w K mg base CX0 4 ev.f_between ev.d_between p_between (sp_between K) := by
  refine ev.A_between.F.ok sc_between (fun vs H Q E h => ?_) (fun cdv A outer s H0 vs Q E hr h => ?_)
  · obtain ⟨S, ⟨d_start, d_end, d_share, _⟩, y, _, ⟨v_start, _, rfl, h_start, v_end, _, rfl, h_end, v_share, _, rfl, h_share, rfl⟩, _⟩ := h
    rfl
  obtain ⟨S, ⟨d_start, d_end, d_share, _⟩, y, dm, ⟨v_start, _, rfl, h_start, v_end, _, rfl, h_end, v_share, _, rfl, h_share, rfl⟩, hm, q⟩ := h
  have ts : Sub [] S := fun a m => by simp at m
  have fr0 := Fr.refl (T := []) H0
  have sub0 : Sub S S := fun a m => m
  refine ⟨_, (pss_one (ps_ret (pe_tup (pa_cons (pe_call (ok_plus ev) (hr.mono (by decide)) (by rfl) ev.A_plus.m ev.A_plus.F.kp ev.A_plus.b .nil pass0 (pa_cons (pe_ix ix_tup (pv 0) pe_int (fun _ _ => rfl)) (pa_cons (pe_call (ok_times ev) (hr.mono (by decide)) (by rfl) ev.A_times.m ev.A_times.F.kp ev.A_times.b .nil pass0 (pa_cons (pv 2) (pa_cons (pe_call (ok_minus ev) (hr.mono (by decide)) (by rfl) ev.A_minus.m ev.A_minus.F.kp ev.A_minus.b .nil pass0 (pa_cons (pe_ix ix_tup (pv 1) pe_int (fun _ _ => rfl)) (pa_cons (pe_ix ix_tup (pv 0) pe_int (fun _ _ => rfl)) pa_nil))) pa_nil))) pa_nil))) (pa_cons (pe_call (ok_plus ev) (hr.mono (by decide)) (by rfl) ev.A_plus.m ev.A_plus.F.kp ev.A_plus.b .nil pass0 (pa_cons (pe_ix ix_tup (pv 0) pe_int (fun _ _ => rfl)) (pa_cons (pe_call (ok_times ev) (hr.mono (by decide)) (by rfl) ev.A_times.m ev.A_times.F.kp ev.A_times.b .nil pass0 (pa_cons (pv 2) (pa_cons (pe_call (ok_minus ev) (hr.mono (by decide)) (by rfl) ev.A_minus.m ev.A_minus.F.kp ev.A_minus.b .nil pass0 (pa_cons (pe_ix ix_tup (pv 1) pe_int (fun _ _ => rfl)) (pa_cons (pe_ix ix_tup (pv 0) pe_int (fun _ _ => rfl)) pa_nil))) pa_nil))) pa_nil))) pa_nil))))), ?_⟩
  dsimp only [m_between] at hm
  have er := hm
  exact q_ret (T := []) dm (ev_tup2 (ev_call (ea_cons (ev_ix20 (ev_var ts h_start rfl)) (ea_cons (ev_call (ea_cons (ev_var ts h_share rfl) (ea_cons (ev_call (ea_cons (ev_ix20 (ev_var ts h_end rfl)) (ea_cons (ev_ix20 (ev_var ts h_start rfl)) ea_nil))) ea_nil))) ea_nil))) (ev_call (ea_cons (ev_ix21 (ev_var ts h_start rfl)) (ea_cons (ev_call (ea_cons (ev_var ts h_share rfl) (ea_cons (ev_call (ea_cons (ev_ix21 (ev_var ts h_end rfl)) (ea_cons (ev_ix21 (ev_var ts h_start rfl)) ea_nil))) ea_nil))) ea_nil)))) er (fun v H1 s1 hv => q v H1 (fr0.trans (Fr.same s1)).toSame (((tT2 tRat tRat) : Ty K (Rat × Rat)).sub (S := S) (H := H1) sub0 hv))
def m_gap (d_one : (Rat × Rat)) (d_other : (Rat × Rat)) : Option Rat :=
  (bd (bd (bd (bd (bd (bd (bd (some d_one) fun x => some x.1) fun x => bd (bd (bd (some d_other) fun x => some x.1) fun x => bd (some ()) fun y => some (x, y)) fun y => some (x, y)) fun a => m_minus a.1 a.2.1) fun x => bd (some ()) fun y => some (x, y)) fun a => m_size a.1) fun x => bd (bd (bd (bd (bd (bd (bd (some d_one) fun x => some x.2) fun x => bd (bd (bd (some d_other) fun x => some x.2) fun x => bd (some ()) fun y => some (x, y)) fun y => some (x, y)) fun a => m_minus a.1 a.2.1) fun x => bd (some ()) fun y => some (x, y)) fun a => m_size a.1) fun x => bd (some ()) fun y => some (x, y)) fun y => some (x, y)) fun a => m_greater a.1 a.2.1)
abbrev sp_gap (K : PySem.W.Frag) : Sp := spF (K := K) (aCons (tT2 tRat tRat) (aCons (tT2 tRat tRat) aNil)) (fun S => of (K := K) tRat S) (fun a => m_gap a.1 a.2.1)
theorem ok_gap (ev : Env K mg) : FnOk P w K mg base CX0 4 ev.f_gap ev.d_gap p_gap (sp_gap K) := by
  refine ev.A_gap.F.ok sc_gap (fun vs H Q E h => ?_) (fun cdv A outer s H0 vs Q E hr h => ?_)
  · obtain ⟨S, ⟨d_one, d_other, _⟩, y, _, ⟨v_one, _, rfl, h_one, v_other, _, rfl, h_other, rfl⟩, _⟩ := h
    rfl
  obtain ⟨S, ⟨d_one, d_other, _⟩, y, dm, ⟨v_one, _, rfl, h_one, v_other, _, rfl, h_other, rfl⟩, hm, q⟩ := h
  have ts : Sub [] S := fun a m => by simp at m
  have fr0 := Fr.refl (T := []) H0
  have sub0 : Sub S S := fun a m => m
  refine ⟨_, (pss_one (ps_ret (pe_call (ok_greater ev) (hr.mono (by decide)) (by rfl) ev.A_greater.m ev.A_greater.F.kp ev.A_greater.b .nil pass0 (pa_cons (pe_call (ok_size ev) (hr.mono (by decide)) (by rfl) ev.A_size.m ev.A_size.F.kp ev.A_size.b .nil pass0 (pa_cons (pe_call (ok_minus ev) (hr.mono (by decide)) (by rfl) ev.A_minus.m ev.A_minus.F.kp ev.A_minus.b .nil pass0 (pa_cons (pe_ix ix_tup (pv 0) pe_int (fun _ _ => rfl)) (pa_cons (pe_ix ix_tup (pv 1) pe_int (fun _ _ => rfl)) pa_nil))) pa_nil)) (pa_cons (pe_call (ok_size ev) (hr.mono (by decide)) (by rfl) ev.A_size.m ev.A_size.F.kp ev.A_size.b .nil pass0 (pa_cons (pe_call (ok_minus ev) (hr.mono (by decide)) (by rfl) ev.A_minus.m ev.A_minus.F.kp ev.A_minus.b .nil pass0 (pa_cons (pe_ix ix_tup (pv 0) pe_int (fun _ _ => rfl)) (pa_cons (pe_ix ix_tup (pv 1) pe_int (fun _ _ => rfl)) pa_nil))) pa_nil)) pa_nil))))), ?_⟩
  dsimp only [m_gap] at hm
  have er := hm
  exact q_ret (T := []) dm (ev_call (ea_cons (ev_call (ea_cons (ev_call (ea_cons (ev_ix20 (ev_var ts h_one rfl)) (ea_cons (ev_ix20 (ev_var ts h_other rfl)) ea_nil))) ea_nil)) (ea_cons (ev_call (ea_cons (ev_call (ea_cons (ev_ix21 (ev_var ts h_one rfl)) (ea_cons (ev_ix21 (ev_var ts h_other rfl)) ea_nil))) ea_nil)) ea_nil))) er (fun v H1 s1 hv => q v H1 (fr0.trans (Fr.same s1)).toSame ((tRat : Ty K Rat).sub (S := S) (H := H1) sub0 hv))
def m_pieces_of (d_polyline : (List (Rat × Rat))) : Option (List ((Rat × Rat) × (Rat × Rat))) :=
  (bd (bd (bd (some d_polyline) fun x => some (x.length : Int)) fun x => bd (some (1 : Int)) fun y => some (decide (x = y))) fun c1 => if c1 then (bd (bd (bd (some d_polyline) fun x => bd (some (0 : Int)) fun y => atI x y) fun x => bd (bd (some d_polyline) fun x => bd (some (0 : Int)) fun y => atI x y) fun y => some (x, y)) fun x => bd (some []) fun y => some (x :: y)) else (bd (bd (some (1 : Int)) fun x => bd (bd (some d_polyline) fun x => some (x.length : Int)) fun y => rng2? x y) fun xs => mapL? (fun at_2 => (bd (bd (some d_polyline) fun x => bd (bd (some at_2) fun x => bd (some (1 : Int)) fun y => some (x - y)) fun y => atI x y) fun x => bd (bd (some d_polyline) fun x => bd (some at_2) fun y => atI x y) fun y => some (x, y))) xs))
abbrev sp_pieces_of (K : PySem.W.Frag) : Sp := spF (K := K) (aCons (tL (tT2 tRat tRat)) aNil) (fun S => nw (K := K) (tT2 (tT2 tRat tRat) (tT2 tRat tRat)) S) (fun a => m_pieces_of a.1)
theorem ok_pieces_of (ev : Env K mg) : FnOk P w K mg base CX0 1 ev.f_pieces_of ev.d_pieces_of p_pieces_of (sp_pieces_of K) := by
  refine ev.A_pieces_of.F.ok sc_pieces_of (fun vs H Q E h => ?_) (fun cdv A outer s H0 vs Q E hr h => ?_)
  · obtain ⟨S, ⟨d_polyline, _⟩, y, _, ⟨v_polyline, _, rfl, h_polyline, rfl⟩, _⟩ := h
    rfl
  obtain ⟨S, ⟨d_polyline, _⟩, y, dm, ⟨v_polyline, _, rfl, h_polyline, rfl⟩, hm, q⟩ := h
  have ts : Sub [] S := fun a m => by simp at m
  have fr0 := Fr.refl (T := []) H0
  have sub0 : Sub S S := fun a m => m
  refine ⟨_, (pss_cons (ps_if (pt_cmpR op_eq (pe_callB call_len_seq (by rfl) ev.B.len_ PySem.boot_len (pa_cons (pv 0) pa_nil)) pe_int (nomark _))
    (pss_one (ps_ret (pe_lst (pa_cons (pe_tup (pa_cons (pe_ix ix_list (pv 0) pe_int (fun _ _ => rfl)) (pa_cons (pe_ix ix_list (pv 0) pe_int (fun _ _ => rfl)) pa_nil))) pa_nil)))) pss_nil)
    (pss_one (ps_ret (pe_lc (own := [("at", 1)]) (g := gName 1) (tt := tYes) (by rfl) sc_pieces_of.nd (pi_range2 rfl ev.B.range_ (pa_cons pe_int (pa_cons (pe_callB call_len_seq (by rfl) ev.B.len_ PySem.boot_len (pa_cons (pv 0) pa_nil)) pa_nil))) (blkOk_by (own := [("at", 1)]) (N := n_pieces_of) (sc := defScope s_pieces_of) (by decide +kernel)) (fun _ _ _ _ _ => pg_name (i := 1) sc_pieces_of.nd rfl (Or.inl rfl)) (fun _ _ _ _ _ => pts_nil) (fun _ _ _ _ _ => (pe_tup (pa_cons (pe_ix (show IxR _ (rIxL K) from ix_list) (pv 0) (pe_op op_sub (pv 1) pe_int) (fun _ _ => rfl)) (pa_cons (pe_ix (show IxR _ (rIxL K) from ix_list) (pv 0) (pv 1) (fun _ _ => rfl)) pa_nil)))))))), ?_⟩
  dsimp only [m_pieces_of] at hm
  obtain ⟨c1, e1, hm⟩ := bd_some hm
  refine q_if (T := []) dm (eb_test (K := K) (ev_op (od_eqI (K := K)) (ev_lenL (ev_var ts h_polyline rfl)) (ev_int (K := K)))) e1 (fun hc H1 s1 => ?_) (fun hc H1 s1 => ?_)
  · skip
    subst hc
    have hm := if_t hm
    have fr0 := fr0.trans (Fr.same s1)
    have dm := dm.same s1
    have h_polyline := ((tL (tT2 tRat tRat)) : Ty K (List (Rat × Rat))).mono (S := S) (Fr.same s1) h_polyline
    have er := hm
    exact q_ret (T := []) dm (ev_lst (el_cons (ev_tup2 (ev_op od_ixL (ev_var ts h_polyline rfl) (ev_int (K := K))) (ev_op od_ixL (ev_var ts h_polyline rfl) (ev_int (K := K)))) el_nil) (by decide)) er (fun v H3 s3 hv => q v H3 (fr0.trans (Fr.same s3)).toSame (nwL.sub hv sub0 fr0 Dom.nil))
  subst hc
  have hm := if_f hm
  have fr0 := fr0.trans (Fr.same s1)
  have dm := dm.same s1
  have h_polyline := ((tL (tT2 tRat tRat)) : Ty K (List (Rat × Rat))).mono (S := S) (Fr.same s1) h_polyline
  refine q_next ?_
  have er := hm
  exact q_ret (T := []) dm (ev_lc (sr_r2 (K := K) (ev_int (K := K)) (ev_lenL (ev_var ts h_polyline rfl))) (fun v => by rfl) (fun at_2 v_at H2' H' p' fr' nD' sm' h_at => by have h_polyline := ((tL (tT2 tRat tRat)) : Ty K (List (Rat × Rat))).mono (Fr.same sm') (((tL (tT2 tRat tRat)) : Ty K (List (Rat × Rat))).ext (S := S) nD' (((tL (tT2 tRat tRat)) : Ty K (List (Rat × Rat))).mono (Fr.sub ts fr') h_polyline)); have ts0' := ts; have ts : Sub [] (p' :: S) := (fun a m => by simp at m);  exact (ev_tup2 (ev_op od_ixL (ev_var ts h_polyline rfl) (ev_op (od_sub (K := K)) (ev_var ts h_at rfl) (ev_int (K := K)))) (ev_op od_ixL (ev_var ts h_polyline rfl) (ev_var ts h_at rfl))))) er (fun v H4 s4 hv => q v H4 (fr0.trans (Fr.same s4)).toSame (nwL.sub hv sub0 fr0 Dom.nil))
def m_turns (d_spot : (Rat × Rat)) (d_piece : ((Rat × Rat) × (Rat × Rat))) : Option (List Rat) :=
  (bd (bd (bd (some d_piece) fun x => some [x.1, x.2]) fun xs => mapL? (fun end_1 => (bd (bd (bd (some end_1) fun x => some x.1) fun x => bd (bd (bd (some d_spot) fun x => some x.1) fun x => bd (some ()) fun y => some (x, y)) fun y => some (x, y)) fun a => m_minus a.1 a.2.1)) xs) fun x_2 => (bd (bd (bd (some d_piece) fun x => some [x.1, x.2]) fun xs => mapL? (fun end_3 => (bd (bd (bd (some end_3) fun x => some x.2) fun x => bd (bd (bd (some d_spot) fun x => some x.2) fun x => bd (some ()) fun y => some (x, y)) fun y => some (x, y)) fun a => m_minus a.1 a.2.1)) xs) fun y_4 => (bd (bd (some (0 : Rat)) fun x => bd (bd (some (1 : Rat)) fun x => bd (some []) fun y => some (x :: y)) fun y => some (x :: y)) fun shares_5 => (bd (bd (bd (some x_2) fun x => bd (some y_4) fun y => bd (bd (bd (bd (bd (bd (some x_2) fun x => bd (some (0 : Int)) fun y => atI x y) fun x => bd (bd (bd (some y_4) fun x => bd (some (0 : Int)) fun y => atI x y) fun x => bd (some ()) fun y => some (x, y)) fun y => some (x, y)) fun a => m_minus a.1 a.2.1) fun x => bd (bd (bd (bd (some x_2) fun x => bd (some (1 : Int)) fun y => atI x y) fun x => bd (bd (bd (some y_4) fun x => bd (some (1 : Int)) fun y => atI x y) fun x => bd (some ()) fun y => some (x, y)) fun y => some (x, y)) fun a => m_minus a.1 a.2.1) fun y => some (x, y)) fun x => some [x.1, x.2]) fun z => bd (bd (bd (bd (bd (bd (some x_2) fun x => bd (some (0 : Int)) fun y => atI x y) fun x => bd (bd (bd (some y_4) fun x => bd (some (0 : Int)) fun y => atI x y) fun x => bd (some ()) fun y => some (x, y)) fun y => some (x, y)) fun a => m_plus a.1 a.2.1) fun x => bd (bd (bd (bd (some x_2) fun x => bd (some (1 : Int)) fun y => atI x y) fun x => bd (bd (bd (some y_4) fun x => bd (some (1 : Int)) fun y => atI x y) fun x => bd (some ()) fun y => some (x, y)) fun y => some (x, y)) fun a => m_plus a.1 a.2.1) fun y => some (x, y)) fun x => some [x.1, x.2]) fun w => some (x, y, z, w)) fun x => some [x.1, x.2.1, x.2.2.1, x.2.2.2]) fun xs12 => bd (mapO two? xs12) fun xs13 => bd (loopC (ρ := (List Rat)) (fun s_6 x_6 => (bd (bd (some x_6.1) fun x => bd (some x_6.2) fun y => some (!decide (x = y))) fun c7 => (bd (if c7 then (bd (bd (bd (some x_6.1) fun x => bd (bd (bd (bd (some x_6.1) fun x => bd (bd (some x_6.2) fun x => bd (some ()) fun y => some (x, y)) fun y => some (x, y)) fun a => m_minus a.1 a.2.1) fun x => bd (some ()) fun y => some (x, y)) fun y => some (x, y)) fun a => m_divided a.1 a.2.1) fun a8 => (bd (app? s_6 a8) fun shares_9 => some shares_9)) else some s_6) fun j10 => some (Ct.go j10)))) xs13 shares_5) fun r_6 => match r_6 with | .ret y => some y | .go t_6 => (bd (some t_6) fun xs => filL? (fun share_11 => (bd (bd (bd (bd (some share_11) fun x => bd (bd (some (0 : Rat)) fun x => bd (some ()) fun y => some (x, y)) fun y => some (x, y)) fun a => m_order a.1 a.2.1) fun x => bd (some (0 : Int)) fun y => some (decide (y ≤ x))) fun x => if x then (bd (bd (bd (some share_11) fun x => bd (bd (some (1 : Rat)) fun x => bd (some ()) fun y => some (x, y)) fun y => some (x, y)) fun a => m_order a.1 a.2.1) fun x => bd (some (0 : Int)) fun y => some (decide (x ≤ y))) else some false)) (fun share_11 => (some share_11)) xs) | .brk _ => none))))
abbrev sp_turns (K : PySem.W.Frag) : Sp := spF (K := K) (aCons (tT2 tRat tRat) (aCons (tT2 (tT2 tRat tRat) (tT2 tRat tRat)) aNil)) (fun S => nw (K := K) tRat S) (fun a => m_turns a.1 a.2.1)
theorem ok_turns (ev : Env K mg) : FnOk P w K mg base CX0 4 ev.f_turns ev.d_turns p_turns (sp_turns K) := by
  refine ev.A_turns.F.ok sc_turns (fun vs H Q E h => ?_) (fun cdv A outer s H0 vs Q E hr h => ?_)
  · obtain ⟨S, ⟨d_spot, d_piece, _⟩, y, _, ⟨v_spot, _, rfl, h_spot, v_piece, _, rfl, h_piece, rfl⟩, _⟩ := h
    rfl
  obtain ⟨S, ⟨d_spot, d_piece, _⟩, y, dm, ⟨v_spot, _, rfl, h_spot, v_piece, _, rfl, h_piece, rfl⟩, hm, q⟩ := h
  have ts : Sub [] S := fun a m => by simp at m
  have fr0 := Fr.refl (T := []) H0
  have sub0 : Sub S S := fun a m => m
  refine ⟨_, (pss_cons (ps_setLc (i := 2) (own := [("end", 6)]) (g := gName 6) (tt := tYes) (by rfl) sc_turns.nd rfl rfl (sw_true rfl rfl rfl (by decide +kernel)) (pi_tup (pv 1)) (blkOk_by (own := [("end", 6)]) (N := n_turns) (sc := defScope s_turns) (by decide +kernel)) (fun _ _ _ _ _ => pg_name (i := 6) sc_turns.nd rfl (Or.inl rfl)) (fun _ _ _ _ _ => pts_nil) (fun _ _ _ _ _ => (pe_call (ok_minus ev) (hr.mono (by decide)) (by rfl) ev.A_minus.m ev.A_minus.F.kp ev.A_minus.b .nil pass0 (pa_cons (pe_ix (show IxR _ (rIxT K) from ix_tup) (pv 6) pe_int (fun _ _ => rfl)) (pa_cons (pe_ix (show IxR _ (rIxT K) from ix_tup) (pv 0) pe_int (fun _ _ => rfl)) pa_nil)))))
    (pss_cons (ps_setLc (i := 3) (own := [("end", 6)]) (g := gName 6) (tt := tYes) (by rfl) sc_turns.nd rfl rfl (sw_true rfl rfl rfl (by decide +kernel)) (pi_tup (pv 1)) (blkOk_by (own := [("end", 6)]) (N := n_turns) (sc := defScope s_turns) (by decide +kernel)) (fun _ _ _ _ _ => pg_name (i := 6) sc_turns.nd rfl (Or.inl rfl)) (fun _ _ _ _ _ => pts_nil) (fun _ _ _ _ _ => (pe_call (ok_minus ev) (hr.mono (by decide)) (by rfl) ev.A_minus.m ev.A_minus.F.kp ev.A_minus.b .nil pass0 (pa_cons (pe_ix (show IxR _ (rIxT K) from ix_tup) (pv 6) pe_int (fun _ _ => rfl)) (pa_cons (pe_ix (show IxR _ (rIxT K) from ix_tup) (pv 0) pe_int (fun _ _ => rfl)) pa_nil)))))
    (pss_cons (ps_set (i := 4) sc_turns.nd rfl (Or.inl rfl) (pe_lst (pa_cons (pe_glob (v := .ref ev.a_NOUGHT) (by rfl) ev.c_NOUGHT rfl) (pa_cons (pe_glob (v := .ref ev.a_ONE) (by rfl) ev.c_ONE rfl) pa_nil))))
    (pss_cons (ps_for PassesOwn.never rfl (pi_tup (pe_tup (pa_cons (pv 2) (pa_cons (pv 3) (pa_cons (pe_tup (pa_cons (pe_call (ok_minus ev) (hr.mono (by decide)) (by rfl) ev.A_minus.m ev.A_minus.F.kp ev.A_minus.b .nil pass0 (pa_cons (pe_ix ix_list (pv 2) pe_int (fun _ _ => rfl)) (pa_cons (pe_ix ix_list (pv 3) pe_int (fun _ _ => rfl)) pa_nil))) (pa_cons (pe_call (ok_minus ev) (hr.mono (by decide)) (by rfl) ev.A_minus.m ev.A_minus.F.kp ev.A_minus.b .nil pass0 (pa_cons (pe_ix ix_list (pv 2) pe_int (fun _ _ => rfl)) (pa_cons (pe_ix ix_list (pv 3) pe_int (fun _ _ => rfl)) pa_nil))) pa_nil))) (pa_cons (pe_tup (pa_cons (pe_call (ok_plus ev) (hr.mono (by decide)) (by rfl) ev.A_plus.m ev.A_plus.F.kp ev.A_plus.b .nil pass0 (pa_cons (pe_ix ix_list (pv 2) pe_int (fun _ _ => rfl)) (pa_cons (pe_ix ix_list (pv 3) pe_int (fun _ _ => rfl)) pa_nil))) (pa_cons (pe_call (ok_plus ev) (hr.mono (by decide)) (by rfl) ev.A_plus.m ev.A_plus.F.kp ev.A_plus.b .nil pass0 (pa_cons (pe_ix ix_list (pv 2) pe_int (fun _ _ => rfl)) (pa_cons (pe_ix ix_list (pv 3) pe_int (fun _ _ => rfl)) pa_nil))) pa_nil))) pa_nil)))))) (pg_or (pg_tup rfl (pgs_cons (pg_name (i := 5) sc_turns.nd rfl (Or.inl rfl)) (pgs_cons (pg_name (i := 6) sc_turns.nd rfl (Or.inl rfl)) pgs_nil))) (pg_lst rfl (pgs_cons (pg_name (i := 5) sc_turns.nd rfl (Or.inl rfl)) (pgs_cons (pg_name (i := 6) sc_turns.nd rfl (Or.inl rfl)) pgs_nil))))
    (pss_one (ps_if (pt_cmpR (op_neD hr.units) (pv 5) (pv 6) (nomark _))
    (pss_one (ps_expr (pe_bm PySem.F.plainAttrs_list PySem.F.slot_list_append PySem.F.type_list_append mt_append (pv 4) (pa_cons (pe_call (ok_divided ev) (hr.mono (by decide)) (by rfl) ev.A_divided.m ev.A_divided.F.kp ev.A_divided.b .nil pass0 (pa_cons (pv 5) (pa_cons (pe_call (ok_minus ev) (hr.mono (by decide)) (by rfl) ev.A_minus.m ev.A_minus.F.kp ev.A_minus.b .nil pass0 (pa_cons (pv 5) (pa_cons (pv 6) pa_nil))) pa_nil))) pa_nil)))) pss_nil)))
    (pss_one (ps_ret (pe_lc (own := [("share", 7)]) (g := gName 7) (by rfl) sc_turns.nd (pi_list (pv 4)) (blkOk_by (own := [("share", 7)]) (N := n_turns) (sc := defScope s_turns) (by decide +kernel)) (fun _ _ _ _ _ => pg_name (i := 7) sc_turns.nd rfl (Or.inl rfl)) (fun _ _ _ _ _ => (pts_one (PW.pt (pw_and (pt_cmpR op_ge (pe_call (ok_order ev) (hr.mono (by decide)) (by rfl) ev.A_order.m ev.A_order.F.kp ev.A_order.b .nil pass0 (pa_cons (pv 7) (pa_cons (pe_glob (v := .ref ev.a_NOUGHT) (by rfl) ev.c_NOUGHT rfl) pa_nil))) pe_int (nomark _)) (pw_and1 (pt_cmpR op_le (pe_call (ok_order ev) (hr.mono (by decide)) (by rfl) ev.A_order.m ev.A_order.F.kp ev.A_order.b .nil pass0 (pa_cons (pv 7) (pa_cons (pe_glob (v := .ref ev.a_ONE) (by rfl) ev.c_ONE rfl) pa_nil))) pe_int (nomark _))))))) (fun _ _ _ _ _ => (pv 7))))))))), ?_⟩
  dsimp only [m_turns] at hm
  obtain ⟨x_2, e2, hm⟩ := bd_some hm
  refine q_asg (T := []) dm (ev_new (ev_lc (sr_t2 (ev_var ts h_piece rfl)) (fun v => by rfl) (fun end_1 v_end H2' H' p' fr' nD' sm' h_end => by have h_spot := ((tT2 tRat tRat) : Ty K (Rat × Rat)).mono (Fr.same sm') (((tT2 tRat tRat) : Ty K (Rat × Rat)).ext (S := S) nD' (((tT2 tRat tRat) : Ty K (Rat × Rat)).mono (Fr.sub ts fr') h_spot)); have h_piece := ((tT2 (tT2 tRat tRat) (tT2 tRat tRat)) : Ty K ((Rat × Rat) × (Rat × Rat))).mono (Fr.same sm') (((tT2 (tT2 tRat tRat) (tT2 tRat tRat)) : Ty K ((Rat × Rat) × (Rat × Rat))).ext (S := S) nD' (((tT2 (tT2 tRat tRat) (tT2 tRat tRat)) : Ty K ((Rat × Rat) × (Rat × Rat))).mono (Fr.sub ts fr') h_piece)); have ts0' := ts; have ts : Sub [] (p' :: S) := (fun a m => by simp at m);  exact (ev_call (ea_cons (ev_ix20 (ev_var ts h_end rfl)) (ea_cons (ev_ix20 (ev_var ts h_spot rfl)) ea_nil)))))) e2 (fun v_x H2 s2 h_x => ?_)
  have fr0 := fr0.trans (Fr.same s2)
  have dm := dm.same s2
  have h_spot := ((tT2 tRat tRat) : Ty K (Rat × Rat)).mono (S := S) (Fr.same s2) h_spot
  have h_piece := ((tT2 (tT2 tRat tRat) (tT2 tRat tRat)) : Ty K ((Rat × Rat) × (Rat × Rat))).mono (S := S) (Fr.same s2) h_piece
  have h_x : ((tL tRat) : Ty K (List Rat)).rp S H2 v_x x_2 := h_x
  obtain ⟨y_4, e4, hm⟩ := bd_some hm
  refine q_asg (T := []) dm (ev_new (ev_lc (sr_t2 (ev_var ts h_piece rfl)) (fun v => by rfl) (fun end_3 v_end H2' H' p' fr' nD' sm' h_end => by have h_spot := ((tT2 tRat tRat) : Ty K (Rat × Rat)).mono (Fr.same sm') (((tT2 tRat tRat) : Ty K (Rat × Rat)).ext (S := S) nD' (((tT2 tRat tRat) : Ty K (Rat × Rat)).mono (Fr.sub ts fr') h_spot)); have h_piece := ((tT2 (tT2 tRat tRat) (tT2 tRat tRat)) : Ty K ((Rat × Rat) × (Rat × Rat))).mono (Fr.same sm') (((tT2 (tT2 tRat tRat) (tT2 tRat tRat)) : Ty K ((Rat × Rat) × (Rat × Rat))).ext (S := S) nD' (((tT2 (tT2 tRat tRat) (tT2 tRat tRat)) : Ty K ((Rat × Rat) × (Rat × Rat))).mono (Fr.sub ts fr') h_piece)); have h_x := ((tL tRat) : Ty K (List Rat)).mono (Fr.same sm') (((tL tRat) : Ty K (List Rat)).ext (S := S) nD' (((tL tRat) : Ty K (List Rat)).mono (Fr.sub ts fr') h_x)); have ts0' := ts; have ts : Sub [] (p' :: S) := (fun a m => by simp at m);  exact (ev_call (ea_cons (ev_ix21 (ev_var ts h_end rfl)) (ea_cons (ev_ix21 (ev_var ts h_spot rfl)) ea_nil)))))) e4 (fun v_y H4 s4 h_y => ?_)
  have fr0 := fr0.trans (Fr.same s4)
  have dm := dm.same s4
  have h_spot := ((tT2 tRat tRat) : Ty K (Rat × Rat)).mono (S := S) (Fr.same s4) h_spot
  have h_piece := ((tT2 (tT2 tRat tRat) (tT2 tRat tRat)) : Ty K ((Rat × Rat) × (Rat × Rat))).mono (S := S) (Fr.same s4) h_piece
  have h_x := ((tL tRat) : Ty K (List Rat)).mono (S := S) (Fr.same s4) h_x
  have h_y : ((tL tRat) : Ty K (List Rat)).rp S H4 v_y y_4 := h_y
  obtain ⟨shares_5, e5, hm⟩ := bd_some hm
  refine q_asg (T := []) dm (ev_lst (el_cons (ev_c (a := tRat) fun H => ⟨_, rfl, .inr (ev.q_NOUGHT _)⟩) (el_cons (ev_c (a := tRat) fun H => ⟨_, rfl, .inr (ev.q_ONE _)⟩) el_nil)) (by decide)) e5 (fun v_shares H5 s5 hx => ?_)
  obtain ⟨p_shares, rfl, np_shares, o_shares⟩ := hx
  have ns_shares : p_shares ∉ S := dm.not_mem np_shares
  have nb_shares : p_shares ∉ S := fun m => ns_shares (sub0 _ m)
  have n0_shares := fr_back fr0 Dom.nil np_shares
  have nt_shares := (Dom.nil (H := H0)).not_mem n0_shares
  have fr0 := fr0.trans (Fr.same s5)
  have h_spot := ((tT2 tRat tRat) : Ty K (Rat × Rat)).mono (Fr.same s5) (((tT2 tRat tRat) : Ty K (Rat × Rat)).ext (S := S) np_shares h_spot)
  have h_piece := ((tT2 (tT2 tRat tRat) (tT2 tRat tRat)) : Ty K ((Rat × Rat) × (Rat × Rat))).mono (Fr.same s5) (((tT2 (tT2 tRat tRat) (tT2 tRat tRat)) : Ty K ((Rat × Rat) × (Rat × Rat))).ext (S := S) np_shares h_piece)
  have h_x := ((tL tRat) : Ty K (List Rat)).mono (Fr.same s5) (((tL tRat) : Ty K (List Rat)).ext (S := S) np_shares h_x)
  have h_y := ((tL tRat) : Ty K (List Rat)).mono (Fr.same s5) (((tL tRat) : Ty K (List Rat)).ext (S := S) np_shares h_y)
  have dm := (dm.same s5).cons o_shares.choose_spec.1
  have ts := sub_cons (p := p_shares) ts
  have sub0 := sub_cons (p := p_shares) sub0
  have im_shares : p_shares ∈ p_shares :: S := List.mem_cons_self ..
  obtain ⟨xs12, e_xs12, hm⟩ := bd_some hm
  obtain ⟨xs13, e_xs13, hm⟩ := bd_some hm
  obtain ⟨r_6, el6, hm6⟩ := bd_some hm
  refine q_for_s2q (T := []) dm (sr_t4 (ev_tup4 (ev_L2Sq (ev_var ts h_x rfl)) (ev_L2Sq (ev_var ts h_y rfl)) (ev_t2Sq (ev_tup2 (ev_call (ea_cons (ev_op od_ixL (ev_var ts h_x rfl) (ev_int (K := K))) (ea_cons (ev_op od_ixL (ev_var ts h_y rfl) (ev_int (K := K))) ea_nil))) (ev_call (ea_cons (ev_op od_ixL (ev_var ts h_x rfl) (ev_int (K := K))) (ea_cons (ev_op od_ixL (ev_var ts h_y rfl) (ev_int (K := K))) ea_nil))))) (ev_t2Sq (ev_tup2 (ev_call (ea_cons (ev_op od_ixL (ev_var ts h_x rfl) (ev_int (K := K))) (ea_cons (ev_op od_ixL (ev_var ts h_y rfl) (ev_int (K := K))) ea_nil))) (ev_call (ea_cons (ev_op od_ixL (ev_var ts h_x rfl) (ev_int (K := K))) (ea_cons (ev_op od_ixL (ev_var ts h_y rfl) (ev_int (K := K))) ea_nil))))))) e_xs12 e_xs13 el6 (fun s_6 σ' H' => ∃ v_spot : V, ∃ v_piece : V, ∃ v_x : V, ∃ v_y : V, ∃ f_5 : Option V, ∃ f_6 : Option V, ∃ f_7 : Option V, σ' = [some v_spot, some v_piece, some v_x, some v_y, some (.ref p_shares), f_5, f_6, f_7] ∧ Fr [] H0 H' ∧ Dom (p_shares :: S) H' ∧ ((tT2 tRat tRat) : Ty K (Rat × Rat)).rp (p_shares :: S) H' v_spot d_spot ∧ ((tT2 (tT2 tRat tRat) (tT2 tRat tRat)) : Ty K ((Rat × Rat) × (Rat × Rat))).rp (p_shares :: S) H' v_piece d_piece ∧ ((tL tRat) : Ty K (List Rat)).rp (p_shares :: S) H' v_x x_2 ∧ ((tL tRat) : Ty K (List Rat)).rp (p_shares :: S) H' v_y y_4 ∧ Own (tRat : Ty K Rat) (p_shares :: S) H' p_shares s_6) (fun H6 s6 => ?_) (fun hd6 s_6 x_6 cr6 v_start v_end σ' H' hI h_start h_end hx6 hm hret6 hbrk6 => ?_) (fun t_6 σ' H' er hI => ?_)
  · skip
    have fr0 := fr0.trans (Fr.same s6)
    have dm := dm.same s6
    have h_spot := ((tT2 tRat tRat) : Ty K (Rat × Rat)).mono (S := (p_shares :: S)) (Fr.same s6) h_spot
    have h_piece := ((tT2 (tT2 tRat tRat) (tT2 tRat tRat)) : Ty K ((Rat × Rat) × (Rat × Rat))).mono (S := (p_shares :: S)) (Fr.same s6) h_piece
    have h_x := ((tL tRat) : Ty K (List Rat)).mono (S := (p_shares :: S)) (Fr.same s6) h_x
    have h_y := ((tL tRat) : Ty K (List Rat)).mono (S := (p_shares :: S)) (Fr.same s6) h_y
    have o_shares := o_shares.same s6
    exact ⟨v_spot, v_piece, v_x, v_y, _, _, _, rfl, fr0, dm, h_spot, h_piece, h_x, h_y, o_shares⟩
  · skip
    obtain ⟨v_spot, v_piece, v_x, v_y, f_5, f_6, f_7, rfl, fr0, dm, h_spot, h_piece, h_x, h_y, o_shares⟩ := hI
    let HL := H'
    have freshl : ∀ a ∈ (p_shares :: S), a ∉ (p_shares :: S) → H' a = none := fun a m n => absurd m n
    have frl : Fr (p_shares :: S) HL H' := Fr.refl (T := (p_shares :: S)) H'
    have tsl := ts
    have subl : Sub (p_shares :: S) (p_shares :: S) := fun a m => m
    have iml_shares := im_shares
    have h_start : (tRat : Ty K Rat).rp (p_shares :: S) H' v_start x_6.1 := h_start
    have h_end : (tRat : Ty K Rat).rp (p_shares :: S) H' v_end x_6.2 := h_end
    obtain ⟨c7, e7, hm⟩ := bd_some hm
    obtain ⟨j10, ej7, hm⟩ := bd_some hm
    refine seq_last (fun σ' H' => Fr (p_shares :: S) HL H' ∧ ∃ v_spot : V, ∃ v_piece : V, ∃ v_x : V, ∃ v_y : V, ∃ v_start : V, ∃ v_end : V, ∃ f_7 : Option V, σ' = [some v_spot, some v_piece, some v_x, some v_y, some (.ref p_shares), some v_start, some v_end, f_7] ∧ Fr [] H0 H' ∧ Dom (p_shares :: S) H' ∧ ((tT2 tRat tRat) : Ty K (Rat × Rat)).rp (p_shares :: S) H' v_spot d_spot ∧ ((tT2 (tT2 tRat tRat) (tT2 tRat tRat)) : Ty K ((Rat × Rat) × (Rat × Rat))).rp (p_shares :: S) H' v_piece d_piece ∧ ((tL tRat) : Ty K (List Rat)).rp (p_shares :: S) H' v_x x_2 ∧ ((tL tRat) : Ty K (List Rat)).rp (p_shares :: S) H' v_y y_4 ∧ (tRat : Ty K Rat).rp (p_shares :: S) H' v_start x_6.1 ∧ (tRat : Ty K Rat).rp (p_shares :: S) H' v_end x_6.2 ∧ Own (tRat : Ty K Rat) (p_shares :: S) H' p_shares j10) (fun σ' H' hI => ?_) (fun rest => ?_)
    · skip
      obtain ⟨frl, v_spot, v_piece, v_x, v_y, v_start, v_end, f_7, rfl, fr0, dm, h_spot, h_piece, h_x, h_y, h_start, h_end, o_shares⟩ := hI
      cases hm
      exact ⟨_, rfl, frl, ⟨v_spot, v_piece, v_x, v_y, _, _, _, rfl, fr0, dm, h_spot, h_piece, h_x, h_y, o_shares⟩⟩
    have hm := ej7
    refine l_if (T := []) dm (eb_test (K := K) (ev_op (od_neD (K := K) dRat (Nat.le_of_ble_eq_true rfl)) (ev_var ts h_start rfl) (ev_var ts h_end rfl))) e7 (fun hc H7 s7 => ?_) (fun hc H7 s7 => ?_)
    · skip
      subst hc
      have hm := if_t hm
      have fr0 := fr0.trans (Fr.same s7)
      have dm := dm.same s7
      have frl := frl.trans (Fr.same s7)
      have h_spot := ((tT2 tRat tRat) : Ty K (Rat × Rat)).mono (S := (p_shares :: S)) (Fr.same s7) h_spot
      have h_piece := ((tT2 (tT2 tRat tRat) (tT2 tRat tRat)) : Ty K ((Rat × Rat) × (Rat × Rat))).mono (S := (p_shares :: S)) (Fr.same s7) h_piece
      have h_x := ((tL tRat) : Ty K (List Rat)).mono (S := (p_shares :: S)) (Fr.same s7) h_x
      have h_y := ((tL tRat) : Ty K (List Rat)).mono (S := (p_shares :: S)) (Fr.same s7) h_y
      have o_shares := o_shares.same s7
      have h_start := (tRat : Ty K Rat).mono (S := (p_shares :: S)) (Fr.same s7) h_start
      have h_end := (tRat : Ty K Rat).mono (S := (p_shares :: S)) (Fr.same s7) h_end
      obtain ⟨a8, e8, hm⟩ := bd_some hm
      obtain ⟨shares_9, f8, hm⟩ := bd_some hm
      refine l_app (T := []) dm o_shares im_shares nt_shares ts rfl (ev_call (ea_cons (ev_var ts h_start rfl) (ea_cons (ev_call (ea_cons (ev_var ts h_start rfl) (ea_cons (ev_var ts h_end rfl) ea_nil))) ea_nil))) e8 f8 (fun H8 s8 frx8 o_shares => ?_)
      have fr0 := fr0.mut Dom.nil n0_shares s8
      have frl := frl.trans (s8.fr iml_shares)
      have dm := dm.fx frx8 s8
      have h_spot := ((tT2 tRat tRat) : Ty K (Rat × Rat)).mono (S := (p_shares :: S)) frx8 h_spot
      have h_piece := ((tT2 (tT2 tRat tRat) (tT2 tRat tRat)) : Ty K ((Rat × Rat) × (Rat × Rat))).mono (S := (p_shares :: S)) frx8 h_piece
      have h_x := ((tL tRat) : Ty K (List Rat)).mono (S := (p_shares :: S)) frx8 h_x
      have h_y := ((tL tRat) : Ty K (List Rat)).mono (S := (p_shares :: S)) frx8 h_y
      have h_start := (tRat : Ty K Rat).mono (S := (p_shares :: S)) frx8 h_start
      have h_end := (tRat : Ty K Rat).mono (S := (p_shares :: S)) frx8 h_end
      cases hm
      exact rest _ _ ⟨frl, v_spot, v_piece, v_x, v_y, v_start, v_end, _, rfl, fr0, dm, h_spot, h_piece, h_x, h_y, h_start, h_end, o_shares⟩
    · skip
      subst hc
      have hm := if_f hm
      have fr0 := fr0.trans (Fr.same s7)
      have dm := dm.same s7
      have frl := frl.trans (Fr.same s7)
      have h_spot := ((tT2 tRat tRat) : Ty K (Rat × Rat)).mono (S := (p_shares :: S)) (Fr.same s7) h_spot
      have h_piece := ((tT2 (tT2 tRat tRat) (tT2 tRat tRat)) : Ty K ((Rat × Rat) × (Rat × Rat))).mono (S := (p_shares :: S)) (Fr.same s7) h_piece
      have h_x := ((tL tRat) : Ty K (List Rat)).mono (S := (p_shares :: S)) (Fr.same s7) h_x
      have h_y := ((tL tRat) : Ty K (List Rat)).mono (S := (p_shares :: S)) (Fr.same s7) h_y
      have o_shares := o_shares.same s7
      have h_start := (tRat : Ty K Rat).mono (S := (p_shares :: S)) (Fr.same s7) h_start
      have h_end := (tRat : Ty K Rat).mono (S := (p_shares :: S)) (Fr.same s7) h_end
      cases hm
      exact rest _ _ ⟨frl, v_spot, v_piece, v_x, v_y, v_start, v_end, _, rfl, fr0, dm, h_spot, h_piece, h_x, h_y, h_start, h_end, o_shares⟩
  subst er
  have hm := hm6
  obtain ⟨v_spot, v_piece, v_x, v_y, f_5, f_6, f_7, rfl, fr0, dm, h_spot, h_piece, h_x, h_y, o_shares⟩ := hI
  have sbz : Sub S (p_shares :: S) := (sub_cons (fun a m => m))
  have nfz : p_shares ∉ S := by first | exact ns_shares | (have h := ns_shares; simp only [List.mem_cons, not_or] at h ⊢; grind)
  have h_shares := o_shares.frz sbz nfz
  have dm := dm.sub sbz
  have h_spot := ((tT2 tRat tRat) : Ty K (Rat × Rat)).sub sbz h_spot
  have h_piece := ((tT2 (tT2 tRat tRat) (tT2 tRat tRat)) : Ty K ((Rat × Rat) × (Rat × Rat))).sub sbz h_piece
  have h_x := ((tL tRat) : Ty K (List Rat)).sub sbz h_x
  have h_y := ((tL tRat) : Ty K (List Rat)).sub sbz h_y
  have ts : Sub [] S := fun a m => by have h1 := ts a m; have h2 : a ≠ p_shares := (fun e => nt_shares (e ▸ m)); simp only [List.mem_cons] at h1 ⊢; grind
  have sub0 : Sub S S := fun a m => by have h1 := sub0 a m; have h2 : a ≠ p_shares := (fun e => nb_shares (e ▸ m)); simp only [List.mem_cons] at h1 ⊢; grind
  have er := hm
  exact q_ret (T := []) dm (ev_lcF (sr_list (ev_var ts h_shares rfl)) (fun v => by rfl) (fun share_11 v_share H2' H' p' fr' nD' sm' h_share => by have h_spot := ((tT2 tRat tRat) : Ty K (Rat × Rat)).mono (Fr.same sm') (((tT2 tRat tRat) : Ty K (Rat × Rat)).ext (S := S) nD' (((tT2 tRat tRat) : Ty K (Rat × Rat)).mono (Fr.sub ts fr') h_spot)); have h_piece := ((tT2 (tT2 tRat tRat) (tT2 tRat tRat)) : Ty K ((Rat × Rat) × (Rat × Rat))).mono (Fr.same sm') (((tT2 (tT2 tRat tRat) (tT2 tRat tRat)) : Ty K ((Rat × Rat) × (Rat × Rat))).ext (S := S) nD' (((tT2 (tT2 tRat tRat) (tT2 tRat tRat)) : Ty K ((Rat × Rat) × (Rat × Rat))).mono (Fr.sub ts fr') h_piece)); have h_x := ((tL tRat) : Ty K (List Rat)).mono (Fr.same sm') (((tL tRat) : Ty K (List Rat)).ext (S := S) nD' (((tL tRat) : Ty K (List Rat)).mono (Fr.sub ts fr') h_x)); have h_y := ((tL tRat) : Ty K (List Rat)).mono (Fr.same sm') (((tL tRat) : Ty K (List Rat)).ext (S := S) nD' (((tL tRat) : Ty K (List Rat)).mono (Fr.sub ts fr') h_y)); have h_shares := ((tL tRat) : Ty K (List Rat)).mono (Fr.same sm') (((tL tRat) : Ty K (List Rat)).ext (S := S) nD' (((tL tRat) : Ty K (List Rat)).mono (Fr.sub ts fr') h_shares)); have ts0' := ts; have ts : Sub [] (p' :: S) := (fun a m => by simp at m);  exact (eb_and (eb_test (K := K) (ev_op (od_ge (K := K)) (ev_call (ea_cons (ev_var ts h_share rfl) (ea_cons (ev_c (a := tRat) fun H => ⟨_, rfl, .inr (ev.q_NOUGHT _)⟩) ea_nil))) (ev_int (K := K)))) (eb_test (K := K) (ev_op (od_le (K := K)) (ev_call (ea_cons (ev_var ts h_share rfl) (ea_cons (ev_c (a := tRat) fun H => ⟨_, rfl, .inr (ev.q_ONE _)⟩) ea_nil))) (ev_int (K := K)))))) (fun share_11 v_share H2' H' p' fr' nD' sm' h_share => by have h_spot := ((tT2 tRat tRat) : Ty K (Rat × Rat)).mono (Fr.same sm') (((tT2 tRat tRat) : Ty K (Rat × Rat)).ext (S := S) nD' (((tT2 tRat tRat) : Ty K (Rat × Rat)).mono (Fr.sub ts fr') h_spot)); have h_piece := ((tT2 (tT2 tRat tRat) (tT2 tRat tRat)) : Ty K ((Rat × Rat) × (Rat × Rat))).mono (Fr.same sm') (((tT2 (tT2 tRat tRat) (tT2 tRat tRat)) : Ty K ((Rat × Rat) × (Rat × Rat))).ext (S := S) nD' (((tT2 (tT2 tRat tRat) (tT2 tRat tRat)) : Ty K ((Rat × Rat) × (Rat × Rat))).mono (Fr.sub ts fr') h_piece)); have h_x := ((tL tRat) : Ty K (List Rat)).mono (Fr.same sm') (((tL tRat) : Ty K (List Rat)).ext (S := S) nD' (((tL tRat) : Ty K (List Rat)).mono (Fr.sub ts fr') h_x)); have h_y := ((tL tRat) : Ty K (List Rat)).mono (Fr.same sm') (((tL tRat) : Ty K (List Rat)).ext (S := S) nD' (((tL tRat) : Ty K (List Rat)).mono (Fr.sub ts fr') h_y)); have h_shares := ((tL tRat) : Ty K (List Rat)).mono (Fr.same sm') (((tL tRat) : Ty K (List Rat)).ext (S := S) nD' (((tL tRat) : Ty K (List Rat)).mono (Fr.sub ts fr') h_shares)); have ts0' := ts; have ts : Sub [] (p' :: S) := (fun a m => by simp at m);  exact (ev_var ts h_share rfl))) er (fun v H14 s14 hv => q v H14 (fr0.trans (Fr.same s14)).toSame (nwL.sub hv sub0 fr0 Dom.nil))
def m_apart (d_spot : (Rat × Rat)) (d_polyline : (List (Rat × Rat))) : Option Rat :=
  (bd (bd (bd (some d_spot) fun x => bd (bd (bd (some d_polyline) fun x => bd (some (0 : Int)) fun y => atI x y) fun x => bd (some ()) fun y => some (x, y)) fun y => some (x, y)) fun a => m_gap a.1 a.2.1) fun least_1 => (bd (bd (bd (some d_polyline) fun x => bd (some ()) fun y => some (x, y)) fun a => m_pieces_of a.1) fun xs6 => bd (loopC (ρ := Rat) (fun s_2 piece_2 => (bd (bd (bd (some d_spot) fun x => bd (bd (some piece_2) fun x => bd (some ()) fun y => some (x, y)) fun y => some (x, y)) fun a => m_turns a.1 a.2.1) fun xs5 => bd (loopC (ρ := Rat) (fun s_3 share_3 => (bd (bd (bd (some s_3) fun x => bd (bd (bd (bd (some d_spot) fun x => bd (bd (bd (bd (bd (some piece_2) fun x => some x.1) fun x => bd (bd (bd (some piece_2) fun x => some x.2) fun x => bd (bd (some share_3) fun x => bd (some ()) fun y => some (x, y)) fun y => some (x, y)) fun y => some (x, y)) fun a => m_between a.1 a.2.1 a.2.2.1) fun x => bd (some ()) fun y => some (x, y)) fun y => some (x, y)) fun a => m_gap a.1 a.2.1) fun x => bd (some ()) fun y => some (x, y)) fun y => some (x, y)) fun a => m_lesser a.1 a.2.1) fun least_4 => some (Ct.go least_4))) xs5 s_2) fun r_3 => match r_3 with | .ret y => some (Ct.ret y) | .go t_3 => some (Ct.go t_3) | .brk _ => none)) xs6 least_1) fun r_2 => match r_2 with | .ret y => some y | .go t_2 => (some t_2) | .brk _ => none))
abbrev sp_apart (K : PySem.W.Frag) : Sp := spF (K := K) (aCons (tT2 tRat tRat) (aCons (tL (tT2 tRat tRat)) aNil)) (fun S => of (K := K) tRat S) (fun a => m_apart a.1 a.2.1)
theorem ok_apart (ev : Env K mg) : FnOk P w K mg base CX0 5 ev.f_apart ev.d_apart p_apart (sp_apart K) := by
  refine ev.A_apart.F.ok sc_apart (fun vs H Q E h => ?_) (fun cdv A outer s H0 vs Q E hr h => ?_)
  · obtain ⟨S, ⟨d_spot, d_polyline, _⟩, y, _, ⟨v_spot, _, rfl, h_spot, v_polyline, _, rfl, h_polyline, rfl⟩, _⟩ := h
    rfl
  obtain ⟨S, ⟨d_spot, d_polyline, _⟩, y, dm, ⟨v_spot, _, rfl, h_spot, v_polyline, _, rfl, h_polyline, rfl⟩, hm, q⟩ := h
  have ts : Sub [] S := fun a m => by simp at m
  have fr0 := Fr.refl (T := []) H0
  have sub0 : Sub S S := fun a m => m
  refine ⟨_, (pss_cons (ps_set (i := 2) sc_apart.nd rfl (Or.inl rfl) (pe_call (ok_gap ev) (hr.mono (by decide)) (by rfl) ev.A_gap.m ev.A_gap.F.kp ev.A_gap.b .nil pass0 (pa_cons (pv 0) (pa_cons (pe_ix ix_list (pv 1) pe_int (fun _ _ => rfl)) pa_nil))))
    (pss_cons (ps_for PassesOwn.never rfl (pi_list (pe_call (ok_pieces_of ev) (hr.mono (by decide)) (by rfl) ev.A_pieces_of.m ev.A_pieces_of.F.kp ev.A_pieces_of.b .nil pass0 (pa_cons (pv 1) pa_nil))) (pg_name (i := 3) sc_apart.nd rfl (Or.inl rfl))
    (pss_one (ps_for PassesOwn.never rfl (pi_list (pe_call (ok_turns ev) (hr.mono (by decide)) (by rfl) ev.A_turns.m ev.A_turns.F.kp ev.A_turns.b .nil pass0 (pa_cons (pv 0) (pa_cons (pv 3) pa_nil)))) (pg_name (i := 4) sc_apart.nd rfl (Or.inl rfl))
    (pss_one (ps_set (i := 2) sc_apart.nd rfl (Or.inl rfl) (pe_call (ok_lesser ev) (hr.mono (by decide)) (by rfl) ev.A_lesser.m ev.A_lesser.F.kp ev.A_lesser.b .nil pass0 (pa_cons (pv 2) (pa_cons (pe_call (ok_gap ev) (hr.mono (by decide)) (by rfl) ev.A_gap.m ev.A_gap.F.kp ev.A_gap.b .nil pass0 (pa_cons (pv 0) (pa_cons (pe_call (ok_between ev) (hr.mono (by decide)) (by rfl) ev.A_between.m ev.A_between.F.kp ev.A_between.b .nil pass0 (pa_cons (pe_ix ix_tup (pv 3) pe_int (fun _ _ => rfl)) (pa_cons (pe_ix ix_tup (pv 3) pe_int (fun _ _ => rfl)) (pa_cons (pv 4) pa_nil)))) pa_nil))) pa_nil))))))))
    (pss_one (ps_ret (pv 2))))), ?_⟩
  dsimp only [m_apart] at hm
  obtain ⟨least_1, e1, hm⟩ := bd_some hm
  refine q_asg (T := []) dm (ev_call (ea_cons (ev_var ts h_spot rfl) (ea_cons (ev_op od_ixL (ev_var ts h_polyline rfl) (ev_int (K := K))) ea_nil))) e1 (fun v_least H1 s1 h_least => ?_)
  have fr0 := fr0.trans (Fr.same s1)
  have dm := dm.same s1
  have h_spot := ((tT2 tRat tRat) : Ty K (Rat × Rat)).mono (S := S) (Fr.same s1) h_spot
  have h_polyline := ((tL (tT2 tRat tRat)) : Ty K (List (Rat × Rat))).mono (S := S) (Fr.same s1) h_polyline
  have h_least : (tRat : Ty K Rat).rp S H1 v_least least_1 := h_least
  obtain ⟨xs6, e_xs6, hm⟩ := bd_some hm
  obtain ⟨r_2, el2, hm2⟩ := bd_some hm
  refine q_for_s (T := []) dm (sr_list (ev_new (ev_call (ea_cons (ev_var ts h_polyline rfl) ea_nil)))) e_xs6 el2 (fun s_2 σ' H' => ∃ v_spot : V, ∃ v_polyline : V, ∃ v_least : V, ∃ f_3 : Option V, ∃ f_4 : Option V, σ' = [some v_spot, some v_polyline, some v_least, f_3, f_4] ∧ Fr [] H0 H' ∧ Dom S H' ∧ ((tT2 tRat tRat) : Ty K (Rat × Rat)).rp S H' v_spot d_spot ∧ ((tL (tT2 tRat tRat)) : Ty K (List (Rat × Rat))).rp S H' v_polyline d_polyline ∧ (tRat : Ty K Rat).rp S H' v_least s_2) (fun H2 s2 => ?_) (fun hd2 s_2 piece_2 cr2 v_piece σ' H' hI h_piece hx2 hm hret2 hbrk2 => ?_) (fun t_2 σ' H' er hI => ?_)
  · skip
    have fr0 := fr0.trans (Fr.same s2)
    have dm := dm.same s2
    have h_spot := ((tT2 tRat tRat) : Ty K (Rat × Rat)).mono (S := S) (Fr.same s2) h_spot
    have h_polyline := ((tL (tT2 tRat tRat)) : Ty K (List (Rat × Rat))).mono (S := S) (Fr.same s2) h_polyline
    have h_least := (tRat : Ty K Rat).mono (S := S) (Fr.same s2) h_least
    exact ⟨v_spot, v_polyline, v_least, _, _, rfl, fr0, dm, h_spot, h_polyline, h_least⟩
  · skip
    obtain ⟨v_spot, v_polyline, v_least, f_3, f_4, rfl, fr0, dm, h_spot, h_polyline, h_least⟩ := hI
    let HL := H'
    have freshl : ∀ a ∈ S, a ∉ S → H' a = none := fun a m n => absurd m n
    have frl : Fr S HL H' := Fr.refl (T := S) H'
    have tsl := ts
    have subl : Sub S S := fun a m => m
    have h_piece : ((tT2 (tT2 tRat tRat) (tT2 tRat tRat)) : Ty K ((Rat × Rat) × (Rat × Rat))).rp S H' v_piece piece_2 := h_piece
    obtain ⟨xs5, e_xs5, hm⟩ := bd_some hm
    obtain ⟨r_3, el3, hm3⟩ := bd_some hm
    refine for_s (T := []) dm (sr_list (ev_new (ev_call (ea_cons (ev_var ts h_spot rfl) (ea_cons (ev_var ts h_piece rfl) ea_nil))))) e_xs5 el3 (fun s_3 σ' H' => Fr S HL H' ∧ ∃ v_spot : V, ∃ v_polyline : V, ∃ v_piece : V, ∃ v_least : V, ∃ f_4 : Option V, σ' = [some v_spot, some v_polyline, some v_least, some v_piece, f_4] ∧ Fr [] H0 H' ∧ Dom S H' ∧ ((tT2 tRat tRat) : Ty K (Rat × Rat)).rp S H' v_spot d_spot ∧ ((tL (tT2 tRat tRat)) : Ty K (List (Rat × Rat))).rp S H' v_polyline d_polyline ∧ ((tT2 (tT2 tRat tRat) (tT2 tRat tRat)) : Ty K ((Rat × Rat) × (Rat × Rat))).rp S H' v_piece piece_2 ∧ (tRat : Ty K Rat).rp S H' v_least s_3) (fun H3 s3 => ?_) (fun hd3 s_3 share_3 cr3 v_share σ' H' hI h_share hx3 hm hret3 hbrk3 => ?_) (fun t_3 σ' H' er hI => ?_)
    · skip
      have fr0 := fr0.trans (Fr.same s3)
      have dm := dm.same s3
      have frl := frl.trans (Fr.same s3)
      have h_spot := ((tT2 tRat tRat) : Ty K (Rat × Rat)).mono (S := S) (Fr.same s3) h_spot
      have h_polyline := ((tL (tT2 tRat tRat)) : Ty K (List (Rat × Rat))).mono (S := S) (Fr.same s3) h_polyline
      have h_piece := ((tT2 (tT2 tRat tRat) (tT2 tRat tRat)) : Ty K ((Rat × Rat) × (Rat × Rat))).mono (S := S) (Fr.same s3) h_piece
      have h_least := (tRat : Ty K Rat).mono (S := S) (Fr.same s3) h_least
      exact ⟨frl, v_spot, v_polyline, v_piece, v_least, _, rfl, fr0, dm, h_spot, h_polyline, h_piece, h_least⟩
    · skip
      obtain ⟨frl, v_spot, v_polyline, v_piece, v_least, f_4, rfl, fr0, dm, h_spot, h_polyline, h_piece, h_least⟩ := hI
      have frlo := frl
      have freshlo := freshl
      let HL := H'
      have freshl : ∀ a ∈ S, a ∉ S → H' a = none := fun a m n => absurd m n
      have frl : Fr S HL H' := Fr.refl (T := S) H'
      have tsl := ts
      have subl : Sub S S := fun a m => m
      have h_share : (tRat : Ty K Rat).rp S H' v_share share_3 := h_share
      obtain ⟨least_4, e4, hm⟩ := bd_some hm
      refine l_asg (T := []) dm (ev_call (ea_cons (ev_var ts h_least rfl) (ea_cons (ev_call (ea_cons (ev_var ts h_spot rfl) (ea_cons (ev_call (ea_cons (ev_ix20 (ev_var ts h_piece rfl)) (ea_cons (ev_ix21 (ev_var ts h_piece rfl)) (ea_cons (ev_var ts h_share rfl) ea_nil)))) ea_nil))) ea_nil))) e4 (fun v_least H4 s4 h_least => ?_)
      have fr0 := fr0.trans (Fr.same s4)
      have dm := dm.same s4
      have frl := frl.trans (Fr.same s4)
      have h_spot := ((tT2 tRat tRat) : Ty K (Rat × Rat)).mono (S := S) (Fr.same s4) h_spot
      have h_polyline := ((tL (tT2 tRat tRat)) : Ty K (List (Rat × Rat))).mono (S := S) (Fr.same s4) h_polyline
      have h_piece := ((tT2 (tT2 tRat tRat) (tT2 tRat tRat)) : Ty K ((Rat × Rat) × (Rat × Rat))).mono (S := S) (Fr.same s4) h_piece
      have h_share := (tRat : Ty K Rat).mono (S := S) (Fr.same s4) h_share
      have h_least : (tRat : Ty K Rat).rp S H4 v_least least_4 := h_least
      cases hm
      exact ⟨_, rfl, frl, ⟨frlo.transx frl freshlo, v_spot, v_polyline, v_piece, v_least, _, rfl, fr0, dm, h_spot, h_polyline, h_piece, h_least⟩⟩
    subst er
    have hm := hm3
    obtain ⟨frl, v_spot, v_polyline, v_piece, v_least, f_4, rfl, fr0, dm, h_spot, h_polyline, h_piece, h_least⟩ := hI
    cases hm
    exact ⟨_, rfl, frl, ⟨v_spot, v_polyline, v_least, _, _, rfl, fr0, dm, h_spot, h_polyline, h_least⟩⟩
  subst er
  have hm := hm2
  obtain ⟨v_spot, v_polyline, v_least, f_3, f_4, rfl, fr0, dm, h_spot, h_polyline, h_least⟩ := hI
  have er := hm
  exact q_ret (T := []) dm (ev_var ts h_least rfl) er (fun v H7 s7 hv => q v H7 (fr0.trans (Fr.same s7)).toSame ((tRat : Ty K Rat).sub (S := S) (H := H7) sub0 hv))
end
end G

namespace G
open PySem L2 M
section
variable {P : Program} {w : World} {K : PySem.W.Frag} {mg : Str → Option Value} {base : Heap}

def m_narrowed (d_span : (Option (Rat × Rat))) (d_start : Rat) (d_end : Rat) (d_low : Rat) (d_high : Rat) : Option (Option (Rat × Rat)) :=
  (optM d_span ((bd (some ()) fun _ => some none)) fun span_1 => (bd (bd (bd (some d_end) fun x => bd (bd (some d_start) fun x => bd (some ()) fun y => some (x, y)) fun y => some (x, y)) fun a => m_minus a.1 a.2.1) fun way_2 => (bd (bd (some way_2) fun x => bd (some (0 : Rat)) fun y => some (decide (x = y))) fun c3 => if c3 then (bd (bd (bd (bd (bd (some d_low) fun x => bd (bd (some d_start) fun x => bd (some ()) fun y => some (x, y)) fun y => some (x, y)) fun a => m_order a.1 a.2.1) fun x => bd (some (0 : Int)) fun y => some (decide (x ≤ y))) fun x => if x then (bd (bd (bd (some d_start) fun x => bd (bd (some d_high) fun x => bd (some ()) fun y => some (x, y)) fun y => some (x, y)) fun a => m_order a.1 a.2.1) fun x => bd (some (0 : Int)) fun y => some (decide (x ≤ y))) else some false) fun x => if x then (bd (some span_1) fun x => some (some x)) else (bd (some ()) fun _ => some none)) else (bd (bd (bd (bd (bd (bd (some d_low) fun x => bd (bd (some d_start) fun x => bd (some ()) fun y => some (x, y)) fun y => some (x, y)) fun a => m_minus a.1 a.2.1) fun x => bd (bd (some way_2) fun x => bd (some ()) fun y => some (x, y)) fun y => some (x, y)) fun a => m_divided a.1 a.2.1) fun x => bd (bd (bd (bd (bd (bd (some d_high) fun x => bd (bd (some d_start) fun x => bd (some ()) fun y => some (x, y)) fun y => some (x, y)) fun a => m_minus a.1 a.2.1) fun x => bd (bd (some way_2) fun x => bd (some ()) fun y => some (x, y)) fun y => some (x, y)) fun a => m_divided a.1 a.2.1) fun x => bd (some []) fun y => some (x :: y)) fun y => some (x :: y)) fun shares_4 => (bd (bd (bd (bd (some span_1) fun x => some x.1) fun x => bd (bd (bd (bd (bd (some shares_4) fun x => bd (some (0 : Int)) fun y => atI x y) fun x => bd (bd (bd (some shares_4) fun x => bd (some (1 : Int)) fun y => atI x y) fun x => bd (some ()) fun y => some (x, y)) fun y => some (x, y)) fun a => m_lesser a.1 a.2.1) fun x => bd (some ()) fun y => some (x, y)) fun y => some (x, y)) fun a => m_greater a.1 a.2.1) fun first_5 => (bd (bd (bd (bd (some span_1) fun x => some x.2) fun x => bd (bd (bd (bd (bd (some shares_4) fun x => bd (some (0 : Int)) fun y => atI x y) fun x => bd (bd (bd (some shares_4) fun x => bd (some (1 : Int)) fun y => atI x y) fun x => bd (some ()) fun y => some (x, y)) fun y => some (x, y)) fun a => m_greater a.1 a.2.1) fun x => bd (some ()) fun y => some (x, y)) fun y => some (x, y)) fun a => m_lesser a.1 a.2.1) fun last_6 => (bd (bd (bd (bd (some first_5) fun x => bd (bd (some last_6) fun x => bd (some ()) fun y => some (x, y)) fun y => some (x, y)) fun a => m_order a.1 a.2.1) fun x => bd (some (0 : Int)) fun y => some (decide (x ≤ y))) fun x => if x then (bd (bd (some first_5) fun x => bd (some last_6) fun y => some (x, y)) fun x => some (some x)) else (bd (some ()) fun _ => some none))))))))
abbrev sp_narrowed (K : PySem.W.Frag) : Sp := spF (K := K) (aCons (tOpt (tT2 tRat tRat)) (aCons tRat (aCons tRat (aCons tRat (aCons tRat aNil))))) (fun S => of (K := K) (tOpt (tT2 tRat tRat)) S) (fun a => m_narrowed a.1 a.2.1 a.2.2.1 a.2.2.2.1 a.2.2.2.2.1)
theorem ok_narrowed (ev : Env K mg) : FnOk P w K mg base CX0 4 ev.f_narrowed ev.d_narrowed p_narrowed (sp_narrowed K) := by
  refine ev.A_narrowed.F.ok sc_narrowed (fun vs H Q E h => ?_) (fun cdv A outer s H0 vs Q E hr h => ?_)
  · obtain ⟨S, ⟨d_span, d_start, d_end, d_low, d_high, _⟩, y, _, ⟨v_span, _, rfl, h_span, v_start, _, rfl, h_start, v_end, _, rfl, h_end, v_low, _, rfl, h_low, v_high, _, rfl, h_high, rfl⟩, _⟩ := h
    rfl
  obtain ⟨S, ⟨d_span, d_start, d_end, d_low, d_high, _⟩, y, dm, ⟨v_span, _, rfl, h_span, v_start, _, rfl, h_start, v_end, _, rfl, h_end, v_low, _, rfl, h_low, v_high, _, rfl, h_high, rfl⟩, hm, q⟩ := h
  have ts : Sub [] S := fun a m => by simp at m
  have fr0 := Fr.refl (T := []) H0
  have sub0 : Sub S S := fun a m => m
  refine ⟨_, (pss_cons (ps_if (pt_cmpR op_isN (pv 0) pe_non (nomark _))
    (pss_one (ps_ret pe_non)) pss_nil)
    (pss_cons (ps_set (i := 5) sc_narrowed.nd rfl (Or.inl rfl) (pe_call (ok_minus ev) (hr.mono (by decide)) (by rfl) ev.A_minus.m ev.A_minus.F.kp ev.A_minus.b .nil pass0 (pa_cons (pv 2) (pa_cons (pv 1) pa_nil))))
    (pss_cons (ps_if (pt_cmpR (op_eqD hr.units) (pv 5) (pe_glob (v := .ref ev.a_NOUGHT) (by rfl) ev.c_NOUGHT rfl) (nomark _))
    (pss_one (ps_ret (pe_ifExp (PW.pt (pw_and (pt_cmpR op_le (pe_call (ok_order ev) (hr.mono (by decide)) (by rfl) ev.A_order.m ev.A_order.F.kp ev.A_order.b .nil pass0 (pa_cons (pv 3) (pa_cons (pv 1) pa_nil))) pe_int (nomark _)) (pw_and1 (pt_cmpR op_le (pe_call (ok_order ev) (hr.mono (by decide)) (by rfl) ev.A_order.m ev.A_order.F.kp ev.A_order.b .nil pass0 (pa_cons (pv 1) (pa_cons (pv 4) pa_nil))) pe_int (nomark _))))) (pv 0) pe_non))) pss_nil)
    (pss_cons (ps_set (i := 6) sc_narrowed.nd rfl (Or.inl rfl) (pe_lst (pa_cons (pe_call (ok_divided ev) (hr.mono (by decide)) (by rfl) ev.A_divided.m ev.A_divided.F.kp ev.A_divided.b .nil pass0 (pa_cons (pe_call (ok_minus ev) (hr.mono (by decide)) (by rfl) ev.A_minus.m ev.A_minus.F.kp ev.A_minus.b .nil pass0 (pa_cons (pv 3) (pa_cons (pv 1) pa_nil))) (pa_cons (pv 5) pa_nil))) (pa_cons (pe_call (ok_divided ev) (hr.mono (by decide)) (by rfl) ev.A_divided.m ev.A_divided.F.kp ev.A_divided.b .nil pass0 (pa_cons (pe_call (ok_minus ev) (hr.mono (by decide)) (by rfl) ev.A_minus.m ev.A_minus.F.kp ev.A_minus.b .nil pass0 (pa_cons (pv 4) (pa_cons (pv 1) pa_nil))) (pa_cons (pv 5) pa_nil))) pa_nil))))
    (pss_cons (ps_set (i := 7) sc_narrowed.nd rfl (Or.inl rfl) (pe_call (ok_greater ev) (hr.mono (by decide)) (by rfl) ev.A_greater.m ev.A_greater.F.kp ev.A_greater.b .nil pass0 (pa_cons (pe_ix ix_tup (pv 0) pe_int (fun _ _ => rfl)) (pa_cons (pe_call (ok_lesser ev) (hr.mono (by decide)) (by rfl) ev.A_lesser.m ev.A_lesser.F.kp ev.A_lesser.b .nil pass0 (pa_cons (pe_ix ix_list (pv 6) pe_int (fun _ _ => rfl)) (pa_cons (pe_ix ix_list (pv 6) pe_int (fun _ _ => rfl)) pa_nil))) pa_nil))))
    (pss_cons (ps_set (i := 8) sc_narrowed.nd rfl (Or.inl rfl) (pe_call (ok_lesser ev) (hr.mono (by decide)) (by rfl) ev.A_lesser.m ev.A_lesser.F.kp ev.A_lesser.b .nil pass0 (pa_cons (pe_ix ix_tup (pv 0) pe_int (fun _ _ => rfl)) (pa_cons (pe_call (ok_greater ev) (hr.mono (by decide)) (by rfl) ev.A_greater.m ev.A_greater.F.kp ev.A_greater.b .nil pass0 (pa_cons (pe_ix ix_list (pv 6) pe_int (fun _ _ => rfl)) (pa_cons (pe_ix ix_list (pv 6) pe_int (fun _ _ => rfl)) pa_nil))) pa_nil))))
    (pss_one (ps_ret (pe_ifExp (pt_cmpR op_le (pe_call (ok_order ev) (hr.mono (by decide)) (by rfl) ev.A_order.m ev.A_order.F.kp ev.A_order.b .nil pass0 (pa_cons (pv 7) (pa_cons (pv 8) pa_nil))) pe_int (nomark _)) (pe_tup (pa_cons (pv 7) (pa_cons (pv 8) pa_nil))) pe_non))))))))), ?_⟩
  dsimp only [m_narrowed] at hm
  rcases opt_cases hm with ⟨eo1, hm⟩ | ⟨span_1, eo1, hm⟩
  · skip
    refine q_if (T := []) (b := true) dm (eb_isN (a := ((tT2 tRat tRat) : Ty K (Rat × Rat))) ts h_span rfl) (by rw [eo1]; rfl) (fun hc H1 s1 => ?_) (fun hc H1 s1 => by cases hc)
    have fr0 := fr0.trans (Fr.same s1)
    have dm := dm.same s1
    have h_span := ((tOpt (tT2 tRat tRat)) : Ty K (Option (Rat × Rat))).mono (S := S) (Fr.same s1) h_span
    have h_start := (tRat : Ty K Rat).mono (S := S) (Fr.same s1) h_start
    have h_end := (tRat : Ty K Rat).mono (S := S) (Fr.same s1) h_end
    have h_low := (tRat : Ty K Rat).mono (S := S) (Fr.same s1) h_low
    have h_high := (tRat : Ty K Rat).mono (S := S) (Fr.same s1) h_high
    have er := hm
    exact q_ret (T := []) dm (ev_oN (a := ((tT2 tRat tRat) : Ty K (Rat × Rat))) (ev_none (K := K))) er (fun v H7 s7 hv => q v H7 (fr0.trans (Fr.same s7)).toSame (((tOpt (tT2 tRat tRat)) : Ty K (Option (Rat × Rat))).sub (S := S) (H := H7) sub0 hv))
  · skip
    refine q_if (T := []) (b := false) dm (eb_isN (a := ((tT2 tRat tRat) : Ty K (Rat × Rat))) ts h_span rfl) (by rw [eo1]; rfl) (fun hc H1 s1 => by cases hc) (fun hc H1 s1 => ?_)
    have fr0 := fr0.trans (Fr.same s1)
    have dm := dm.same s1
    have h_span := ((tOpt (tT2 tRat tRat)) : Ty K (Option (Rat × Rat))).mono (S := S) (Fr.same s1) h_span
    have h_start := (tRat : Ty K Rat).mono (S := S) (Fr.same s1) h_start
    have h_end := (tRat : Ty K Rat).mono (S := S) (Fr.same s1) h_end
    have h_low := (tRat : Ty K Rat).mono (S := S) (Fr.same s1) h_low
    have h_high := (tRat : Ty K Rat).mono (S := S) (Fr.same s1) h_high
    have h_span := opt_is (a := ((tT2 tRat tRat) : Ty K (Rat × Rat))) (S := S) h_span eo1
    refine q_next ?_
    obtain ⟨way_2, e2, hm⟩ := bd_some hm
    refine q_asg (T := []) dm (ev_call (ea_cons (ev_var ts h_end rfl) (ea_cons (ev_var ts h_start rfl) ea_nil))) e2 (fun v_way H2 s2 h_way => ?_)
    have fr0 := fr0.trans (Fr.same s2)
    have dm := dm.same s2
    have h_span := ((tT2 tRat tRat) : Ty K (Rat × Rat)).mono (S := S) (Fr.same s2) h_span
    have h_start := (tRat : Ty K Rat).mono (S := S) (Fr.same s2) h_start
    have h_end := (tRat : Ty K Rat).mono (S := S) (Fr.same s2) h_end
    have h_low := (tRat : Ty K Rat).mono (S := S) (Fr.same s2) h_low
    have h_high := (tRat : Ty K Rat).mono (S := S) (Fr.same s2) h_high
    have h_way : (tRat : Ty K Rat).rp S H2 v_way way_2 := h_way
    obtain ⟨c3, e3, hm⟩ := bd_some hm
    refine q_if (T := []) dm (eb_test (K := K) (ev_op (od_eqD (K := K) dRat (Nat.le_of_ble_eq_true rfl)) (ev_var ts h_way rfl) (ev_c (a := tRat) fun H => ⟨_, rfl, .inr (ev.q_NOUGHT _)⟩))) e3 (fun hc H3 s3 => ?_) (fun hc H3 s3 => ?_)
    · skip
      subst hc
      have hm := if_t hm
      have fr0 := fr0.trans (Fr.same s3)
      have dm := dm.same s3
      have h_span := ((tT2 tRat tRat) : Ty K (Rat × Rat)).mono (S := S) (Fr.same s3) h_span
      have h_start := (tRat : Ty K Rat).mono (S := S) (Fr.same s3) h_start
      have h_end := (tRat : Ty K Rat).mono (S := S) (Fr.same s3) h_end
      have h_low := (tRat : Ty K Rat).mono (S := S) (Fr.same s3) h_low
      have h_high := (tRat : Ty K Rat).mono (S := S) (Fr.same s3) h_high
      have h_way := (tRat : Ty K Rat).mono (S := S) (Fr.same s3) h_way
      have er := hm
      exact q_ret (T := []) dm (ev_if (eb_and (eb_test (K := K) (ev_op (od_le (K := K)) (ev_call (ea_cons (ev_var ts h_low rfl) (ea_cons (ev_var ts h_start rfl) ea_nil))) (ev_int (K := K)))) (eb_test (K := K) (ev_op (od_le (K := K)) (ev_call (ea_cons (ev_var ts h_start rfl) (ea_cons (ev_var ts h_high rfl) ea_nil))) (ev_int (K := K))))) (ev_oS (ev_var ts h_span rfl)) (ev_oN (a := ((tT2 tRat tRat) : Ty K (Rat × Rat))) (ev_none (K := K)))) er (fun v H8 s8 hv => q v H8 (fr0.trans (Fr.same s8)).toSame (((tOpt (tT2 tRat tRat)) : Ty K (Option (Rat × Rat))).sub (S := S) (H := H8) sub0 hv))
    subst hc
    have hm := if_f hm
    have fr0 := fr0.trans (Fr.same s3)
    have dm := dm.same s3
    have h_span := ((tT2 tRat tRat) : Ty K (Rat × Rat)).mono (S := S) (Fr.same s3) h_span
    have h_start := (tRat : Ty K Rat).mono (S := S) (Fr.same s3) h_start
    have h_end := (tRat : Ty K Rat).mono (S := S) (Fr.same s3) h_end
    have h_low := (tRat : Ty K Rat).mono (S := S) (Fr.same s3) h_low
    have h_high := (tRat : Ty K Rat).mono (S := S) (Fr.same s3) h_high
    have h_way := (tRat : Ty K Rat).mono (S := S) (Fr.same s3) h_way
    refine q_next ?_
    obtain ⟨shares_4, e4, hm⟩ := bd_some hm
    refine q_asg (T := []) dm (ev_new (ev_lst (el_cons (ev_call (ea_cons (ev_call (ea_cons (ev_var ts h_low rfl) (ea_cons (ev_var ts h_start rfl) ea_nil))) (ea_cons (ev_var ts h_way rfl) ea_nil))) (el_cons (ev_call (ea_cons (ev_call (ea_cons (ev_var ts h_high rfl) (ea_cons (ev_var ts h_start rfl) ea_nil))) (ea_cons (ev_var ts h_way rfl) ea_nil))) el_nil)) (by decide))) e4 (fun v_shares H4 s4 h_shares => ?_)
    have fr0 := fr0.trans (Fr.same s4)
    have dm := dm.same s4
    have h_span := ((tT2 tRat tRat) : Ty K (Rat × Rat)).mono (S := S) (Fr.same s4) h_span
    have h_start := (tRat : Ty K Rat).mono (S := S) (Fr.same s4) h_start
    have h_end := (tRat : Ty K Rat).mono (S := S) (Fr.same s4) h_end
    have h_low := (tRat : Ty K Rat).mono (S := S) (Fr.same s4) h_low
    have h_high := (tRat : Ty K Rat).mono (S := S) (Fr.same s4) h_high
    have h_way := (tRat : Ty K Rat).mono (S := S) (Fr.same s4) h_way
    have h_shares : ((tL tRat) : Ty K (List Rat)).rp S H4 v_shares shares_4 := h_shares
    obtain ⟨first_5, e5, hm⟩ := bd_some hm
    refine q_asg (T := []) dm (ev_call (ea_cons (ev_ix20 (ev_var ts h_span rfl)) (ea_cons (ev_call (ea_cons (ev_op od_ixL (ev_var ts h_shares rfl) (ev_int (K := K))) (ea_cons (ev_op od_ixL (ev_var ts h_shares rfl) (ev_int (K := K))) ea_nil))) ea_nil))) e5 (fun v_first H5 s5 h_first => ?_)
    have fr0 := fr0.trans (Fr.same s5)
    have dm := dm.same s5
    have h_span := ((tT2 tRat tRat) : Ty K (Rat × Rat)).mono (S := S) (Fr.same s5) h_span
    have h_start := (tRat : Ty K Rat).mono (S := S) (Fr.same s5) h_start
    have h_end := (tRat : Ty K Rat).mono (S := S) (Fr.same s5) h_end
    have h_low := (tRat : Ty K Rat).mono (S := S) (Fr.same s5) h_low
    have h_high := (tRat : Ty K Rat).mono (S := S) (Fr.same s5) h_high
    have h_way := (tRat : Ty K Rat).mono (S := S) (Fr.same s5) h_way
    have h_shares := ((tL tRat) : Ty K (List Rat)).mono (S := S) (Fr.same s5) h_shares
    have h_first : (tRat : Ty K Rat).rp S H5 v_first first_5 := h_first
    obtain ⟨last_6, e6, hm⟩ := bd_some hm
    refine q_asg (T := []) dm (ev_call (ea_cons (ev_ix21 (ev_var ts h_span rfl)) (ea_cons (ev_call (ea_cons (ev_op od_ixL (ev_var ts h_shares rfl) (ev_int (K := K))) (ea_cons (ev_op od_ixL (ev_var ts h_shares rfl) (ev_int (K := K))) ea_nil))) ea_nil))) e6 (fun v_last H6 s6 h_last => ?_)
    have fr0 := fr0.trans (Fr.same s6)
    have dm := dm.same s6
    have h_span := ((tT2 tRat tRat) : Ty K (Rat × Rat)).mono (S := S) (Fr.same s6) h_span
    have h_start := (tRat : Ty K Rat).mono (S := S) (Fr.same s6) h_start
    have h_end := (tRat : Ty K Rat).mono (S := S) (Fr.same s6) h_end
    have h_low := (tRat : Ty K Rat).mono (S := S) (Fr.same s6) h_low
    have h_high := (tRat : Ty K Rat).mono (S := S) (Fr.same s6) h_high
    have h_way := (tRat : Ty K Rat).mono (S := S) (Fr.same s6) h_way
    have h_shares := ((tL tRat) : Ty K (List Rat)).mono (S := S) (Fr.same s6) h_shares
    have h_first := (tRat : Ty K Rat).mono (S := S) (Fr.same s6) h_first
    have h_last : (tRat : Ty K Rat).rp S H6 v_last last_6 := h_last
    have er := hm
    exact q_ret (T := []) dm (ev_if (eb_test (K := K) (ev_op (od_le (K := K)) (ev_call (ea_cons (ev_var ts h_first rfl) (ea_cons (ev_var ts h_last rfl) ea_nil))) (ev_int (K := K)))) (ev_oS (ev_tup2 (ev_var ts h_first rfl) (ev_var ts h_last rfl))) (ev_oN (a := ((tT2 tRat tRat) : Ty K (Rat × Rat))) (ev_none (K := K)))) er (fun v H9 s9 hv => q v H9 (fr0.trans (Fr.same s9)).toSame (((tOpt (tT2 tRat tRat)) : Ty K (Option (Rat × Rat))).sub (S := S) (H := H9) sub0 hv))
def m_off_side (d_piece : ((Rat × Rat) × (Rat × Rat))) (d_spot : (Rat × Rat)) : Option Rat :=
  (bd (some d_piece) fun u_1 => (bd (bd (bd (bd (bd (bd (bd (some u_1.2) fun x => some x.1) fun x => bd (bd (bd (some u_1.1) fun x => some x.1) fun x => bd (some ()) fun y => some (x, y)) fun y => some (x, y)) fun a => m_minus a.1 a.2.1) fun x => bd (bd (bd (bd (bd (some d_spot) fun x => some x.2) fun x => bd (bd (bd (some u_1.1) fun x => some x.2) fun x => bd (some ()) fun y => some (x, y)) fun y => some (x, y)) fun a => m_minus a.1 a.2.1) fun x => bd (some ()) fun y => some (x, y)) fun y => some (x, y)) fun a => m_times a.1 a.2.1) fun x => bd (bd (bd (bd (bd (bd (bd (some u_1.2) fun x => some x.2) fun x => bd (bd (bd (some u_1.1) fun x => some x.2) fun x => bd (some ()) fun y => some (x, y)) fun y => some (x, y)) fun a => m_minus a.1 a.2.1) fun x => bd (bd (bd (bd (bd (some d_spot) fun x => some x.1) fun x => bd (bd (bd (some u_1.1) fun x => some x.1) fun x => bd (some ()) fun y => some (x, y)) fun y => some (x, y)) fun a => m_minus a.1 a.2.1) fun x => bd (some ()) fun y => some (x, y)) fun y => some (x, y)) fun a => m_times a.1 a.2.1) fun x => bd (some ()) fun y => some (x, y)) fun y => some (x, y)) fun a => m_minus a.1 a.2.1))
abbrev sp_off_side (K : PySem.W.Frag) : Sp := spF (K := K) (aCons (tT2 (tT2 tRat tRat) (tT2 tRat tRat)) (aCons (tT2 tRat tRat) aNil)) (fun S => of (K := K) tRat S) (fun a => m_off_side a.1 a.2.1)
theorem ok_off_side (ev : Env K mg) : FnOk P w K mg base CX0 4 ev.f_off_side ev.d_off_side p_off_side (sp_off_side K) := by
  refine ev.A_off_side.F.ok sc_off_side (fun vs H Q E h => ?_) (fun cdv A outer s H0 vs Q E hr h => ?_)
  · obtain ⟨S, ⟨d_piece, d_spot, _⟩, y, _, ⟨v_piece, _, rfl, h_piece, v_spot, _, rfl, h_spot, rfl⟩, _⟩ := h
    rfl
  obtain ⟨S, ⟨d_piece, d_spot, _⟩, y, dm, ⟨v_piece, _, rfl, h_piece, v_spot, _, rfl, h_spot, rfl⟩, hm, q⟩ := h
  have ts : Sub [] S := fun a m => by simp at m
  have fr0 := Fr.refl (T := []) H0
  have sub0 : Sub S S := fun a m => m
  refine ⟨_, (pss_cons (ps_asg (pv 0) (pg_tup rfl (pgs_cons (pg_name (i := 2) sc_off_side.nd rfl (Or.inl rfl)) (pgs_cons (pg_name (i := 3) sc_off_side.nd rfl (Or.inl rfl)) pgs_nil))))
    (pss_one (ps_ret (pe_call (ok_minus ev) (hr.mono (by decide)) (by rfl) ev.A_minus.m ev.A_minus.F.kp ev.A_minus.b .nil pass0 (pa_cons (pe_call (ok_times ev) (hr.mono (by decide)) (by rfl) ev.A_times.m ev.A_times.F.kp ev.A_times.b .nil pass0 (pa_cons (pe_call (ok_minus ev) (hr.mono (by decide)) (by rfl) ev.A_minus.m ev.A_minus.F.kp ev.A_minus.b .nil pass0 (pa_cons (pe_ix ix_tup (pv 3) pe_int (fun _ _ => rfl)) (pa_cons (pe_ix ix_tup (pv 2) pe_int (fun _ _ => rfl)) pa_nil))) (pa_cons (pe_call (ok_minus ev) (hr.mono (by decide)) (by rfl) ev.A_minus.m ev.A_minus.F.kp ev.A_minus.b .nil pass0 (pa_cons (pe_ix ix_tup (pv 1) pe_int (fun _ _ => rfl)) (pa_cons (pe_ix ix_tup (pv 2) pe_int (fun _ _ => rfl)) pa_nil))) pa_nil))) (pa_cons (pe_call (ok_times ev) (hr.mono (by decide)) (by rfl) ev.A_times.m ev.A_times.F.kp ev.A_times.b .nil pass0 (pa_cons (pe_call (ok_minus ev) (hr.mono (by decide)) (by rfl) ev.A_minus.m ev.A_minus.F.kp ev.A_minus.b .nil pass0 (pa_cons (pe_ix ix_tup (pv 3) pe_int (fun _ _ => rfl)) (pa_cons (pe_ix ix_tup (pv 2) pe_int (fun _ _ => rfl)) pa_nil))) (pa_cons (pe_call (ok_minus ev) (hr.mono (by decide)) (by rfl) ev.A_minus.m ev.A_minus.F.kp ev.A_minus.b .nil pass0 (pa_cons (pe_ix ix_tup (pv 1) pe_int (fun _ _ => rfl)) (pa_cons (pe_ix ix_tup (pv 2) pe_int (fun _ _ => rfl)) pa_nil))) pa_nil))) pa_nil)))))), ?_⟩
  dsimp only [m_off_side] at hm
  obtain ⟨u_1, e1, hm⟩ := bd_some hm
  refine q_unp2 (T := []) dm (ev_var ts h_piece rfl) e1 (fun v_start v_end H1 s1 h_start h_end => ?_)
  have fr0 := fr0.trans (Fr.same s1)
  have dm := dm.same s1
  have h_piece := ((tT2 (tT2 tRat tRat) (tT2 tRat tRat)) : Ty K ((Rat × Rat) × (Rat × Rat))).mono (S := S) (Fr.same s1) h_piece
  have h_spot := ((tT2 tRat tRat) : Ty K (Rat × Rat)).mono (S := S) (Fr.same s1) h_spot
  have er := hm
  exact q_ret (T := []) dm (ev_call (ea_cons (ev_call (ea_cons (ev_call (ea_cons (ev_ix20 (ev_var ts h_end rfl)) (ea_cons (ev_ix20 (ev_var ts h_start rfl)) ea_nil))) (ea_cons (ev_call (ea_cons (ev_ix21 (ev_var ts h_spot rfl)) (ea_cons (ev_ix21 (ev_var ts h_start rfl)) ea_nil))) ea_nil))) (ea_cons (ev_call (ea_cons (ev_call (ea_cons (ev_ix21 (ev_var ts h_end rfl)) (ea_cons (ev_ix21 (ev_var ts h_start rfl)) ea_nil))) (ea_cons (ev_call (ea_cons (ev_ix20 (ev_var ts h_spot rfl)) (ea_cons (ev_ix20 (ev_var ts h_start rfl)) ea_nil))) ea_nil))) ea_nil))) er (fun v H2 s2 hv => q v H2 (fr0.trans (Fr.same s2)).toSame ((tRat : Ty K Rat).sub (S := S) (H := H2) sub0 hv))
def m_span_near (d_piece : ((Rat × Rat) × (Rat × Rat))) (d_other : ((Rat × Rat) × (Rat × Rat))) (d_slack : Rat) : Option (Option (Rat × Rat)) :=
  (bd (bd (bd (some (0 : Rat)) fun x => bd (some (1 : Rat)) fun y => some (x, y)) fun x => some (some x)) fun span_1 => (bd (bd (bd (some (0 : Int)) fun x => bd (some (1 : Int)) fun y => some (x, y)) fun x => some [x.1, x.2]) fun xs8 => bd (loopC (ρ := (Option (Rat × Rat))) (fun s_2 way_2 => (bd (bd (bd (bd (bd (bd (bd (some d_other) fun x => some x.1) fun x => bd (some way_2) fun y => at2 x y) fun x => bd (bd (bd (bd (some d_other) fun x => some x.2) fun x => bd (some way_2) fun y => at2 x y) fun x => bd (some ()) fun y => some (x, y)) fun y => some (x, y)) fun a => m_lesser a.1 a.2.1) fun x => bd (bd (some d_slack) fun x => bd (some ()) fun y => some (x, y)) fun y => some (x, y)) fun a => m_minus a.1 a.2.1) fun low_3 => (bd (bd (bd (bd (bd (bd (bd (some d_other) fun x => some x.1) fun x => bd (some way_2) fun y => at2 x y) fun x => bd (bd (bd (bd (some d_other) fun x => some x.2) fun x => bd (some way_2) fun y => at2 x y) fun x => bd (some ()) fun y => some (x, y)) fun y => some (x, y)) fun a => m_greater a.1 a.2.1) fun x => bd (bd (some d_slack) fun x => bd (some ()) fun y => some (x, y)) fun y => some (x, y)) fun a => m_plus a.1 a.2.1) fun high_4 => (bd (bd (bd (some s_2) fun x => bd (bd (bd (bd (some d_piece) fun x => some x.1) fun x => bd (some way_2) fun y => at2 x y) fun x => bd (bd (bd (bd (some d_piece) fun x => some x.2) fun x => bd (some way_2) fun y => at2 x y) fun x => bd (bd (some low_3) fun x => bd (bd (some high_4) fun x => bd (some ()) fun y => some (x, y)) fun y => some (x, y)) fun y => some (x, y)) fun y => some (x, y)) fun y => some (x, y)) fun a => m_narrowed a.1 a.2.1 a.2.2.1 a.2.2.2.1 a.2.2.2.2.1) fun span_5 => some (Ct.go span_5))))) xs8 span_1) fun r_2 => match r_2 with | .ret y => some y | .go t_2 => (optM t_2 ((bd (some ()) fun _ => some none)) fun span_6 => (bd (bd (bd (some d_slack) fun x => bd (bd (bd (bd (bd (some d_other) fun x => some x.1) fun x => bd (bd (bd (some d_other) fun x => some x.2) fun x => bd (some ()) fun y => some (x, y)) fun y => some (x, y)) fun a => m_stretch a.1 a.2.1) fun x => bd (some ()) fun y => some (x, y)) fun y => some (x, y)) fun a => m_times a.1 a.2.1) fun room_7 => (bd (bd (bd (some span_6) fun x => some (some x)) fun x => bd (bd (bd (bd (some d_other) fun x => bd (bd (bd (some d_piece) fun x => some x.1) fun x => bd (some ()) fun y => some (x, y)) fun y => some (x, y)) fun a => m_off_side a.1 a.2.1) fun x => bd (bd (bd (bd (some d_other) fun x => bd (bd (bd (some d_piece) fun x => some x.2) fun x => bd (some ()) fun y => some (x, y)) fun y => some (x, y)) fun a => m_off_side a.1 a.2.1) fun x => bd (bd (bd (bd (some (0 : Rat)) fun x => bd (bd (some room_7) fun x => bd (some ()) fun y => some (x, y)) fun y => some (x, y)) fun a => m_minus a.1 a.2.1) fun x => bd (bd (some room_7) fun x => bd (some ()) fun y => some (x, y)) fun y => some (x, y)) fun y => some (x, y)) fun y => some (x, y)) fun y => some (x, y)) fun a => m_narrowed a.1 a.2.1 a.2.2.1 a.2.2.2.1 a.2.2.2.2.1))) | .brk _ => none))
abbrev sp_span_near (K : PySem.W.Frag) : Sp := spF (K := K) (aCons (tT2 (tT2 tRat tRat) (tT2 tRat tRat)) (aCons (tT2 (tT2 tRat tRat) (tT2 tRat tRat)) (aCons tRat aNil))) (fun S => of (K := K) (tOpt (tT2 tRat tRat)) S) (fun a => m_span_near a.1 a.2.1 a.2.2.1)
theorem ok_span_near (ev : Env K mg) : FnOk P w K mg base CX0 5 ev.f_span_near ev.d_span_near p_span_near (sp_span_near K) := by
  refine ev.A_span_near.F.ok sc_span_near (fun vs H Q E h => ?_) (fun cdv A outer s H0 vs Q E hr h => ?_)
  · obtain ⟨S, ⟨d_piece, d_other, d_slack, _⟩, y, _, ⟨v_piece, _, rfl, h_piece, v_other, _, rfl, h_other, v_slack, _, rfl, h_slack, rfl⟩, _⟩ := h
    rfl
  obtain ⟨S, ⟨d_piece, d_other, d_slack, _⟩, y, dm, ⟨v_piece, _, rfl, h_piece, v_other, _, rfl, h_other, v_slack, _, rfl, h_slack, rfl⟩, hm, q⟩ := h
  have ts : Sub [] S := fun a m => by simp at m
  have fr0 := Fr.refl (T := []) H0
  have sub0 : Sub S S := fun a m => m
  refine ⟨_, (pss_cons (ps_set (i := 3) sc_span_near.nd rfl (Or.inl rfl) (pe_tup (pa_cons (pe_glob (v := .ref ev.a_NOUGHT) (by rfl) ev.c_NOUGHT rfl) (pa_cons (pe_glob (v := .ref ev.a_ONE) (by rfl) ev.c_ONE rfl) pa_nil))))
    (pss_cons (ps_for PassesOwn.never rfl (pi_tup (pe_tup (pa_cons pe_int (pa_cons pe_int pa_nil)))) (pg_name (i := 4) sc_span_near.nd rfl (Or.inl rfl))
    (pss_cons (ps_set (i := 5) sc_span_near.nd rfl (Or.inl rfl) (pe_call (ok_minus ev) (hr.mono (by decide)) (by rfl) ev.A_minus.m ev.A_minus.F.kp ev.A_minus.b .nil pass0 (pa_cons (pe_call (ok_lesser ev) (hr.mono (by decide)) (by rfl) ev.A_lesser.m ev.A_lesser.F.kp ev.A_lesser.b .nil pass0 (pa_cons (pe_ix ix_tup (pe_ix ix_tup (pv 1) pe_int (fun _ _ => rfl)) (pv 4) (fun _ _ => rfl)) (pa_cons (pe_ix ix_tup (pe_ix ix_tup (pv 1) pe_int (fun _ _ => rfl)) (pv 4) (fun _ _ => rfl)) pa_nil))) (pa_cons (pv 2) pa_nil))))
    (pss_cons (ps_set (i := 6) sc_span_near.nd rfl (Or.inl rfl) (pe_call (ok_plus ev) (hr.mono (by decide)) (by rfl) ev.A_plus.m ev.A_plus.F.kp ev.A_plus.b .nil pass0 (pa_cons (pe_call (ok_greater ev) (hr.mono (by decide)) (by rfl) ev.A_greater.m ev.A_greater.F.kp ev.A_greater.b .nil pass0 (pa_cons (pe_ix ix_tup (pe_ix ix_tup (pv 1) pe_int (fun _ _ => rfl)) (pv 4) (fun _ _ => rfl)) (pa_cons (pe_ix ix_tup (pe_ix ix_tup (pv 1) pe_int (fun _ _ => rfl)) (pv 4) (fun _ _ => rfl)) pa_nil))) (pa_cons (pv 2) pa_nil))))
    (pss_one (ps_set (i := 3) sc_span_near.nd rfl (Or.inl rfl) (pe_call (ok_narrowed ev) (hr.mono (by decide)) (by rfl) ev.A_narrowed.m ev.A_narrowed.F.kp ev.A_narrowed.b .nil pass0 (pa_cons (pv 3) (pa_cons (pe_ix ix_tup (pe_ix ix_tup (pv 0) pe_int (fun _ _ => rfl)) (pv 4) (fun _ _ => rfl)) (pa_cons (pe_ix ix_tup (pe_ix ix_tup (pv 0) pe_int (fun _ _ => rfl)) (pv 4) (fun _ _ => rfl)) (pa_cons (pv 5) (pa_cons (pv 6) pa_nil)))))))))))
    (pss_cons (ps_if (pt_cmpR op_isN (pv 3) pe_non (nomark _))
    (pss_one (ps_ret pe_non)) pss_nil)
    (pss_cons (ps_set (i := 7) sc_span_near.nd rfl (Or.inl rfl) (pe_call (ok_times ev) (hr.mono (by decide)) (by rfl) ev.A_times.m ev.A_times.F.kp ev.A_times.b .nil pass0 (pa_cons (pv 2) (pa_cons (pe_call (ok_stretch ev) (hr.mono (by decide)) (by rfl) ev.A_stretch.m ev.A_stretch.F.kp ev.A_stretch.b .nil pass0 (pa_cons (pe_ix ix_tup (pv 1) pe_int (fun _ _ => rfl)) (pa_cons (pe_ix ix_tup (pv 1) pe_int (fun _ _ => rfl)) pa_nil))) pa_nil))))
    (pss_one (ps_ret (pe_call (ok_narrowed ev) (hr.mono (by decide)) (by rfl) ev.A_narrowed.m ev.A_narrowed.F.kp ev.A_narrowed.b .nil pass0 (pa_cons (pv 3) (pa_cons (pe_call (ok_off_side ev) (hr.mono (by decide)) (by rfl) ev.A_off_side.m ev.A_off_side.F.kp ev.A_off_side.b .nil pass0 (pa_cons (pv 1) (pa_cons (pe_ix ix_tup (pv 0) pe_int (fun _ _ => rfl)) pa_nil))) (pa_cons (pe_call (ok_off_side ev) (hr.mono (by decide)) (by rfl) ev.A_off_side.m ev.A_off_side.F.kp ev.A_off_side.b .nil pass0 (pa_cons (pv 1) (pa_cons (pe_ix ix_tup (pv 0) pe_int (fun _ _ => rfl)) pa_nil))) (pa_cons (pe_call (ok_minus ev) (hr.mono (by decide)) (by rfl) ev.A_minus.m ev.A_minus.F.kp ev.A_minus.b .nil pass0 (pa_cons (pe_glob (v := .ref ev.a_NOUGHT) (by rfl) ev.c_NOUGHT rfl) (pa_cons (pv 7) pa_nil))) (pa_cons (pv 7) pa_nil)))))))))))), ?_⟩
  dsimp only [m_span_near] at hm
  obtain ⟨span_1, e1, hm⟩ := bd_some hm
  refine q_asg (T := []) dm (ev_oS (ev_tup2 (ev_c (a := tRat) fun H => ⟨_, rfl, .inr (ev.q_NOUGHT _)⟩) (ev_c (a := tRat) fun H => ⟨_, rfl, .inr (ev.q_ONE _)⟩))) e1 (fun v_span H1 s1 h_span => ?_)
  have fr0 := fr0.trans (Fr.same s1)
  have dm := dm.same s1
  have h_piece := ((tT2 (tT2 tRat tRat) (tT2 tRat tRat)) : Ty K ((Rat × Rat) × (Rat × Rat))).mono (S := S) (Fr.same s1) h_piece
  have h_other := ((tT2 (tT2 tRat tRat) (tT2 tRat tRat)) : Ty K ((Rat × Rat) × (Rat × Rat))).mono (S := S) (Fr.same s1) h_other
  have h_slack := (tRat : Ty K Rat).mono (S := S) (Fr.same s1) h_slack
  have h_span : ((tOpt (tT2 tRat tRat)) : Ty K (Option (Rat × Rat))).rp S H1 v_span span_1 := h_span
  obtain ⟨xs8, e_xs8, hm⟩ := bd_some hm
  obtain ⟨r_2, el2, hm2⟩ := bd_some hm
  refine q_for_s (T := []) dm (sr_t2 (ev_tup2 (ev_int (K := K)) (ev_int (K := K)))) e_xs8 el2 (fun s_2 σ' H' => ∃ v_piece : V, ∃ v_other : V, ∃ v_slack : V, ∃ v_span : V, ∃ f_4 : Option V, ∃ f_5 : Option V, ∃ f_6 : Option V, ∃ f_7 : Option V, σ' = [some v_piece, some v_other, some v_slack, some v_span, f_4, f_5, f_6, f_7] ∧ Fr [] H0 H' ∧ Dom S H' ∧ ((tT2 (tT2 tRat tRat) (tT2 tRat tRat)) : Ty K ((Rat × Rat) × (Rat × Rat))).rp S H' v_piece d_piece ∧ ((tT2 (tT2 tRat tRat) (tT2 tRat tRat)) : Ty K ((Rat × Rat) × (Rat × Rat))).rp S H' v_other d_other ∧ (tRat : Ty K Rat).rp S H' v_slack d_slack ∧ ((tOpt (tT2 tRat tRat)) : Ty K (Option (Rat × Rat))).rp S H' v_span s_2) (fun H2 s2 => ?_) (fun hd2 s_2 way_2 cr2 v_way σ' H' hI h_way hx2 hm hret2 hbrk2 => ?_) (fun t_2 σ' H' er hI => ?_)
  · skip
    have fr0 := fr0.trans (Fr.same s2)
    have dm := dm.same s2
    have h_piece := ((tT2 (tT2 tRat tRat) (tT2 tRat tRat)) : Ty K ((Rat × Rat) × (Rat × Rat))).mono (S := S) (Fr.same s2) h_piece
    have h_other := ((tT2 (tT2 tRat tRat) (tT2 tRat tRat)) : Ty K ((Rat × Rat) × (Rat × Rat))).mono (S := S) (Fr.same s2) h_other
    have h_slack := (tRat : Ty K Rat).mono (S := S) (Fr.same s2) h_slack
    have h_span := ((tOpt (tT2 tRat tRat)) : Ty K (Option (Rat × Rat))).mono (S := S) (Fr.same s2) h_span
    exact ⟨v_piece, v_other, v_slack, v_span, _, _, _, _, rfl, fr0, dm, h_piece, h_other, h_slack, h_span⟩
  · skip
    obtain ⟨v_piece, v_other, v_slack, v_span, f_4, f_5, f_6, f_7, rfl, fr0, dm, h_piece, h_other, h_slack, h_span⟩ := hI
    let HL := H'
    have freshl : ∀ a ∈ S, a ∉ S → H' a = none := fun a m n => absurd m n
    have frl : Fr S HL H' := Fr.refl (T := S) H'
    have tsl := ts
    have subl : Sub S S := fun a m => m
    have h_way : (tInt : Ty K Int).rp S H' v_way way_2 := h_way
    obtain ⟨low_3, e3, hm⟩ := bd_some hm
    refine q_asg (T := []) dm (ev_call (ea_cons (ev_call (ea_cons (ev_op od_ix2 (ev_ix20 (ev_var ts h_other rfl)) (ev_var ts h_way rfl)) (ea_cons (ev_op od_ix2 (ev_ix21 (ev_var ts h_other rfl)) (ev_var ts h_way rfl)) ea_nil))) (ea_cons (ev_var ts h_slack rfl) ea_nil))) e3 (fun v_low H3 s3 h_low => ?_)
    have fr0 := fr0.trans (Fr.same s3)
    have dm := dm.same s3
    have frl := frl.trans (Fr.same s3)
    have h_piece := ((tT2 (tT2 tRat tRat) (tT2 tRat tRat)) : Ty K ((Rat × Rat) × (Rat × Rat))).mono (S := S) (Fr.same s3) h_piece
    have h_other := ((tT2 (tT2 tRat tRat) (tT2 tRat tRat)) : Ty K ((Rat × Rat) × (Rat × Rat))).mono (S := S) (Fr.same s3) h_other
    have h_slack := (tRat : Ty K Rat).mono (S := S) (Fr.same s3) h_slack
    have h_span := ((tOpt (tT2 tRat tRat)) : Ty K (Option (Rat × Rat))).mono (S := S) (Fr.same s3) h_span
    have h_way := (tInt : Ty K Int).mono (S := S) (Fr.same s3) h_way
    have h_low : (tRat : Ty K Rat).rp S H3 v_low low_3 := h_low
    obtain ⟨high_4, e4, hm⟩ := bd_some hm
    refine q_asg (T := []) dm (ev_call (ea_cons (ev_call (ea_cons (ev_op od_ix2 (ev_ix20 (ev_var ts h_other rfl)) (ev_var ts h_way rfl)) (ea_cons (ev_op od_ix2 (ev_ix21 (ev_var ts h_other rfl)) (ev_var ts h_way rfl)) ea_nil))) (ea_cons (ev_var ts h_slack rfl) ea_nil))) e4 (fun v_high H4 s4 h_high => ?_)
    have fr0 := fr0.trans (Fr.same s4)
    have dm := dm.same s4
    have frl := frl.trans (Fr.same s4)
    have h_piece := ((tT2 (tT2 tRat tRat) (tT2 tRat tRat)) : Ty K ((Rat × Rat) × (Rat × Rat))).mono (S := S) (Fr.same s4) h_piece
    have h_other := ((tT2 (tT2 tRat tRat) (tT2 tRat tRat)) : Ty K ((Rat × Rat) × (Rat × Rat))).mono (S := S) (Fr.same s4) h_other
    have h_slack := (tRat : Ty K Rat).mono (S := S) (Fr.same s4) h_slack
    have h_span := ((tOpt (tT2 tRat tRat)) : Ty K (Option (Rat × Rat))).mono (S := S) (Fr.same s4) h_span
    have h_way := (tInt : Ty K Int).mono (S := S) (Fr.same s4) h_way
    have h_low := (tRat : Ty K Rat).mono (S := S) (Fr.same s4) h_low
    have h_high : (tRat : Ty K Rat).rp S H4 v_high high_4 := h_high
    obtain ⟨span_5, e5, hm⟩ := bd_some hm
    refine l_asg (T := []) dm (ev_call (ea_cons (ev_var ts h_span rfl) (ea_cons (ev_op od_ix2 (ev_ix20 (ev_var ts h_piece rfl)) (ev_var ts h_way rfl)) (ea_cons (ev_op od_ix2 (ev_ix21 (ev_var ts h_piece rfl)) (ev_var ts h_way rfl)) (ea_cons (ev_var ts h_low rfl) (ea_cons (ev_var ts h_high rfl) ea_nil)))))) e5 (fun v_span H5 s5 h_span => ?_)
    have fr0 := fr0.trans (Fr.same s5)
    have dm := dm.same s5
    have frl := frl.trans (Fr.same s5)
    have h_piece := ((tT2 (tT2 tRat tRat) (tT2 tRat tRat)) : Ty K ((Rat × Rat) × (Rat × Rat))).mono (S := S) (Fr.same s5) h_piece
    have h_other := ((tT2 (tT2 tRat tRat) (tT2 tRat tRat)) : Ty K ((Rat × Rat) × (Rat × Rat))).mono (S := S) (Fr.same s5) h_other
    have h_slack := (tRat : Ty K Rat).mono (S := S) (Fr.same s5) h_slack
    have h_way := (tInt : Ty K Int).mono (S := S) (Fr.same s5) h_way
    have h_low := (tRat : Ty K Rat).mono (S := S) (Fr.same s5) h_low
    have h_high := (tRat : Ty K Rat).mono (S := S) (Fr.same s5) h_high
    have h_span : ((tOpt (tT2 tRat tRat)) : Ty K (Option (Rat × Rat))).rp S H5 v_span span_5 := h_span
    cases hm
    exact ⟨_, rfl, frl, ⟨v_piece, v_other, v_slack, v_span, _, _, _, _, rfl, fr0, dm, h_piece, h_other, h_slack, h_span⟩⟩
  subst er
  have hm := hm2
  obtain ⟨v_piece, v_other, v_slack, v_span, f_4, f_5, f_6, f_7, rfl, fr0, dm, h_piece, h_other, h_slack, h_span⟩ := hI
  rcases opt_cases hm with ⟨eo6, hm⟩ | ⟨span_6, eo6, hm⟩
  · skip
    refine q_if (T := []) (b := true) dm (eb_isN (a := ((tT2 tRat tRat) : Ty K (Rat × Rat))) ts h_span rfl) (by rw [eo6]; rfl) (fun hc H6 s6 => ?_) (fun hc H6 s6 => by cases hc)
    have fr0 := fr0.trans (Fr.same s6)
    have dm := dm.same s6
    have h_piece := ((tT2 (tT2 tRat tRat) (tT2 tRat tRat)) : Ty K ((Rat × Rat) × (Rat × Rat))).mono (S := S) (Fr.same s6) h_piece
    have h_other := ((tT2 (tT2 tRat tRat) (tT2 tRat tRat)) : Ty K ((Rat × Rat) × (Rat × Rat))).mono (S := S) (Fr.same s6) h_other
    have h_slack := (tRat : Ty K Rat).mono (S := S) (Fr.same s6) h_slack
    have h_span := ((tOpt (tT2 tRat tRat)) : Ty K (Option (Rat × Rat))).mono (S := S) (Fr.same s6) h_span
    have er := hm
    exact q_ret (T := []) dm (ev_oN (a := ((tT2 tRat tRat) : Ty K (Rat × Rat))) (ev_none (K := K))) er (fun v H9 s9 hv => q v H9 (fr0.trans (Fr.same s9)).toSame (((tOpt (tT2 tRat tRat)) : Ty K (Option (Rat × Rat))).sub (S := S) (H := H9) sub0 hv))
  · skip
    refine q_if (T := []) (b := false) dm (eb_isN (a := ((tT2 tRat tRat) : Ty K (Rat × Rat))) ts h_span rfl) (by rw [eo6]; rfl) (fun hc H6 s6 => by cases hc) (fun hc H6 s6 => ?_)
    have fr0 := fr0.trans (Fr.same s6)
    have dm := dm.same s6
    have h_piece := ((tT2 (tT2 tRat tRat) (tT2 tRat tRat)) : Ty K ((Rat × Rat) × (Rat × Rat))).mono (S := S) (Fr.same s6) h_piece
    have h_other := ((tT2 (tT2 tRat tRat) (tT2 tRat tRat)) : Ty K ((Rat × Rat) × (Rat × Rat))).mono (S := S) (Fr.same s6) h_other
    have h_slack := (tRat : Ty K Rat).mono (S := S) (Fr.same s6) h_slack
    have h_span := ((tOpt (tT2 tRat tRat)) : Ty K (Option (Rat × Rat))).mono (S := S) (Fr.same s6) h_span
    have h_span := opt_is (a := ((tT2 tRat tRat) : Ty K (Rat × Rat))) (S := S) h_span eo6
    refine q_next ?_
    obtain ⟨room_7, e7, hm⟩ := bd_some hm
    refine q_asg (T := []) dm (ev_call (ea_cons (ev_var ts h_slack rfl) (ea_cons (ev_call (ea_cons (ev_ix20 (ev_var ts h_other rfl)) (ea_cons (ev_ix21 (ev_var ts h_other rfl)) ea_nil))) ea_nil))) e7 (fun v_room H7 s7 h_room => ?_)
    have fr0 := fr0.trans (Fr.same s7)
    have dm := dm.same s7
    have h_piece := ((tT2 (tT2 tRat tRat) (tT2 tRat tRat)) : Ty K ((Rat × Rat) × (Rat × Rat))).mono (S := S) (Fr.same s7) h_piece
    have h_other := ((tT2 (tT2 tRat tRat) (tT2 tRat tRat)) : Ty K ((Rat × Rat) × (Rat × Rat))).mono (S := S) (Fr.same s7) h_other
    have h_slack := (tRat : Ty K Rat).mono (S := S) (Fr.same s7) h_slack
    have h_span := ((tT2 tRat tRat) : Ty K (Rat × Rat)).mono (S := S) (Fr.same s7) h_span
    have h_room : (tRat : Ty K Rat).rp S H7 v_room room_7 := h_room
    have er := hm
    exact q_ret (T := []) dm (ev_call (ea_cons (ev_oS (ev_var ts h_span rfl)) (ea_cons (ev_call (ea_cons (ev_var ts h_other rfl) (ea_cons (ev_ix20 (ev_var ts h_piece rfl)) ea_nil))) (ea_cons (ev_call (ea_cons (ev_var ts h_other rfl) (ea_cons (ev_ix21 (ev_var ts h_piece rfl)) ea_nil))) (ea_cons (ev_call (ea_cons (ev_c (a := tRat) fun H => ⟨_, rfl, .inr (ev.q_NOUGHT _)⟩) (ea_cons (ev_var ts h_room rfl) ea_nil))) (ea_cons (ev_var ts h_room rfl) ea_nil)))))) er (fun v H10 s10 hv => q v H10 (fr0.trans (Fr.same s10)).toSame (((tOpt (tT2 tRat tRat)) : Ty K (Option (Rat × Rat))).sub (S := S) (H := H10) sub0 hv))
def m_covered_to (d_spans : (List (Rat × Rat))) : Option Rat :=
  (bd (some (0 : Rat)) fun reach_1 => (bd (some true) fun growing_2 => (bd (whileC (ρ := Rat) (fun s_3 => (some s_3.1)) (fun s_3 => (bd (some false) fun growing_4 => (bd (some d_spans) fun xs10 => bd (loopC (ρ := Rat) (fun s_5 x_5 => (bd (bd (bd (bd (bd (some x_5.1) fun x => bd (bd (some s_5.1) fun x => bd (some ()) fun y => some (x, y)) fun y => some (x, y)) fun a => m_order a.1 a.2.1) fun x => bd (some (0 : Int)) fun y => some (decide (x ≤ y))) fun x => if x then (bd (bd (bd (some x_5.2) fun x => bd (bd (some s_5.1) fun x => bd (some ()) fun y => some (x, y)) fun y => some (x, y)) fun a => m_order a.1 a.2.1) fun x => bd (some (0 : Int)) fun y => some (decide (y < x))) else some false) fun c6 => (bd (if c6 then (bd (some x_5.2) fun reach_7 => (bd (some true) fun growing_8 => some (reach_7, growing_8))) else some (s_5.1, s_5.2)) fun j9 => some (Ct.go (j9.1, j9.2))))) xs10 (s_3.2, growing_4)) fun r_5 => match r_5 with | .ret y => some (Ct.ret y) | .go t_5 => some (Ct.go (t_5.2, t_5.1)) | .brk _ => none))) 100000 (growing_2, reach_1)) fun r_3 => match r_3 with | .ret y => some y | .go t_3 => (some t_3.2) | .brk _ => none)))
abbrev sp_covered_to (K : PySem.W.Frag) : Sp := spF (K := K) (aCons (tL (tT2 tRat tRat)) aNil) (fun S => of (K := K) tRat S) (fun a => m_covered_to a.1)
theorem ok_covered_to (ev : Env K mg) : FnOk P w K mg base CX0 2 ev.f_covered_to ev.d_covered_to p_covered_to (sp_covered_to K) := by
  refine ev.A_covered_to.F.ok sc_covered_to (fun vs H Q E h => ?_) (fun cdv A outer s H0 vs Q E hr h => ?_)
  · obtain ⟨S, ⟨d_spans, _⟩, y, _, ⟨v_spans, _, rfl, h_spans, rfl⟩, _⟩ := h
    rfl
  obtain ⟨S, ⟨d_spans, _⟩, y, dm, ⟨v_spans, _, rfl, h_spans, rfl⟩, hm, q⟩ := h
  have ts : Sub [] S := fun a m => by simp at m
  have fr0 := Fr.refl (T := []) H0
  have sub0 : Sub S S := fun a m => m
  refine ⟨_, (pss_cons (ps_set (i := 1) sc_covered_to.nd rfl (Or.inl rfl) (pe_glob (v := .ref ev.a_NOUGHT) (by rfl) ev.c_NOUGHT rfl))
    (pss_cons (ps_set (i := 2) sc_covered_to.nd rfl (Or.inl rfl) pe_bl)
    (pss_cons (ps_while PassesOwn.never (pt_val (pv 2))
    (pss_cons (ps_set (i := 2) sc_covered_to.nd rfl (Or.inl rfl) pe_bl)
    (pss_one (ps_for PassesOwn.never rfl (pi_list (pv 0)) (pg_tup rfl (pgs_cons (pg_name (i := 3) sc_covered_to.nd rfl (Or.inl rfl)) (pgs_cons (pg_name (i := 4) sc_covered_to.nd rfl (Or.inl rfl)) pgs_nil)))
    (pss_one (ps_if (PW.pt (pw_and (pt_cmpR op_le (pe_call (ok_order ev) (hr.mono (by decide)) (by rfl) ev.A_order.m ev.A_order.F.kp ev.A_order.b .nil pass0 (pa_cons (pv 3) (pa_cons (pv 1) pa_nil))) pe_int (nomark _)) (pw_and1 (pt_cmpR op_gt (pe_call (ok_order ev) (hr.mono (by decide)) (by rfl) ev.A_order.m ev.A_order.F.kp ev.A_order.b .nil pass0 (pa_cons (pv 4) (pa_cons (pv 1) pa_nil))) pe_int (nomark _)))))
    (pss_cons (ps_set (i := 1) sc_covered_to.nd rfl (Or.inl rfl) (pv 4))
    (pss_one (ps_set (i := 2) sc_covered_to.nd rfl (Or.inl rfl) pe_bl))) pss_nil))))))
    (pss_one (ps_ret (pv 1)))))), ?_⟩
  dsimp only [m_covered_to] at hm
  obtain ⟨reach_1, e1, hm⟩ := bd_some hm
  refine q_asg (T := []) dm (ev_c (a := tRat) fun H => ⟨_, rfl, .inr (ev.q_NOUGHT _)⟩) e1 (fun v_reach H1 s1 h_reach => ?_)
  have fr0 := fr0.trans (Fr.same s1)
  have dm := dm.same s1
  have h_spans := ((tL (tT2 tRat tRat)) : Ty K (List (Rat × Rat))).mono (S := S) (Fr.same s1) h_spans
  have h_reach : (tRat : Ty K Rat).rp S H1 v_reach reach_1 := h_reach
  obtain ⟨growing_2, e2, hm⟩ := bd_some hm
  refine q_asg (T := []) dm (ev_bool (K := K)) e2 (fun v_growing H2 s2 h_growing => ?_)
  have fr0 := fr0.trans (Fr.same s2)
  have dm := dm.same s2
  have h_spans := ((tL (tT2 tRat tRat)) : Ty K (List (Rat × Rat))).mono (S := S) (Fr.same s2) h_spans
  have h_reach := (tRat : Ty K Rat).mono (S := S) (Fr.same s2) h_reach
  have h_growing : (tBool : Ty K Bool).rp S H2 v_growing growing_2 := h_growing
  obtain ⟨r_3, el3, hm3⟩ := bd_some hm
  refine q_while_s (S := S) (T := []) el3 (fun s_3 σ' H' => ∃ v_spans : V, ∃ v_growing : V, ∃ v_reach : V, ∃ f_3 : Option V, ∃ f_4 : Option V, σ' = [some v_spans, some v_reach, some v_growing, f_3, f_4] ∧ Fr [] H0 H' ∧ Dom S H' ∧ ((tL (tT2 tRat tRat)) : Ty K (List (Rat × Rat))).rp S H' v_spans d_spans ∧ (tBool : Ty K Bool).rp S H' v_growing s_3.1 ∧ (tRat : Ty K Rat).rp S H' v_reach s_3.2) ?_ (fun s_3 σ' H' hI => ?_) (fun hd3 s_3 cr3 σ' Hw3 H' hI sw3 hm hret3 hbrk3 => ?_) (fun t_3 σ' Hw3 H' er hI sw3 => ?_)
  · skip
    exact ⟨v_spans, v_growing, v_reach, _, _, rfl, fr0, dm, h_spans, h_growing, h_reach⟩
  · skip
    obtain ⟨v_spans, v_growing, v_reach, f_3, f_4, rfl, fr0, dm, h_spans, h_growing, h_reach⟩ := hI
    exact ⟨_, dm, (eb_B (K := K) (ev_var ts h_growing rfl))⟩
  · skip
    obtain ⟨v_spans, v_growing, v_reach, f_3, f_4, rfl, fr0, dm, h_spans, h_growing, h_reach⟩ := hI
    have fr0 := fr0.trans (Fr.same sw3)
    have dm := dm.same sw3
    have h_spans := ((tL (tT2 tRat tRat)) : Ty K (List (Rat × Rat))).mono (S := S) (Fr.same sw3) h_spans
    have h_growing := (tBool : Ty K Bool).mono (S := S) (Fr.same sw3) h_growing
    have h_reach := (tRat : Ty K Rat).mono (S := S) (Fr.same sw3) h_reach
    let HL := H'
    have freshl : ∀ a ∈ S, a ∉ S → H' a = none := fun a m n => absurd m n
    have frl : Fr S HL H' := Fr.refl (T := S) H'
    have tsl := ts
    have subl : Sub S S := fun a m => m
    obtain ⟨growing_4, e4, hm⟩ := bd_some hm
    refine q_asg (T := []) dm (ev_bool (K := K)) e4 (fun v_growing H4 s4 h_growing => ?_)
    have fr0 := fr0.trans (Fr.same s4)
    have dm := dm.same s4
    have frl := frl.trans (Fr.same s4)
    have h_spans := ((tL (tT2 tRat tRat)) : Ty K (List (Rat × Rat))).mono (S := S) (Fr.same s4) h_spans
    have h_reach := (tRat : Ty K Rat).mono (S := S) (Fr.same s4) h_reach
    have h_growing : (tBool : Ty K Bool).rp S H4 v_growing growing_4 := h_growing
    obtain ⟨xs10, e_xs10, hm⟩ := bd_some hm
    obtain ⟨r_5, el5, hm5⟩ := bd_some hm
    refine for_s2 (T := []) dm (sr_list (ev_var ts h_spans rfl)) e_xs10 el5 (fun s_5 σ' H' => Fr S HL H' ∧ ∃ v_spans : V, ∃ v_reach : V, ∃ v_growing : V, ∃ f_3 : Option V, ∃ f_4 : Option V, σ' = [some v_spans, some v_reach, some v_growing, f_3, f_4] ∧ Fr [] H0 H' ∧ Dom S H' ∧ ((tL (tT2 tRat tRat)) : Ty K (List (Rat × Rat))).rp S H' v_spans d_spans ∧ (tRat : Ty K Rat).rp S H' v_reach s_5.1 ∧ (tBool : Ty K Bool).rp S H' v_growing s_5.2) (fun H5 s5 => ?_) (fun hd5 s_5 x_5 cr5 v_low v_high σ' H' hI h_low h_high hx5 hm hret5 hbrk5 => ?_) (fun t_5 σ' H' er hI => ?_)
    · skip
      have fr0 := fr0.trans (Fr.same s5)
      have dm := dm.same s5
      have frl := frl.trans (Fr.same s5)
      have h_spans := ((tL (tT2 tRat tRat)) : Ty K (List (Rat × Rat))).mono (S := S) (Fr.same s5) h_spans
      have h_reach := (tRat : Ty K Rat).mono (S := S) (Fr.same s5) h_reach
      have h_growing := (tBool : Ty K Bool).mono (S := S) (Fr.same s5) h_growing
      exact ⟨frl, v_spans, v_reach, v_growing, _, _, rfl, fr0, dm, h_spans, h_reach, h_growing⟩
    · skip
      obtain ⟨frl, v_spans, v_reach, v_growing, f_3, f_4, rfl, fr0, dm, h_spans, h_reach, h_growing⟩ := hI
      have frlo := frl
      have freshlo := freshl
      let HL := H'
      have freshl : ∀ a ∈ S, a ∉ S → H' a = none := fun a m n => absurd m n
      have frl : Fr S HL H' := Fr.refl (T := S) H'
      have tsl := ts
      have subl : Sub S S := fun a m => m
      have h_low : (tRat : Ty K Rat).rp S H' v_low x_5.1 := h_low
      have h_high : (tRat : Ty K Rat).rp S H' v_high x_5.2 := h_high
      obtain ⟨c6, e6, hm⟩ := bd_some hm
      obtain ⟨j9, ej6, hm⟩ := bd_some hm
      refine seq_last (fun σ' H' => Fr S HL H' ∧ ∃ v_spans : V, ∃ v_low : V, ∃ v_high : V, ∃ v_reach : V, ∃ v_growing : V, σ' = [some v_spans, some v_reach, some v_growing, some v_low, some v_high] ∧ Fr [] H0 H' ∧ Dom S H' ∧ ((tL (tT2 tRat tRat)) : Ty K (List (Rat × Rat))).rp S H' v_spans d_spans ∧ (tRat : Ty K Rat).rp S H' v_low x_5.1 ∧ (tRat : Ty K Rat).rp S H' v_high x_5.2 ∧ (tRat : Ty K Rat).rp S H' v_reach j9.1 ∧ (tBool : Ty K Bool).rp S H' v_growing j9.2) (fun σ' H' hI => ?_) (fun rest => ?_)
      · skip
        obtain ⟨frl, v_spans, v_low, v_high, v_reach, v_growing, rfl, fr0, dm, h_spans, h_low, h_high, h_reach, h_growing⟩ := hI
        cases hm
        exact ⟨_, rfl, frl, ⟨frlo.transx frl freshlo, v_spans, v_reach, v_growing, _, _, rfl, fr0, dm, h_spans, h_reach, h_growing⟩⟩
      have hm := ej6
      refine l_if (T := []) dm (eb_and (eb_test (K := K) (ev_op (od_le (K := K)) (ev_call (ea_cons (ev_var ts h_low rfl) (ea_cons (ev_var ts h_reach rfl) ea_nil))) (ev_int (K := K)))) (eb_test (K := K) (ev_op (od_gt (K := K)) (ev_call (ea_cons (ev_var ts h_high rfl) (ea_cons (ev_var ts h_reach rfl) ea_nil))) (ev_int (K := K))))) e6 (fun hc H6 s6 => ?_) (fun hc H6 s6 => ?_)
      · skip
        subst hc
        have hm := if_t hm
        have fr0 := fr0.trans (Fr.same s6)
        have dm := dm.same s6
        have frl := frl.trans (Fr.same s6)
        have h_spans := ((tL (tT2 tRat tRat)) : Ty K (List (Rat × Rat))).mono (S := S) (Fr.same s6) h_spans
        have h_reach := (tRat : Ty K Rat).mono (S := S) (Fr.same s6) h_reach
        have h_growing := (tBool : Ty K Bool).mono (S := S) (Fr.same s6) h_growing
        have h_low := (tRat : Ty K Rat).mono (S := S) (Fr.same s6) h_low
        have h_high := (tRat : Ty K Rat).mono (S := S) (Fr.same s6) h_high
        obtain ⟨reach_7, e7, hm⟩ := bd_some hm
        refine q_asg (T := []) dm (ev_var ts h_high rfl) e7 (fun v_reach H7 s7 h_reach => ?_)
        have fr0 := fr0.trans (Fr.same s7)
        have dm := dm.same s7
        have frl := frl.trans (Fr.same s7)
        have h_spans := ((tL (tT2 tRat tRat)) : Ty K (List (Rat × Rat))).mono (S := S) (Fr.same s7) h_spans
        have h_growing := (tBool : Ty K Bool).mono (S := S) (Fr.same s7) h_growing
        have h_low := (tRat : Ty K Rat).mono (S := S) (Fr.same s7) h_low
        have h_high := (tRat : Ty K Rat).mono (S := S) (Fr.same s7) h_high
        have h_reach : (tRat : Ty K Rat).rp S H7 v_reach reach_7 := h_reach
        obtain ⟨growing_8, e8, hm⟩ := bd_some hm
        refine l_asg (T := []) dm (ev_bool (K := K)) e8 (fun v_growing H8 s8 h_growing => ?_)
        have fr0 := fr0.trans (Fr.same s8)
        have dm := dm.same s8
        have frl := frl.trans (Fr.same s8)
        have h_spans := ((tL (tT2 tRat tRat)) : Ty K (List (Rat × Rat))).mono (S := S) (Fr.same s8) h_spans
        have h_low := (tRat : Ty K Rat).mono (S := S) (Fr.same s8) h_low
        have h_high := (tRat : Ty K Rat).mono (S := S) (Fr.same s8) h_high
        have h_reach := (tRat : Ty K Rat).mono (S := S) (Fr.same s8) h_reach
        have h_growing : (tBool : Ty K Bool).rp S H8 v_growing growing_8 := h_growing
        cases hm
        exact rest _ _ ⟨frl, v_spans, v_low, v_high, v_reach, v_growing, rfl, fr0, dm, h_spans, h_low, h_high, h_reach, h_growing⟩
      · skip
        subst hc
        have hm := if_f hm
        have fr0 := fr0.trans (Fr.same s6)
        have dm := dm.same s6
        have frl := frl.trans (Fr.same s6)
        have h_spans := ((tL (tT2 tRat tRat)) : Ty K (List (Rat × Rat))).mono (S := S) (Fr.same s6) h_spans
        have h_reach := (tRat : Ty K Rat).mono (S := S) (Fr.same s6) h_reach
        have h_growing := (tBool : Ty K Bool).mono (S := S) (Fr.same s6) h_growing
        have h_low := (tRat : Ty K Rat).mono (S := S) (Fr.same s6) h_low
        have h_high := (tRat : Ty K Rat).mono (S := S) (Fr.same s6) h_high
        cases hm
        exact rest _ _ ⟨frl, v_spans, v_low, v_high, v_reach, v_growing, rfl, fr0, dm, h_spans, h_low, h_high, h_reach, h_growing⟩
    subst er
    have hm := hm5
    obtain ⟨frl, v_spans, v_reach, v_growing, f_3, f_4, rfl, fr0, dm, h_spans, h_reach, h_growing⟩ := hI
    cases hm
    exact ⟨_, rfl, frl, ⟨v_spans, v_growing, v_reach, _, _, rfl, fr0, dm, h_spans, h_growing, h_reach⟩⟩
  subst er
  have hm := hm3
  obtain ⟨v_spans, v_growing, v_reach, f_3, f_4, rfl, fr0, dm, h_spans, h_growing, h_reach⟩ := hI
  have fr0 := fr0.trans (Fr.same sw3)
  have dm := dm.same sw3
  have h_spans := ((tL (tT2 tRat tRat)) : Ty K (List (Rat × Rat))).mono (S := S) (Fr.same sw3) h_spans
  have h_growing := (tBool : Ty K Bool).mono (S := S) (Fr.same sw3) h_growing
  have h_reach := (tRat : Ty K Rat).mono (S := S) (Fr.same sw3) h_reach
  have er := hm
  exact q_ret (T := []) dm (ev_var ts h_reach rfl) er (fun v H11 s11 hv => q v H11 (fr0.trans (Fr.same s11)).toSame ((tRat : Ty K Rat).sub (S := S) (H := H11) sub0 hv))
def m_bare_share (d_spans : (List (Rat × Rat))) : Option (Option Rat) :=
  (bd (bd (bd (some d_spans) fun x => bd (some ()) fun y => some (x, y)) fun a => m_covered_to a.1) fun reach_1 => (bd (bd (some reach_1) fun x => bd (some (1 : Rat)) fun y => some (decide (x = y))) fun c2 => if c2 then (bd (some ()) fun _ => some none) else (bd (some (1 : Rat)) fun ahead_3 => (bd (some d_spans) fun xs8 => bd (loopC (ρ := (Option Rat)) (fun s_4 x_4 => (bd (bd (bd (bd (some x_4.1) fun x => bd (bd (some reach_1) fun x => bd (some ()) fun y => some (x, y)) fun y => some (x, y)) fun a => m_order a.1 a.2.1) fun x => bd (some (0 : Int)) fun y => some (decide (y < x))) fun c5 => (bd (if c5 then (bd (bd (bd (some s_4) fun x => bd (bd (some x_4.1) fun x => bd (some ()) fun y => some (x, y)) fun y => some (x, y)) fun a => m_lesser a.1 a.2.1) fun ahead_6 => some ahead_6) else some s_4) fun j7 => some (Ct.go j7)))) xs8 ahead_3) fun r_4 => match r_4 with | .ret y => some y | .go t_4 => (bd (bd (bd (bd (bd (some (1 : Int)) fun x => bd (bd (some (2 : Int)) fun x => bd (some ()) fun y => some (x, y)) fun y => some (x, y)) fun a => ratio? a.1 a.2.1) fun x => bd (bd (bd (bd (some reach_1) fun x => bd (bd (some t_4) fun x => bd (some ()) fun y => some (x, y)) fun y => some (x, y)) fun a => m_plus a.1 a.2.1) fun x => bd (some ()) fun y => some (x, y)) fun y => some (x, y)) fun a => m_times a.1 a.2.1) fun x => some (some x)) | .brk _ => none))))
abbrev sp_bare_share (K : PySem.W.Frag) : Sp := spF (K := K) (aCons (tL (tT2 tRat tRat)) aNil) (fun S => of (K := K) (tOpt tRat) S) (fun a => m_bare_share a.1)
theorem ok_bare_share (ev : Env K mg) : FnOk P w K mg base CX0 4 ev.f_bare_share ev.d_bare_share p_bare_share (sp_bare_share K) := by
  refine ev.A_bare_share.F.ok sc_bare_share (fun vs H Q E h => ?_) (fun cdv A outer s H0 vs Q E hr h => ?_)
  · obtain ⟨S, ⟨d_spans, _⟩, y, _, ⟨v_spans, _, rfl, h_spans, rfl⟩, _⟩ := h
    rfl
  obtain ⟨S, ⟨d_spans, _⟩, y, dm, ⟨v_spans, _, rfl, h_spans, rfl⟩, hm, q⟩ := h
  have ts : Sub [] S := fun a m => by simp at m
  have fr0 := Fr.refl (T := []) H0
  have sub0 : Sub S S := fun a m => m
  refine ⟨_, (pss_cons (ps_set (i := 1) sc_bare_share.nd rfl (Or.inl rfl) (pe_call (ok_covered_to ev) (hr.mono (by decide)) (by rfl) ev.A_covered_to.m ev.A_covered_to.F.kp ev.A_covered_to.b .nil pass0 (pa_cons (pv 0) pa_nil)))
    (pss_cons (ps_if (pt_cmpR (op_eqD hr.units) (pv 1) (pe_glob (v := .ref ev.a_ONE) (by rfl) ev.c_ONE rfl) (nomark _))
    (pss_one (ps_ret pe_non)) pss_nil)
    (pss_cons (ps_set (i := 2) sc_bare_share.nd rfl (Or.inl rfl) (pe_glob (v := .ref ev.a_ONE) (by rfl) ev.c_ONE rfl))
    (pss_cons (ps_for PassesOwn.never rfl (pi_list (pv 0)) (pg_tup rfl (pgs_cons (pg_name (i := 3) sc_bare_share.nd rfl (Or.inl rfl)) (pgs_cons (pg_name (i := 4) sc_bare_share.nd rfl (Or.inl rfl)) pgs_nil)))
    (pss_one (ps_if (pt_cmpR op_gt (pe_call (ok_order ev) (hr.mono (by decide)) (by rfl) ev.A_order.m ev.A_order.F.kp ev.A_order.b .nil pass0 (pa_cons (pv 3) (pa_cons (pv 1) pa_nil))) pe_int (nomark _))
    (pss_one (ps_set (i := 2) sc_bare_share.nd rfl (Or.inl rfl) (pe_call (ok_lesser ev) (hr.mono (by decide)) (by rfl) ev.A_lesser.m ev.A_lesser.F.kp ev.A_lesser.b .nil pass0 (pa_cons (pv 2) (pa_cons (pv 3) pa_nil))))) pss_nil)))
    (pss_one (ps_ret (pe_call (ok_times ev) (hr.mono (by decide)) (by rfl) ev.A_times.m ev.A_times.F.kp ev.A_times.b .nil pass0 (pa_cons (pe_callS (ok_ratio ev) (hr.mono (by decide)) (by rfl) ev.A_ratio.m ev.A_ratio.F.kp ev.A_ratio.b (fun σ => passAt takes0 σ) (pa_cons pe_int (pa_cons pe_int pa_nil))) (pa_cons (pe_call (ok_plus ev) (hr.mono (by decide)) (by rfl) ev.A_plus.m ev.A_plus.F.kp ev.A_plus.b .nil pass0 (pa_cons (pv 1) (pa_cons (pv 2) pa_nil))) pa_nil))))))))), ?_⟩
  dsimp only [m_bare_share] at hm
  obtain ⟨reach_1, e1, hm⟩ := bd_some hm
  refine q_asg (T := []) dm (ev_call (ea_cons (ev_var ts h_spans rfl) ea_nil)) e1 (fun v_reach H1 s1 h_reach => ?_)
  have fr0 := fr0.trans (Fr.same s1)
  have dm := dm.same s1
  have h_spans := ((tL (tT2 tRat tRat)) : Ty K (List (Rat × Rat))).mono (S := S) (Fr.same s1) h_spans
  have h_reach : (tRat : Ty K Rat).rp S H1 v_reach reach_1 := h_reach
  obtain ⟨c2, e2, hm⟩ := bd_some hm
  refine q_if (T := []) dm (eb_test (K := K) (ev_op (od_eqD (K := K) dRat (Nat.le_of_ble_eq_true rfl)) (ev_var ts h_reach rfl) (ev_c (a := tRat) fun H => ⟨_, rfl, .inr (ev.q_ONE _)⟩))) e2 (fun hc H2 s2 => ?_) (fun hc H2 s2 => ?_)
  · skip
    subst hc
    have hm := if_t hm
    have fr0 := fr0.trans (Fr.same s2)
    have dm := dm.same s2
    have h_spans := ((tL (tT2 tRat tRat)) : Ty K (List (Rat × Rat))).mono (S := S) (Fr.same s2) h_spans
    have h_reach := (tRat : Ty K Rat).mono (S := S) (Fr.same s2) h_reach
    have er := hm
    exact q_ret (T := []) dm (ev_oN (a := (tRat : Ty K Rat)) (ev_none (K := K))) er (fun v H9 s9 hv => q v H9 (fr0.trans (Fr.same s9)).toSame (((tOpt tRat) : Ty K (Option Rat)).sub (S := S) (H := H9) sub0 hv))
  subst hc
  have hm := if_f hm
  have fr0 := fr0.trans (Fr.same s2)
  have dm := dm.same s2
  have h_spans := ((tL (tT2 tRat tRat)) : Ty K (List (Rat × Rat))).mono (S := S) (Fr.same s2) h_spans
  have h_reach := (tRat : Ty K Rat).mono (S := S) (Fr.same s2) h_reach
  refine q_next ?_
  obtain ⟨ahead_3, e3, hm⟩ := bd_some hm
  refine q_asg (T := []) dm (ev_c (a := tRat) fun H => ⟨_, rfl, .inr (ev.q_ONE _)⟩) e3 (fun v_ahead H3 s3 h_ahead => ?_)
  have fr0 := fr0.trans (Fr.same s3)
  have dm := dm.same s3
  have h_spans := ((tL (tT2 tRat tRat)) : Ty K (List (Rat × Rat))).mono (S := S) (Fr.same s3) h_spans
  have h_reach := (tRat : Ty K Rat).mono (S := S) (Fr.same s3) h_reach
  have h_ahead : (tRat : Ty K Rat).rp S H3 v_ahead ahead_3 := h_ahead
  obtain ⟨xs8, e_xs8, hm⟩ := bd_some hm
  obtain ⟨r_4, el4, hm4⟩ := bd_some hm
  refine q_for_s2 (T := []) dm (sr_list (ev_var ts h_spans rfl)) e_xs8 el4 (fun s_4 σ' H' => ∃ v_spans : V, ∃ v_reach : V, ∃ v_ahead : V, ∃ f_3 : Option V, ∃ f_4 : Option V, σ' = [some v_spans, some v_reach, some v_ahead, f_3, f_4] ∧ Fr [] H0 H' ∧ Dom S H' ∧ ((tL (tT2 tRat tRat)) : Ty K (List (Rat × Rat))).rp S H' v_spans d_spans ∧ (tRat : Ty K Rat).rp S H' v_reach reach_1 ∧ (tRat : Ty K Rat).rp S H' v_ahead s_4) (fun H4 s4 => ?_) (fun hd4 s_4 x_4 cr4 v_low v_high σ' H' hI h_low h_high hx4 hm hret4 hbrk4 => ?_) (fun t_4 σ' H' er hI => ?_)
  · skip
    have fr0 := fr0.trans (Fr.same s4)
    have dm := dm.same s4
    have h_spans := ((tL (tT2 tRat tRat)) : Ty K (List (Rat × Rat))).mono (S := S) (Fr.same s4) h_spans
    have h_reach := (tRat : Ty K Rat).mono (S := S) (Fr.same s4) h_reach
    have h_ahead := (tRat : Ty K Rat).mono (S := S) (Fr.same s4) h_ahead
    exact ⟨v_spans, v_reach, v_ahead, _, _, rfl, fr0, dm, h_spans, h_reach, h_ahead⟩
  · skip
    obtain ⟨v_spans, v_reach, v_ahead, f_3, f_4, rfl, fr0, dm, h_spans, h_reach, h_ahead⟩ := hI
    let HL := H'
    have freshl : ∀ a ∈ S, a ∉ S → H' a = none := fun a m n => absurd m n
    have frl : Fr S HL H' := Fr.refl (T := S) H'
    have tsl := ts
    have subl : Sub S S := fun a m => m
    have h_low : (tRat : Ty K Rat).rp S H' v_low x_4.1 := h_low
    have h_high : (tRat : Ty K Rat).rp S H' v_high x_4.2 := h_high
    obtain ⟨c5, e5, hm⟩ := bd_some hm
    obtain ⟨j7, ej5, hm⟩ := bd_some hm
    refine seq_last (fun σ' H' => Fr S HL H' ∧ ∃ v_spans : V, ∃ v_reach : V, ∃ v_low : V, ∃ v_high : V, ∃ v_ahead : V, σ' = [some v_spans, some v_reach, some v_ahead, some v_low, some v_high] ∧ Fr [] H0 H' ∧ Dom S H' ∧ ((tL (tT2 tRat tRat)) : Ty K (List (Rat × Rat))).rp S H' v_spans d_spans ∧ (tRat : Ty K Rat).rp S H' v_reach reach_1 ∧ (tRat : Ty K Rat).rp S H' v_low x_4.1 ∧ (tRat : Ty K Rat).rp S H' v_high x_4.2 ∧ (tRat : Ty K Rat).rp S H' v_ahead j7) (fun σ' H' hI => ?_) (fun rest => ?_)
    · skip
      obtain ⟨frl, v_spans, v_reach, v_low, v_high, v_ahead, rfl, fr0, dm, h_spans, h_reach, h_low, h_high, h_ahead⟩ := hI
      cases hm
      exact ⟨_, rfl, frl, ⟨v_spans, v_reach, v_ahead, _, _, rfl, fr0, dm, h_spans, h_reach, h_ahead⟩⟩
    have hm := ej5
    refine l_if (T := []) dm (eb_test (K := K) (ev_op (od_gt (K := K)) (ev_call (ea_cons (ev_var ts h_low rfl) (ea_cons (ev_var ts h_reach rfl) ea_nil))) (ev_int (K := K)))) e5 (fun hc H5 s5 => ?_) (fun hc H5 s5 => ?_)
    · skip
      subst hc
      have hm := if_t hm
      have fr0 := fr0.trans (Fr.same s5)
      have dm := dm.same s5
      have frl := frl.trans (Fr.same s5)
      have h_spans := ((tL (tT2 tRat tRat)) : Ty K (List (Rat × Rat))).mono (S := S) (Fr.same s5) h_spans
      have h_reach := (tRat : Ty K Rat).mono (S := S) (Fr.same s5) h_reach
      have h_ahead := (tRat : Ty K Rat).mono (S := S) (Fr.same s5) h_ahead
      have h_low := (tRat : Ty K Rat).mono (S := S) (Fr.same s5) h_low
      have h_high := (tRat : Ty K Rat).mono (S := S) (Fr.same s5) h_high
      obtain ⟨ahead_6, e6, hm⟩ := bd_some hm
      refine l_asg (T := []) dm (ev_call (ea_cons (ev_var ts h_ahead rfl) (ea_cons (ev_var ts h_low rfl) ea_nil))) e6 (fun v_ahead H6 s6 h_ahead => ?_)
      have fr0 := fr0.trans (Fr.same s6)
      have dm := dm.same s6
      have frl := frl.trans (Fr.same s6)
      have h_spans := ((tL (tT2 tRat tRat)) : Ty K (List (Rat × Rat))).mono (S := S) (Fr.same s6) h_spans
      have h_reach := (tRat : Ty K Rat).mono (S := S) (Fr.same s6) h_reach
      have h_low := (tRat : Ty K Rat).mono (S := S) (Fr.same s6) h_low
      have h_high := (tRat : Ty K Rat).mono (S := S) (Fr.same s6) h_high
      have h_ahead : (tRat : Ty K Rat).rp S H6 v_ahead ahead_6 := h_ahead
      cases hm
      exact rest _ _ ⟨frl, v_spans, v_reach, v_low, v_high, v_ahead, rfl, fr0, dm, h_spans, h_reach, h_low, h_high, h_ahead⟩
    · skip
      subst hc
      have hm := if_f hm
      have fr0 := fr0.trans (Fr.same s5)
      have dm := dm.same s5
      have frl := frl.trans (Fr.same s5)
      have h_spans := ((tL (tT2 tRat tRat)) : Ty K (List (Rat × Rat))).mono (S := S) (Fr.same s5) h_spans
      have h_reach := (tRat : Ty K Rat).mono (S := S) (Fr.same s5) h_reach
      have h_ahead := (tRat : Ty K Rat).mono (S := S) (Fr.same s5) h_ahead
      have h_low := (tRat : Ty K Rat).mono (S := S) (Fr.same s5) h_low
      have h_high := (tRat : Ty K Rat).mono (S := S) (Fr.same s5) h_high
      cases hm
      exact rest _ _ ⟨frl, v_spans, v_reach, v_low, v_high, v_ahead, rfl, fr0, dm, h_spans, h_reach, h_low, h_high, h_ahead⟩
  subst er
  have hm := hm4
  obtain ⟨v_spans, v_reach, v_ahead, f_3, f_4, rfl, fr0, dm, h_spans, h_reach, h_ahead⟩ := hI
  have er := hm
  exact q_ret (T := []) dm (ev_oS (ev_call (ea_cons (ev_ratio (ea_cons (ev_int (K := K)) (ea_cons (ev_int (K := K)) ea_nil))) (ea_cons (ev_call (ea_cons (ev_var ts h_reach rfl) (ea_cons (ev_var ts h_ahead rfl) ea_nil))) ea_nil)))) er (fun v H10 s10 hv => q v H10 (fr0.trans (Fr.same s10)).toSame (((tOpt tRat) : Ty K (Option Rat)).sub (S := S) (H := H10) sub0 hv))
def m_bare (d_ones : (List (Rat × Rat))) (d_others : (List (Rat × Rat))) (d_slack : Rat) : Option (Option (Rat × Rat)) :=
  (bd (bd (bd (some d_others) fun x => bd (some ()) fun y => some (x, y)) fun a => m_pieces_of a.1) fun near_1 => (bd (bd (bd (some d_ones) fun x => bd (some ()) fun y => some (x, y)) fun a => m_pieces_of a.1) fun xs8 => bd (loopC (ρ := (Option (Rat × Rat))) (fun s_2 piece_2 => (bd (bd (some near_1) fun xs => mapL? (fun other_3 => (bd (bd (some piece_2) fun x => bd (bd (some other_3) fun x => bd (bd (some d_slack) fun x => bd (some ()) fun y => some (x, y)) fun y => some (x, y)) fun y => some (x, y)) fun a => m_span_near a.1 a.2.1 a.2.2.1)) xs) fun spans_4 => (bd (bd (bd (bd (some spans_4) fun xs => filL? (fun span_5 => (bd (some span_5) fun x => some x.isSome)) (fun span_5 => (bd (some span_5) fun x => x)) xs) fun x => bd (some ()) fun y => some (x, y)) fun a => m_bare_share a.1) fun share_6 => (optM share_6 (some (Ct.go ())) fun share_7 => (bd (bd (bd (bd (bd (some piece_2) fun x => some x.1) fun x => bd (bd (bd (some piece_2) fun x => some x.2) fun x => bd (bd (some share_7) fun x => bd (some ()) fun y => some (x, y)) fun y => some (x, y)) fun y => some (x, y)) fun a => m_between a.1 a.2.1 a.2.2.1) fun x => some (some x)) fun y => some (Ct.ret y)))))) xs8 ()) fun r_2 => match r_2 with | .ret y => some y | .go t_2 => (bd (some ()) fun _ => some none) | .brk _ => none))
abbrev sp_bare (K : PySem.W.Frag) : Sp := spF (K := K) (aCons (tL (tT2 tRat tRat)) (aCons (tL (tT2 tRat tRat)) (aCons tRat aNil))) (fun S => of (K := K) (tOpt (tT2 tRat tRat)) S) (fun a => m_bare a.1 a.2.1 a.2.2.1)
theorem ok_bare (ev : Env K mg) : FnOk P w K mg base CX0 6 ev.f_bare ev.d_bare p_bare (sp_bare K) := by
  refine ev.A_bare.F.ok sc_bare (fun vs H Q E h => ?_) (fun cdv A outer s H0 vs Q E hr h => ?_)
  · obtain ⟨S, ⟨d_ones, d_others, d_slack, _⟩, y, _, ⟨v_ones, _, rfl, h_ones, v_others, _, rfl, h_others, v_slack, _, rfl, h_slack, rfl⟩, _⟩ := h
    rfl
  obtain ⟨S, ⟨d_ones, d_others, d_slack, _⟩, y, dm, ⟨v_ones, _, rfl, h_ones, v_others, _, rfl, h_others, v_slack, _, rfl, h_slack, rfl⟩, hm, q⟩ := h
  have ts : Sub [] S := fun a m => by simp at m
  have fr0 := Fr.refl (T := []) H0
  have sub0 : Sub S S := fun a m => m
  refine ⟨_, (pss_cons (ps_set (i := 3) sc_bare.nd rfl (Or.inl rfl) (pe_call (ok_pieces_of ev) (hr.mono (by decide)) (by rfl) ev.A_pieces_of.m ev.A_pieces_of.F.kp ev.A_pieces_of.b .nil pass0 (pa_cons (pv 1) pa_nil)))
    (pss_cons (ps_for PassesOwn.never rfl (pi_list (pe_call (ok_pieces_of ev) (hr.mono (by decide)) (by rfl) ev.A_pieces_of.m ev.A_pieces_of.F.kp ev.A_pieces_of.b .nil pass0 (pa_cons (pv 0) pa_nil))) (pg_name (i := 4) sc_bare.nd rfl (Or.inr rfl))
    (pss_cons (ps_setLc (i := 5) (own := [("other", 7)]) (g := gName 7) (tt := tYes) (by rfl) sc_bare.nd rfl rfl (sw_true rfl rfl rfl (by decide +kernel)) (pi_list (pv 3)) (blkOk_by (own := [("other", 7)]) (N := n_bare) (sc := defScope s_bare) (by decide +kernel)) (fun _ _ _ _ _ => pg_name (i := 7) sc_bare.nd rfl (Or.inl rfl)) (fun _ _ _ _ _ => pts_nil) (fun _ _ _ _ _ => (pe_call (ok_span_near ev) (hr.mono (by decide)) (by rfl) ev.A_span_near.m ev.A_span_near.F.kp ev.A_span_near.b .nil pass0 (pa_cons (pv 4) (pa_cons (pv 7) (pa_cons (pv 2) pa_nil))))))
    (pss_cons (ps_set (i := 6) sc_bare.nd rfl (Or.inl rfl) (pe_call (ok_bare_share ev) (hr.mono (by decide)) (by rfl) ev.A_bare_share.m ev.A_bare_share.F.kp ev.A_bare_share.b .nil pass0 (pa_cons (pe_lc (own := [("span", 8)]) (g := gName 8) (by rfl) sc_bare.nd (pi_list (pv 5)) (blkOk_by (own := [("span", 8)]) (N := n_bare) (sc := defScope s_bare) (by decide +kernel)) (fun _ _ _ _ _ => pg_name (i := 8) sc_bare.nd rfl (Or.inl rfl)) (fun _ _ _ _ _ => (pts_one (pt_cmpR op_notN (pv 8) pe_non (nomark _)))) (fun _ _ _ _ _ => (pv 8))) pa_nil)))
    (pss_one (ps_if (pt_cmpR op_notN (pv 6) pe_non (nomark _))
    (pss_one (ps_ret (pe_call (ok_between ev) (hr.mono (by decide)) (by rfl) ev.A_between.m ev.A_between.F.kp ev.A_between.b .nil pass0 (pa_cons (pe_ix ix_tup (pv 4) pe_int (fun _ _ => rfl)) (pa_cons (pe_ix ix_tup (pv 4) pe_int (fun _ _ => rfl)) (pa_cons (pv 6) pa_nil)))))) pss_nil)))))
    (pss_one (ps_ret pe_non)))), ?_⟩
  dsimp only [m_bare] at hm
  obtain ⟨near_1, e1, hm⟩ := bd_some hm
  refine q_asg (T := []) dm (ev_new (ev_call (ea_cons (ev_var ts h_others rfl) ea_nil))) e1 (fun v_near H1 s1 h_near => ?_)
  have fr0 := fr0.trans (Fr.same s1)
  have dm := dm.same s1
  have h_ones := ((tL (tT2 tRat tRat)) : Ty K (List (Rat × Rat))).mono (S := S) (Fr.same s1) h_ones
  have h_others := ((tL (tT2 tRat tRat)) : Ty K (List (Rat × Rat))).mono (S := S) (Fr.same s1) h_others
  have h_slack := (tRat : Ty K Rat).mono (S := S) (Fr.same s1) h_slack
  have h_near : ((tL (tT2 (tT2 tRat tRat) (tT2 tRat tRat))) : Ty K (List ((Rat × Rat) × (Rat × Rat)))).rp S H1 v_near near_1 := h_near
  obtain ⟨xs8, e_xs8, hm⟩ := bd_some hm
  obtain ⟨r_2, el2, hm2⟩ := bd_some hm
  refine q_for_s (T := []) dm (sr_list (ev_new (ev_call (ea_cons (ev_var ts h_ones rfl) ea_nil)))) e_xs8 el2 (fun s_2 σ' H' => ∃ v_ones : V, ∃ v_others : V, ∃ v_slack : V, ∃ v_near : V, ∃ f_4 : Option V, ∃ f_5 : Option V, ∃ f_6 : Option V, ∃ f_7 : Option V, ∃ f_8 : Option V, σ' = [some v_ones, some v_others, some v_slack, some v_near, f_4, f_5, f_6, f_7, f_8] ∧ Fr [] H0 H' ∧ Dom S H' ∧ ((tL (tT2 tRat tRat)) : Ty K (List (Rat × Rat))).rp S H' v_ones d_ones ∧ ((tL (tT2 tRat tRat)) : Ty K (List (Rat × Rat))).rp S H' v_others d_others ∧ (tRat : Ty K Rat).rp S H' v_slack d_slack ∧ ((tL (tT2 (tT2 tRat tRat) (tT2 tRat tRat))) : Ty K (List ((Rat × Rat) × (Rat × Rat)))).rp S H' v_near near_1) (fun H2 s2 => ?_) (fun hd2 s_2 piece_2 cr2 v_piece σ' H' hI h_piece hx2 hm hret2 hbrk2 => ?_) (fun t_2 σ' H' er hI => ?_)
  · skip
    have fr0 := fr0.trans (Fr.same s2)
    have dm := dm.same s2
    have h_ones := ((tL (tT2 tRat tRat)) : Ty K (List (Rat × Rat))).mono (S := S) (Fr.same s2) h_ones
    have h_others := ((tL (tT2 tRat tRat)) : Ty K (List (Rat × Rat))).mono (S := S) (Fr.same s2) h_others
    have h_slack := (tRat : Ty K Rat).mono (S := S) (Fr.same s2) h_slack
    have h_near := ((tL (tT2 (tT2 tRat tRat) (tT2 tRat tRat))) : Ty K (List ((Rat × Rat) × (Rat × Rat)))).mono (S := S) (Fr.same s2) h_near
    exact ⟨v_ones, v_others, v_slack, v_near, _, _, _, _, _, rfl, fr0, dm, h_ones, h_others, h_slack, h_near⟩
  · skip
    obtain ⟨v_ones, v_others, v_slack, v_near, f_4, f_5, f_6, f_7, f_8, rfl, fr0, dm, h_ones, h_others, h_slack, h_near⟩ := hI
    let HL := H'
    have freshl : ∀ a ∈ S, a ∉ S → H' a = none := fun a m n => absurd m n
    have frl : Fr S HL H' := Fr.refl (T := S) H'
    have tsl := ts
    have subl : Sub S S := fun a m => m
    have h_piece : ((tT2 (tT2 tRat tRat) (tT2 tRat tRat)) : Ty K ((Rat × Rat) × (Rat × Rat))).rp S H' v_piece piece_2 := h_piece
    obtain ⟨spans_4, e4, hm⟩ := bd_some hm
    refine q_asg (T := []) dm (ev_new (ev_lc (sr_list (ev_var ts h_near rfl)) (fun v => by rfl) (fun other_3 v_other H2' H' p' fr' nD' sm' h_other => by have h_ones := ((tL (tT2 tRat tRat)) : Ty K (List (Rat × Rat))).mono (Fr.same sm') (((tL (tT2 tRat tRat)) : Ty K (List (Rat × Rat))).ext (S := S) nD' (((tL (tT2 tRat tRat)) : Ty K (List (Rat × Rat))).mono (Fr.sub ts fr') h_ones)); have h_others := ((tL (tT2 tRat tRat)) : Ty K (List (Rat × Rat))).mono (Fr.same sm') (((tL (tT2 tRat tRat)) : Ty K (List (Rat × Rat))).ext (S := S) nD' (((tL (tT2 tRat tRat)) : Ty K (List (Rat × Rat))).mono (Fr.sub ts fr') h_others)); have h_slack := (tRat : Ty K Rat).mono (Fr.same sm') ((tRat : Ty K Rat).ext (S := S) nD' ((tRat : Ty K Rat).mono (Fr.sub ts fr') h_slack)); have h_near := ((tL (tT2 (tT2 tRat tRat) (tT2 tRat tRat))) : Ty K (List ((Rat × Rat) × (Rat × Rat)))).mono (Fr.same sm') (((tL (tT2 (tT2 tRat tRat) (tT2 tRat tRat))) : Ty K (List ((Rat × Rat) × (Rat × Rat)))).ext (S := S) nD' (((tL (tT2 (tT2 tRat tRat) (tT2 tRat tRat))) : Ty K (List ((Rat × Rat) × (Rat × Rat)))).mono (Fr.sub ts fr') h_near)); have h_piece := ((tT2 (tT2 tRat tRat) (tT2 tRat tRat)) : Ty K ((Rat × Rat) × (Rat × Rat))).mono (Fr.same sm') (((tT2 (tT2 tRat tRat) (tT2 tRat tRat)) : Ty K ((Rat × Rat) × (Rat × Rat))).ext (S := S) nD' (((tT2 (tT2 tRat tRat) (tT2 tRat tRat)) : Ty K ((Rat × Rat) × (Rat × Rat))).mono (Fr.sub ts fr') h_piece)); have ts0' := ts; have ts : Sub [] (p' :: S) := (fun a m => by simp at m);  exact (ev_call (ea_cons (ev_var ts h_piece rfl) (ea_cons (ev_var ts h_other rfl) (ea_cons (ev_var ts h_slack rfl) ea_nil))))))) e4 (fun v_spans H4 s4 h_spans => ?_)
    have fr0 := fr0.trans (Fr.same s4)
    have dm := dm.same s4
    have frl := frl.trans (Fr.same s4)
    have h_ones := ((tL (tT2 tRat tRat)) : Ty K (List (Rat × Rat))).mono (S := S) (Fr.same s4) h_ones
    have h_others := ((tL (tT2 tRat tRat)) : Ty K (List (Rat × Rat))).mono (S := S) (Fr.same s4) h_others
    have h_slack := (tRat : Ty K Rat).mono (S := S) (Fr.same s4) h_slack
    have h_near := ((tL (tT2 (tT2 tRat tRat) (tT2 tRat tRat))) : Ty K (List ((Rat × Rat) × (Rat × Rat)))).mono (S := S) (Fr.same s4) h_near
    have h_piece := ((tT2 (tT2 tRat tRat) (tT2 tRat tRat)) : Ty K ((Rat × Rat) × (Rat × Rat))).mono (S := S) (Fr.same s4) h_piece
    have h_spans : ((tL (tOpt (tT2 tRat tRat))) : Ty K (List (Option (Rat × Rat)))).rp S H4 v_spans spans_4 := h_spans
    obtain ⟨share_6, e6, hm⟩ := bd_some hm
    refine q_asg (T := []) dm (ev_call (ea_cons (ev_new (ev_lcF (sr_list (ev_var ts h_spans rfl)) (fun v => by rfl) (fun span_5 v_span H2' H' p' fr' nD' sm' h_span => by have h_ones := ((tL (tT2 tRat tRat)) : Ty K (List (Rat × Rat))).mono (Fr.same sm') (((tL (tT2 tRat tRat)) : Ty K (List (Rat × Rat))).ext (S := S) nD' (((tL (tT2 tRat tRat)) : Ty K (List (Rat × Rat))).mono (Fr.sub ts fr') h_ones)); have h_others := ((tL (tT2 tRat tRat)) : Ty K (List (Rat × Rat))).mono (Fr.same sm') (((tL (tT2 tRat tRat)) : Ty K (List (Rat × Rat))).ext (S := S) nD' (((tL (tT2 tRat tRat)) : Ty K (List (Rat × Rat))).mono (Fr.sub ts fr') h_others)); have h_slack := (tRat : Ty K Rat).mono (Fr.same sm') ((tRat : Ty K Rat).ext (S := S) nD' ((tRat : Ty K Rat).mono (Fr.sub ts fr') h_slack)); have h_near := ((tL (tT2 (tT2 tRat tRat) (tT2 tRat tRat))) : Ty K (List ((Rat × Rat) × (Rat × Rat)))).mono (Fr.same sm') (((tL (tT2 (tT2 tRat tRat) (tT2 tRat tRat))) : Ty K (List ((Rat × Rat) × (Rat × Rat)))).ext (S := S) nD' (((tL (tT2 (tT2 tRat tRat) (tT2 tRat tRat))) : Ty K (List ((Rat × Rat) × (Rat × Rat)))).mono (Fr.sub ts fr') h_near)); have h_piece := ((tT2 (tT2 tRat tRat) (tT2 tRat tRat)) : Ty K ((Rat × Rat) × (Rat × Rat))).mono (Fr.same sm') (((tT2 (tT2 tRat tRat) (tT2 tRat tRat)) : Ty K ((Rat × Rat) × (Rat × Rat))).ext (S := S) nD' (((tT2 (tT2 tRat tRat) (tT2 tRat tRat)) : Ty K ((Rat × Rat) × (Rat × Rat))).mono (Fr.sub ts fr') h_piece)); have h_spans := ((tL (tOpt (tT2 tRat tRat))) : Ty K (List (Option (Rat × Rat)))).mono (Fr.same sm') (((tL (tOpt (tT2 tRat tRat))) : Ty K (List (Option (Rat × Rat)))).ext (S := S) nD' (((tL (tOpt (tT2 tRat tRat))) : Ty K (List (Option (Rat × Rat)))).mono (Fr.sub ts fr') h_spans)); have ts0' := ts; have ts : Sub [] (p' :: S) := (fun a m => by simp at m);  exact (eb_notNe (ev_var ts h_span rfl))) (fun span_5 v_span H2' H' p' fr' nD' sm' h_span => by have h_ones := ((tL (tT2 tRat tRat)) : Ty K (List (Rat × Rat))).mono (Fr.same sm') (((tL (tT2 tRat tRat)) : Ty K (List (Rat × Rat))).ext (S := S) nD' (((tL (tT2 tRat tRat)) : Ty K (List (Rat × Rat))).mono (Fr.sub ts fr') h_ones)); have h_others := ((tL (tT2 tRat tRat)) : Ty K (List (Rat × Rat))).mono (Fr.same sm') (((tL (tT2 tRat tRat)) : Ty K (List (Rat × Rat))).ext (S := S) nD' (((tL (tT2 tRat tRat)) : Ty K (List (Rat × Rat))).mono (Fr.sub ts fr') h_others)); have h_slack := (tRat : Ty K Rat).mono (Fr.same sm') ((tRat : Ty K Rat).ext (S := S) nD' ((tRat : Ty K Rat).mono (Fr.sub ts fr') h_slack)); have h_near := ((tL (tT2 (tT2 tRat tRat) (tT2 tRat tRat))) : Ty K (List ((Rat × Rat) × (Rat × Rat)))).mono (Fr.same sm') (((tL (tT2 (tT2 tRat tRat) (tT2 tRat tRat))) : Ty K (List ((Rat × Rat) × (Rat × Rat)))).ext (S := S) nD' (((tL (tT2 (tT2 tRat tRat) (tT2 tRat tRat))) : Ty K (List ((Rat × Rat) × (Rat × Rat)))).mono (Fr.sub ts fr') h_near)); have h_piece := ((tT2 (tT2 tRat tRat) (tT2 tRat tRat)) : Ty K ((Rat × Rat) × (Rat × Rat))).mono (Fr.same sm') (((tT2 (tT2 tRat tRat) (tT2 tRat tRat)) : Ty K ((Rat × Rat) × (Rat × Rat))).ext (S := S) nD' (((tT2 (tT2 tRat tRat) (tT2 tRat tRat)) : Ty K ((Rat × Rat) × (Rat × Rat))).mono (Fr.sub ts fr') h_piece)); have h_spans := ((tL (tOpt (tT2 tRat tRat))) : Ty K (List (Option (Rat × Rat)))).mono (Fr.same sm') (((tL (tOpt (tT2 tRat tRat))) : Ty K (List (Option (Rat × Rat)))).ext (S := S) nD' (((tL (tOpt (tT2 tRat tRat))) : Ty K (List (Option (Rat × Rat)))).mono (Fr.sub ts fr') h_spans)); have ts0' := ts; have ts : Sub [] (p' :: S) := (fun a m => by simp at m);  exact (ev_unopt (ev_var ts h_span rfl))))) ea_nil)) e6 (fun v_share H6 s6 h_share => ?_)
    have fr0 := fr0.trans (Fr.same s6)
    have dm := dm.same s6
    have frl := frl.trans (Fr.same s6)
    have h_ones := ((tL (tT2 tRat tRat)) : Ty K (List (Rat × Rat))).mono (S := S) (Fr.same s6) h_ones
    have h_others := ((tL (tT2 tRat tRat)) : Ty K (List (Rat × Rat))).mono (S := S) (Fr.same s6) h_others
    have h_slack := (tRat : Ty K Rat).mono (S := S) (Fr.same s6) h_slack
    have h_near := ((tL (tT2 (tT2 tRat tRat) (tT2 tRat tRat))) : Ty K (List ((Rat × Rat) × (Rat × Rat)))).mono (S := S) (Fr.same s6) h_near
    have h_piece := ((tT2 (tT2 tRat tRat) (tT2 tRat tRat)) : Ty K ((Rat × Rat) × (Rat × Rat))).mono (S := S) (Fr.same s6) h_piece
    have h_spans := ((tL (tOpt (tT2 tRat tRat))) : Ty K (List (Option (Rat × Rat)))).mono (S := S) (Fr.same s6) h_spans
    have h_share : ((tOpt tRat) : Ty K (Option Rat)).rp S H6 v_share share_6 := h_share
    rcases opt_cases hm with ⟨eo7, hm⟩ | ⟨share_7, eo7, hm⟩
    · skip
      refine l_if (T := []) (b := false) dm (eb_notN (a := (tRat : Ty K Rat)) ts h_share rfl) (by rw [eo7]; rfl) (fun hc H7 s7 => by cases hc) (fun hc H7 s7 => ?_)
      have fr0 := fr0.trans (Fr.same s7)
      have dm := dm.same s7
      have frl := frl.trans (Fr.same s7)
      have h_ones := ((tL (tT2 tRat tRat)) : Ty K (List (Rat × Rat))).mono (S := S) (Fr.same s7) h_ones
      have h_others := ((tL (tT2 tRat tRat)) : Ty K (List (Rat × Rat))).mono (S := S) (Fr.same s7) h_others
      have h_slack := (tRat : Ty K Rat).mono (S := S) (Fr.same s7) h_slack
      have h_near := ((tL (tT2 (tT2 tRat tRat) (tT2 tRat tRat))) : Ty K (List ((Rat × Rat) × (Rat × Rat)))).mono (S := S) (Fr.same s7) h_near
      have h_piece := ((tT2 (tT2 tRat tRat) (tT2 tRat tRat)) : Ty K ((Rat × Rat) × (Rat × Rat))).mono (S := S) (Fr.same s7) h_piece
      have h_spans := ((tL (tOpt (tT2 tRat tRat))) : Ty K (List (Option (Rat × Rat)))).mono (S := S) (Fr.same s7) h_spans
      have h_share := ((tOpt tRat) : Ty K (Option Rat)).mono (S := S) (Fr.same s7) h_share
      refine l_next ?_
      cases hm
      exact ⟨_, rfl, frl, ⟨v_ones, v_others, v_slack, v_near, _, _, _, _, _, rfl, fr0, dm, h_ones, h_others, h_slack, h_near⟩⟩
    · skip
      refine l_if (T := []) (b := true) dm (eb_notN (a := (tRat : Ty K Rat)) ts h_share rfl) (by rw [eo7]; rfl) (fun hc H7 s7 => ?_) (fun hc H7 s7 => by cases hc)
      have fr0 := fr0.trans (Fr.same s7)
      have dm := dm.same s7
      have frl := frl.trans (Fr.same s7)
      have h_ones := ((tL (tT2 tRat tRat)) : Ty K (List (Rat × Rat))).mono (S := S) (Fr.same s7) h_ones
      have h_others := ((tL (tT2 tRat tRat)) : Ty K (List (Rat × Rat))).mono (S := S) (Fr.same s7) h_others
      have h_slack := (tRat : Ty K Rat).mono (S := S) (Fr.same s7) h_slack
      have h_near := ((tL (tT2 (tT2 tRat tRat) (tT2 tRat tRat))) : Ty K (List ((Rat × Rat) × (Rat × Rat)))).mono (S := S) (Fr.same s7) h_near
      have h_piece := ((tT2 (tT2 tRat tRat) (tT2 tRat tRat)) : Ty K ((Rat × Rat) × (Rat × Rat))).mono (S := S) (Fr.same s7) h_piece
      have h_spans := ((tL (tOpt (tT2 tRat tRat))) : Ty K (List (Option (Rat × Rat)))).mono (S := S) (Fr.same s7) h_spans
      have h_share := ((tOpt tRat) : Ty K (Option Rat)).mono (S := S) (Fr.same s7) h_share
      have h_share := opt_is (a := (tRat : Ty K Rat)) (S := S) h_share eo7
      obtain ⟨z9, er, hm⟩ := bd_some hm
      cases hm
      have er2 := hret2 _ rfl
      subst er2
      cases hm2
      exact q_ret (T := []) dm (ev_oS (ev_call (ea_cons (ev_ix20 (ev_var ts h_piece rfl)) (ea_cons (ev_ix21 (ev_var ts h_piece rfl)) (ea_cons (ev_var ts h_share rfl) ea_nil))))) er (fun v H9 s9 hv => q v H9 (fr0.trans (Fr.same s9)).toSame (((tOpt (tT2 tRat tRat)) : Ty K (Option (Rat × Rat))).sub (S := S) (H := H9) sub0 hv))
  subst er
  have hm := hm2
  obtain ⟨v_ones, v_others, v_slack, v_near, f_4, f_5, f_6, f_7, f_8, rfl, fr0, dm, h_ones, h_others, h_slack, h_near⟩ := hI
  have er := hm
  exact q_ret (T := []) dm (ev_oN (a := ((tT2 tRat tRat) : Ty K (Rat × Rat))) (ev_none (K := K))) er (fun v H10 s10 hv => q v H10 (fr0.trans (Fr.same s10)).toSame (((tOpt (tT2 tRat tRat)) : Ty K (Option (Rat × Rat))).sub (S := S) (H := H10) sub0 hv))
end
end G

namespace G
open PySem L2 M
section
variable {P : Program} {w : World} {K : PySem.W.Frag} {mg : Str → Option Value} {base : Heap}

/-! ### the bag -/
def spBag (K : PySem.W.Frag) : Sp := fun vs H Q _ => ∃ (a : Addr) (ns : List Int), vs = [.ref a] ∧ SqL K H a (ns.map V.int) ∧ ns.length ≤ 63 ∧ ∀ b c H', Bag H' b c → H b = none → H c = none → Same H H' → Q (.ref b) H'
theorem ok_law_bag (ev : Env K mg) : FnOk P w K mg base CX0 1 ev.f_law_bag ev.d_law_bag p_law_bag (spBag K) := by
  refine ev.A_law_bag.F.ok sc_law_bag (fun vs H Q E h => ?_) (fun cdv A outer s H vs Q E hr h => ?_)
  · obtain ⟨a, ns, rfl, _⟩ := h
    rfl
  obtain ⟨a, ns, rfl, hS, hl, q⟩ := h
  refine ⟨_, (pss_one (ps_ret (pe_lst (pa_cons (pe_callTy call_list_of (by rfl) ev.B.list_ (by decide +kernel) (pa_cons (pe_slice sl_list (pv 0) po_none (po_some pe_int)) pa_nil)) (pa_cons pe_int (pa_cons pe_int pa_nil)))))), ?_⟩
  obtain ⟨ms, em, lm⟩ := cut_ints ns none (some 63)
  refine ⟨_, rfl, _, rfl, a, _, rfl, hS, fun d nd => ?_⟩
  have s1 : Same H (upd H d (.lst (cutV (ns.map V.int) none (some 63)))) := same_upd nd
  refine ⟨d, _, rfl, .inl (SqL.of upd_same), fun c nc => ?_⟩
  have s2 := s1.trans (same_upd (o := .lst (cutV (ns.map V.int) none (some 63))) nc)
  refine ⟨(by show 3 ≤ sizeLine; decide), fun b nb => ?_⟩
  have ne : b ≠ c := fun z => by
    rw [z, upd_same] at nb
    cases nb
  refine q b c _ ⟨ne, ms, 0, 11, upd_same, ?_, by omega, by decide, by decide, by decide⟩ (s2.free nb) (s1.free nc) (s2.trans (same_upd nb))
  rw [upd_ne ne.symm, upd_same, em]

/-! ### a draw -/
def Els (b c : Addr) (H H' : Hp) : Prop := ∀ p, p ≠ b → p ≠ c → H' p = H p
theorem Els.trans {b c : Addr} {H H' H'' : Hp} (h : Els b c H H') (h' : Els b c H' H'') : Els b c H H'' := fun p n m => (h' p n m).trans (h p n m)
theorem Els.kept {b c : Addr} {H H' : Hp} (h : Els b c H H') : Kept b c H H' := fun p _ e n m => (h p n m).trans e
theorem Els.tup {b c p : Addr} {H H' : Hp} {xs : List V} (h : Els b c H H') (hB : Bag H b c) (e : H p = some (.tup xs)) : H' p = some (.tup xs) := by
  obtain ⟨n1, n2⟩ := hB.tup e
  exact (h p n1 n2).trans e
def spDraw : Sp := fun vs H Q _ => ∃ (b c : Addr) (m : Int), vs = [.ref b, .int m] ∧ Bag H b c ∧ 0 < m ∧ m < 1073741824 ∧ ∀ (r : Int) (H' : Hp), 0 ≤ r → r < m → Bag H' b c → Els b c H H' → Q (.int r) H'
theorem ok_law_draw (ev : Env K mg) : FnOk P w K mg base CX0 1 ev.f_law_draw ev.d_law_draw p_law_draw spDraw := by
  refine ev.A_law_draw.F.ok sc_law_draw (fun vs H Q E h => ?_) (fun cdv A outer s H vs Q E hr h => ?_)
  · obtain ⟨b, c, m, rfl, _⟩ := h
    rfl
  obtain ⟨b, c, m, rfl, ⟨ne, ns, slot, seed, hb, hc, hn, h0, h1, h2⟩, m0, m1, q⟩ := h
  refine ⟨_, (pss_cons (ps_set (i := 2) sc_law_draw.nd rfl (Or.inl rfl) (pe_ix ix_list (pv 0) pe_int (fun _ _ => rfl)))
    (pss_cons (ps_set (i := 3) sc_law_draw.nd rfl (Or.inl rfl) (pe_ix ix_list (pv 0) pe_int (fun _ _ => rfl)))
    (pss_cons (ps_set (i := 4) sc_law_draw.nd rfl (Or.inl rfl) pe_int)
    (pss_cons (ps_if (pt_cmpR op_gt (pe_callB call_len_seq (by rfl) ev.B.len_ PySem.boot_len (pa_cons (pv 2) pa_nil)) pe_int (nomark _))
    (pss_one (ps_set (i := 4) sc_law_draw.nd rfl (Or.inl rfl) (pe_ix ix_list (pv 2) (pe_op op_mod (pv 3) (pe_callB call_len_seq (by rfl) ev.B.len_ PySem.boot_len (pa_cons (pv 2) pa_nil))) (fun _ _ => rfl)))) pss_nil)
    (pss_cons (ps_if (pt_cmpR op_lt (pv 4) pe_int (nomark _))
    (pss_one (ps_set (i := 4) sc_law_draw.nd rfl (Or.inl rfl) (pe_op op_sub pe_int (pv 4)))) pss_nil)
    (pss_cons (ps_if (pt_cmpR op_ge (pv 4) (pe_op op_pow pe_int pe_int) (nomark _))
    (pss_cons (ps_asg (pe_op op_fdiv (pv 4) (pv 1)) (pg_sub (pv 2) (pe_op op_mod (pv 3) (pe_callB call_len_seq (by rfl) ev.B.len_ PySem.boot_len (pa_cons (pv 2) pa_nil))) set_list))
    (pss_one (ps_ret (pe_op op_mod (pv 4) (pv 1))))) pss_nil)
    (pss_cons (ps_asg (pe_op op_add (pv 3) pe_int) (pg_sub (pv 0) pe_int set_list))
    (pss_cons (ps_set (i := 5) sc_law_draw.nd rfl (Or.inl rfl) (pe_ix ix_list (pv 0) pe_int (fun _ _ => rfl)))
    (pss_cons (ps_set (i := 5) sc_law_draw.nd rfl (Or.inl rfl) (pe_op op_add (pe_op op_mul (pe_op op_mod (pe_op op_mul (pv 5) (pv 5)) pe_int) pe_int) (pe_op op_mul (pv 5) pe_int)))
    (pss_cons (ps_asg (pe_op op_mod (pe_op op_add (pe_op op_add (pe_op op_add (pv 5) (pe_op op_mul (pv 4) pe_int)) (pe_op op_mul (pv 3) pe_int)) pe_int) pe_int) (pg_sub (pv 0) pe_int set_list))
    (pss_one (ps_ret (pe_op op_mod (pe_op op_fdiv (pe_op op_mod (pe_op op_mul (pe_ix ix_list (pv 0) pe_int (fun _ _ => rfl)) pe_int) pe_int) pe_int) (pv 1)))))))))))))), ?_⟩
  refine seq_asg ⟨_, rfl, b, _, _, _, rfl, rfl, SqL.of hb, atI_nat (j := 0) rfl, ?_⟩
  refine seq_asg ⟨_, rfl, b, _, _, _, rfl, rfl, SqL.of hb, atI_nat (j := 1) rfl, ?_⟩
  have hlm : (ns.map V.int).length = ns.length := List.length_map _
  have len0 : ns ≠ [] → (0 : Int) < (((ns.map V.int).length : Nat) : Int) := fun z => by
    rw [hlm]
    have := List.length_pos_iff.mpr z
    omega
  refine seq_c ?_
  refine seq_by (fun σ H' => H' = H ∧ ∃ cell : Int, σ = [some (.ref b), some (.int m), some (.ref c), some (.int slot), some (.int cell), none] ∧ (cell ≠ 0 → ns ≠ [])) ?_ (fun k => ?_)
  rotate_left
  · refine ⟨_, rfl, c, _, rfl, .inl (SqL.of hc), _, _, rfl, rfl, _, rfl, ?_⟩
    refine ite2 (fun z => ?_) (fun z => ?_)
    · have z' : (0 : Int) < (((ns.map V.int).length : Nat) : Int) := of_decide_eq_true z
      obtain ⟨v, hv⟩ := int_at (ns := ns) (i := slot % (((ns.map V.int).length : Nat) : Int)) (Int.emod_nonneg _ (by omega)) (by rw [← hlm]; exact Int.emod_lt_of_pos _ z')
      refine ⟨_, rfl, _, rfl, _, rfl, c, _, rfl, .inl (SqL.of hc), _, _, rfl, rfl, z', c, _, _, _, rfl, rfl, SqL.of hc, hv, ?_⟩
      refine k _ _ ⟨rfl, v, rfl, fun _ e => ?_⟩
      rw [hlm, e] at z'
      exact absurd z' (by decide)
    · exact k _ _ ⟨rfl, 0, rfl, fun e => absurd rfl e⟩
  rintro σ H' ⟨rfl, cell, rfl, hcell⟩
  refine seq_by (fun σ H2 => H2 = H' ∧ ∃ cell : Int, σ = [some (.ref b), some (.int m), some (.ref c), some (.int slot), some (.int cell), none] ∧ 0 ≤ cell ∧ (cell ≠ 0 → ns ≠ [])) ?_ (fun k => ?_)
  rotate_left
  · refine ⟨_, rfl, _, _, rfl, rfl, _, rfl, ?_⟩
    refine ite2 (fun z => ?_) (fun z => ?_)
    · have z' : cell < 0 := of_decide_eq_true z
      exact ⟨_, rfl, _, _, rfl, rfl, k _ _ ⟨rfl, 1 - cell, rfl, by omega, fun _ => hcell (by omega)⟩⟩
    · have z' : ¬ cell < 0 := fun e => z (decide_eq_true e)
      exact k _ _ ⟨rfl, cell, rfl, by omega, hcell⟩
  rintro σ H' ⟨rfl, cell, rfl, hc0, hcell⟩
  refine ⟨_, rfl, _, _, rfl, rfl, ⟨by decide, by decide, by decide⟩, _, _, rfl, rfl, _, rfl, ?_⟩
  refine ite2 (fun z => ?_) (fun z => ?_)
  · have z' : cell ≥ (10 : Int) ^ (18 : Int).toNat := of_decide_eq_true z
    have zz : cell ≠ 0 := fun e => by
      rw [e] at z'
      exact absurd z' (by decide)
    have z2 := len0 (hcell zz)
    have b0 := Int.emod_nonneg slot (show (((ns.map V.int).length : Nat) : Int) ≠ 0 by omega)
    have b1 := Int.emod_lt_of_pos slot z2
    refine ⟨_, rfl, _, rfl, _, _, rfl, rfl, ⟨m0, m1⟩, _, rfl, _, rfl, _, rfl, c, _, rfl, .inl (SqL.of hc), _, _, rfl, rfl, z2, c, _, _, _, rfl, rfl, hc, ix_at b0 b1, ?_⟩
    refine ⟨_, rfl, _, rfl, _, _, rfl, rfl, m0, ?_⟩
    refine q _ _ (Int.emod_nonneg _ (by omega)) (Int.emod_lt_of_pos _ m0) ⟨ne, ns.set (slot % (((ns.map V.int).length : Nat) : Int)).toNat (cell / m), slot, seed, ?_, ?_, ?_, h0, h1, h2⟩ (fun p n1 n2 => ?_)
    · rw [upd_ne ne]
      exact hb
    · rw [upd_same, set_ints]
    · rw [List.length_set]
      exact hn
    · rw [upd_ne n2]
  · refine next_u ?_
    refine seq_sub ⟨_, rfl, _, _, rfl, rfl, _, rfl, b, _, _, _, rfl, rfl, hb, rfl, ?_⟩
    refine seq_asg ⟨_, rfl, b, _, _, _, rfl, rfl, SqL.of upd_same, atI_nat (j := 2) rfl, ?_⟩
    refine seq_asg ⟨_, rfl, _, rfl, _, _, rfl, rfl, .inl ⟨by omega, by omega⟩, _, _, rfl, rfl, (show (0 : Int) < 2147483629 by decide), _, _, rfl, rfl, .inr ⟨by decide, by decide⟩, _, rfl, _, _, rfl, rfl, .inr ⟨by decide, by decide⟩, _, _, rfl, rfl, ?_⟩
    refine seq_sub ⟨_, rfl, _, rfl, _, _, rfl, rfl, .inr ⟨by decide, by decide⟩, _, _, rfl, rfl, _, rfl, _, _, rfl, rfl, .inr ⟨by decide, by decide⟩, _, _, rfl, rfl, _, _, rfl, rfl, _, _, rfl, rfl, (show (0 : Int) < 2147483647 by decide), _, rfl, b, _, _, _, rfl, rfl, upd_same, rfl, ?_⟩
    generalize hn2 : seed * seed % 2147483629 * 3 + seed * 48271 + cell * 9973 + slot * 31 + 13 = big
    have g0 := Int.emod_nonneg big (show (2147483647 : Int) ≠ 0 by decide)
    have g1 := Int.emod_lt_of_pos big (show (0 : Int) < 2147483647 by decide)
    refine ⟨_, rfl, b, _, _, _, rfl, rfl, SqL.of upd_same, atI_nat (j := 2) rfl, _, _, rfl, rfl, .inr ⟨by decide, by decide⟩, _, _, rfl, rfl, (show (0 : Int) < 2147483629 by decide), _, _, rfl, rfl, ⟨by decide, by decide⟩, _, rfl, _, _, rfl, rfl, m0, ?_⟩
    refine q _ _ (Int.emod_nonneg _ (by omega)) (Int.emod_lt_of_pos _ m0) ⟨ne, ns, slot + 1, big % 2147483647, ?_, ?_, hn, by omega, g0, g1⟩ (fun p n1 n2 => ?_)
    · rw [upd_same]
      all_goals rfl
    · rw [upd_ne ne.symm, upd_ne ne.symm]
      exact hc
    · rw [upd_ne n1, upd_ne n1]

/-! ### whole numbers, things alike -/
def spWhole : Sp := fun vs H Q _ => ∃ i : Int, vs = [.int i] ∧ Q (.bl true) H
theorem ok_law_whole (ev : Env K mg) : FnOk P w K mg base CX0 1 ev.f_law_whole ev.d_law_whole p_law_whole spWhole := by
  refine ev.A_law_whole.F.ok sc_law_whole (fun vs H Q E h => ?_) (fun cdv A outer s H vs Q E hr h => ?_)
  · obtain ⟨i, rfl, _⟩ := h
    rfl
  obtain ⟨i, rfl, q⟩ := h
  refine ⟨_, (pss_one (ps_ret (pe_and (pe_callB call_isi (by rfl) ev.B.isinstance_ (by decide +kernel) (pa_cons (pv 0) (pa_cons (pe_bltn (v := .ty "int") (by rfl) ev.B.int_ (by decide +kernel) rfl) pa_nil))) (pe_one (pe_not (pe_callB call_isi (by rfl) ev.B.isinstance_ (by decide +kernel) (pa_cons (pv 0) (pa_cons (pe_bltn (v := .ty "bool") (by rfl) ev.B.bool_ (by decide +kernel) rfl) pa_nil)))))))), ?_⟩
  refine ⟨_, rfl, _, _, _, _, true, rfl, .ty _, .base (.int i), kit_ty (by decide +kernel), true, rfl, ?_⟩
  refine iteT ?_
  exact ⟨_, rfl, _, _, _, _, false, rfl, .ty _, .base (.int i), kit_ty (by decide +kernel), false, rfl, q⟩

/-! ### one of several -/
def spAnyK (K : PySem.W.Frag) : Sp := fun vs H Q _ => ∃ (b c l : Addr) (xs : List V), vs = [.ref b, .ref l] ∧ Bag H b c ∧ nL K [b, c] H l xs ∧ xs ≠ [] ∧ xs.length ≤ 1000 ∧ ∀ (v : V) (H' : Hp), v ∈ xs → Bag H' b c → Els b c H H' → Q v H'
theorem ok_law_any (ev : Env K mg) : FnOk P w K mg base CX0 2 ev.f_law_any ev.d_law_any p_law_any (spAnyK K) := by
  refine ev.A_law_any.F.ok sc_law_any (fun vs H Q E h => ?_) (fun cdv A outer s H vs Q E hr h => ?_)
  · obtain ⟨b, c, l, xs, rfl, _⟩ := h
    rfl
  obtain ⟨b, c, l, xs, rfl, hB, hl, hx, h1000, q⟩ := h
  refine ⟨_, (pss_one (ps_ret (pe_ix ix_list (pv 1) (pe_call (ok_law_draw ev) (hr.mono (by decide)) (by rfl) ev.A_law_draw.m ev.A_law_draw.F.kp ev.A_law_draw.b .nil pass0 (pa_cons (pv 0) (pa_cons (pe_callB call_len_seq (by rfl) ev.B.len_ PySem.boot_len (pa_cons (pv 1) pa_nil)) pa_nil))) (fun _ _ => rfl)))), ?_⟩
  have l0 := List.length_pos_iff.mpr hx
  refine ⟨_, rfl, _, rfl, _, rfl, l, _, rfl, .inl hl.sq, b, c, _, rfl, hB, by omega, by omega, fun r H' r0 r1 hB' ex => ?_⟩
  have hl' := hl.mono (show Fr [b, c] H H' from fun p o e n => by
    simp only [List.mem_cons, List.not_mem_nil, or_false, not_or] at n
    exact (ex p n.1 n.2).trans e)
  obtain ⟨v, hv, e⟩ := at_mem (xs := xs) r0 r1
  exact ⟨l, _, _, _, rfl, rfl, hl'.sq, e, q _ _ hv hB' ex⟩

/-! ### the law's own ratio -/
def spRat : Sp := fun vs H Q _ => ∃ o u : Int, vs = [.int o, .int u] ∧ u.natAbs < 2 ^ 9000 ∧ u ≠ 0 ∧ ∀ p, H p = none → Q (.ref p) (upd H p (.tup [.int (rN o u), .int (rD o u)]))
theorem ok_law_rat (ev : Env K mg) : FnOk P w K mg base CX0 1 ev.f_law_rat ev.d_law_rat p_law_rat spRat := by
  refine ev.A_law_rat.F.ok sc_law_rat (fun vs H Q E h => ?_) (fun cdv A outer s H vs Q E hr h => ?_)
  · obtain ⟨o, u, rfl, _⟩ := h
    rfl
  obtain ⟨o, u, rfl, hb, hu0, q⟩ := h
  refine ⟨_, (pss_cons (ps_par (i := 2) (j := 3) (by rfl) sc_law_rat.nd rfl rfl (by decide) rfl rfl (pa_cons (pe_callB call_abs (by rfl) ev.B.abs_ (by decide +kernel) (pa_cons (pv 0) pa_nil)) (pa_cons (pe_callB call_abs (by rfl) ev.B.abs_ (by decide +kernel) (pa_cons (pv 1) pa_nil)) pa_nil)) (by rfl))
    (pss_cons (ps_while PassesOwn.never (pt_cmpR op_gt (pv 3) pe_int (nomark _))
    (pss_one (ps_par (i := 2) (j := 3) (by rfl) sc_law_rat.nd rfl rfl (by decide) rfl rfl (pa_cons (pv 3) (pa_cons (pe_op op_modN (pv 2) (pv 3)) pa_nil)) (by rfl))))
    (pss_cons (ps_if (pt_cmpR op_lt (pv 1) pe_int (nomark _))
    (pss_one (ps_set (i := 2) sc_law_rat.nd rfl (Or.inl rfl) (pe_op op_sub pe_int (pv 2)))) pss_nil)
    (pss_one (ps_ret (pe_tup (pa_cons (pe_op op_fdivZ (pv 0) (pv 2)) (pa_cons (pe_op op_fdivZ (pv 1) (pv 2)) pa_nil)))))))), ?_⟩
  refine ⟨_, rfl, _, rfl, _, rfl, _, rfl, _, _, rfl, ?_⟩
  rw [abs_if, abs_if]
  refine ⟨fun m σ H' => H' = H ∧ ∃ x y : Int, σ = [some (.int o), some (.int u), some (.int x), some (.int y)] ∧ 0 ≤ x ∧ 0 ≤ y ∧ m = y.natAbs ∧ Int.gcd x y = Int.gcd o u, ⟨_, rfl, o.natAbs, u.natAbs, rfl, by omega, by omega, rfl, ?_⟩, ?_⟩
  · unfold Int.gcd
    rw [Int.natAbs_natCast, Int.natAbs_natCast]
  rintro m σ H' ⟨rfl, x, y, rfl, x0, y0, rfl, e⟩
  refine ⟨_, rfl, _, _, rfl, rfl, _, rfl, ?_⟩
  refine ite2 (fun c => ?_) (fun c => ?_)
  · have hy : 0 < y := of_decide_eq_true c
    refine ⟨fun σ' H2 => H2 = H' ∧ σ' = [some (.int o), some (.int u), some (.int y), some (.int (x.fmod y))], ?_, ?_⟩
    · rintro σ' H2 ⟨rfl, rfl⟩
      exact ⟨_, fmod_abs_lt x (by omega), rfl, y, _, rfl, y0, Int.fmod_nonneg_of_pos x hy, rfl, (gcd_fmod x y).trans e⟩
    · exact ⟨_, rfl, _, rfl, _, rfl, _, _, rfl, rfl, (by show y ≠ 0; omega), _, _, rfl, rfl, rfl⟩
  · have hy : y = 0 := by
      have : ¬ 0 < y := fun z => c (decide_eq_true z)
      omega
    subst hy
    rw [Int.gcd_zero_right] at e
    have ex : x = ((Int.gcd o u : Nat) : Int) := by omega
    subst ex
    refine nx_u ?_
    refine seq_by (fun σ H2 => H2 = H' ∧ ∃ y, σ = [some (.int o), some (.int u), some (.int (cOf o u)), y]) ?_ (fun k => ?_)
    rotate_left
    · refine ⟨_, rfl, _, _, rfl, rfl, _, rfl, ?_⟩
      refine ite2 (fun z => ?_) (fun z => ?_)
      · have z' : u < 0 := of_decide_eq_true z
        refine ⟨_, rfl, _, _, rfl, rfl, k _ _ ⟨rfl, some (.int 0), ?_⟩⟩
        unfold cOf
        rw [if_pos z', ← Int.zero_sub]
        all_goals rfl
      · have z' : ¬ u < 0 := fun e => z (decide_eq_true e)
        refine k _ _ ⟨rfl, some (.int 0), ?_⟩
        unfold cOf
        rw [if_neg z']
        all_goals rfl
    rintro σ H' ⟨rfl, y, rfl⟩
    exact ⟨_, rfl, _, rfl, _, _, rfl, rfl, cOf_ok hu0 hb _, _, rfl, _, rfl, _, _, rfl, rfl, cOf_ok hu0 hb _, (by show 2 ≤ sizeLine; decide), fun p hp => q p hp⟩

theorem ev_law_rat {S T : AS} {σ : St} {H : Hp} {E : XK} {ta : TA} {r : Option (Int × Int × Unit)} (h : EvA S T ta σ H (K := K) (aCons tInt (aCons tInt aNil)) r) :
    Ev S T (tCall spRat [] E ta) σ H (of (K := K) tRat S) (bd r fun a => ratio? a.1 a.2.1) := by
  intro z e H1 f1 d Q q
  obtain ⟨x, ex, e⟩ := bd_some e
  unfold ratio? at e
  split at e
  · rename_i hc
    cases e
    refine h x ex H1 f1 d _ fun vs H2 s2 hv => ?_
    obtain ⟨v, _, rfl, h1, w, _, rfl, h2, rfl⟩ := hv
    cases h1
    cases h2
    refine ⟨x.1, x.2.1, rfl, hc.2, hc.1, fun p hp => q _ _ (s2.trans (same_new hp)) ⟨p, rfl, .inl ⟨.inl ?_, (d.same s2).not_mem hp⟩⟩⟩
    rw [upd_same, (rat_rND hc.1).1, (rat_rND hc.1).2]
  · cases e
theorem ew_law_rat {b c : Addr} {S : AS} {σ : St} {H : Hp} {E : XK} {ta : TA} {w : Wp (Int × Int × Unit)} (h : EvWA b c S ta σ H (K := K) (aCons tInt (aCons tInt aNil)) w) :
    EvW b c S (tCall spRat [] E ta) σ H (of (K := K) tRat S) (unW (fun a => ratio? a.1 a.2.1) w) := fun ts P hP H1 f d hB Q q => by
  refine h ts _ hP H1 f d hB _ fun vs H2 x ⟨z, e, hz⟩ f2 d2 hB2 hv => ?_
  dsimp only [ratio?] at e
  split at e
  · rename_i hc
    cases e
    obtain ⟨v, _, rfl, h1, w, _, rfl, h2, rfl⟩ := hv
    cases h1
    cases h2
    refine ⟨x.1, x.2.1, rfl, hc.2, hc.1, fun p hp => q _ _ _ hz (f2.trans (Fr.same (same_new hp))) (d2.same (same_new hp)) (hB2.same (same_new hp)) ⟨p, rfl, .inl ⟨.inl ?_, d2.not_mem hp⟩⟩⟩
    rw [upd_same, (rat_rND hc.1).1, (rat_rND hc.1).2]
  · cases e

/-! ### draws, mirrored -/
theorem els_fr {b c : Addr} {H H' : Hp} (ex : Els b c H H') : Fr [b, c] H H' := fun p o e n => by
  simp only [List.mem_cons, List.not_mem_nil, or_false, not_or] at n
  exact (ex p n.1 n.2).trans e
def drawW (n : Int) : Wp Int := fun P => 0 < n ∧ n < 1073741824 ∧ ∀ r, 0 ≤ r → r < n → P r
def sameW {α : Type} (p : α → Prop) (wa wb : Wp α) : Wp Bool := fun P => wa fun x => wb fun y => x = y ∧ p y ∧ P true
def noSz {α : Type} : α → Prop := fun _ => True
def szT2 {α β : Type} (p : α → Prop) (q : β → Prop) : α × β → Prop := fun x => p x.1 ∧ q x.2
def szT4 {α β γ δ : Type} (p : α → Prop) (q : β → Prop) (r : γ → Prop) (s : δ → Prop) : α × β × γ × δ → Prop := fun x => p x.1 ∧ q x.2.1 ∧ r x.2.2.1 ∧ s x.2.2.2
def szO {α : Type} (p : α → Prop) : Option α → Prop := fun o => ∀ x, o = some x → p x
def szL {α : Type} (p : α → Prop) : List α → Prop := fun xs => xs.length ≤ 1000 ∧ ∀ x ∈ xs, p x
def anyW {α : Type} (xs : List α) : Wp α := fun P => xs ≠ [] ∧ xs.length ≤ 1000 ∧ ∀ x ∈ xs, P x
section
variable {α : Type} {a : Ty K α} {b c : Addr} {S : AS} {σ : St} {H : Hp} {te : TE} {E : XK} {i : Nat}
theorem ew_draw {w : Wp Int} (hi : σ[i]? = some (some (.ref b))) (h : EvW b c S te σ H (of (K := K) tInt S) w) : EvW b c S (tCall spDraw [] E (tCons (tVar i) (tCons te tNil))) σ H (of (K := K) tInt S) (callBW drawW w) := fun ts P hP H1 f d hB Q q => by
  refine ⟨_, hi, h ts _ hP H1 f d hB _ fun v H2 n ⟨n0, n1, hn⟩ f2 d2 hB2 hv => ?_⟩
  cases hv
  exact ⟨b, c, n, rfl, hB2, n0, n1, fun r H' r0 r1 hB' ex => q _ H' r (hn r r0 r1) (f2.trans (els_fr ex)) (dom_fr d2 (els_fr ex) hB') hB' rfl⟩
theorem all2_mem {F : V → α → Prop} : ∀ {vs : List V} {xs : List α} {v : V}, All2 F vs xs → v ∈ vs → ∃ x ∈ xs, F v x
  | _, _, v, .nil, h => by simp at h
  | _, _, v, .cons h r, m => by
    rcases List.mem_cons.mp m with rfl | m
    · exact ⟨_, List.mem_cons_self .., h⟩
    · obtain ⟨x, hx, hv⟩ := all2_mem r m
      exact ⟨x, List.mem_cons_of_mem _ hx, hv⟩
theorem ew_any {w : Wp (List α)} (hi : σ[i]? = some (some (.ref b))) (h : EvW b c S te σ H (of (tL a) S) w) : EvW b c S (tCall (spAnyK K) [] E (tCons (tVar i) (tCons te tNil))) σ H (of a S) (callBW anyW w) := fun ts P hP H1 f d hB Q q => by
  refine ⟨_, hi, h ts _ hP H1 f d hB _ fun v H2 xs ⟨x0, x1, hx⟩ f2 d2 hB2 hv => ?_⟩
  obtain ⟨p, vs, rfl, hp, ha⟩ := hv
  refine ⟨b, c, p, vs, rfl, hB2, hp.sub ts, fun z => x0 (List.length_eq_zero_iff.mp (by rw [← ha.len, z]; rfl)), by rw [ha.len]; exact x1, fun v H' hv hB' ex => ?_⟩
  obtain ⟨x, mx, rx⟩ := all2_mem ha hv
  exact q _ H' x (hx x mx) (f2.trans (els_fr ex)) (dom_fr d2 (els_fr ex) hB') hB' (a.mono ((els_fr ex).sub ts) rx)
theorem ew_anyO {p : Addr} {xs : List α} {j : Nat} (hi : σ[i]? = some (some (.ref b))) (o : Own a S H p xs) (nt : p ∉ [b, c]) (hj : σ[j]? = some (some (.ref p))) : EvW b c S (tCall (spAnyK K) [] E (tCons (tVar i) (tCons (tVar j) tNil))) σ H (of a S) (anyW xs) := fun ts P ⟨x0, x1, hx⟩ H1 f d hB Q q => by
  obtain ⟨vs, hv, ha⟩ := o.fr f ts nt
  refine ⟨_, hi, _, hj, b, c, p, vs, rfl, hB, ⟨hv, nt⟩, fun z => x0 (List.length_eq_zero_iff.mp (by rw [← ha.len, z]; rfl)), by rw [ha.len]; exact x1, fun v H' hv hB' ex => ?_⟩
  obtain ⟨x, mx, rx⟩ := all2_mem ha hv
  exact q _ H' x (hx x mx) (els_fr ex) (dom_fr d (els_fr ex) hB') hB' (a.mono ((els_fr ex).sub ts) rx)
end

theorem ev_whole {S T : AS} {σ : St} {H : Hp} {E : XK} {te : TE} {r : Option Int} (h : Ev S T te σ H (of (K := K) tInt S) r) : Ev S T (tCall spWhole [] E (tCons te tNil)) σ H (of (K := K) tBool S) (bd r fun _ => some true) := by
  intro z e H1 f1 d Q q
  obtain ⟨x, ex, e⟩ := bd_some e
  cases e
  refine h x ex H1 f1 d _ fun v H2 s hv => ?_
  cases hv
  exact ⟨x, rfl, q _ H2 s rfl⟩

end
end G

namespace G
open PySem L2 M
section
variable {P : Program} {w : World} {K : PySem.W.Frag} {mg : Str → Option Value} {base : Heap}

def m_law_sum (d_law_one : Rat) (d_law_two : Rat) : Option Rat :=
  (bd (bd (bd (bd (bd (some d_law_one) fun x => some x.num) fun x => bd (bd (some d_law_two) fun x => some (x.den : Int)) fun y => mul? x y) fun x => bd (bd (bd (some d_law_two) fun x => some x.num) fun x => bd (bd (some d_law_one) fun x => some (x.den : Int)) fun y => mul? x y) fun y => some (x + y)) fun x => bd (bd (bd (bd (some d_law_one) fun x => some (x.den : Int)) fun x => bd (bd (some d_law_two) fun x => some (x.den : Int)) fun y => mul? x y) fun x => bd (some ()) fun y => some (x, y)) fun y => some (x, y)) fun a => ratio? a.1 a.2.1)
abbrev sp_law_sum (K : PySem.W.Frag) : Sp := spF (K := K) (aCons tRat (aCons tRat aNil)) (fun S => of (K := K) tRat S) (fun a => m_law_sum a.1 a.2.1)
theorem ok_law_sum (ev : Env K mg) : FnOk P w K mg base CX0 2 ev.f_law_sum ev.d_law_sum p_law_sum (sp_law_sum K) := by
  refine ev.A_law_sum.F.ok sc_law_sum (fun vs H Q E h => ?_) (fun cdv A outer s H0 vs Q E hr h => ?_)
  · obtain ⟨S, ⟨d_law_one, d_law_two, _⟩, y, _, ⟨v_law_one, _, rfl, h_law_one, v_law_two, _, rfl, h_law_two, rfl⟩, _⟩ := h
    rfl
  obtain ⟨S, ⟨d_law_one, d_law_two, _⟩, y, dm, ⟨v_law_one, _, rfl, h_law_one, v_law_two, _, rfl, h_law_two, rfl⟩, hm, q⟩ := h
  have ts : Sub [] S := fun a m => by simp at m
  have fr0 := Fr.refl (T := []) H0
  have sub0 : Sub S S := fun a m => m
  refine ⟨_, (pss_one (ps_ret (pe_call (ok_law_rat ev) (hr.mono (by decide)) (by rfl) ev.A_law_rat.m ev.A_law_rat.F.kp ev.A_law_rat.b .nil pass0 (pa_cons (pe_op op_add (pe_op op_mulW (pe_ix ix_tup (pv 0) pe_int (fun _ _ => rfl)) (pe_ix ix_tup (pv 1) pe_int (fun _ _ => rfl))) (pe_op op_mulW (pe_ix ix_tup (pv 1) pe_int (fun _ _ => rfl)) (pe_ix ix_tup (pv 0) pe_int (fun _ _ => rfl)))) (pa_cons (pe_op op_mulW (pe_ix ix_tup (pv 0) pe_int (fun _ _ => rfl)) (pe_ix ix_tup (pv 1) pe_int (fun _ _ => rfl))) pa_nil))))), ?_⟩
  dsimp only [m_law_sum] at hm
  have er := hm
  exact q_ret (T := []) dm (ev_law_rat (ea_cons (ev_op (od_add (K := K)) (ev_op (od_mul (K := K)) (ev_ixR0 (ev_var ts h_law_one rfl)) (ev_ixR1 (ev_var ts h_law_two rfl))) (ev_op (od_mul (K := K)) (ev_ixR0 (ev_var ts h_law_two rfl)) (ev_ixR1 (ev_var ts h_law_one rfl)))) (ea_cons (ev_op (od_mul (K := K)) (ev_ixR1 (ev_var ts h_law_one rfl)) (ev_ixR1 (ev_var ts h_law_two rfl))) ea_nil))) er (fun v H1 s1 hv => q v H1 (fr0.trans (Fr.same s1)).toSame ((tRat : Ty K Rat).sub (S := S) (H := H1) sub0 hv))
def m_law_dif (d_law_one : Rat) (d_law_two : Rat) : Option Rat :=
  (bd (bd (bd (bd (bd (some d_law_one) fun x => some x.num) fun x => bd (bd (some d_law_two) fun x => some (x.den : Int)) fun y => mul? x y) fun x => bd (bd (bd (some d_law_two) fun x => some x.num) fun x => bd (bd (some d_law_one) fun x => some (x.den : Int)) fun y => mul? x y) fun y => some (x - y)) fun x => bd (bd (bd (bd (some d_law_one) fun x => some (x.den : Int)) fun x => bd (bd (some d_law_two) fun x => some (x.den : Int)) fun y => mul? x y) fun x => bd (some ()) fun y => some (x, y)) fun y => some (x, y)) fun a => ratio? a.1 a.2.1)
abbrev sp_law_dif (K : PySem.W.Frag) : Sp := spF (K := K) (aCons tRat (aCons tRat aNil)) (fun S => of (K := K) tRat S) (fun a => m_law_dif a.1 a.2.1)
theorem ok_law_dif (ev : Env K mg) : FnOk P w K mg base CX0 2 ev.f_law_dif ev.d_law_dif p_law_dif (sp_law_dif K) := by
  refine ev.A_law_dif.F.ok sc_law_dif (fun vs H Q E h => ?_) (fun cdv A outer s H0 vs Q E hr h => ?_)
  · obtain ⟨S, ⟨d_law_one, d_law_two, _⟩, y, _, ⟨v_law_one, _, rfl, h_law_one, v_law_two, _, rfl, h_law_two, rfl⟩, _⟩ := h
    rfl
  obtain ⟨S, ⟨d_law_one, d_law_two, _⟩, y, dm, ⟨v_law_one, _, rfl, h_law_one, v_law_two, _, rfl, h_law_two, rfl⟩, hm, q⟩ := h
  have ts : Sub [] S := fun a m => by simp at m
  have fr0 := Fr.refl (T := []) H0
  have sub0 : Sub S S := fun a m => m
  refine ⟨_, (pss_one (ps_ret (pe_call (ok_law_rat ev) (hr.mono (by decide)) (by rfl) ev.A_law_rat.m ev.A_law_rat.F.kp ev.A_law_rat.b .nil pass0 (pa_cons (pe_op op_sub (pe_op op_mulW (pe_ix ix_tup (pv 0) pe_int (fun _ _ => rfl)) (pe_ix ix_tup (pv 1) pe_int (fun _ _ => rfl))) (pe_op op_mulW (pe_ix ix_tup (pv 1) pe_int (fun _ _ => rfl)) (pe_ix ix_tup (pv 0) pe_int (fun _ _ => rfl)))) (pa_cons (pe_op op_mulW (pe_ix ix_tup (pv 0) pe_int (fun _ _ => rfl)) (pe_ix ix_tup (pv 1) pe_int (fun _ _ => rfl))) pa_nil))))), ?_⟩
  dsimp only [m_law_dif] at hm
  have er := hm
  exact q_ret (T := []) dm (ev_law_rat (ea_cons (ev_op (od_sub (K := K)) (ev_op (od_mul (K := K)) (ev_ixR0 (ev_var ts h_law_one rfl)) (ev_ixR1 (ev_var ts h_law_two rfl))) (ev_op (od_mul (K := K)) (ev_ixR0 (ev_var ts h_law_two rfl)) (ev_ixR1 (ev_var ts h_law_one rfl)))) (ea_cons (ev_op (od_mul (K := K)) (ev_ixR1 (ev_var ts h_law_one rfl)) (ev_ixR1 (ev_var ts h_law_two rfl))) ea_nil))) er (fun v H1 s1 hv => q v H1 (fr0.trans (Fr.same s1)).toSame ((tRat : Ty K Rat).sub (S := S) (H := H1) sub0 hv))
def m_law_prod (d_law_one : Rat) (d_law_two : Rat) : Option Rat :=
  (bd (bd (bd (bd (some d_law_one) fun x => some x.num) fun x => bd (bd (some d_law_two) fun x => some x.num) fun y => mul? x y) fun x => bd (bd (bd (bd (some d_law_one) fun x => some (x.den : Int)) fun x => bd (bd (some d_law_two) fun x => some (x.den : Int)) fun y => mul? x y) fun x => bd (some ()) fun y => some (x, y)) fun y => some (x, y)) fun a => ratio? a.1 a.2.1)
abbrev sp_law_prod (K : PySem.W.Frag) : Sp := spF (K := K) (aCons tRat (aCons tRat aNil)) (fun S => of (K := K) tRat S) (fun a => m_law_prod a.1 a.2.1)
theorem ok_law_prod (ev : Env K mg) : FnOk P w K mg base CX0 2 ev.f_law_prod ev.d_law_prod p_law_prod (sp_law_prod K) := by
  refine ev.A_law_prod.F.ok sc_law_prod (fun vs H Q E h => ?_) (fun cdv A outer s H0 vs Q E hr h => ?_)
  · obtain ⟨S, ⟨d_law_one, d_law_two, _⟩, y, _, ⟨v_law_one, _, rfl, h_law_one, v_law_two, _, rfl, h_law_two, rfl⟩, _⟩ := h
    rfl
  obtain ⟨S, ⟨d_law_one, d_law_two, _⟩, y, dm, ⟨v_law_one, _, rfl, h_law_one, v_law_two, _, rfl, h_law_two, rfl⟩, hm, q⟩ := h
  have ts : Sub [] S := fun a m => by simp at m
  have fr0 := Fr.refl (T := []) H0
  have sub0 : Sub S S := fun a m => m
  refine ⟨_, (pss_one (ps_ret (pe_call (ok_law_rat ev) (hr.mono (by decide)) (by rfl) ev.A_law_rat.m ev.A_law_rat.F.kp ev.A_law_rat.b .nil pass0 (pa_cons (pe_op op_mulW (pe_ix ix_tup (pv 0) pe_int (fun _ _ => rfl)) (pe_ix ix_tup (pv 1) pe_int (fun _ _ => rfl))) (pa_cons (pe_op op_mulW (pe_ix ix_tup (pv 0) pe_int (fun _ _ => rfl)) (pe_ix ix_tup (pv 1) pe_int (fun _ _ => rfl))) pa_nil))))), ?_⟩
  dsimp only [m_law_prod] at hm
  have er := hm
  exact q_ret (T := []) dm (ev_law_rat (ea_cons (ev_op (od_mul (K := K)) (ev_ixR0 (ev_var ts h_law_one rfl)) (ev_ixR0 (ev_var ts h_law_two rfl))) (ea_cons (ev_op (od_mul (K := K)) (ev_ixR1 (ev_var ts h_law_one rfl)) (ev_ixR1 (ev_var ts h_law_two rfl))) ea_nil))) er (fun v H1 s1 hv => q v H1 (fr0.trans (Fr.same s1)).toSame ((tRat : Ty K Rat).sub (S := S) (H := H1) sub0 hv))
def m_law_quo (d_law_one : Rat) (d_law_two : Rat) : Option Rat :=
  (bd (bd (bd (bd (some d_law_one) fun x => some x.num) fun x => bd (bd (some d_law_two) fun x => some (x.den : Int)) fun y => mul? x y) fun x => bd (bd (bd (bd (some d_law_one) fun x => some (x.den : Int)) fun x => bd (bd (some d_law_two) fun x => some x.num) fun y => mul? x y) fun x => bd (some ()) fun y => some (x, y)) fun y => some (x, y)) fun a => ratio? a.1 a.2.1)
abbrev sp_law_quo (K : PySem.W.Frag) : Sp := spF (K := K) (aCons tRat (aCons tRat aNil)) (fun S => of (K := K) tRat S) (fun a => m_law_quo a.1 a.2.1)
theorem ok_law_quo (ev : Env K mg) : FnOk P w K mg base CX0 2 ev.f_law_quo ev.d_law_quo p_law_quo (sp_law_quo K) := by
  refine ev.A_law_quo.F.ok sc_law_quo (fun vs H Q E h => ?_) (fun cdv A outer s H0 vs Q E hr h => ?_)
  · obtain ⟨S, ⟨d_law_one, d_law_two, _⟩, y, _, ⟨v_law_one, _, rfl, h_law_one, v_law_two, _, rfl, h_law_two, rfl⟩, _⟩ := h
    rfl
  obtain ⟨S, ⟨d_law_one, d_law_two, _⟩, y, dm, ⟨v_law_one, _, rfl, h_law_one, v_law_two, _, rfl, h_law_two, rfl⟩, hm, q⟩ := h
  have ts : Sub [] S := fun a m => by simp at m
  have fr0 := Fr.refl (T := []) H0
  have sub0 : Sub S S := fun a m => m
  refine ⟨_, (pss_one (ps_ret (pe_call (ok_law_rat ev) (hr.mono (by decide)) (by rfl) ev.A_law_rat.m ev.A_law_rat.F.kp ev.A_law_rat.b .nil pass0 (pa_cons (pe_op op_mulW (pe_ix ix_tup (pv 0) pe_int (fun _ _ => rfl)) (pe_ix ix_tup (pv 1) pe_int (fun _ _ => rfl))) (pa_cons (pe_op op_mulW (pe_ix ix_tup (pv 0) pe_int (fun _ _ => rfl)) (pe_ix ix_tup (pv 1) pe_int (fun _ _ => rfl))) pa_nil))))), ?_⟩
  dsimp only [m_law_quo] at hm
  have er := hm
  exact q_ret (T := []) dm (ev_law_rat (ea_cons (ev_op (od_mul (K := K)) (ev_ixR0 (ev_var ts h_law_one rfl)) (ev_ixR1 (ev_var ts h_law_two rfl))) (ea_cons (ev_op (od_mul (K := K)) (ev_ixR1 (ev_var ts h_law_one rfl)) (ev_ixR0 (ev_var ts h_law_two rfl))) ea_nil))) er (fun v H1 s1 hv => q v H1 (fr0.trans (Fr.same s1)).toSame ((tRat : Ty K Rat).sub (S := S) (H := H1) sub0 hv))
def m_law_comp (d_law_one : Rat) (d_law_two : Rat) : Option Int :=
  (bd (bd (bd (some d_law_one) fun x => some x.num) fun x => bd (bd (some d_law_two) fun x => some (x.den : Int)) fun y => mul? x y) fun x => bd (bd (bd (some d_law_two) fun x => some x.num) fun x => bd (bd (some d_law_one) fun x => some (x.den : Int)) fun y => mul? x y) fun y => some (x - y))
abbrev sp_law_comp (K : PySem.W.Frag) : Sp := spF (K := K) (aCons tRat (aCons tRat aNil)) (fun S => of (K := K) tInt S) (fun a => m_law_comp a.1 a.2.1)
theorem ok_law_comp (ev : Env K mg) : FnOk P w K mg base CX0 1 ev.f_law_comp ev.d_law_comp p_law_comp (sp_law_comp K) := by
  refine ev.A_law_comp.F.ok sc_law_comp (fun vs H Q E h => ?_) (fun cdv A outer s H0 vs Q E hr h => ?_)
  · obtain ⟨S, ⟨d_law_one, d_law_two, _⟩, y, _, ⟨v_law_one, _, rfl, h_law_one, v_law_two, _, rfl, h_law_two, rfl⟩, _⟩ := h
    rfl
  obtain ⟨S, ⟨d_law_one, d_law_two, _⟩, y, dm, ⟨v_law_one, _, rfl, h_law_one, v_law_two, _, rfl, h_law_two, rfl⟩, hm, q⟩ := h
  have ts : Sub [] S := fun a m => by simp at m
  have fr0 := Fr.refl (T := []) H0
  have sub0 : Sub S S := fun a m => m
  refine ⟨_, (pss_one (ps_ret (pe_op op_sub (pe_op op_mulW (pe_ix ix_tup (pv 0) pe_int (fun _ _ => rfl)) (pe_ix ix_tup (pv 1) pe_int (fun _ _ => rfl))) (pe_op op_mulW (pe_ix ix_tup (pv 1) pe_int (fun _ _ => rfl)) (pe_ix ix_tup (pv 0) pe_int (fun _ _ => rfl)))))), ?_⟩
  dsimp only [m_law_comp] at hm
  have er := hm
  exact q_ret (T := []) dm (ev_op (od_sub (K := K)) (ev_op (od_mul (K := K)) (ev_ixR0 (ev_var ts h_law_one rfl)) (ev_ixR1 (ev_var ts h_law_two rfl))) (ev_op (od_mul (K := K)) (ev_ixR0 (ev_var ts h_law_two rfl)) (ev_ixR1 (ev_var ts h_law_one rfl)))) er (fun v H1 s1 hv => q v H1 (fr0.trans (Fr.same s1)).toSame ((tInt : Ty K Int).sub (S := S) (H := H1) sub0 hv))
def m_law_is_ratio (d_law_one : Rat) : Option Bool :=
  (bd (bd (bd (bd (some d_law_one) fun _ => some true) fun x => some (!x)) fun x => if x then some true else (bd (bd (some d_law_one) fun _ => some (2 : Int)) fun x => bd (some (2 : Int)) fun y => some (!decide (x = y)))) fun c1 => if c1 then (some false) else (bd (bd (bd (bd (bd (some d_law_one) fun x => some x.num) fun _ => some true) fun x => some (!x)) fun x => if x then some true else (bd (bd (bd (some d_law_one) fun x => some (x.den : Int)) fun _ => some true) fun x => some (!x))) fun c2 => if c2 then (some false) else (bd (bd (bd (some d_law_one) fun x => some (x.den : Int)) fun x => bd (some (0 : Int)) fun y => some (decide (y < x))) fun x => if x then (bd (bd (bd (bd (some d_law_one) fun x => some x.num) fun x => bd (bd (bd (some d_law_one) fun x => some (x.den : Int)) fun x => bd (some ()) fun y => some (x, y)) fun y => some (x, y)) fun a => ratio? a.1 a.2.1) fun x => bd (some d_law_one) fun y => some (decide (x = y))) else some false)))
abbrev sp_law_is_ratio (K : PySem.W.Frag) : Sp := spF (K := K) (aCons tRat aNil) (fun S => of (K := K) tBool S) (fun a => m_law_is_ratio a.1)
theorem ok_law_is_ratio (ev : Env K mg) : FnOk P w K mg base CX0 2 ev.f_law_is_ratio ev.d_law_is_ratio p_law_is_ratio (sp_law_is_ratio K) := by
  refine ev.A_law_is_ratio.F.ok sc_law_is_ratio (fun vs H Q E h => ?_) (fun cdv A outer s H0 vs Q E hr h => ?_)
  · obtain ⟨S, ⟨d_law_one, _⟩, y, _, ⟨v_law_one, _, rfl, h_law_one, rfl⟩, _⟩ := h
    rfl
  obtain ⟨S, ⟨d_law_one, _⟩, y, dm, ⟨v_law_one, _, rfl, h_law_one, rfl⟩, hm, q⟩ := h
  have ts : Sub [] S := fun a m => by simp at m
  have fr0 := Fr.refl (T := []) H0
  have sub0 : Sub S S := fun a m => m
  refine ⟨_, (pss_cons (ps_if (PW.pt (pw_or (pt_not (pt_val (pe_callB call_isi (by rfl) ev.B.isinstance_ (by decide +kernel) (pa_cons (pv 0) (pa_cons (pe_bltn (v := .ty "tuple") (by rfl) ev.B.tuple_ (by decide +kernel) rfl) pa_nil))))) (pw_or1 (pt_cmpR op_ne (pe_callB call_len_seq (by rfl) ev.B.len_ PySem.boot_len (pa_cons (pv 0) pa_nil)) pe_int (nomark _)))))
    (pss_one (ps_ret pe_bl)) pss_nil)
    (pss_cons (ps_if (PW.pt (pw_or (pt_not (pt_val (pe_call (ok_law_whole ev) (hr.mono (by decide)) (by rfl) ev.A_law_whole.m ev.A_law_whole.F.kp ev.A_law_whole.b .nil pass0 (pa_cons (pe_ix ix_tup (pv 0) pe_int (fun _ _ => rfl)) pa_nil)))) (pw_or1 (pt_not (pt_val (pe_call (ok_law_whole ev) (hr.mono (by decide)) (by rfl) ev.A_law_whole.m ev.A_law_whole.F.kp ev.A_law_whole.b .nil pass0 (pa_cons (pe_ix ix_tup (pv 0) pe_int (fun _ _ => rfl)) pa_nil)))))))
    (pss_one (ps_ret pe_bl)) pss_nil)
    (pss_one (ps_ret (pe_and (pe_cmpR op_gt (pe_ix ix_tup (pv 0) pe_int (fun _ _ => rfl)) pe_int (nomark _)) (pe_one (pe_cmpR (op_eqD hr.units) (pe_call (ok_law_rat ev) (hr.mono (by decide)) (by rfl) ev.A_law_rat.m ev.A_law_rat.F.kp ev.A_law_rat.b .nil pass0 (pa_cons (pe_ix ix_tup (pv 0) pe_int (fun _ _ => rfl)) (pa_cons (pe_ix ix_tup (pv 0) pe_int (fun _ _ => rfl)) pa_nil))) (pv 0) (nomark _)))))))), ?_⟩
  dsimp only [m_law_is_ratio] at hm
  obtain ⟨c1, e1, hm⟩ := bd_some hm
  refine q_if (T := []) dm (eb_or (eb_not (eb_B (K := K) (ev_isi (a := (tRat : Ty K Rat)) (ev_var ts h_law_one rfl) (by decide +kernel)))) (eb_test (K := K) (ev_op (od_neI (K := K)) (ev_lenR (ev_var ts h_law_one rfl)) (ev_int (K := K))))) e1 (fun hc H1 s1 => ?_) (fun hc H1 s1 => ?_)
  · skip
    subst hc
    have hm := if_t hm
    have fr0 := fr0.trans (Fr.same s1)
    have dm := dm.same s1
    have h_law_one := (tRat : Ty K Rat).mono (S := S) (Fr.same s1) h_law_one
    have er := hm
    exact q_ret (T := []) dm (ev_bool (K := K)) er (fun v H3 s3 hv => q v H3 (fr0.trans (Fr.same s3)).toSame ((tBool : Ty K Bool).sub (S := S) (H := H3) sub0 hv))
  subst hc
  have hm := if_f hm
  have fr0 := fr0.trans (Fr.same s1)
  have dm := dm.same s1
  have h_law_one := (tRat : Ty K Rat).mono (S := S) (Fr.same s1) h_law_one
  refine q_next ?_
  obtain ⟨c2, e2, hm⟩ := bd_some hm
  refine q_if (T := []) dm (eb_or (eb_not (eb_B (K := K) (ev_whole (ev_ixR0 (ev_var ts h_law_one rfl))))) (eb_not (eb_B (K := K) (ev_whole (ev_ixR1 (ev_var ts h_law_one rfl)))))) e2 (fun hc H2 s2 => ?_) (fun hc H2 s2 => ?_)
  · skip
    subst hc
    have hm := if_t hm
    have fr0 := fr0.trans (Fr.same s2)
    have dm := dm.same s2
    have h_law_one := (tRat : Ty K Rat).mono (S := S) (Fr.same s2) h_law_one
    have er := hm
    exact q_ret (T := []) dm (ev_bool (K := K)) er (fun v H4 s4 hv => q v H4 (fr0.trans (Fr.same s4)).toSame ((tBool : Ty K Bool).sub (S := S) (H := H4) sub0 hv))
  subst hc
  have hm := if_f hm
  have fr0 := fr0.trans (Fr.same s2)
  have dm := dm.same s2
  have h_law_one := (tRat : Ty K Rat).mono (S := S) (Fr.same s2) h_law_one
  refine q_next ?_
  have er := hm
  exact q_ret (T := []) dm (ev_and (ev_op (od_gt (K := K)) (ev_ixR1 (ev_var ts h_law_one rfl)) (ev_int (K := K))) (ev_op (od_eqD (K := K) dRat (Nat.le_of_ble_eq_true rfl)) (ev_law_rat (ea_cons (ev_ixR0 (ev_var ts h_law_one rfl)) (ea_cons (ev_ixR1 (ev_var ts h_law_one rfl)) ea_nil))) (ev_var ts h_law_one rfl))) er (fun v H5 s5 hv => q v H5 (fr0.trans (Fr.same s5)).toSame ((tBool : Ty K Bool).sub (S := S) (H := H5) sub0 hv))
def m_law_is_spot (d_law_spot_here : (Rat × Rat)) : Option Bool :=
  (bd (bd (bd (bd (some d_law_spot_here) fun _ => some true) fun x => some (!x)) fun x => if x then some true else (bd (bd (some d_law_spot_here) fun _ => some (2 : Int)) fun x => bd (some (2 : Int)) fun y => some (!decide (x = y)))) fun c1 => if c1 then (some false) else (bd (bd (bd (bd (some d_law_spot_here) fun x => some x.1) fun x => bd (some ()) fun y => some (x, y)) fun a => m_law_is_ratio a.1) fun x => if x then (bd (bd (bd (some d_law_spot_here) fun x => some x.2) fun x => bd (some ()) fun y => some (x, y)) fun a => m_law_is_ratio a.1) else some false))
abbrev sp_law_is_spot (K : PySem.W.Frag) : Sp := spF (K := K) (aCons (tT2 tRat tRat) aNil) (fun S => of (K := K) tBool S) (fun a => m_law_is_spot a.1)
theorem ok_law_is_spot (ev : Env K mg) : FnOk P w K mg base CX0 3 ev.f_law_is_spot ev.d_law_is_spot p_law_is_spot (sp_law_is_spot K) := by
  refine ev.A_law_is_spot.F.ok sc_law_is_spot (fun vs H Q E h => ?_) (fun cdv A outer s H0 vs Q E hr h => ?_)
  · obtain ⟨S, ⟨d_law_spot_here, _⟩, y, _, ⟨v_law_spot_here, _, rfl, h_law_spot_here, rfl⟩, _⟩ := h
    rfl
  obtain ⟨S, ⟨d_law_spot_here, _⟩, y, dm, ⟨v_law_spot_here, _, rfl, h_law_spot_here, rfl⟩, hm, q⟩ := h
  have ts : Sub [] S := fun a m => by simp at m
  have fr0 := Fr.refl (T := []) H0
  have sub0 : Sub S S := fun a m => m
  refine ⟨_, (pss_cons (ps_if (PW.pt (pw_or (pt_not (pt_val (pe_callB call_isi (by rfl) ev.B.isinstance_ (by decide +kernel) (pa_cons (pv 0) (pa_cons (pe_bltn (v := .ty "tuple") (by rfl) ev.B.tuple_ (by decide +kernel) rfl) pa_nil))))) (pw_or1 (pt_cmpR op_ne (pe_callB call_len_seq (by rfl) ev.B.len_ PySem.boot_len (pa_cons (pv 0) pa_nil)) pe_int (nomark _)))))
    (pss_one (ps_ret pe_bl)) pss_nil)
    (pss_one (ps_ret (pe_and (pe_call (ok_law_is_ratio ev) (hr.mono (by decide)) (by rfl) ev.A_law_is_ratio.m ev.A_law_is_ratio.F.kp ev.A_law_is_ratio.b .nil pass0 (pa_cons (pe_ix ix_tup (pv 0) pe_int (fun _ _ => rfl)) pa_nil)) (pe_one (pe_call (ok_law_is_ratio ev) (hr.mono (by decide)) (by rfl) ev.A_law_is_ratio.m ev.A_law_is_ratio.F.kp ev.A_law_is_ratio.b .nil pass0 (pa_cons (pe_ix ix_tup (pv 0) pe_int (fun _ _ => rfl)) pa_nil))))))), ?_⟩
  dsimp only [m_law_is_spot] at hm
  obtain ⟨c1, e1, hm⟩ := bd_some hm
  refine q_if (T := []) dm (eb_or (eb_not (eb_B (K := K) (ev_isi (a := ((tT2 tRat tRat) : Ty K (Rat × Rat))) (ev_var ts h_law_spot_here rfl) (by decide +kernel)))) (eb_test (K := K) (ev_op (od_neI (K := K)) (ev_lenT2 (ev_var ts h_law_spot_here rfl)) (ev_int (K := K))))) e1 (fun hc H1 s1 => ?_) (fun hc H1 s1 => ?_)
  · skip
    subst hc
    have hm := if_t hm
    have fr0 := fr0.trans (Fr.same s1)
    have dm := dm.same s1
    have h_law_spot_here := ((tT2 tRat tRat) : Ty K (Rat × Rat)).mono (S := S) (Fr.same s1) h_law_spot_here
    have er := hm
    exact q_ret (T := []) dm (ev_bool (K := K)) er (fun v H2 s2 hv => q v H2 (fr0.trans (Fr.same s2)).toSame ((tBool : Ty K Bool).sub (S := S) (H := H2) sub0 hv))
  subst hc
  have hm := if_f hm
  have fr0 := fr0.trans (Fr.same s1)
  have dm := dm.same s1
  have h_law_spot_here := ((tT2 tRat tRat) : Ty K (Rat × Rat)).mono (S := S) (Fr.same s1) h_law_spot_here
  refine q_next ?_
  have er := hm
  exact q_ret (T := []) dm (ev_and (ev_call (ea_cons (ev_ix20 (ev_var ts h_law_spot_here rfl)) ea_nil)) (ev_call (ea_cons (ev_ix21 (ev_var ts h_law_spot_here rfl)) ea_nil))) er (fun v H3 s3 hv => q v H3 (fr0.trans (Fr.same s3)).toSame ((tBool : Ty K Bool).sub (S := S) (H := H3) sub0 hv))
def m_law_on (d_law_one : (Rat × Rat)) (d_law_two : (Rat × Rat)) (d_law_part : Rat) : Option (Rat × Rat) :=
  (bd (bd (bd (bd (some d_law_one) fun x => some x.1) fun x => bd (bd (bd (bd (some d_law_part) fun x => bd (bd (bd (bd (bd (some d_law_two) fun x => some x.1) fun x => bd (bd (bd (some d_law_one) fun x => some x.1) fun x => bd (some ()) fun y => some (x, y)) fun y => some (x, y)) fun a => m_law_dif a.1 a.2.1) fun x => bd (some ()) fun y => some (x, y)) fun y => some (x, y)) fun a => m_law_prod a.1 a.2.1) fun x => bd (some ()) fun y => some (x, y)) fun y => some (x, y)) fun a => m_law_sum a.1 a.2.1) fun law_x_1 => (bd (some law_x_1) fun x => bd (bd (bd (bd (some d_law_one) fun x => some x.2) fun x => bd (bd (bd (bd (some d_law_part) fun x => bd (bd (bd (bd (bd (some d_law_two) fun x => some x.2) fun x => bd (bd (bd (some d_law_one) fun x => some x.2) fun x => bd (some ()) fun y => some (x, y)) fun y => some (x, y)) fun a => m_law_dif a.1 a.2.1) fun x => bd (some ()) fun y => some (x, y)) fun y => some (x, y)) fun a => m_law_prod a.1 a.2.1) fun x => bd (some ()) fun y => some (x, y)) fun y => some (x, y)) fun a => m_law_sum a.1 a.2.1) fun y => some (x, y)))
abbrev sp_law_on (K : PySem.W.Frag) : Sp := spF (K := K) (aCons (tT2 tRat tRat) (aCons (tT2 tRat tRat) (aCons tRat aNil))) (fun S => of (K := K) (tT2 tRat tRat) S) (fun a => m_law_on a.1 a.2.1 a.2.2.1)
theorem ok_law_on (ev : Env K mg) : FnOk P w K mg base CX0 3 ev.f_law_on ev.d_law_on p_law_on (sp_law_on K) := by
  refine ev.A_law_on.F.ok sc_law_on (fun vs H Q E h => ?_) (fun cdv A outer s H0 vs Q E hr h => ?_)
  · obtain ⟨S, ⟨d_law_one, d_law_two, d_law_part, _⟩, y, _, ⟨v_law_one, _, rfl, h_law_one, v_law_two, _, rfl, h_law_two, v_law_part, _, rfl, h_law_part, rfl⟩, _⟩ := h
    rfl
  obtain ⟨S, ⟨d_law_one, d_law_two, d_law_part, _⟩, y, dm, ⟨v_law_one, _, rfl, h_law_one, v_law_two, _, rfl, h_law_two, v_law_part, _, rfl, h_law_part, rfl⟩, hm, q⟩ := h
  have ts : Sub [] S := fun a m => by simp at m
  have fr0 := Fr.refl (T := []) H0
  have sub0 : Sub S S := fun a m => m
  refine ⟨_, (pss_cons (ps_set (i := 3) sc_law_on.nd rfl (Or.inl rfl) (pe_call (ok_law_sum ev) (hr.mono (by decide)) (by rfl) ev.A_law_sum.m ev.A_law_sum.F.kp ev.A_law_sum.b .nil pass0 (pa_cons (pe_ix ix_tup (pv 0) pe_int (fun _ _ => rfl)) (pa_cons (pe_call (ok_law_prod ev) (hr.mono (by decide)) (by rfl) ev.A_law_prod.m ev.A_law_prod.F.kp ev.A_law_prod.b .nil pass0 (pa_cons (pv 2) (pa_cons (pe_call (ok_law_dif ev) (hr.mono (by decide)) (by rfl) ev.A_law_dif.m ev.A_law_dif.F.kp ev.A_law_dif.b .nil pass0 (pa_cons (pe_ix ix_tup (pv 1) pe_int (fun _ _ => rfl)) (pa_cons (pe_ix ix_tup (pv 0) pe_int (fun _ _ => rfl)) pa_nil))) pa_nil))) pa_nil))))
    (pss_one (ps_ret (pe_tup (pa_cons (pv 3) (pa_cons (pe_call (ok_law_sum ev) (hr.mono (by decide)) (by rfl) ev.A_law_sum.m ev.A_law_sum.F.kp ev.A_law_sum.b .nil pass0 (pa_cons (pe_ix ix_tup (pv 0) pe_int (fun _ _ => rfl)) (pa_cons (pe_call (ok_law_prod ev) (hr.mono (by decide)) (by rfl) ev.A_law_prod.m ev.A_law_prod.F.kp ev.A_law_prod.b .nil pass0 (pa_cons (pv 2) (pa_cons (pe_call (ok_law_dif ev) (hr.mono (by decide)) (by rfl) ev.A_law_dif.m ev.A_law_dif.F.kp ev.A_law_dif.b .nil pass0 (pa_cons (pe_ix ix_tup (pv 1) pe_int (fun _ _ => rfl)) (pa_cons (pe_ix ix_tup (pv 0) pe_int (fun _ _ => rfl)) pa_nil))) pa_nil))) pa_nil))) pa_nil)))))), ?_⟩
  dsimp only [m_law_on] at hm
  obtain ⟨law_x_1, e1, hm⟩ := bd_some hm
  refine q_asg (T := []) dm (ev_call (ea_cons (ev_ix20 (ev_var ts h_law_one rfl)) (ea_cons (ev_call (ea_cons (ev_var ts h_law_part rfl) (ea_cons (ev_call (ea_cons (ev_ix20 (ev_var ts h_law_two rfl)) (ea_cons (ev_ix20 (ev_var ts h_law_one rfl)) ea_nil))) ea_nil))) ea_nil))) e1 (fun v_law_x H1 s1 h_law_x => ?_)
  have fr0 := fr0.trans (Fr.same s1)
  have dm := dm.same s1
  have h_law_one := ((tT2 tRat tRat) : Ty K (Rat × Rat)).mono (S := S) (Fr.same s1) h_law_one
  have h_law_two := ((tT2 tRat tRat) : Ty K (Rat × Rat)).mono (S := S) (Fr.same s1) h_law_two
  have h_law_part := (tRat : Ty K Rat).mono (S := S) (Fr.same s1) h_law_part
  have h_law_x : (tRat : Ty K Rat).rp S H1 v_law_x law_x_1 := h_law_x
  have er := hm
  exact q_ret (T := []) dm (ev_tup2 (ev_var ts h_law_x rfl) (ev_call (ea_cons (ev_ix21 (ev_var ts h_law_one rfl)) (ea_cons (ev_call (ea_cons (ev_var ts h_law_part rfl) (ea_cons (ev_call (ea_cons (ev_ix21 (ev_var ts h_law_two rfl)) (ea_cons (ev_ix21 (ev_var ts h_law_one rfl)) ea_nil))) ea_nil))) ea_nil)))) er (fun v H2 s2 hv => q v H2 (fr0.trans (Fr.same s2)).toSame (((tT2 tRat tRat) : Ty K (Rat × Rat)).sub (S := S) (H := H2) sub0 hv))
def m_law_span (d_law_bits_here : (Option (Rat × Rat))) (d_law_start : Rat) (d_law_far : Rat) (d_law_low : Rat) (d_law_high : Rat) : Option (Option (Rat × Rat)) :=
  (optM d_law_bits_here (bd (some ()) fun _ => some none) fun law_bits_here_1 => (bd (bd (bd (some d_law_far) fun x => some x.num) fun x => bd (some (0 : Int)) fun y => some (decide (x = y))) fun c2 => if c2 then (bd (bd (bd (bd (bd (some d_law_low) fun x => bd (bd (some d_law_start) fun x => bd (some ()) fun y => some (x, y)) fun y => some (x, y)) fun a => m_law_comp a.1 a.2.1) fun x => bd (some (0 : Int)) fun y => some (decide (x ≤ y))) fun x => if x then (bd (bd (bd (some d_law_start) fun x => bd (bd (some d_law_high) fun x => bd (some ()) fun y => some (x, y)) fun y => some (x, y)) fun a => m_law_comp a.1 a.2.1) fun x => bd (some (0 : Int)) fun y => some (decide (x ≤ y))) else some false) fun law_good_3 => (bd (some law_good_3) fun x => if x then (bd (some law_bits_here_1) fun x => some (some x)) else (bd (some ()) fun _ => some none))) else (bd (bd (bd (bd (bd (bd (some d_law_low) fun x => bd (bd (some d_law_start) fun x => bd (some ()) fun y => some (x, y)) fun y => some (x, y)) fun a => m_law_dif a.1 a.2.1) fun x => bd (bd (some d_law_far) fun x => bd (some ()) fun y => some (x, y)) fun y => some (x, y)) fun a => m_law_quo a.1 a.2.1) fun x => bd (bd (bd (bd (bd (bd (some d_law_high) fun x => bd (bd (some d_law_start) fun x => bd (some ()) fun y => some (x, y)) fun y => some (x, y)) fun a => m_law_dif a.1 a.2.1) fun x => bd (bd (some d_law_far) fun x => bd (some ()) fun y => some (x, y)) fun y => some (x, y)) fun a => m_law_quo a.1 a.2.1) fun x => bd (some []) fun y => some (x :: y)) fun y => some (x :: y)) fun law_ends_4 => (bd (bd (bd (some d_law_far) fun x => some x.num) fun x => bd (some (0 : Int)) fun y => some (decide (x < y))) fun c5 => (bd (if c5 then (bd (bd (some law_ends_4) fun x => some x.reverse) fun law_ends_6 => some law_ends_6) else some law_ends_4) fun j7 => (bd (bd (bd (bd (bd (bd (some law_bits_here_1) fun x => some x.1) fun x => bd (bd (bd (some j7) fun x => bd (some (0 : Int)) fun y => atI x y) fun x => bd (some ()) fun y => some (x, y)) fun y => some (x, y)) fun a => m_law_comp a.1 a.2.1) fun x => bd (some (0 : Int)) fun y => some (decide (x < y))) fun x => if x then (bd (some j7) fun x => bd (some (0 : Int)) fun y => atI x y) else (bd (some law_bits_here_1) fun x => some x.1)) fun law_first_8 => (bd (bd (bd (bd (bd (bd (some j7) fun x => bd (some (1 : Int)) fun y => atI x y) fun x => bd (bd (bd (some law_bits_here_1) fun x => some x.2) fun x => bd (some ()) fun y => some (x, y)) fun y => some (x, y)) fun a => m_law_comp a.1 a.2.1) fun x => bd (some (0 : Int)) fun y => some (decide (x < y))) fun x => if x then (bd (some j7) fun x => bd (some (1 : Int)) fun y => atI x y) else (bd (some law_bits_here_1) fun x => some x.2)) fun law_last_9 => (bd (bd (bd (bd (some law_first_8) fun x => bd (bd (some law_last_9) fun x => bd (some ()) fun y => some (x, y)) fun y => some (x, y)) fun a => m_law_comp a.1 a.2.1) fun x => bd (some (0 : Int)) fun y => some (decide (x ≤ y))) fun x => if x then (bd (bd (some law_first_8) fun x => bd (some law_last_9) fun y => some (x, y)) fun x => some (some x)) else (bd (some ()) fun _ => some none)))))))))
abbrev sp_law_span (K : PySem.W.Frag) : Sp := spF (K := K) (aCons (tOpt (tT2 tRat tRat)) (aCons tRat (aCons tRat (aCons tRat (aCons tRat aNil))))) (fun S => of (K := K) (tOpt (tT2 tRat tRat)) S) (fun a => m_law_span a.1 a.2.1 a.2.2.1 a.2.2.2.1 a.2.2.2.2.1)
theorem ok_law_span (ev : Env K mg) : FnOk P w K mg base CX0 3 ev.f_law_span ev.d_law_span p_law_span (sp_law_span K) := by
  refine ev.A_law_span.F.ok sc_law_span (fun vs H Q E h => ?_) (fun cdv A outer s H0 vs Q E hr h => ?_)
  · obtain ⟨S, ⟨d_law_bits_here, d_law_start, d_law_far, d_law_low, d_law_high, _⟩, y, _, ⟨v_law_bits_here, _, rfl, h_law_bits_here, v_law_start, _, rfl, h_law_start, v_law_far, _, rfl, h_law_far, v_law_low, _, rfl, h_law_low, v_law_high, _, rfl, h_law_high, rfl⟩, _⟩ := h
    rfl
  obtain ⟨S, ⟨d_law_bits_here, d_law_start, d_law_far, d_law_low, d_law_high, _⟩, y, dm, ⟨v_law_bits_here, _, rfl, h_law_bits_here, v_law_start, _, rfl, h_law_start, v_law_far, _, rfl, h_law_far, v_law_low, _, rfl, h_law_low, v_law_high, _, rfl, h_law_high, rfl⟩, hm, q⟩ := h
  have ts : Sub [] S := fun a m => by simp at m
  have fr0 := Fr.refl (T := []) H0
  have sub0 : Sub S S := fun a m => m
  refine ⟨_, (pss_cons (ps_if (pt_cmpR op_isN (pv 0) pe_non (nomark _))
    (pss_one (ps_ret pe_non)) pss_nil)
    (pss_cons (ps_if (pt_cmpR op_eq (pe_ix ix_tup (pv 2) pe_int (fun _ _ => rfl)) pe_int (nomark _))
    (pss_cons (ps_set (i := 5) sc_law_span.nd rfl (Or.inl rfl) (pe_and (pe_cmpR op_le (pe_call (ok_law_comp ev) (hr.mono (by decide)) (by rfl) ev.A_law_comp.m ev.A_law_comp.F.kp ev.A_law_comp.b .nil pass0 (pa_cons (pv 3) (pa_cons (pv 1) pa_nil))) pe_int (nomark _)) (pe_one (pe_cmpR op_le (pe_call (ok_law_comp ev) (hr.mono (by decide)) (by rfl) ev.A_law_comp.m ev.A_law_comp.F.kp ev.A_law_comp.b .nil pass0 (pa_cons (pv 1) (pa_cons (pv 4) pa_nil))) pe_int (nomark _)))))
    (pss_one (ps_ret (pe_ifExp (pt_val (pv 5)) (pv 0) pe_non)))) pss_nil)
    (pss_cons (ps_set (i := 6) sc_law_span.nd rfl (Or.inl rfl) (pe_lst (pa_cons (pe_call (ok_law_quo ev) (hr.mono (by decide)) (by rfl) ev.A_law_quo.m ev.A_law_quo.F.kp ev.A_law_quo.b .nil pass0 (pa_cons (pe_call (ok_law_dif ev) (hr.mono (by decide)) (by rfl) ev.A_law_dif.m ev.A_law_dif.F.kp ev.A_law_dif.b .nil pass0 (pa_cons (pv 3) (pa_cons (pv 1) pa_nil))) (pa_cons (pv 2) pa_nil))) (pa_cons (pe_call (ok_law_quo ev) (hr.mono (by decide)) (by rfl) ev.A_law_quo.m ev.A_law_quo.F.kp ev.A_law_quo.b .nil pass0 (pa_cons (pe_call (ok_law_dif ev) (hr.mono (by decide)) (by rfl) ev.A_law_dif.m ev.A_law_dif.F.kp ev.A_law_dif.b .nil pass0 (pa_cons (pv 4) (pa_cons (pv 1) pa_nil))) (pa_cons (pv 2) pa_nil))) pa_nil))))
    (pss_cons (ps_if (pt_cmpR op_lt (pe_ix ix_tup (pv 2) pe_int (fun _ _ => rfl)) pe_int (nomark _))
    (pss_one (ps_set (i := 6) sc_law_span.nd rfl (Or.inl rfl) (pe_revL (pv 6)))) pss_nil)
    (pss_cons (ps_set (i := 7) sc_law_span.nd rfl (Or.inl rfl) (pe_ifExp (pt_cmpR op_lt (pe_call (ok_law_comp ev) (hr.mono (by decide)) (by rfl) ev.A_law_comp.m ev.A_law_comp.F.kp ev.A_law_comp.b .nil pass0 (pa_cons (pe_ix ix_tup (pv 0) pe_int (fun _ _ => rfl)) (pa_cons (pe_ix ix_list (pv 6) pe_int (fun _ _ => rfl)) pa_nil))) pe_int (nomark _)) (pe_ix ix_list (pv 6) pe_int (fun _ _ => rfl)) (pe_ix ix_tup (pv 0) pe_int (fun _ _ => rfl))))
    (pss_cons (ps_set (i := 8) sc_law_span.nd rfl (Or.inl rfl) (pe_ifExp (pt_cmpR op_lt (pe_call (ok_law_comp ev) (hr.mono (by decide)) (by rfl) ev.A_law_comp.m ev.A_law_comp.F.kp ev.A_law_comp.b .nil pass0 (pa_cons (pe_ix ix_list (pv 6) pe_int (fun _ _ => rfl)) (pa_cons (pe_ix ix_tup (pv 0) pe_int (fun _ _ => rfl)) pa_nil))) pe_int (nomark _)) (pe_ix ix_list (pv 6) pe_int (fun _ _ => rfl)) (pe_ix ix_tup (pv 0) pe_int (fun _ _ => rfl))))
    (pss_one (ps_ret (pe_ifExp (pt_cmpR op_le (pe_call (ok_law_comp ev) (hr.mono (by decide)) (by rfl) ev.A_law_comp.m ev.A_law_comp.F.kp ev.A_law_comp.b .nil pass0 (pa_cons (pv 7) (pa_cons (pv 8) pa_nil))) pe_int (nomark _)) (pe_tup (pa_cons (pv 7) (pa_cons (pv 8) pa_nil))) pe_non))))))))), ?_⟩
  dsimp only [m_law_span] at hm
  rcases opt_cases hm with ⟨eo1, hm⟩ | ⟨law_bits_here_1, eo1, hm⟩
  · skip
    refine q_if (T := []) (b := true) dm (eb_isN (a := ((tT2 tRat tRat) : Ty K (Rat × Rat))) ts h_law_bits_here rfl) (by rw [eo1]; rfl) (fun hc H1 s1 => ?_) (fun hc H1 s1 => by cases hc)
    have fr0 := fr0.trans (Fr.same s1)
    have dm := dm.same s1
    have h_law_bits_here := ((tOpt (tT2 tRat tRat)) : Ty K (Option (Rat × Rat))).mono (S := S) (Fr.same s1) h_law_bits_here
    have h_law_start := (tRat : Ty K Rat).mono (S := S) (Fr.same s1) h_law_start
    have h_law_far := (tRat : Ty K Rat).mono (S := S) (Fr.same s1) h_law_far
    have h_law_low := (tRat : Ty K Rat).mono (S := S) (Fr.same s1) h_law_low
    have h_law_high := (tRat : Ty K Rat).mono (S := S) (Fr.same s1) h_law_high
    have er := hm
    exact q_ret (T := []) dm (ev_oN (a := ((tT2 tRat tRat) : Ty K (Rat × Rat))) (ev_none (K := K))) er (fun v H10 s10 hv => q v H10 (fr0.trans (Fr.same s10)).toSame (((tOpt (tT2 tRat tRat)) : Ty K (Option (Rat × Rat))).sub (S := S) (H := H10) sub0 hv))
  · skip
    refine q_if (T := []) (b := false) dm (eb_isN (a := ((tT2 tRat tRat) : Ty K (Rat × Rat))) ts h_law_bits_here rfl) (by rw [eo1]; rfl) (fun hc H1 s1 => by cases hc) (fun hc H1 s1 => ?_)
    have fr0 := fr0.trans (Fr.same s1)
    have dm := dm.same s1
    have h_law_bits_here := ((tOpt (tT2 tRat tRat)) : Ty K (Option (Rat × Rat))).mono (S := S) (Fr.same s1) h_law_bits_here
    have h_law_start := (tRat : Ty K Rat).mono (S := S) (Fr.same s1) h_law_start
    have h_law_far := (tRat : Ty K Rat).mono (S := S) (Fr.same s1) h_law_far
    have h_law_low := (tRat : Ty K Rat).mono (S := S) (Fr.same s1) h_law_low
    have h_law_high := (tRat : Ty K Rat).mono (S := S) (Fr.same s1) h_law_high
    have h_law_bits_here := opt_is (a := ((tT2 tRat tRat) : Ty K (Rat × Rat))) (S := S) h_law_bits_here eo1
    refine q_next ?_
    obtain ⟨c2, e2, hm⟩ := bd_some hm
    refine q_if (T := []) dm (eb_test (K := K) (ev_op (od_eqI (K := K)) (ev_ixR0 (ev_var ts h_law_far rfl)) (ev_int (K := K)))) e2 (fun hc H2 s2 => ?_) (fun hc H2 s2 => ?_)
    · skip
      subst hc
      have hm := if_t hm
      have fr0 := fr0.trans (Fr.same s2)
      have dm := dm.same s2
      have h_law_bits_here := ((tT2 tRat tRat) : Ty K (Rat × Rat)).mono (S := S) (Fr.same s2) h_law_bits_here
      have h_law_start := (tRat : Ty K Rat).mono (S := S) (Fr.same s2) h_law_start
      have h_law_far := (tRat : Ty K Rat).mono (S := S) (Fr.same s2) h_law_far
      have h_law_low := (tRat : Ty K Rat).mono (S := S) (Fr.same s2) h_law_low
      have h_law_high := (tRat : Ty K Rat).mono (S := S) (Fr.same s2) h_law_high
      obtain ⟨law_good_3, e3, hm⟩ := bd_some hm
      refine q_asg (T := []) dm (ev_and (ev_op (od_le (K := K)) (ev_call (ea_cons (ev_var ts h_law_low rfl) (ea_cons (ev_var ts h_law_start rfl) ea_nil))) (ev_int (K := K))) (ev_op (od_le (K := K)) (ev_call (ea_cons (ev_var ts h_law_start rfl) (ea_cons (ev_var ts h_law_high rfl) ea_nil))) (ev_int (K := K)))) e3 (fun v_law_good H3 s3 h_law_good => ?_)
      have fr0 := fr0.trans (Fr.same s3)
      have dm := dm.same s3
      have h_law_bits_here := ((tT2 tRat tRat) : Ty K (Rat × Rat)).mono (S := S) (Fr.same s3) h_law_bits_here
      have h_law_start := (tRat : Ty K Rat).mono (S := S) (Fr.same s3) h_law_start
      have h_law_far := (tRat : Ty K Rat).mono (S := S) (Fr.same s3) h_law_far
      have h_law_low := (tRat : Ty K Rat).mono (S := S) (Fr.same s3) h_law_low
      have h_law_high := (tRat : Ty K Rat).mono (S := S) (Fr.same s3) h_law_high
      have h_law_good : (tBool : Ty K Bool).rp S H3 v_law_good law_good_3 := h_law_good
      have er := hm
      exact q_ret (T := []) dm (ev_if (eb_B (K := K) (ev_var ts h_law_good rfl)) (ev_oS (ev_var ts h_law_bits_here rfl)) (ev_oN (a := ((tT2 tRat tRat) : Ty K (Rat × Rat))) (ev_none (K := K)))) er (fun v H11 s11 hv => q v H11 (fr0.trans (Fr.same s11)).toSame (((tOpt (tT2 tRat tRat)) : Ty K (Option (Rat × Rat))).sub (S := S) (H := H11) sub0 hv))
    subst hc
    have hm := if_f hm
    have fr0 := fr0.trans (Fr.same s2)
    have dm := dm.same s2
    have h_law_bits_here := ((tT2 tRat tRat) : Ty K (Rat × Rat)).mono (S := S) (Fr.same s2) h_law_bits_here
    have h_law_start := (tRat : Ty K Rat).mono (S := S) (Fr.same s2) h_law_start
    have h_law_far := (tRat : Ty K Rat).mono (S := S) (Fr.same s2) h_law_far
    have h_law_low := (tRat : Ty K Rat).mono (S := S) (Fr.same s2) h_law_low
    have h_law_high := (tRat : Ty K Rat).mono (S := S) (Fr.same s2) h_law_high
    refine q_next ?_
    obtain ⟨law_ends_4, e4, hm⟩ := bd_some hm
    refine q_asg (T := []) dm (ev_new (ev_lst (el_cons (ev_call (ea_cons (ev_call (ea_cons (ev_var ts h_law_low rfl) (ea_cons (ev_var ts h_law_start rfl) ea_nil))) (ea_cons (ev_var ts h_law_far rfl) ea_nil))) (el_cons (ev_call (ea_cons (ev_call (ea_cons (ev_var ts h_law_high rfl) (ea_cons (ev_var ts h_law_start rfl) ea_nil))) (ea_cons (ev_var ts h_law_far rfl) ea_nil))) el_nil)) (by decide))) e4 (fun v_law_ends H4 s4 h_law_ends => ?_)
    have fr0 := fr0.trans (Fr.same s4)
    have dm := dm.same s4
    have h_law_bits_here := ((tT2 tRat tRat) : Ty K (Rat × Rat)).mono (S := S) (Fr.same s4) h_law_bits_here
    have h_law_start := (tRat : Ty K Rat).mono (S := S) (Fr.same s4) h_law_start
    have h_law_far := (tRat : Ty K Rat).mono (S := S) (Fr.same s4) h_law_far
    have h_law_low := (tRat : Ty K Rat).mono (S := S) (Fr.same s4) h_law_low
    have h_law_high := (tRat : Ty K Rat).mono (S := S) (Fr.same s4) h_law_high
    have h_law_ends : ((tL tRat) : Ty K (List Rat)).rp S H4 v_law_ends law_ends_4 := h_law_ends
    obtain ⟨c5, e5, hm⟩ := bd_some hm
    obtain ⟨j7, ej5, hm⟩ := bd_some hm
    refine seq_by (fun σ' H' => ∃ v_law_bits_here : V, ∃ v_law_start : V, ∃ v_law_far : V, ∃ v_law_low : V, ∃ v_law_high : V, ∃ v_law_ends : V, ∃ f_5 : Option V, ∃ f_7 : Option V, ∃ f_8 : Option V, σ' = [some v_law_bits_here, some v_law_start, some v_law_far, some v_law_low, some v_law_high, f_5, some v_law_ends, f_7, f_8] ∧ Fr [] H0 H' ∧ Dom S H' ∧ ((tT2 tRat tRat) : Ty K (Rat × Rat)).rp S H' v_law_bits_here law_bits_here_1 ∧ (tRat : Ty K Rat).rp S H' v_law_start d_law_start ∧ (tRat : Ty K Rat).rp S H' v_law_far d_law_far ∧ (tRat : Ty K Rat).rp S H' v_law_low d_law_low ∧ (tRat : Ty K Rat).rp S H' v_law_high d_law_high ∧ ((tL tRat) : Ty K (List Rat)).rp S H' v_law_ends j7) (fun σ' H' hI => ?_) (fun rest => ?_)
    · skip
      obtain ⟨v_law_bits_here, v_law_start, v_law_far, v_law_low, v_law_high, v_law_ends, f_5, f_7, f_8, rfl, fr0, dm, h_law_bits_here, h_law_start, h_law_far, h_law_low, h_law_high, h_law_ends⟩ := hI
      obtain ⟨law_first_8, e8, hm⟩ := bd_some hm
      refine q_asg (T := []) dm (ev_if (eb_test (K := K) (ev_op (od_lt (K := K)) (ev_call (ea_cons (ev_ix20 (ev_var ts h_law_bits_here rfl)) (ea_cons (ev_op od_ixL (ev_var ts h_law_ends rfl) (ev_int (K := K))) ea_nil))) (ev_int (K := K)))) (ev_op od_ixL (ev_var ts h_law_ends rfl) (ev_int (K := K))) (ev_ix20 (ev_var ts h_law_bits_here rfl))) e8 (fun v_law_first H8 s8 h_law_first => ?_)
      have fr0 := fr0.trans (Fr.same s8)
      have dm := dm.same s8
      have h_law_bits_here := ((tT2 tRat tRat) : Ty K (Rat × Rat)).mono (S := S) (Fr.same s8) h_law_bits_here
      have h_law_start := (tRat : Ty K Rat).mono (S := S) (Fr.same s8) h_law_start
      have h_law_far := (tRat : Ty K Rat).mono (S := S) (Fr.same s8) h_law_far
      have h_law_low := (tRat : Ty K Rat).mono (S := S) (Fr.same s8) h_law_low
      have h_law_high := (tRat : Ty K Rat).mono (S := S) (Fr.same s8) h_law_high
      have h_law_ends := ((tL tRat) : Ty K (List Rat)).mono (S := S) (Fr.same s8) h_law_ends
      have h_law_first : (tRat : Ty K Rat).rp S H8 v_law_first law_first_8 := h_law_first
      obtain ⟨law_last_9, e9, hm⟩ := bd_some hm
      refine q_asg (T := []) dm (ev_if (eb_test (K := K) (ev_op (od_lt (K := K)) (ev_call (ea_cons (ev_op od_ixL (ev_var ts h_law_ends rfl) (ev_int (K := K))) (ea_cons (ev_ix21 (ev_var ts h_law_bits_here rfl)) ea_nil))) (ev_int (K := K)))) (ev_op od_ixL (ev_var ts h_law_ends rfl) (ev_int (K := K))) (ev_ix21 (ev_var ts h_law_bits_here rfl))) e9 (fun v_law_last H9 s9 h_law_last => ?_)
      have fr0 := fr0.trans (Fr.same s9)
      have dm := dm.same s9
      have h_law_bits_here := ((tT2 tRat tRat) : Ty K (Rat × Rat)).mono (S := S) (Fr.same s9) h_law_bits_here
      have h_law_start := (tRat : Ty K Rat).mono (S := S) (Fr.same s9) h_law_start
      have h_law_far := (tRat : Ty K Rat).mono (S := S) (Fr.same s9) h_law_far
      have h_law_low := (tRat : Ty K Rat).mono (S := S) (Fr.same s9) h_law_low
      have h_law_high := (tRat : Ty K Rat).mono (S := S) (Fr.same s9) h_law_high
      have h_law_ends := ((tL tRat) : Ty K (List Rat)).mono (S := S) (Fr.same s9) h_law_ends
      have h_law_first := (tRat : Ty K Rat).mono (S := S) (Fr.same s9) h_law_first
      have h_law_last : (tRat : Ty K Rat).rp S H9 v_law_last law_last_9 := h_law_last
      have er := hm
      exact q_ret (T := []) dm (ev_if (eb_test (K := K) (ev_op (od_le (K := K)) (ev_call (ea_cons (ev_var ts h_law_first rfl) (ea_cons (ev_var ts h_law_last rfl) ea_nil))) (ev_int (K := K)))) (ev_oS (ev_tup2 (ev_var ts h_law_first rfl) (ev_var ts h_law_last rfl))) (ev_oN (a := ((tT2 tRat tRat) : Ty K (Rat × Rat))) (ev_none (K := K)))) er (fun v H12 s12 hv => q v H12 (fr0.trans (Fr.same s12)).toSame (((tOpt (tT2 tRat tRat)) : Ty K (Option (Rat × Rat))).sub (S := S) (H := H12) sub0 hv))
    have hm := ej5
    refine l_if (T := []) dm (eb_test (K := K) (ev_op (od_lt (K := K)) (ev_ixR0 (ev_var ts h_law_far rfl)) (ev_int (K := K)))) e5 (fun hc H5 s5 => ?_) (fun hc H5 s5 => ?_)
    · skip
      subst hc
      have hm := if_t hm
      have fr0 := fr0.trans (Fr.same s5)
      have dm := dm.same s5
      have h_law_bits_here := ((tT2 tRat tRat) : Ty K (Rat × Rat)).mono (S := S) (Fr.same s5) h_law_bits_here
      have h_law_start := (tRat : Ty K Rat).mono (S := S) (Fr.same s5) h_law_start
      have h_law_far := (tRat : Ty K Rat).mono (S := S) (Fr.same s5) h_law_far
      have h_law_low := (tRat : Ty K Rat).mono (S := S) (Fr.same s5) h_law_low
      have h_law_high := (tRat : Ty K Rat).mono (S := S) (Fr.same s5) h_law_high
      have h_law_ends := ((tL tRat) : Ty K (List Rat)).mono (S := S) (Fr.same s5) h_law_ends
      obtain ⟨law_ends_6, e6, hm⟩ := bd_some hm
      refine l_asg (T := []) dm (ev_new (ev_revL (ev_var ts h_law_ends rfl))) e6 (fun v_law_ends H6 s6 h_law_ends => ?_)
      have fr0 := fr0.trans (Fr.same s6)
      have dm := dm.same s6
      have h_law_bits_here := ((tT2 tRat tRat) : Ty K (Rat × Rat)).mono (S := S) (Fr.same s6) h_law_bits_here
      have h_law_start := (tRat : Ty K Rat).mono (S := S) (Fr.same s6) h_law_start
      have h_law_far := (tRat : Ty K Rat).mono (S := S) (Fr.same s6) h_law_far
      have h_law_low := (tRat : Ty K Rat).mono (S := S) (Fr.same s6) h_law_low
      have h_law_high := (tRat : Ty K Rat).mono (S := S) (Fr.same s6) h_law_high
      have h_law_ends : ((tL tRat) : Ty K (List Rat)).rp S H6 v_law_ends law_ends_6 := h_law_ends
      cases hm
      exact rest _ _ ⟨v_law_bits_here, v_law_start, v_law_far, v_law_low, v_law_high, v_law_ends, _, _, _, rfl, fr0, dm, h_law_bits_here, h_law_start, h_law_far, h_law_low, h_law_high, h_law_ends⟩
    · skip
      subst hc
      have hm := if_f hm
      have fr0 := fr0.trans (Fr.same s5)
      have dm := dm.same s5
      have h_law_bits_here := ((tT2 tRat tRat) : Ty K (Rat × Rat)).mono (S := S) (Fr.same s5) h_law_bits_here
      have h_law_start := (tRat : Ty K Rat).mono (S := S) (Fr.same s5) h_law_start
      have h_law_far := (tRat : Ty K Rat).mono (S := S) (Fr.same s5) h_law_far
      have h_law_low := (tRat : Ty K Rat).mono (S := S) (Fr.same s5) h_law_low
      have h_law_high := (tRat : Ty K Rat).mono (S := S) (Fr.same s5) h_law_high
      have h_law_ends := ((tL tRat) : Ty K (List Rat)).mono (S := S) (Fr.same s5) h_law_ends
      cases hm
      exact rest _ _ ⟨v_law_bits_here, v_law_start, v_law_far, v_law_low, v_law_high, v_law_ends, _, _, _, rfl, fr0, dm, h_law_bits_here, h_law_start, h_law_far, h_law_low, h_law_high, h_law_ends⟩
def m_law_clip (d_law_one : (Rat × Rat)) (d_law_two : (Rat × Rat)) (d_law_low : (Rat × Rat)) (d_law_high : (Rat × Rat)) : Option (Option (Rat × Rat)) :=
  (bd (bd (bd (bd (bd (some (0 : Int)) fun x => bd (some (1 : Int)) fun y => some (x, y)) p2r) fun x => bd (bd (bd (some (1 : Int)) fun x => bd (some (1 : Int)) fun y => some (x, y)) p2r) fun y => some (x, y)) fun x => some (some x)) fun law_bits_here_1 => (bd (bd (some (2 : Int)) rng1?) fun xs4 => bd (loopC (ρ := (Option (Rat × Rat))) (fun s_2 law_k_2 => (bd (bd (bd (some s_2) fun x => bd (bd (bd (some d_law_one) fun x => bd (some law_k_2) fun y => at2 x y) fun x => bd (bd (bd (bd (bd (some d_law_two) fun x => bd (some law_k_2) fun y => at2 x y) fun x => bd (bd (bd (some d_law_one) fun x => bd (some law_k_2) fun y => at2 x y) fun x => bd (some ()) fun y => some (x, y)) fun y => some (x, y)) fun a => m_law_dif a.1 a.2.1) fun x => bd (bd (bd (some d_law_low) fun x => bd (some law_k_2) fun y => at2 x y) fun x => bd (bd (bd (some d_law_high) fun x => bd (some law_k_2) fun y => at2 x y) fun x => bd (some ()) fun y => some (x, y)) fun y => some (x, y)) fun y => some (x, y)) fun y => some (x, y)) fun y => some (x, y)) fun a => m_law_span a.1 a.2.1 a.2.2.1 a.2.2.2.1 a.2.2.2.2.1) fun law_bits_here_3 => some (Ct.go law_bits_here_3))) xs4 law_bits_here_1) fun r_2 => match r_2 with | .ret y => some y | .go t_2 => (some t_2) | .brk _ => none))
abbrev sp_law_clip (K : PySem.W.Frag) : Sp := spF (K := K) (aCons (tT2 tRat tRat) (aCons (tT2 tRat tRat) (aCons (tT2 tRat tRat) (aCons (tT2 tRat tRat) aNil)))) (fun S => of (K := K) (tOpt (tT2 tRat tRat)) S) (fun a => m_law_clip a.1 a.2.1 a.2.2.1 a.2.2.2.1)
theorem ok_law_clip (ev : Env K mg) : FnOk P w K mg base CX0 4 ev.f_law_clip ev.d_law_clip p_law_clip (sp_law_clip K) := by
  refine ev.A_law_clip.F.ok sc_law_clip (fun vs H Q E h => ?_) (fun cdv A outer s H0 vs Q E hr h => ?_)
  · obtain ⟨S, ⟨d_law_one, d_law_two, d_law_low, d_law_high, _⟩, y, _, ⟨v_law_one, _, rfl, h_law_one, v_law_two, _, rfl, h_law_two, v_law_low, _, rfl, h_law_low, v_law_high, _, rfl, h_law_high, rfl⟩, _⟩ := h
    rfl
  obtain ⟨S, ⟨d_law_one, d_law_two, d_law_low, d_law_high, _⟩, y, dm, ⟨v_law_one, _, rfl, h_law_one, v_law_two, _, rfl, h_law_two, v_law_low, _, rfl, h_law_low, v_law_high, _, rfl, h_law_high, rfl⟩, hm, q⟩ := h
  have ts : Sub [] S := fun a m => by simp at m
  have fr0 := Fr.refl (T := []) H0
  have sub0 : Sub S S := fun a m => m
  refine ⟨_, (pss_cons (ps_set (i := 4) sc_law_clip.nd rfl (Or.inl rfl) (pe_tup (pa_cons (pe_tup (pa_cons pe_int (pa_cons pe_int pa_nil))) (pa_cons (pe_tup (pa_cons pe_int (pa_cons pe_int pa_nil))) pa_nil))))
    (pss_cons (ps_for PassesOwn.never rfl (pi_range1 rfl ev.B.range_ (pa_cons pe_int pa_nil)) (pg_name (i := 5) sc_law_clip.nd rfl (Or.inl rfl))
    (pss_one (ps_set (i := 4) sc_law_clip.nd rfl (Or.inl rfl) (pe_call (ok_law_span ev) (hr.mono (by decide)) (by rfl) ev.A_law_span.m ev.A_law_span.F.kp ev.A_law_span.b .nil pass0 (pa_cons (pv 4) (pa_cons (pe_ix ix_tup (pv 0) (pv 5) (fun _ _ => rfl)) (pa_cons (pe_call (ok_law_dif ev) (hr.mono (by decide)) (by rfl) ev.A_law_dif.m ev.A_law_dif.F.kp ev.A_law_dif.b .nil pass0 (pa_cons (pe_ix ix_tup (pv 1) (pv 5) (fun _ _ => rfl)) (pa_cons (pe_ix ix_tup (pv 0) (pv 5) (fun _ _ => rfl)) pa_nil))) (pa_cons (pe_ix ix_tup (pv 2) (pv 5) (fun _ _ => rfl)) (pa_cons (pe_ix ix_tup (pv 3) (pv 5) (fun _ _ => rfl)) pa_nil)))))))))
    (pss_one (ps_ret (pv 4))))), ?_⟩
  dsimp only [m_law_clip] at hm
  obtain ⟨law_bits_here_1, e1, hm⟩ := bd_some hm
  refine q_asg (T := []) dm (ev_oS (ev_tup2 (ev_p2r (ev_tup2 (ev_int (K := K)) (ev_int (K := K)))) (ev_p2r (ev_tup2 (ev_int (K := K)) (ev_int (K := K)))))) e1 (fun v_law_bits_here H1 s1 h_law_bits_here => ?_)
  have fr0 := fr0.trans (Fr.same s1)
  have dm := dm.same s1
  have h_law_one := ((tT2 tRat tRat) : Ty K (Rat × Rat)).mono (S := S) (Fr.same s1) h_law_one
  have h_law_two := ((tT2 tRat tRat) : Ty K (Rat × Rat)).mono (S := S) (Fr.same s1) h_law_two
  have h_law_low := ((tT2 tRat tRat) : Ty K (Rat × Rat)).mono (S := S) (Fr.same s1) h_law_low
  have h_law_high := ((tT2 tRat tRat) : Ty K (Rat × Rat)).mono (S := S) (Fr.same s1) h_law_high
  have h_law_bits_here : ((tOpt (tT2 tRat tRat)) : Ty K (Option (Rat × Rat))).rp S H1 v_law_bits_here law_bits_here_1 := h_law_bits_here
  obtain ⟨xs4, e_xs4, hm⟩ := bd_some hm
  obtain ⟨r_2, el2, hm2⟩ := bd_some hm
  refine q_for_s (T := []) dm (sr_r1 (K := K) (ev_int (K := K))) e_xs4 el2 (fun s_2 σ' H' => ∃ v_law_one : V, ∃ v_law_two : V, ∃ v_law_low : V, ∃ v_law_high : V, ∃ v_law_bits_here : V, ∃ f_5 : Option V, σ' = [some v_law_one, some v_law_two, some v_law_low, some v_law_high, some v_law_bits_here, f_5] ∧ Fr [] H0 H' ∧ Dom S H' ∧ ((tT2 tRat tRat) : Ty K (Rat × Rat)).rp S H' v_law_one d_law_one ∧ ((tT2 tRat tRat) : Ty K (Rat × Rat)).rp S H' v_law_two d_law_two ∧ ((tT2 tRat tRat) : Ty K (Rat × Rat)).rp S H' v_law_low d_law_low ∧ ((tT2 tRat tRat) : Ty K (Rat × Rat)).rp S H' v_law_high d_law_high ∧ ((tOpt (tT2 tRat tRat)) : Ty K (Option (Rat × Rat))).rp S H' v_law_bits_here s_2) (fun H2 s2 => ?_) (fun hd2 s_2 law_k_2 cr2 v_law_k σ' H' hI h_law_k hx2 hm hret2 hbrk2 => ?_) (fun t_2 σ' H' er hI => ?_)
  · skip
    have fr0 := fr0.trans (Fr.same s2)
    have dm := dm.same s2
    have h_law_one := ((tT2 tRat tRat) : Ty K (Rat × Rat)).mono (S := S) (Fr.same s2) h_law_one
    have h_law_two := ((tT2 tRat tRat) : Ty K (Rat × Rat)).mono (S := S) (Fr.same s2) h_law_two
    have h_law_low := ((tT2 tRat tRat) : Ty K (Rat × Rat)).mono (S := S) (Fr.same s2) h_law_low
    have h_law_high := ((tT2 tRat tRat) : Ty K (Rat × Rat)).mono (S := S) (Fr.same s2) h_law_high
    have h_law_bits_here := ((tOpt (tT2 tRat tRat)) : Ty K (Option (Rat × Rat))).mono (S := S) (Fr.same s2) h_law_bits_here
    exact ⟨v_law_one, v_law_two, v_law_low, v_law_high, v_law_bits_here, _, rfl, fr0, dm, h_law_one, h_law_two, h_law_low, h_law_high, h_law_bits_here⟩
  · skip
    obtain ⟨v_law_one, v_law_two, v_law_low, v_law_high, v_law_bits_here, f_5, rfl, fr0, dm, h_law_one, h_law_two, h_law_low, h_law_high, h_law_bits_here⟩ := hI
    let HL := H'
    have freshl : ∀ a ∈ S, a ∉ S → H' a = none := fun a m n => absurd m n
    have frl : Fr S HL H' := Fr.refl (T := S) H'
    have tsl := ts
    have subl : Sub S S := fun a m => m
    have h_law_k : (tInt : Ty K Int).rp S H' v_law_k law_k_2 := h_law_k
    obtain ⟨law_bits_here_3, e3, hm⟩ := bd_some hm
    refine l_asg (T := []) dm (ev_call (ea_cons (ev_var ts h_law_bits_here rfl) (ea_cons (ev_op od_ix2 (ev_var ts h_law_one rfl) (ev_var ts h_law_k rfl)) (ea_cons (ev_call (ea_cons (ev_op od_ix2 (ev_var ts h_law_two rfl) (ev_var ts h_law_k rfl)) (ea_cons (ev_op od_ix2 (ev_var ts h_law_one rfl) (ev_var ts h_law_k rfl)) ea_nil))) (ea_cons (ev_op od_ix2 (ev_var ts h_law_low rfl) (ev_var ts h_law_k rfl)) (ea_cons (ev_op od_ix2 (ev_var ts h_law_high rfl) (ev_var ts h_law_k rfl)) ea_nil)))))) e3 (fun v_law_bits_here H3 s3 h_law_bits_here => ?_)
    have fr0 := fr0.trans (Fr.same s3)
    have dm := dm.same s3
    have frl := frl.trans (Fr.same s3)
    have h_law_one := ((tT2 tRat tRat) : Ty K (Rat × Rat)).mono (S := S) (Fr.same s3) h_law_one
    have h_law_two := ((tT2 tRat tRat) : Ty K (Rat × Rat)).mono (S := S) (Fr.same s3) h_law_two
    have h_law_low := ((tT2 tRat tRat) : Ty K (Rat × Rat)).mono (S := S) (Fr.same s3) h_law_low
    have h_law_high := ((tT2 tRat tRat) : Ty K (Rat × Rat)).mono (S := S) (Fr.same s3) h_law_high
    have h_law_k := (tInt : Ty K Int).mono (S := S) (Fr.same s3) h_law_k
    have h_law_bits_here : ((tOpt (tT2 tRat tRat)) : Ty K (Option (Rat × Rat))).rp S H3 v_law_bits_here law_bits_here_3 := h_law_bits_here
    cases hm
    exact ⟨_, rfl, frl, ⟨v_law_one, v_law_two, v_law_low, v_law_high, v_law_bits_here, _, rfl, fr0, dm, h_law_one, h_law_two, h_law_low, h_law_high, h_law_bits_here⟩⟩
  subst er
  have hm := hm2
  obtain ⟨v_law_one, v_law_two, v_law_low, v_law_high, v_law_bits_here, f_5, rfl, fr0, dm, h_law_one, h_law_two, h_law_low, h_law_high, h_law_bits_here⟩ := hI
  have er := hm
  exact q_ret (T := []) dm (ev_var ts h_law_bits_here rfl) er (fun v H5 s5 hv => q v H5 (fr0.trans (Fr.same s5)).toSame (((tOpt (tT2 tRat tRat)) : Ty K (Option (Rat × Rat))).sub (S := S) (H := H5) sub0 hv))
def m_law_reaches (d_law_spot_here : (Rat × Rat)) (d_law_polyline : (List (Rat × Rat))) (d_law_room : Rat) : Option Bool :=
  (bd (bd (bd (bd (bd (some d_law_spot_here) fun x => some x.1) fun x => bd (bd (some d_law_room) fun x => bd (some ()) fun y => some (x, y)) fun y => some (x, y)) fun a => m_law_dif a.1 a.2.1) fun x => bd (bd (bd (bd (some d_law_spot_here) fun x => some x.2) fun x => bd (bd (some d_law_room) fun x => bd (some ()) fun y => some (x, y)) fun y => some (x, y)) fun a => m_law_dif a.1 a.2.1) fun y => some (x, y)) fun law_low_1 => (bd (bd (bd (bd (bd (some d_law_spot_here) fun x => some x.1) fun x => bd (bd (some d_law_room) fun x => bd (some ()) fun y => some (x, y)) fun y => some (x, y)) fun a => m_law_sum a.1 a.2.1) fun x => bd (bd (bd (bd (some d_law_spot_here) fun x => some x.2) fun x => bd (bd (some d_law_room) fun x => bd (some ()) fun y => some (x, y)) fun y => some (x, y)) fun a => m_law_sum a.1 a.2.1) fun y => some (x, y)) fun law_high_2 => (bd (bd (bd (some d_law_polyline) fun x => some (x.length : Int)) rng1?) fun xs6 => bd (loopC (ρ := Bool) (fun s_3 law_k_3 => (bd (bd (some d_law_polyline) fun x => bd (bd (some (0 : Int)) fun x => bd (bd (some law_k_3) fun x => bd (some (1 : Int)) fun y => some (x - y)) fun y => some (max x y)) fun y => atI x y) fun law_one_4 => (bd (bd (bd (bd (some law_one_4) fun x => bd (bd (bd (some d_law_polyline) fun x => bd (some law_k_3) fun y => atI x y) fun x => bd (bd (some law_low_1) fun x => bd (bd (some law_high_2) fun x => bd (some ()) fun y => some (x, y)) fun y => some (x, y)) fun y => some (x, y)) fun y => some (x, y)) fun a => m_law_clip a.1 a.2.1 a.2.2.1 a.2.2.2.1) fun x => some x.isSome) fun c5 => if c5 then (bd (some true) fun y => some (Ct.ret y)) else some (Ct.go ())))) xs6 ()) fun r_3 => match r_3 with | .ret y => some y | .go t_3 => (some false) | .brk _ => none)))
abbrev sp_law_reaches (K : PySem.W.Frag) : Sp := spF (K := K) (aCons (tT2 tRat tRat) (aCons (tL (tT2 tRat tRat)) (aCons tRat aNil))) (fun S => of (K := K) tBool S) (fun a => m_law_reaches a.1 a.2.1 a.2.2.1)
theorem ok_law_reaches (ev : Env K mg) : FnOk P w K mg base CX0 5 ev.f_law_reaches ev.d_law_reaches p_law_reaches (sp_law_reaches K) := by
  refine ev.A_law_reaches.F.ok sc_law_reaches (fun vs H Q E h => ?_) (fun cdv A outer s H0 vs Q E hr h => ?_)
  · obtain ⟨S, ⟨d_law_spot_here, d_law_polyline, d_law_room, _⟩, y, _, ⟨v_law_spot_here, _, rfl, h_law_spot_here, v_law_polyline, _, rfl, h_law_polyline, v_law_room, _, rfl, h_law_room, rfl⟩, _⟩ := h
    rfl
  obtain ⟨S, ⟨d_law_spot_here, d_law_polyline, d_law_room, _⟩, y, dm, ⟨v_law_spot_here, _, rfl, h_law_spot_here, v_law_polyline, _, rfl, h_law_polyline, v_law_room, _, rfl, h_law_room, rfl⟩, hm, q⟩ := h
  have ts : Sub [] S := fun a m => by simp at m
  have fr0 := Fr.refl (T := []) H0
  have sub0 : Sub S S := fun a m => m
  refine ⟨_, (pss_cons (ps_set (i := 3) sc_law_reaches.nd rfl (Or.inl rfl) (pe_tup (pa_cons (pe_call (ok_law_dif ev) (hr.mono (by decide)) (by rfl) ev.A_law_dif.m ev.A_law_dif.F.kp ev.A_law_dif.b .nil pass0 (pa_cons (pe_ix ix_tup (pv 0) pe_int (fun _ _ => rfl)) (pa_cons (pv 2) pa_nil))) (pa_cons (pe_call (ok_law_dif ev) (hr.mono (by decide)) (by rfl) ev.A_law_dif.m ev.A_law_dif.F.kp ev.A_law_dif.b .nil pass0 (pa_cons (pe_ix ix_tup (pv 0) pe_int (fun _ _ => rfl)) (pa_cons (pv 2) pa_nil))) pa_nil))))
    (pss_cons (ps_set (i := 4) sc_law_reaches.nd rfl (Or.inl rfl) (pe_tup (pa_cons (pe_call (ok_law_sum ev) (hr.mono (by decide)) (by rfl) ev.A_law_sum.m ev.A_law_sum.F.kp ev.A_law_sum.b .nil pass0 (pa_cons (pe_ix ix_tup (pv 0) pe_int (fun _ _ => rfl)) (pa_cons (pv 2) pa_nil))) (pa_cons (pe_call (ok_law_sum ev) (hr.mono (by decide)) (by rfl) ev.A_law_sum.m ev.A_law_sum.F.kp ev.A_law_sum.b .nil pass0 (pa_cons (pe_ix ix_tup (pv 0) pe_int (fun _ _ => rfl)) (pa_cons (pv 2) pa_nil))) pa_nil))))
    (pss_cons (ps_for PassesOwn.never rfl (pi_range1 rfl ev.B.range_ (pa_cons (pe_callB call_len_seq (by rfl) ev.B.len_ PySem.boot_len (pa_cons (pv 1) pa_nil)) pa_nil)) (pg_name (i := 5) sc_law_reaches.nd rfl (Or.inl rfl))
    (pss_cons (ps_set (i := 6) sc_law_reaches.nd rfl (Or.inl rfl) (pe_ix ix_list (pv 1) (pe_callB (call_max2 rfl) (by rfl) ev.B.max_ (by decide +kernel) (pa_cons pe_int (pa_cons (pe_op op_sub (pv 5) pe_int) pa_nil))) (fun _ _ => rfl)))
    (pss_one (ps_if (pt_cmpR op_notN (pe_call (ok_law_clip ev) (hr.mono (by decide)) (by rfl) ev.A_law_clip.m ev.A_law_clip.F.kp ev.A_law_clip.b .nil pass0 (pa_cons (pv 6) (pa_cons (pe_ix ix_list (pv 1) (pv 5) (fun _ _ => rfl)) (pa_cons (pv 3) (pa_cons (pv 4) pa_nil))))) pe_non (nomark _))
    (pss_one (ps_ret pe_bl)) pss_nil))))
    (pss_one (ps_ret pe_bl))))), ?_⟩
  dsimp only [m_law_reaches] at hm
  obtain ⟨law_low_1, e1, hm⟩ := bd_some hm
  refine q_asg (T := []) dm (ev_tup2 (ev_call (ea_cons (ev_ix20 (ev_var ts h_law_spot_here rfl)) (ea_cons (ev_var ts h_law_room rfl) ea_nil))) (ev_call (ea_cons (ev_ix21 (ev_var ts h_law_spot_here rfl)) (ea_cons (ev_var ts h_law_room rfl) ea_nil)))) e1 (fun v_law_low H1 s1 h_law_low => ?_)
  have fr0 := fr0.trans (Fr.same s1)
  have dm := dm.same s1
  have h_law_spot_here := ((tT2 tRat tRat) : Ty K (Rat × Rat)).mono (S := S) (Fr.same s1) h_law_spot_here
  have h_law_polyline := ((tL (tT2 tRat tRat)) : Ty K (List (Rat × Rat))).mono (S := S) (Fr.same s1) h_law_polyline
  have h_law_room := (tRat : Ty K Rat).mono (S := S) (Fr.same s1) h_law_room
  have h_law_low : ((tT2 tRat tRat) : Ty K (Rat × Rat)).rp S H1 v_law_low law_low_1 := h_law_low
  obtain ⟨law_high_2, e2, hm⟩ := bd_some hm
  refine q_asg (T := []) dm (ev_tup2 (ev_call (ea_cons (ev_ix20 (ev_var ts h_law_spot_here rfl)) (ea_cons (ev_var ts h_law_room rfl) ea_nil))) (ev_call (ea_cons (ev_ix21 (ev_var ts h_law_spot_here rfl)) (ea_cons (ev_var ts h_law_room rfl) ea_nil)))) e2 (fun v_law_high H2 s2 h_law_high => ?_)
  have fr0 := fr0.trans (Fr.same s2)
  have dm := dm.same s2
  have h_law_spot_here := ((tT2 tRat tRat) : Ty K (Rat × Rat)).mono (S := S) (Fr.same s2) h_law_spot_here
  have h_law_polyline := ((tL (tT2 tRat tRat)) : Ty K (List (Rat × Rat))).mono (S := S) (Fr.same s2) h_law_polyline
  have h_law_room := (tRat : Ty K Rat).mono (S := S) (Fr.same s2) h_law_room
  have h_law_low := ((tT2 tRat tRat) : Ty K (Rat × Rat)).mono (S := S) (Fr.same s2) h_law_low
  have h_law_high : ((tT2 tRat tRat) : Ty K (Rat × Rat)).rp S H2 v_law_high law_high_2 := h_law_high
  obtain ⟨xs6, e_xs6, hm⟩ := bd_some hm
  obtain ⟨r_3, el3, hm3⟩ := bd_some hm
  refine q_for_s (T := []) dm (sr_r1 (K := K) (ev_lenL (ev_var ts h_law_polyline rfl))) e_xs6 el3 (fun s_3 σ' H' => ∃ v_law_spot_here : V, ∃ v_law_polyline : V, ∃ v_law_room : V, ∃ v_law_low : V, ∃ v_law_high : V, ∃ f_5 : Option V, ∃ f_6 : Option V, σ' = [some v_law_spot_here, some v_law_polyline, some v_law_room, some v_law_low, some v_law_high, f_5, f_6] ∧ Fr [] H0 H' ∧ Dom S H' ∧ ((tT2 tRat tRat) : Ty K (Rat × Rat)).rp S H' v_law_spot_here d_law_spot_here ∧ ((tL (tT2 tRat tRat)) : Ty K (List (Rat × Rat))).rp S H' v_law_polyline d_law_polyline ∧ (tRat : Ty K Rat).rp S H' v_law_room d_law_room ∧ ((tT2 tRat tRat) : Ty K (Rat × Rat)).rp S H' v_law_low law_low_1 ∧ ((tT2 tRat tRat) : Ty K (Rat × Rat)).rp S H' v_law_high law_high_2) (fun H3 s3 => ?_) (fun hd3 s_3 law_k_3 cr3 v_law_k σ' H' hI h_law_k hx3 hm hret3 hbrk3 => ?_) (fun t_3 σ' H' er hI => ?_)
  · skip
    have fr0 := fr0.trans (Fr.same s3)
    have dm := dm.same s3
    have h_law_spot_here := ((tT2 tRat tRat) : Ty K (Rat × Rat)).mono (S := S) (Fr.same s3) h_law_spot_here
    have h_law_polyline := ((tL (tT2 tRat tRat)) : Ty K (List (Rat × Rat))).mono (S := S) (Fr.same s3) h_law_polyline
    have h_law_room := (tRat : Ty K Rat).mono (S := S) (Fr.same s3) h_law_room
    have h_law_low := ((tT2 tRat tRat) : Ty K (Rat × Rat)).mono (S := S) (Fr.same s3) h_law_low
    have h_law_high := ((tT2 tRat tRat) : Ty K (Rat × Rat)).mono (S := S) (Fr.same s3) h_law_high
    exact ⟨v_law_spot_here, v_law_polyline, v_law_room, v_law_low, v_law_high, _, _, rfl, fr0, dm, h_law_spot_here, h_law_polyline, h_law_room, h_law_low, h_law_high⟩
  · skip
    obtain ⟨v_law_spot_here, v_law_polyline, v_law_room, v_law_low, v_law_high, f_5, f_6, rfl, fr0, dm, h_law_spot_here, h_law_polyline, h_law_room, h_law_low, h_law_high⟩ := hI
    let HL := H'
    have freshl : ∀ a ∈ S, a ∉ S → H' a = none := fun a m n => absurd m n
    have frl : Fr S HL H' := Fr.refl (T := S) H'
    have tsl := ts
    have subl : Sub S S := fun a m => m
    have h_law_k : (tInt : Ty K Int).rp S H' v_law_k law_k_3 := h_law_k
    obtain ⟨law_one_4, e4, hm⟩ := bd_some hm
    refine q_asg (T := []) dm (ev_op od_ixL (ev_var ts h_law_polyline rfl) (ev_max2 (ev_int (K := K)) (ev_op (od_sub (K := K)) (ev_var ts h_law_k rfl) (ev_int (K := K))))) e4 (fun v_law_one H4 s4 h_law_one => ?_)
    have fr0 := fr0.trans (Fr.same s4)
    have dm := dm.same s4
    have frl := frl.trans (Fr.same s4)
    have h_law_spot_here := ((tT2 tRat tRat) : Ty K (Rat × Rat)).mono (S := S) (Fr.same s4) h_law_spot_here
    have h_law_polyline := ((tL (tT2 tRat tRat)) : Ty K (List (Rat × Rat))).mono (S := S) (Fr.same s4) h_law_polyline
    have h_law_room := (tRat : Ty K Rat).mono (S := S) (Fr.same s4) h_law_room
    have h_law_low := ((tT2 tRat tRat) : Ty K (Rat × Rat)).mono (S := S) (Fr.same s4) h_law_low
    have h_law_high := ((tT2 tRat tRat) : Ty K (Rat × Rat)).mono (S := S) (Fr.same s4) h_law_high
    have h_law_k := (tInt : Ty K Int).mono (S := S) (Fr.same s4) h_law_k
    have h_law_one : ((tT2 tRat tRat) : Ty K (Rat × Rat)).rp S H4 v_law_one law_one_4 := h_law_one
    obtain ⟨c5, e5, hm⟩ := bd_some hm
    refine l_if (T := []) dm (eb_notNe (ev_call (ea_cons (ev_var ts h_law_one rfl) (ea_cons (ev_op od_ixL (ev_var ts h_law_polyline rfl) (ev_var ts h_law_k rfl)) (ea_cons (ev_var ts h_law_low rfl) (ea_cons (ev_var ts h_law_high rfl) ea_nil)))))) e5 (fun hc H5 s5 => ?_) (fun hc H5 s5 => ?_)
    · skip
      subst hc
      have hm := if_t hm
      have fr0 := fr0.trans (Fr.same s5)
      have dm := dm.same s5
      have frl := frl.trans (Fr.same s5)
      have h_law_spot_here := ((tT2 tRat tRat) : Ty K (Rat × Rat)).mono (S := S) (Fr.same s5) h_law_spot_here
      have h_law_polyline := ((tL (tT2 tRat tRat)) : Ty K (List (Rat × Rat))).mono (S := S) (Fr.same s5) h_law_polyline
      have h_law_room := (tRat : Ty K Rat).mono (S := S) (Fr.same s5) h_law_room
      have h_law_low := ((tT2 tRat tRat) : Ty K (Rat × Rat)).mono (S := S) (Fr.same s5) h_law_low
      have h_law_high := ((tT2 tRat tRat) : Ty K (Rat × Rat)).mono (S := S) (Fr.same s5) h_law_high
      have h_law_k := (tInt : Ty K Int).mono (S := S) (Fr.same s5) h_law_k
      have h_law_one := ((tT2 tRat tRat) : Ty K (Rat × Rat)).mono (S := S) (Fr.same s5) h_law_one
      obtain ⟨z9, er, hm⟩ := bd_some hm
      cases hm
      have er3 := hret3 _ rfl
      subst er3
      cases hm3
      exact q_ret (T := []) dm (ev_bool (K := K)) er (fun v H7 s7 hv => q v H7 (fr0.trans (Fr.same s7)).toSame ((tBool : Ty K Bool).sub (S := S) (H := H7) sub0 hv))
    subst hc
    have hm := if_f hm
    have fr0 := fr0.trans (Fr.same s5)
    have dm := dm.same s5
    have frl := frl.trans (Fr.same s5)
    have h_law_spot_here := ((tT2 tRat tRat) : Ty K (Rat × Rat)).mono (S := S) (Fr.same s5) h_law_spot_here
    have h_law_polyline := ((tL (tT2 tRat tRat)) : Ty K (List (Rat × Rat))).mono (S := S) (Fr.same s5) h_law_polyline
    have h_law_room := (tRat : Ty K Rat).mono (S := S) (Fr.same s5) h_law_room
    have h_law_low := ((tT2 tRat tRat) : Ty K (Rat × Rat)).mono (S := S) (Fr.same s5) h_law_low
    have h_law_high := ((tT2 tRat tRat) : Ty K (Rat × Rat)).mono (S := S) (Fr.same s5) h_law_high
    have h_law_k := (tInt : Ty K Int).mono (S := S) (Fr.same s5) h_law_k
    have h_law_one := ((tT2 tRat tRat) : Ty K (Rat × Rat)).mono (S := S) (Fr.same s5) h_law_one
    refine l_next ?_
    cases hm
    exact ⟨_, rfl, frl, ⟨v_law_spot_here, v_law_polyline, v_law_room, v_law_low, v_law_high, _, _, rfl, fr0, dm, h_law_spot_here, h_law_polyline, h_law_room, h_law_low, h_law_high⟩⟩
  subst er
  have hm := hm3
  obtain ⟨v_law_spot_here, v_law_polyline, v_law_room, v_law_low, v_law_high, f_5, f_6, rfl, fr0, dm, h_law_spot_here, h_law_polyline, h_law_room, h_law_low, h_law_high⟩ := hI
  have er := hm
  exact q_ret (T := []) dm (ev_bool (K := K)) er (fun v H8 s8 hv => q v H8 (fr0.trans (Fr.same s8)).toSame ((tBool : Ty K Bool).sub (S := S) (H := H8) sub0 hv))
def m_law_ratio (d_law_reach : Int) (P : Rat → Prop) : Prop :=
  ((callBW anyW (lf (bd (some (1 : Int)) fun x => bd (bd (some (1 : Int)) fun x => bd (bd (some (2 : Int)) fun x => bd (bd (some (2 : Int)) fun x => bd (bd (some (3 : Int)) fun x => bd (bd (some (4 : Int)) fun x => bd (bd (some (7 : Int)) fun x => bd (bd (some (60 : Int)) fun x => bd (some []) fun y => some (x :: y)) fun y => some (x :: y)) fun y => some (x :: y)) fun y => some (x :: y)) fun y => some (x :: y)) fun y => some (x :: y)) fun y => some (x :: y)) fun y => some (x :: y)))) fun law_low_1 => (lf (bd (some d_law_reach) fun x => bd (some law_low_1) fun y => mul? x y) fun law_room_2 => ((unW (fun a => ratio? a.1 a.2.1) (tup2W (opW (fun x y => some (x - y)) (callBW drawW (lf (bd (bd (some (2 : Int)) fun x => bd (some law_room_2) fun y => mul? x y) fun x => bd (some (1 : Int)) fun y => some (x + y)))) (lf (some law_room_2))) (tup2W (lf (some law_low_1)) (lf (some ()))))) P)))
abbrev sp_law_ratio (K : PySem.W.Frag) : Sp := spB (K := K) (aCons tInt aNil) (fun S => of (K := K) tRat S) (fun a => m_law_ratio a.1)
theorem ok_law_ratio (ev : Env K mg) : FnOk P w K mg base CX0 3 ev.f_law_ratio ev.d_law_ratio p_law_ratio (sp_law_ratio K) := by
  refine ev.A_law_ratio.F.ok sc_law_ratio (fun vs H Q E h => ?_) (fun cdv A outer s H0 vs Q E hr h => ?_)
  · obtain ⟨S, b, c, r, ⟨d_law_reach, _⟩, P, rfl, _, _, _, ⟨v_law_reach, _, rfl, h_law_reach, rfl⟩, _⟩ := h
    rfl
  obtain ⟨S, b, c, r, ⟨d_law_reach, _⟩, P, rfl, dm, ts, hB, ⟨v_law_reach, _, rfl, h_law_reach, rfl⟩, hm, q⟩ := h
  have fr0 := Fr.refl (T := [b, c]) H0
  have sub0 : Sub S S := fun a m => m
  refine ⟨_, (pss_cons (ps_set (i := 2) sc_law_ratio.nd rfl (Or.inl rfl) (pe_call (ok_law_any ev) (hr.mono (by decide)) (by rfl) ev.A_law_any.m ev.A_law_any.F.kp ev.A_law_any.b .nil pass0 (pa_cons (pv 0) (pa_cons (pe_lst (pa_cons pe_int (pa_cons pe_int (pa_cons pe_int (pa_cons pe_int (pa_cons pe_int (pa_cons pe_int (pa_cons pe_int (pa_cons pe_int pa_nil))))))))) pa_nil))))
    (pss_cons (ps_set (i := 3) sc_law_ratio.nd rfl (Or.inl rfl) (pe_op op_mulW (pv 1) (pv 2)))
    (pss_one (ps_ret (pe_call (ok_law_rat ev) (hr.mono (by decide)) (by rfl) ev.A_law_rat.m ev.A_law_rat.F.kp ev.A_law_rat.b .nil pass0 (pa_cons (pe_op op_sub (pe_call (ok_law_draw ev) (hr.mono (by decide)) (by rfl) ev.A_law_draw.m ev.A_law_draw.F.kp ev.A_law_draw.b .nil pass0 (pa_cons (pv 0) (pa_cons (pe_op op_add (pe_op op_mulW pe_int (pv 3)) pe_int) pa_nil))) (pv 3)) (pa_cons (pv 2) pa_nil))))))), ?_⟩
  dsimp only [m_law_ratio] at hm
  refine qw_asg dm hB ts (ew_any rfl (ew_pure (ev_new (ev_lst (el_cons (ev_int (K := K)) (el_cons (ev_int (K := K)) (el_cons (ev_int (K := K)) (el_cons (ev_int (K := K)) (el_cons (ev_int (K := K)) (el_cons (ev_int (K := K)) (el_cons (ev_int (K := K)) (el_cons (ev_int (K := K)) el_nil)))))))) (by decide))))) hm (fun v_law_low H1 law_low_1 hm fr1 dm1 hB1 h_law_low => ?_)
  have fr0 := fr0.trans fr1
  have h_law_reach := (tInt : Ty K Int).mono (S := S) (fr1.sub ts) h_law_reach
  have dm := dm1
  have hB := hB1
  have h_law_low : (tInt : Ty K Int).rp S H1 v_law_low law_low_1 := h_law_low
  obtain ⟨law_room_2, e2, hm⟩ := hm
  refine q_asg (T := [b, c]) dm (ev_op (od_mul (K := K)) (ev_var ts h_law_reach rfl) (ev_var ts h_law_low rfl)) e2 (fun v_law_room H2 s2 h_law_room => ?_)
  have fr0 := fr0.trans (Fr.same s2)
  have dm := dm.same s2
  have h_law_reach := (tInt : Ty K Int).mono (S := S) (Fr.same s2) h_law_reach
  have h_law_low := (tInt : Ty K Int).mono (S := S) (Fr.same s2) h_law_low
  have hB := hB.same s2
  have h_law_room : (tInt : Ty K Int).rp S H2 v_law_room law_room_2 := h_law_room
  exact qw_ret dm hB ts (ew_law_rat (wa_cons (ew_op (od_sub (K := K)) (ew_draw (K := K) rfl (ew_pure (ev_op (od_add (K := K)) (ev_op (od_mul (K := K)) (ev_int (K := K)) (ev_var ts h_law_room rfl)) (ev_int (K := K))))) (ew_pure (ev_var ts h_law_room rfl))) (wa_cons (ew_pure (ev_var ts h_law_low rfl)) wa_nil))) hm (fun v H3 z hm fr3 dm3 hB3 hv => q v H3 z hm (fr0.trans fr3) hB3 ((tRat : Ty K Rat).sub (S := S) (H := H3) sub0 hv))
def m_law_spot (d_law_reach : Int) (P : (Rat × Rat) → Prop) : Prop :=
  ((tup2W (callBW (fun a => m_law_ratio a.1) (tup2W (lf (some d_law_reach)) (lf (some ())))) (callBW (fun a => m_law_ratio a.1) (tup2W (lf (some d_law_reach)) (lf (some ()))))) P)
abbrev sp_law_spot (K : PySem.W.Frag) : Sp := spB (K := K) (aCons tInt aNil) (fun S => of (K := K) (tT2 tRat tRat) S) (fun a => m_law_spot a.1)
theorem ok_law_spot (ev : Env K mg) : FnOk P w K mg base CX0 4 ev.f_law_spot ev.d_law_spot p_law_spot (sp_law_spot K) := by
  refine ev.A_law_spot.F.ok sc_law_spot (fun vs H Q E h => ?_) (fun cdv A outer s H0 vs Q E hr h => ?_)
  · obtain ⟨S, b, c, r, ⟨d_law_reach, _⟩, P, rfl, _, _, _, ⟨v_law_reach, _, rfl, h_law_reach, rfl⟩, _⟩ := h
    rfl
  obtain ⟨S, b, c, r, ⟨d_law_reach, _⟩, P, rfl, dm, ts, hB, ⟨v_law_reach, _, rfl, h_law_reach, rfl⟩, hm, q⟩ := h
  have fr0 := Fr.refl (T := [b, c]) H0
  have sub0 : Sub S S := fun a m => m
  refine ⟨_, (pss_one (ps_ret (pe_tup (pa_cons (pe_call (ok_law_ratio ev) (hr.mono (by decide)) (by rfl) ev.A_law_ratio.m ev.A_law_ratio.F.kp ev.A_law_ratio.b .nil pass0 (pa_cons (pv 0) (pa_cons (pv 1) pa_nil))) (pa_cons (pe_call (ok_law_ratio ev) (hr.mono (by decide)) (by rfl) ev.A_law_ratio.m ev.A_law_ratio.F.kp ev.A_law_ratio.b .nil pass0 (pa_cons (pv 0) (pa_cons (pv 1) pa_nil))) pa_nil))))), ?_⟩
  dsimp only [m_law_spot] at hm
  exact qw_ret dm hB ts (ew_tup2 (ew_callB rfl (wa_cons (ew_pure (ev_var ts h_law_reach rfl)) wa_nil)) (ew_callB rfl (wa_cons (ew_pure (ev_var ts h_law_reach rfl)) wa_nil))) hm (fun v H1 z hm fr1 dm1 hB1 hv => q v H1 z hm (fr0.trans fr1) hB1 (((tT2 tRat tRat) : Ty K (Rat × Rat)).sub (S := S) (H := H1) sub0 hv))
def m_law_corners (d_law_many : Int) (P : (List (Rat × Rat)) → Prop) : Prop :=
  (lf (some []) fun law_row_1 => ((unW rng1? (opW (fun x y => some (x + y)) (lf (some (2 : Int))) (callBW drawW (lf (some d_law_many))))) fun xs13 => loopW (fun s_2 law_k_2 K2 => ((callBW (fun a => m_law_spot a.1) (tup2W (lf (some (20 : Int))) (lf (some ())))) fun law_spot_here_3 => (jn (fun J4 => ((andW (lf (bd (some []) fun y => some (!decide (s_2 = y)))) (opW (fun x y => some (decide (y < x))) (callBW drawW (lf (some (4 : Int)))) (lf (some (0 : Int))))) fun c4 => if c4 then ((unW (fun a => m_law_sum a.1 a.2.1) (tup2W (lf (bd (bd (bd (some (1 : Int)) fun x => some (-x)) fun y => atI s_2 y) fun x => some x.1)) (tup2W (callBW (fun a => m_law_ratio a.1) (tup2W (lf (some (4 : Int))) (lf (some ())))) (lf (some ()))))) fun law_x_5 => ((tup2W (lf (some law_x_5)) (unW (fun a => m_law_sum a.1 a.2.1) (tup2W (lf (bd (bd (bd (some (1 : Int)) fun x => some (-x)) fun y => atI s_2 y) fun x => some x.2)) (tup2W (callBW anyW (lf (bd (bd (bd (some (0 : Int)) fun x => bd (some (1 : Int)) fun y => some (x, y)) p2r) fun x => bd (bd (bd (bd (some (1 : Int)) fun x => bd (some (2 : Int)) fun y => some (x, y)) p2r) fun x => bd (bd (bd (bd (bd (some (0 : Int)) fun x => bd (some (1 : Int)) fun y => some (x - y)) fun x => bd (some (1 : Int)) fun y => some (x, y)) p2r) fun x => bd (bd (bd (bd (some (1 : Int)) fun x => bd (some (1 : Int)) fun y => some (x, y)) p2r) fun x => bd (some []) fun y => some (x :: y)) fun y => some (x :: y)) fun y => some (x :: y)) fun y => some (x :: y)))) (lf (some ())))))) fun law_spot_here_6 => J4 law_spot_here_6)) else J4 law_spot_here_3)) fun j7 => (jn (fun J8 => ((andW (lf (bd (some []) fun y => some (!decide (s_2 = y)))) (opW (fun x y => some (decide (x = y))) (callBW drawW (lf (some (9 : Int)))) (lf (some (0 : Int))))) fun c8 => if c8 then ((anyW s_2) fun law_spot_here_9 => J8 law_spot_here_9) else J8 j7)) fun j10 => (lf (some j10) fun a11 => (lf (app? s_2 a11) fun law_row_12 => K2 (Ct.go law_row_12))))))) xs13 law_row_1 fun r_2 => match r_2 with | .ret y => P y | .go t_2 => (lf (some t_2) P) | .brk _ => False))
abbrev sp_law_corners (K : PySem.W.Frag) : Sp := spB (K := K) (aCons tInt aNil) (fun S => nw (K := K) (tT2 tRat tRat) S) (fun a => m_law_corners a.1)
theorem ok_law_corners (ev : Env K mg) : FnOk P w K mg base CX0 5 ev.f_law_corners ev.d_law_corners p_law_corners (sp_law_corners K) := by
  refine ev.A_law_corners.F.ok sc_law_corners (fun vs H Q E h => ?_) (fun cdv A outer s H0 vs Q E hr h => ?_)
  · obtain ⟨S, b, c, r, ⟨d_law_many, _⟩, P, rfl, _, _, _, ⟨v_law_many, _, rfl, h_law_many, rfl⟩, _⟩ := h
    rfl
  obtain ⟨S, b, c, r, ⟨d_law_many, _⟩, P, rfl, dm, ts, hB, ⟨v_law_many, _, rfl, h_law_many, rfl⟩, hm, q⟩ := h
  have fr0 := Fr.refl (T := [b, c]) H0
  have sub0 : Sub S S := fun a m => m
  refine ⟨_, (pss_cons (ps_set (i := 2) sc_law_corners.nd rfl (Or.inl rfl) (pe_lst pa_nil))
    (pss_cons (ps_for PassesOwn.never rfl (pi_range1 rfl ev.B.range_ (pa_cons (pe_op op_add pe_int (pe_call (ok_law_draw ev) (hr.mono (by decide)) (by rfl) ev.A_law_draw.m ev.A_law_draw.F.kp ev.A_law_draw.b .nil pass0 (pa_cons (pv 0) (pa_cons (pv 1) pa_nil)))) pa_nil)) (pg_name (i := 3) sc_law_corners.nd rfl (Or.inl rfl))
    (pss_cons (ps_set (i := 4) sc_law_corners.nd rfl (Or.inl rfl) (pe_call (ok_law_spot ev) (hr.mono (by decide)) (by rfl) ev.A_law_spot.m ev.A_law_spot.F.kp ev.A_law_spot.b .nil pass0 (pa_cons (pv 0) (pa_cons pe_int pa_nil))))
    (pss_cons (ps_if (PW.pt (pw_and (pt_cmpR (op_neD hr.units) (pv 2) (pe_lst pa_nil) (nomark _)) (pw_and1 (pt_cmpR op_gt (pe_call (ok_law_draw ev) (hr.mono (by decide)) (by rfl) ev.A_law_draw.m ev.A_law_draw.F.kp ev.A_law_draw.b .nil pass0 (pa_cons (pv 0) (pa_cons pe_int pa_nil))) pe_int (nomark _)))))
    (pss_cons (ps_set (i := 5) sc_law_corners.nd rfl (Or.inl rfl) (pe_call (ok_law_sum ev) (hr.mono (by decide)) (by rfl) ev.A_law_sum.m ev.A_law_sum.F.kp ev.A_law_sum.b .nil pass0 (pa_cons (pe_ix ix_tup (pe_ix ix_list (pv 2) (pe_un un_neg pe_int) (fun _ _ => rfl)) pe_int (fun _ _ => rfl)) (pa_cons (pe_call (ok_law_ratio ev) (hr.mono (by decide)) (by rfl) ev.A_law_ratio.m ev.A_law_ratio.F.kp ev.A_law_ratio.b .nil pass0 (pa_cons (pv 0) (pa_cons pe_int pa_nil))) pa_nil))))
    (pss_one (ps_set (i := 4) sc_law_corners.nd rfl (Or.inl rfl) (pe_tup (pa_cons (pv 5) (pa_cons (pe_call (ok_law_sum ev) (hr.mono (by decide)) (by rfl) ev.A_law_sum.m ev.A_law_sum.F.kp ev.A_law_sum.b .nil pass0 (pa_cons (pe_ix ix_tup (pe_ix ix_list (pv 2) (pe_un un_neg pe_int) (fun _ _ => rfl)) pe_int (fun _ _ => rfl)) (pa_cons (pe_call (ok_law_any ev) (hr.mono (by decide)) (by rfl) ev.A_law_any.m ev.A_law_any.F.kp ev.A_law_any.b .nil pass0 (pa_cons (pv 0) (pa_cons (pe_lst (pa_cons (pe_tup (pa_cons pe_int (pa_cons pe_int pa_nil))) (pa_cons (pe_tup (pa_cons pe_int (pa_cons pe_int pa_nil))) (pa_cons (pe_tup (pa_cons (pe_op op_sub pe_int pe_int) (pa_cons pe_int pa_nil))) (pa_cons (pe_tup (pa_cons pe_int (pa_cons pe_int pa_nil))) pa_nil))))) pa_nil))) pa_nil))) pa_nil)))))) pss_nil)
    (pss_cons (ps_if (PW.pt (pw_and (pt_cmpR (op_neD hr.units) (pv 2) (pe_lst pa_nil) (nomark _)) (pw_and1 (pt_cmpR op_eq (pe_call (ok_law_draw ev) (hr.mono (by decide)) (by rfl) ev.A_law_draw.m ev.A_law_draw.F.kp ev.A_law_draw.b .nil pass0 (pa_cons (pv 0) (pa_cons pe_int pa_nil))) pe_int (nomark _)))))
    (pss_one (ps_set (i := 4) sc_law_corners.nd rfl (Or.inl rfl) (pe_call (ok_law_any ev) (hr.mono (by decide)) (by rfl) ev.A_law_any.m ev.A_law_any.F.kp ev.A_law_any.b .nil pass0 (pa_cons (pv 0) (pa_cons (pv 2) pa_nil))))) pss_nil)
    (pss_one (ps_expr (pe_bm PySem.F.plainAttrs_list PySem.F.slot_list_append PySem.F.type_list_append mt_append (pv 2) (pa_cons (pv 4) pa_nil))))))))
    (pss_one (ps_ret (pv 2))))), ?_⟩
  dsimp only [m_law_corners] at hm
  obtain ⟨law_row_1, e1, hm⟩ := hm
  refine q_asg (T := [b, c]) dm (ev_lst0 (a := ((tT2 tRat tRat) : Ty K (Rat × Rat)))) e1 (fun v_law_row H1 s1 hx => ?_)
  obtain ⟨p_law_row, rfl, np_law_row, o_law_row⟩ := hx
  have ns_law_row : p_law_row ∉ S := dm.not_mem np_law_row
  have nb_law_row : p_law_row ∉ S := fun m => ns_law_row (sub0 _ m)
  have n0_law_row := fr_back fr0 hB.dom np_law_row
  have nt_law_row := hB.dom.not_mem np_law_row
  have fr0 := fr0.trans (Fr.same s1)
  have h_law_many := (tInt : Ty K Int).mono (Fr.same s1) ((tInt : Ty K Int).ext (S := S) np_law_row h_law_many)
  have dm := (dm.same s1).cons o_law_row.choose_spec.1
  have ts := sub_cons (p := p_law_row) ts
  have sub0 := sub_cons (p := p_law_row) sub0
  have im_law_row : p_law_row ∈ p_law_row :: S := List.mem_cons_self ..
  have hB := hB.same s1
  refine qw_for_s dm hB ts (srw_r1 (K := K) (ew_op (od_add (K := K)) (ew_pure (ev_int (K := K))) (ew_draw (K := K) rfl (ew_pure (ev_var ts h_law_many rfl))))) hm (fun s_2 σ' H' => ∃ v_law_many : V, ∃ f_3 : Option V, ∃ f_4 : Option V, ∃ f_5 : Option V, σ' = [some (.ref b), some v_law_many, some (.ref p_law_row), f_3, f_4, f_5] ∧ Fr [b, c] H0 H' ∧ Dom (p_law_row :: S) H' ∧ Bag H' b c ∧ (tInt : Ty K Int).rp (p_law_row :: S) H' v_law_many d_law_many ∧ Own ((tT2 tRat tRat) : Ty K (Rat × Rat)) (p_law_row :: S) H' p_law_row s_2) (fun H2 fr2 dm2 hB2 => ?_) (fun hd2 s_2 law_k_2 C2 v_law_k σ' H' hI h_law_k hm hret2 hbrk2 => ?_) (fun t_2 σ' H' hm hI => ?_)
  · skip
    have fr0 := fr0.trans fr2
    have h_law_many := (tInt : Ty K Int).mono (S := (p_law_row :: S)) (fr2.sub ts) h_law_many
    have o_law_row := o_law_row.fr fr2 ts nt_law_row
    have dm := dm2
    have hB := hB2
    exact ⟨v_law_many, _, _, _, rfl, fr0, dm, hB, h_law_many, o_law_row⟩
  · skip
    obtain ⟨v_law_many, f_3, f_4, f_5, rfl, fr0, dm, hB, h_law_many, o_law_row⟩ := hI
    let HL := H'
    have freshl : ∀ a ∈ (p_law_row :: S), a ∉ (p_law_row :: S) → H' a = none := fun a m n => absurd m n
    have frl : Fr (p_law_row :: S) HL H' := Fr.refl (T := (p_law_row :: S)) H'
    have tsl := ts
    have subl : Sub (p_law_row :: S) (p_law_row :: S) := fun a m => m
    have iml_law_row := im_law_row
    have h_law_k : (tInt : Ty K Int).rp (p_law_row :: S) H' v_law_k law_k_2 := h_law_k
    refine qw_asg dm hB ts (ew_callB rfl (wa_cons (ew_pure (ev_int (K := K))) wa_nil)) hm (fun v_law_spot_here H3 law_spot_here_3 hm fr3 dm3 hB3 h_law_spot_here => ?_)
    have fr0 := fr0.trans fr3
    have frl := frl.trans (fr3.sub tsl)
    have h_law_many := (tInt : Ty K Int).mono (S := (p_law_row :: S)) (fr3.sub ts) h_law_many
    have o_law_row := o_law_row.fr fr3 ts nt_law_row
    have h_law_k := (tInt : Ty K Int).mono (S := (p_law_row :: S)) (fr3.sub ts) h_law_k
    have dm := dm3
    have hB := hB3
    have h_law_spot_here : ((tT2 tRat tRat) : Ty K (Rat × Rat)).rp (p_law_row :: S) H3 v_law_spot_here law_spot_here_3 := h_law_spot_here
    obtain ⟨J4, hK4, hm⟩ := jn_open hm
    refine seq_by (fun σ' H' => ∃ j7, J4 j7 ∧ Fr (p_law_row :: S) HL H' ∧ ∃ v_law_many : V, ∃ v_law_k : V, ∃ v_law_spot_here : V, ∃ f_5 : Option V, σ' = [some (.ref b), some v_law_many, some (.ref p_law_row), some v_law_k, some v_law_spot_here, f_5] ∧ Fr [b, c] H0 H' ∧ Dom (p_law_row :: S) H' ∧ Bag H' b c ∧ (tInt : Ty K Int).rp (p_law_row :: S) H' v_law_many d_law_many ∧ Own ((tT2 tRat tRat) : Ty K (Rat × Rat)) (p_law_row :: S) H' p_law_row s_2 ∧ (tInt : Ty K Int).rp (p_law_row :: S) H' v_law_k law_k_2 ∧ ((tT2 tRat tRat) : Ty K (Rat × Rat)).rp (p_law_row :: S) H' v_law_spot_here j7) (fun σ' H' hI => ?_) (fun rest4 => ?_)
    · skip
      obtain ⟨j7, hj, ⟨frl, v_law_many, v_law_k, v_law_spot_here, f_5, rfl, fr0, dm, hB, h_law_many, o_law_row, h_law_k, h_law_spot_here⟩⟩ := hI
      have hm := hK4 j7 hj
      obtain ⟨J8, hK8, hm⟩ := jn_open hm
      refine seq_by (fun σ' H' => ∃ j10, J8 j10 ∧ Fr (p_law_row :: S) HL H' ∧ ∃ v_law_many : V, ∃ v_law_k : V, ∃ v_law_spot_here : V, ∃ f_5 : Option V, σ' = [some (.ref b), some v_law_many, some (.ref p_law_row), some v_law_k, some v_law_spot_here, f_5] ∧ Fr [b, c] H0 H' ∧ Dom (p_law_row :: S) H' ∧ Bag H' b c ∧ (tInt : Ty K Int).rp (p_law_row :: S) H' v_law_many d_law_many ∧ Own ((tT2 tRat tRat) : Ty K (Rat × Rat)) (p_law_row :: S) H' p_law_row s_2 ∧ (tInt : Ty K Int).rp (p_law_row :: S) H' v_law_k law_k_2 ∧ ((tT2 tRat tRat) : Ty K (Rat × Rat)).rp (p_law_row :: S) H' v_law_spot_here j10) (fun σ' H' hI => ?_) (fun rest8 => ?_)
      · skip
        obtain ⟨j10, hj, ⟨frl, v_law_many, v_law_k, v_law_spot_here, f_5, rfl, fr0, dm, hB, h_law_many, o_law_row, h_law_k, h_law_spot_here⟩⟩ := hI
        have hm := hK8 j10 hj
        obtain ⟨a11, e11, hm⟩ := hm
        obtain ⟨law_row_12, f11, hm⟩ := hm
        refine l_app (T := [b, c]) dm o_law_row im_law_row nt_law_row ts rfl (ev_var ts h_law_spot_here rfl) e11 f11 (fun H11 s11 frx11 o_law_row => ?_)
        have fr0 := fr0.mut hB.dom n0_law_row s11
        have frl := frl.trans (s11.fr iml_law_row)
        have dm := dm.fx frx11 s11
        have h_law_many := (tInt : Ty K Int).mono (S := (p_law_row :: S)) frx11 h_law_many
        have h_law_k := (tInt : Ty K Int).mono (S := (p_law_row :: S)) frx11 h_law_k
        have h_law_spot_here := ((tT2 tRat tRat) : Ty K (Rat × Rat)).mono (S := (p_law_row :: S)) frx11 h_law_spot_here
        have hB := hB.mut s11 nt_law_row
        exact ⟨_, hm, frl, ⟨v_law_many, _, _, _, rfl, fr0, dm, hB, h_law_many, o_law_row⟩⟩
      refine lw_if dm hB ts (bw_and (bw_pure (eb_test (K := K) (ev_ownNe (dT2 dRat dRat) (Nat.le_of_ble_eq_true rfl) o_law_row nt_law_row ts rfl (ev_new (ev_lst0 (a := ((tT2 tRat tRat) : Ty K (Rat × Rat)))))))) (bw_test (K := K) (ew_op (od_eqI (K := K)) (ew_draw (K := K) rfl (ew_pure (ev_int (K := K)))) (ew_pure (ev_int (K := K)))))) hm (fun H8 hm fr8 dm8 hB8 => ?_) (fun H8 hm fr8 dm8 hB8 => ?_)
      · skip
        have fr0 := fr0.trans fr8
        have frl := frl.trans (fr8.sub tsl)
        have h_law_many := (tInt : Ty K Int).mono (S := (p_law_row :: S)) (fr8.sub ts) h_law_many
        have o_law_row := o_law_row.fr fr8 ts nt_law_row
        have h_law_k := (tInt : Ty K Int).mono (S := (p_law_row :: S)) (fr8.sub ts) h_law_k
        have h_law_spot_here := ((tT2 tRat tRat) : Ty K (Rat × Rat)).mono (S := (p_law_row :: S)) (fr8.sub ts) h_law_spot_here
        have dm := dm8
        have hB := hB8
        have hm := ifp_t hm
        refine lw_asg dm hB ts (ew_anyO rfl o_law_row nt_law_row rfl) hm (fun v_law_spot_here H9 law_spot_here_9 hm fr9 dm9 hB9 h_law_spot_here => ?_)
        have fr0 := fr0.trans fr9
        have frl := frl.trans (fr9.sub tsl)
        have h_law_many := (tInt : Ty K Int).mono (S := (p_law_row :: S)) (fr9.sub ts) h_law_many
        have o_law_row := o_law_row.fr fr9 ts nt_law_row
        have h_law_k := (tInt : Ty K Int).mono (S := (p_law_row :: S)) (fr9.sub ts) h_law_k
        have dm := dm9
        have hB := hB9
        have h_law_spot_here : ((tT2 tRat tRat) : Ty K (Rat × Rat)).rp (p_law_row :: S) H9 v_law_spot_here law_spot_here_9 := h_law_spot_here
        exact rest8 _ _ ⟨_, hm, ⟨frl, v_law_many, v_law_k, v_law_spot_here, _, rfl, fr0, dm, hB, h_law_many, o_law_row, h_law_k, h_law_spot_here⟩⟩
      · skip
        have fr0 := fr0.trans fr8
        have frl := frl.trans (fr8.sub tsl)
        have h_law_many := (tInt : Ty K Int).mono (S := (p_law_row :: S)) (fr8.sub ts) h_law_many
        have o_law_row := o_law_row.fr fr8 ts nt_law_row
        have h_law_k := (tInt : Ty K Int).mono (S := (p_law_row :: S)) (fr8.sub ts) h_law_k
        have h_law_spot_here := ((tT2 tRat tRat) : Ty K (Rat × Rat)).mono (S := (p_law_row :: S)) (fr8.sub ts) h_law_spot_here
        have dm := dm8
        have hB := hB8
        have hm := ifp_f hm
        exact rest8 _ _ ⟨_, hm, ⟨frl, v_law_many, v_law_k, v_law_spot_here, _, rfl, fr0, dm, hB, h_law_many, o_law_row, h_law_k, h_law_spot_here⟩⟩
    refine lw_if dm hB ts (bw_and (bw_pure (eb_test (K := K) (ev_ownNe (dT2 dRat dRat) (Nat.le_of_ble_eq_true rfl) o_law_row nt_law_row ts rfl (ev_new (ev_lst0 (a := ((tT2 tRat tRat) : Ty K (Rat × Rat)))))))) (bw_test (K := K) (ew_op (od_gt (K := K)) (ew_draw (K := K) rfl (ew_pure (ev_int (K := K)))) (ew_pure (ev_int (K := K)))))) hm (fun H4 hm fr4 dm4 hB4 => ?_) (fun H4 hm fr4 dm4 hB4 => ?_)
    · skip
      have fr0 := fr0.trans fr4
      have frl := frl.trans (fr4.sub tsl)
      have h_law_many := (tInt : Ty K Int).mono (S := (p_law_row :: S)) (fr4.sub ts) h_law_many
      have o_law_row := o_law_row.fr fr4 ts nt_law_row
      have h_law_k := (tInt : Ty K Int).mono (S := (p_law_row :: S)) (fr4.sub ts) h_law_k
      have h_law_spot_here := ((tT2 tRat tRat) : Ty K (Rat × Rat)).mono (S := (p_law_row :: S)) (fr4.sub ts) h_law_spot_here
      have dm := dm4
      have hB := hB4
      have hm := ifp_t hm
      refine qw_asg dm hB ts (ew_call (wa_cons (ew_pure (ev_ix20 (ev_ownIx o_law_row nt_law_row ts rfl (ev_neg (ev_int (K := K)))))) (wa_cons (ew_callB rfl (wa_cons (ew_pure (ev_int (K := K))) wa_nil)) wa_nil))) hm (fun v_law_x H5 law_x_5 hm fr5 dm5 hB5 h_law_x => ?_)
      have fr0 := fr0.trans fr5
      have frl := frl.trans (fr5.sub tsl)
      have h_law_many := (tInt : Ty K Int).mono (S := (p_law_row :: S)) (fr5.sub ts) h_law_many
      have o_law_row := o_law_row.fr fr5 ts nt_law_row
      have h_law_k := (tInt : Ty K Int).mono (S := (p_law_row :: S)) (fr5.sub ts) h_law_k
      have h_law_spot_here := ((tT2 tRat tRat) : Ty K (Rat × Rat)).mono (S := (p_law_row :: S)) (fr5.sub ts) h_law_spot_here
      have dm := dm5
      have hB := hB5
      have h_law_x : (tRat : Ty K Rat).rp (p_law_row :: S) H5 v_law_x law_x_5 := h_law_x
      refine lw_asg dm hB ts (ew_tup2 (ew_pure (ev_var ts h_law_x rfl)) (ew_call (wa_cons (ew_pure (ev_ix21 (ev_ownIx o_law_row nt_law_row ts rfl (ev_neg (ev_int (K := K)))))) (wa_cons (ew_any rfl (ew_pure (ev_new (ev_lst (el_cons (ev_p2r (ev_tup2 (ev_int (K := K)) (ev_int (K := K)))) (el_cons (ev_p2r (ev_tup2 (ev_int (K := K)) (ev_int (K := K)))) (el_cons (ev_p2r (ev_tup2 (ev_op (od_sub (K := K)) (ev_int (K := K)) (ev_int (K := K))) (ev_int (K := K)))) (el_cons (ev_p2r (ev_tup2 (ev_int (K := K)) (ev_int (K := K)))) el_nil)))) (by decide))))) wa_nil)))) hm (fun v_law_spot_here H6 law_spot_here_6 hm fr6 dm6 hB6 h_law_spot_here => ?_)
      have fr0 := fr0.trans fr6
      have frl := frl.trans (fr6.sub tsl)
      have h_law_many := (tInt : Ty K Int).mono (S := (p_law_row :: S)) (fr6.sub ts) h_law_many
      have o_law_row := o_law_row.fr fr6 ts nt_law_row
      have h_law_k := (tInt : Ty K Int).mono (S := (p_law_row :: S)) (fr6.sub ts) h_law_k
      have h_law_x := (tRat : Ty K Rat).mono (S := (p_law_row :: S)) (fr6.sub ts) h_law_x
      have dm := dm6
      have hB := hB6
      have h_law_spot_here : ((tT2 tRat tRat) : Ty K (Rat × Rat)).rp (p_law_row :: S) H6 v_law_spot_here law_spot_here_6 := h_law_spot_here
      exact rest4 _ _ ⟨_, hm, ⟨frl, v_law_many, v_law_k, v_law_spot_here, _, rfl, fr0, dm, hB, h_law_many, o_law_row, h_law_k, h_law_spot_here⟩⟩
    · skip
      have fr0 := fr0.trans fr4
      have frl := frl.trans (fr4.sub tsl)
      have h_law_many := (tInt : Ty K Int).mono (S := (p_law_row :: S)) (fr4.sub ts) h_law_many
      have o_law_row := o_law_row.fr fr4 ts nt_law_row
      have h_law_k := (tInt : Ty K Int).mono (S := (p_law_row :: S)) (fr4.sub ts) h_law_k
      have h_law_spot_here := ((tT2 tRat tRat) : Ty K (Rat × Rat)).mono (S := (p_law_row :: S)) (fr4.sub ts) h_law_spot_here
      have dm := dm4
      have hB := hB4
      have hm := ifp_f hm
      exact rest4 _ _ ⟨_, hm, ⟨frl, v_law_many, v_law_k, v_law_spot_here, _, rfl, fr0, dm, hB, h_law_many, o_law_row, h_law_k, h_law_spot_here⟩⟩
  obtain ⟨v_law_many, f_3, f_4, f_5, rfl, fr0, dm, hB, h_law_many, o_law_row⟩ := hI
  obtain ⟨z, er, hm⟩ := hm
  cases er
  exact ⟨_, rfl, q _ _ _ hm fr0 hB ⟨p_law_row, rfl, n0_law_row, o_law_row.sub (cons_sub im_law_row sub0)⟩⟩
end
end G

namespace G
open PySem L2 M
section
variable {P : Program} {w : World} {K : PySem.W.Frag} {mg : Str → Option Value} {base : Heap}

def m_law_clipL (d_law_one : (Rat × Rat)) (d_law_two : (Rat × Rat)) (d_law_low : (List Rat)) (d_law_high : (List Rat)) : Option (Option (Rat × Rat)) :=
  (bd (bd (bd (bd (bd (some (0 : Int)) fun x => bd (some (1 : Int)) fun y => some (x, y)) p2r) fun x => bd (bd (bd (some (1 : Int)) fun x => bd (some (1 : Int)) fun y => some (x, y)) p2r) fun y => some (x, y)) fun x => some (some x)) fun law_bits_here_1 => (bd (bd (some (2 : Int)) rng1?) fun xs4 => bd (loopC (ρ := (Option (Rat × Rat))) (fun s_2 law_k_2 => (bd (bd (bd (some s_2) fun x => bd (bd (bd (some d_law_one) fun x => bd (some law_k_2) fun y => at2 x y) fun x => bd (bd (bd (bd (bd (some d_law_two) fun x => bd (some law_k_2) fun y => at2 x y) fun x => bd (bd (bd (some d_law_one) fun x => bd (some law_k_2) fun y => at2 x y) fun x => bd (some ()) fun y => some (x, y)) fun y => some (x, y)) fun a => m_law_dif a.1 a.2.1) fun x => bd (bd (bd (some d_law_low) fun x => bd (some law_k_2) fun y => atI x y) fun x => bd (bd (bd (some d_law_high) fun x => bd (some law_k_2) fun y => atI x y) fun x => bd (some ()) fun y => some (x, y)) fun y => some (x, y)) fun y => some (x, y)) fun y => some (x, y)) fun y => some (x, y)) fun a => m_law_span a.1 a.2.1 a.2.2.1 a.2.2.2.1 a.2.2.2.2.1) fun law_bits_here_3 => some (Ct.go law_bits_here_3))) xs4 law_bits_here_1) fun r_2 => match r_2 with | .ret y => some y | .go t_2 => (some t_2) | .brk _ => none))
abbrev sp_law_clipL (K : PySem.W.Frag) : Sp := spF (K := K) (aCons (tT2 tRat tRat) (aCons (tT2 tRat tRat) (aCons (tL tRat) (aCons (tL tRat) aNil)))) (fun S => of (K := K) (tOpt (tT2 tRat tRat)) S) (fun a => m_law_clipL a.1 a.2.1 a.2.2.1 a.2.2.2.1)
theorem ok_law_clipL (ev : Env K mg) : FnOk P w K mg base CX0 4 ev.f_law_clip ev.d_law_clip p_law_clip (sp_law_clipL K) := by
  refine ev.A_law_clip.F.ok sc_law_clip (fun vs H Q E h => ?_) (fun cdv A outer s H0 vs Q E hr h => ?_)
  · obtain ⟨S, ⟨d_law_one, d_law_two, d_law_low, d_law_high, _⟩, y, _, ⟨v_law_one, _, rfl, h_law_one, v_law_two, _, rfl, h_law_two, v_law_low, _, rfl, h_law_low, v_law_high, _, rfl, h_law_high, rfl⟩, _⟩ := h
    rfl
  obtain ⟨S, ⟨d_law_one, d_law_two, d_law_low, d_law_high, _⟩, y, dm, ⟨v_law_one, _, rfl, h_law_one, v_law_two, _, rfl, h_law_two, v_law_low, _, rfl, h_law_low, v_law_high, _, rfl, h_law_high, rfl⟩, hm, q⟩ := h
  have ts : Sub [] S := fun a m => by simp at m
  have fr0 := Fr.refl (T := []) H0
  have sub0 : Sub S S := fun a m => m
  refine ⟨_, (pss_cons (ps_set (i := 4) sc_law_clip.nd rfl (Or.inl rfl) (pe_tup (pa_cons (pe_tup (pa_cons pe_int (pa_cons pe_int pa_nil))) (pa_cons (pe_tup (pa_cons pe_int (pa_cons pe_int pa_nil))) pa_nil))))
    (pss_cons (ps_for PassesOwn.never rfl (pi_range1 rfl ev.B.range_ (pa_cons pe_int pa_nil)) (pg_name (i := 5) sc_law_clip.nd rfl (Or.inl rfl))
    (pss_one (ps_set (i := 4) sc_law_clip.nd rfl (Or.inl rfl) (pe_call (ok_law_span ev) (hr.mono (by decide)) (by rfl) ev.A_law_span.m ev.A_law_span.F.kp ev.A_law_span.b .nil pass0 (pa_cons (pv 4) (pa_cons (pe_ix ix_tup (pv 0) (pv 5) (fun _ _ => rfl)) (pa_cons (pe_call (ok_law_dif ev) (hr.mono (by decide)) (by rfl) ev.A_law_dif.m ev.A_law_dif.F.kp ev.A_law_dif.b .nil pass0 (pa_cons (pe_ix ix_tup (pv 1) (pv 5) (fun _ _ => rfl)) (pa_cons (pe_ix ix_tup (pv 0) (pv 5) (fun _ _ => rfl)) pa_nil))) (pa_cons (pe_ix ix_list (pv 2) (pv 5) (fun _ _ => rfl)) (pa_cons (pe_ix ix_list (pv 3) (pv 5) (fun _ _ => rfl)) pa_nil)))))))))
    (pss_one (ps_ret (pv 4))))), ?_⟩
  dsimp only [m_law_clipL] at hm
  obtain ⟨law_bits_here_1, e1, hm⟩ := bd_some hm
  refine q_asg (T := []) dm (ev_oS (ev_tup2 (ev_p2r (ev_tup2 (ev_int (K := K)) (ev_int (K := K)))) (ev_p2r (ev_tup2 (ev_int (K := K)) (ev_int (K := K)))))) e1 (fun v_law_bits_here H1 s1 h_law_bits_here => ?_)
  have fr0 := fr0.trans (Fr.same s1)
  have dm := dm.same s1
  have h_law_one := ((tT2 tRat tRat) : Ty K (Rat × Rat)).mono (S := S) (Fr.same s1) h_law_one
  have h_law_two := ((tT2 tRat tRat) : Ty K (Rat × Rat)).mono (S := S) (Fr.same s1) h_law_two
  have h_law_low := ((tL tRat) : Ty K (List Rat)).mono (S := S) (Fr.same s1) h_law_low
  have h_law_high := ((tL tRat) : Ty K (List Rat)).mono (S := S) (Fr.same s1) h_law_high
  have h_law_bits_here : ((tOpt (tT2 tRat tRat)) : Ty K (Option (Rat × Rat))).rp S H1 v_law_bits_here law_bits_here_1 := h_law_bits_here
  obtain ⟨xs4, e_xs4, hm⟩ := bd_some hm
  obtain ⟨r_2, el2, hm2⟩ := bd_some hm
  refine q_for_s (T := []) dm (sr_r1 (K := K) (ev_int (K := K))) e_xs4 el2 (fun s_2 σ' H' => ∃ v_law_one : V, ∃ v_law_two : V, ∃ v_law_low : V, ∃ v_law_high : V, ∃ v_law_bits_here : V, ∃ f_5 : Option V, σ' = [some v_law_one, some v_law_two, some v_law_low, some v_law_high, some v_law_bits_here, f_5] ∧ Fr [] H0 H' ∧ Dom S H' ∧ ((tT2 tRat tRat) : Ty K (Rat × Rat)).rp S H' v_law_one d_law_one ∧ ((tT2 tRat tRat) : Ty K (Rat × Rat)).rp S H' v_law_two d_law_two ∧ ((tL tRat) : Ty K (List Rat)).rp S H' v_law_low d_law_low ∧ ((tL tRat) : Ty K (List Rat)).rp S H' v_law_high d_law_high ∧ ((tOpt (tT2 tRat tRat)) : Ty K (Option (Rat × Rat))).rp S H' v_law_bits_here s_2) (fun H2 s2 => ?_) (fun hd2 s_2 law_k_2 cr2 v_law_k σ' H' hI h_law_k hx2 hm hret2 hbrk2 => ?_) (fun t_2 σ' H' er hI => ?_)
  · skip
    have fr0 := fr0.trans (Fr.same s2)
    have dm := dm.same s2
    have h_law_one := ((tT2 tRat tRat) : Ty K (Rat × Rat)).mono (S := S) (Fr.same s2) h_law_one
    have h_law_two := ((tT2 tRat tRat) : Ty K (Rat × Rat)).mono (S := S) (Fr.same s2) h_law_two
    have h_law_low := ((tL tRat) : Ty K (List Rat)).mono (S := S) (Fr.same s2) h_law_low
    have h_law_high := ((tL tRat) : Ty K (List Rat)).mono (S := S) (Fr.same s2) h_law_high
    have h_law_bits_here := ((tOpt (tT2 tRat tRat)) : Ty K (Option (Rat × Rat))).mono (S := S) (Fr.same s2) h_law_bits_here
    exact ⟨v_law_one, v_law_two, v_law_low, v_law_high, v_law_bits_here, _, rfl, fr0, dm, h_law_one, h_law_two, h_law_low, h_law_high, h_law_bits_here⟩
  · skip
    obtain ⟨v_law_one, v_law_two, v_law_low, v_law_high, v_law_bits_here, f_5, rfl, fr0, dm, h_law_one, h_law_two, h_law_low, h_law_high, h_law_bits_here⟩ := hI
    let HL := H'
    have freshl : ∀ a ∈ S, a ∉ S → H' a = none := fun a m n => absurd m n
    have frl : Fr S HL H' := Fr.refl (T := S) H'
    have tsl := ts
    have subl : Sub S S := fun a m => m
    have h_law_k : (tInt : Ty K Int).rp S H' v_law_k law_k_2 := h_law_k
    obtain ⟨law_bits_here_3, e3, hm⟩ := bd_some hm
    refine l_asg (T := []) dm (ev_call (ea_cons (ev_var ts h_law_bits_here rfl) (ea_cons (ev_op od_ix2 (ev_var ts h_law_one rfl) (ev_var ts h_law_k rfl)) (ea_cons (ev_call (ea_cons (ev_op od_ix2 (ev_var ts h_law_two rfl) (ev_var ts h_law_k rfl)) (ea_cons (ev_op od_ix2 (ev_var ts h_law_one rfl) (ev_var ts h_law_k rfl)) ea_nil))) (ea_cons (ev_op od_ixL (ev_var ts h_law_low rfl) (ev_var ts h_law_k rfl)) (ea_cons (ev_op od_ixL (ev_var ts h_law_high rfl) (ev_var ts h_law_k rfl)) ea_nil)))))) e3 (fun v_law_bits_here H3 s3 h_law_bits_here => ?_)
    have fr0 := fr0.trans (Fr.same s3)
    have dm := dm.same s3
    have frl := frl.trans (Fr.same s3)
    have h_law_one := ((tT2 tRat tRat) : Ty K (Rat × Rat)).mono (S := S) (Fr.same s3) h_law_one
    have h_law_two := ((tT2 tRat tRat) : Ty K (Rat × Rat)).mono (S := S) (Fr.same s3) h_law_two
    have h_law_low := ((tL tRat) : Ty K (List Rat)).mono (S := S) (Fr.same s3) h_law_low
    have h_law_high := ((tL tRat) : Ty K (List Rat)).mono (S := S) (Fr.same s3) h_law_high
    have h_law_k := (tInt : Ty K Int).mono (S := S) (Fr.same s3) h_law_k
    have h_law_bits_here : ((tOpt (tT2 tRat tRat)) : Ty K (Option (Rat × Rat))).rp S H3 v_law_bits_here law_bits_here_3 := h_law_bits_here
    cases hm
    exact ⟨_, rfl, frl, ⟨v_law_one, v_law_two, v_law_low, v_law_high, v_law_bits_here, _, rfl, fr0, dm, h_law_one, h_law_two, h_law_low, h_law_high, h_law_bits_here⟩⟩
  subst er
  have hm := hm2
  obtain ⟨v_law_one, v_law_two, v_law_low, v_law_high, v_law_bits_here, f_5, rfl, fr0, dm, h_law_one, h_law_two, h_law_low, h_law_high, h_law_bits_here⟩ := hI
  have er := hm
  exact q_ret (T := []) dm (ev_var ts h_law_bits_here rfl) er (fun v H5 s5 hv => q v H5 (fr0.trans (Fr.same s5)).toSame (((tOpt (tT2 tRat tRat)) : Ty K (Option (Rat × Rat))).sub (S := S) (H := H5) sub0 hv))
def m_law_bits (d_law_one : (Rat × Rat)) (d_law_two : (Rat × Rat)) (d_law_a : (Rat × Rat)) (d_law_b : (Rat × Rat)) (d_law_room : Rat) : Option (Option (Rat × Rat)) :=
  (bd (some []) fun law_low_1 => (bd (some []) fun law_high_2 => (bd (bd (some (2 : Int)) rng1?) fun xs9 => bd (loopC (ρ := (Option (Rat × Rat))) (fun s_3 law_k_3 => (bd (bd (bd (bd (bd (bd (some d_law_a) fun x => bd (some law_k_3) fun y => at2 x y) fun x => bd (bd (bd (some d_law_b) fun x => bd (some law_k_3) fun y => at2 x y) fun x => bd (some ()) fun y => some (x, y)) fun y => some (x, y)) fun a => m_law_comp a.1 a.2.1) fun x => bd (some (0 : Int)) fun y => some (decide (x ≤ y))) fun x => if x then (bd (bd (some d_law_a) fun x => bd (some law_k_3) fun y => at2 x y) fun x => bd (bd (bd (some d_law_b) fun x => bd (some law_k_3) fun y => at2 x y) fun x => bd (some []) fun y => some (x :: y)) fun y => some (x :: y)) else (bd (bd (some d_law_b) fun x => bd (some law_k_3) fun y => at2 x y) fun x => bd (bd (bd (some d_law_a) fun x => bd (some law_k_3) fun y => at2 x y) fun x => bd (some []) fun y => some (x :: y)) fun y => some (x :: y))) fun law_ends_4 => (bd (bd (bd (bd (some law_ends_4) fun x => bd (some (0 : Int)) fun y => atI x y) fun x => bd (bd (some d_law_room) fun x => bd (some ()) fun y => some (x, y)) fun y => some (x, y)) fun a => m_law_dif a.1 a.2.1) fun a5 => (bd (app? s_3.1 a5) fun law_low_6 => (bd (bd (bd (bd (some law_ends_4) fun x => bd (some (1 : Int)) fun y => atI x y) fun x => bd (bd (some d_law_room) fun x => bd (some ()) fun y => some (x, y)) fun y => some (x, y)) fun a => m_law_sum a.1 a.2.1) fun a7 => (bd (app? s_3.2 a7) fun law_high_8 => some (Ct.go (law_low_6, law_high_8)))))))) xs9 (law_low_1, law_high_2)) fun r_3 => match r_3 with | .ret y => some y | .go t_3 => (bd (bd (some d_law_one) fun x => bd (bd (some d_law_two) fun x => bd (bd (some t_3.1) fun x => bd (bd (some t_3.2) fun x => bd (some ()) fun y => some (x, y)) fun y => some (x, y)) fun y => some (x, y)) fun y => some (x, y)) fun a => m_law_clipL a.1 a.2.1 a.2.2.1 a.2.2.2.1) | .brk _ => none)))
abbrev sp_law_bits (K : PySem.W.Frag) : Sp := spF (K := K) (aCons (tT2 tRat tRat) (aCons (tT2 tRat tRat) (aCons (tT2 tRat tRat) (aCons (tT2 tRat tRat) (aCons tRat aNil))))) (fun S => of (K := K) (tOpt (tT2 tRat tRat)) S) (fun a => m_law_bits a.1 a.2.1 a.2.2.1 a.2.2.2.1 a.2.2.2.2.1)
theorem ok_law_bits (ev : Env K mg) : FnOk P w K mg base CX0 5 ev.f_law_bits ev.d_law_bits p_law_bits (sp_law_bits K) := by
  refine ev.A_law_bits.F.ok sc_law_bits (fun vs H Q E h => ?_) (fun cdv A outer s H0 vs Q E hr h => ?_)
  · obtain ⟨S, ⟨d_law_one, d_law_two, d_law_a, d_law_b, d_law_room, _⟩, y, _, ⟨v_law_one, _, rfl, h_law_one, v_law_two, _, rfl, h_law_two, v_law_a, _, rfl, h_law_a, v_law_b, _, rfl, h_law_b, v_law_room, _, rfl, h_law_room, rfl⟩, _⟩ := h
    rfl
  obtain ⟨S, ⟨d_law_one, d_law_two, d_law_a, d_law_b, d_law_room, _⟩, y, dm, ⟨v_law_one, _, rfl, h_law_one, v_law_two, _, rfl, h_law_two, v_law_a, _, rfl, h_law_a, v_law_b, _, rfl, h_law_b, v_law_room, _, rfl, h_law_room, rfl⟩, hm, q⟩ := h
  have ts : Sub [] S := fun a m => by simp at m
  have fr0 := Fr.refl (T := []) H0
  have sub0 : Sub S S := fun a m => m
  refine ⟨_, (pss_cons (ps_par (i := 5) (j := 6) (by rfl) sc_law_bits.nd rfl rfl (by decide) rfl rfl (pa_cons (pe_lst pa_nil) (pa_cons (pe_lst pa_nil) pa_nil)) (by rfl))
    (pss_cons (ps_for PassesOwn.never rfl (pi_range1 rfl ev.B.range_ (pa_cons pe_int pa_nil)) (pg_name (i := 7) sc_law_bits.nd rfl (Or.inl rfl))
    (pss_cons (ps_set (i := 8) sc_law_bits.nd rfl (Or.inl rfl) (pe_ifExp (pt_cmpR op_le (pe_call (ok_law_comp ev) (hr.mono (by decide)) (by rfl) ev.A_law_comp.m ev.A_law_comp.F.kp ev.A_law_comp.b .nil pass0 (pa_cons (pe_ix ix_tup (pv 2) (pv 7) (fun _ _ => rfl)) (pa_cons (pe_ix ix_tup (pv 3) (pv 7) (fun _ _ => rfl)) pa_nil))) pe_int (nomark _)) (pe_lst (pa_cons (pe_ix ix_tup (pv 2) (pv 7) (fun _ _ => rfl)) (pa_cons (pe_ix ix_tup (pv 3) (pv 7) (fun _ _ => rfl)) pa_nil))) (pe_lst (pa_cons (pe_ix ix_tup (pv 3) (pv 7) (fun _ _ => rfl)) (pa_cons (pe_ix ix_tup (pv 2) (pv 7) (fun _ _ => rfl)) pa_nil)))))
    (pss_cons (ps_expr (pe_bm PySem.F.plainAttrs_list PySem.F.slot_list_append PySem.F.type_list_append mt_append (pv 5) (pa_cons (pe_call (ok_law_dif ev) (hr.mono (by decide)) (by rfl) ev.A_law_dif.m ev.A_law_dif.F.kp ev.A_law_dif.b .nil pass0 (pa_cons (pe_ix ix_list (pv 8) pe_int (fun _ _ => rfl)) (pa_cons (pv 4) pa_nil))) pa_nil)))
    (pss_one (ps_expr (pe_bm PySem.F.plainAttrs_list PySem.F.slot_list_append PySem.F.type_list_append mt_append (pv 6) (pa_cons (pe_call (ok_law_sum ev) (hr.mono (by decide)) (by rfl) ev.A_law_sum.m ev.A_law_sum.F.kp ev.A_law_sum.b .nil pass0 (pa_cons (pe_ix ix_list (pv 8) pe_int (fun _ _ => rfl)) (pa_cons (pv 4) pa_nil))) pa_nil)))))))
    (pss_one (ps_ret (pe_call (ok_law_clipL ev) (hr.mono (by decide)) (by rfl) ev.A_law_clip.m ev.A_law_clip.F.kp ev.A_law_clip.b .nil pass0 (pa_cons (pv 0) (pa_cons (pv 1) (pa_cons (pv 5) (pa_cons (pv 6) pa_nil))))))))), ?_⟩
  dsimp only [m_law_bits] at hm
  obtain ⟨law_low_1, ea2, hm⟩ := bd_some hm
  obtain ⟨law_high_2, eb2, hm⟩ := bd_some hm
  cases ea2
  cases eb2
  refine q_par0 (S := S) (tRat : Ty K Rat) (tRat : Ty K Rat) (fun v_law_low v_law_high Hm2 H2 sa2 hx sb2 hx2 => ?_)
  obtain ⟨p_law_low, rfl, np_law_low, o_law_low⟩ := hx
  have ns_law_low : p_law_low ∉ S := dm.not_mem np_law_low
  have nb_law_low : p_law_low ∉ S := fun m => ns_law_low (sub0 _ m)
  have n0_law_low := fr_back fr0 Dom.nil np_law_low
  have nt_law_low := (Dom.nil (H := H0)).not_mem n0_law_low
  have fr0 := fr0.trans (Fr.same sa2)
  have h_law_one := ((tT2 tRat tRat) : Ty K (Rat × Rat)).mono (Fr.same sa2) (((tT2 tRat tRat) : Ty K (Rat × Rat)).ext (S := S) np_law_low h_law_one)
  have h_law_two := ((tT2 tRat tRat) : Ty K (Rat × Rat)).mono (Fr.same sa2) (((tT2 tRat tRat) : Ty K (Rat × Rat)).ext (S := S) np_law_low h_law_two)
  have h_law_a := ((tT2 tRat tRat) : Ty K (Rat × Rat)).mono (Fr.same sa2) (((tT2 tRat tRat) : Ty K (Rat × Rat)).ext (S := S) np_law_low h_law_a)
  have h_law_b := ((tT2 tRat tRat) : Ty K (Rat × Rat)).mono (Fr.same sa2) (((tT2 tRat tRat) : Ty K (Rat × Rat)).ext (S := S) np_law_low h_law_b)
  have h_law_room := (tRat : Ty K Rat).mono (Fr.same sa2) ((tRat : Ty K Rat).ext (S := S) np_law_low h_law_room)
  have dm := (dm.same sa2).cons o_law_low.choose_spec.1
  have ts := sub_cons (p := p_law_low) ts
  have sub0 := sub_cons (p := p_law_low) sub0
  have im_law_low : p_law_low ∈ p_law_low :: S := List.mem_cons_self ..
  have hx := hx2 _ rfl
  obtain ⟨p_law_high, rfl, np_law_high, o_law_high⟩ := hx
  have ns_law_high : p_law_high ∉ (p_law_low :: S) := dm.not_mem np_law_high
  have nb_law_high : p_law_high ∉ S := fun m => ns_law_high (sub0 _ m)
  have n0_law_high := fr_back fr0 Dom.nil np_law_high
  have nt_law_high := (Dom.nil (H := H0)).not_mem n0_law_high
  have fr0 := fr0.trans (Fr.same sb2)
  have h_law_one := ((tT2 tRat tRat) : Ty K (Rat × Rat)).mono (Fr.same sb2) (((tT2 tRat tRat) : Ty K (Rat × Rat)).ext (S := (p_law_low :: S)) np_law_high h_law_one)
  have h_law_two := ((tT2 tRat tRat) : Ty K (Rat × Rat)).mono (Fr.same sb2) (((tT2 tRat tRat) : Ty K (Rat × Rat)).ext (S := (p_law_low :: S)) np_law_high h_law_two)
  have h_law_a := ((tT2 tRat tRat) : Ty K (Rat × Rat)).mono (Fr.same sb2) (((tT2 tRat tRat) : Ty K (Rat × Rat)).ext (S := (p_law_low :: S)) np_law_high h_law_a)
  have h_law_b := ((tT2 tRat tRat) : Ty K (Rat × Rat)).mono (Fr.same sb2) (((tT2 tRat tRat) : Ty K (Rat × Rat)).ext (S := (p_law_low :: S)) np_law_high h_law_b)
  have h_law_room := (tRat : Ty K Rat).mono (Fr.same sb2) ((tRat : Ty K Rat).ext (S := (p_law_low :: S)) np_law_high h_law_room)
  have ne_law_low_law_high := o_law_low.ne np_law_high
  have o_law_low := (o_law_low.ext np_law_high).same sb2
  have im_law_low := List.mem_cons_of_mem p_law_high im_law_low
  have dm := (dm.same sb2).cons o_law_high.choose_spec.1
  have ts := sub_cons (p := p_law_high) ts
  have sub0 := sub_cons (p := p_law_high) sub0
  have im_law_high : p_law_high ∈ p_law_high :: (p_law_low :: S) := List.mem_cons_self ..
  have ne_law_high_law_low := Ne.symm ne_law_low_law_high
  obtain ⟨xs9, e_xs9, hm⟩ := bd_some hm
  obtain ⟨r_3, el3, hm3⟩ := bd_some hm
  refine q_for_s (T := []) dm (sr_r1 (K := K) (ev_int (K := K))) e_xs9 el3 (fun s_3 σ' H' => ∃ v_law_one : V, ∃ v_law_two : V, ∃ v_law_a : V, ∃ v_law_b : V, ∃ v_law_room : V, ∃ f_7 : Option V, ∃ f_8 : Option V, σ' = [some v_law_one, some v_law_two, some v_law_a, some v_law_b, some v_law_room, some (.ref p_law_low), some (.ref p_law_high), f_7, f_8] ∧ Fr [] H0 H' ∧ Dom (p_law_high :: (p_law_low :: S)) H' ∧ ((tT2 tRat tRat) : Ty K (Rat × Rat)).rp (p_law_high :: (p_law_low :: S)) H' v_law_one d_law_one ∧ ((tT2 tRat tRat) : Ty K (Rat × Rat)).rp (p_law_high :: (p_law_low :: S)) H' v_law_two d_law_two ∧ ((tT2 tRat tRat) : Ty K (Rat × Rat)).rp (p_law_high :: (p_law_low :: S)) H' v_law_a d_law_a ∧ ((tT2 tRat tRat) : Ty K (Rat × Rat)).rp (p_law_high :: (p_law_low :: S)) H' v_law_b d_law_b ∧ (tRat : Ty K Rat).rp (p_law_high :: (p_law_low :: S)) H' v_law_room d_law_room ∧ Own (tRat : Ty K Rat) (p_law_high :: (p_law_low :: S)) H' p_law_low s_3.1 ∧ Own (tRat : Ty K Rat) (p_law_high :: (p_law_low :: S)) H' p_law_high s_3.2) (fun H3 s3 => ?_) (fun hd3 s_3 law_k_3 cr3 v_law_k σ' H' hI h_law_k hx3 hm hret3 hbrk3 => ?_) (fun t_3 σ' H' er hI => ?_)
  · skip
    have fr0 := fr0.trans (Fr.same s3)
    have dm := dm.same s3
    have h_law_one := ((tT2 tRat tRat) : Ty K (Rat × Rat)).mono (S := (p_law_high :: (p_law_low :: S))) (Fr.same s3) h_law_one
    have h_law_two := ((tT2 tRat tRat) : Ty K (Rat × Rat)).mono (S := (p_law_high :: (p_law_low :: S))) (Fr.same s3) h_law_two
    have h_law_a := ((tT2 tRat tRat) : Ty K (Rat × Rat)).mono (S := (p_law_high :: (p_law_low :: S))) (Fr.same s3) h_law_a
    have h_law_b := ((tT2 tRat tRat) : Ty K (Rat × Rat)).mono (S := (p_law_high :: (p_law_low :: S))) (Fr.same s3) h_law_b
    have h_law_room := (tRat : Ty K Rat).mono (S := (p_law_high :: (p_law_low :: S))) (Fr.same s3) h_law_room
    have o_law_low := o_law_low.same s3
    have o_law_high := o_law_high.same s3
    exact ⟨v_law_one, v_law_two, v_law_a, v_law_b, v_law_room, _, _, rfl, fr0, dm, h_law_one, h_law_two, h_law_a, h_law_b, h_law_room, o_law_low, o_law_high⟩
  · skip
    obtain ⟨v_law_one, v_law_two, v_law_a, v_law_b, v_law_room, f_7, f_8, rfl, fr0, dm, h_law_one, h_law_two, h_law_a, h_law_b, h_law_room, o_law_low, o_law_high⟩ := hI
    let HL := H'
    have freshl : ∀ a ∈ (p_law_high :: (p_law_low :: S)), a ∉ (p_law_high :: (p_law_low :: S)) → H' a = none := fun a m n => absurd m n
    have frl : Fr (p_law_high :: (p_law_low :: S)) HL H' := Fr.refl (T := (p_law_high :: (p_law_low :: S))) H'
    have tsl := ts
    have subl : Sub (p_law_high :: (p_law_low :: S)) (p_law_high :: (p_law_low :: S)) := fun a m => m
    have iml_law_low := im_law_low
    have iml_law_high := im_law_high
    have h_law_k : (tInt : Ty K Int).rp (p_law_high :: (p_law_low :: S)) H' v_law_k law_k_3 := h_law_k
    obtain ⟨law_ends_4, e4, hm⟩ := bd_some hm
    refine q_asg (T := []) dm (ev_if (eb_test (K := K) (ev_op (od_le (K := K)) (ev_call (ea_cons (ev_op od_ix2 (ev_var ts h_law_a rfl) (ev_var ts h_law_k rfl)) (ea_cons (ev_op od_ix2 (ev_var ts h_law_b rfl) (ev_var ts h_law_k rfl)) ea_nil))) (ev_int (K := K)))) (ev_new (ev_lst (el_cons (ev_op od_ix2 (ev_var ts h_law_a rfl) (ev_var ts h_law_k rfl)) (el_cons (ev_op od_ix2 (ev_var ts h_law_b rfl) (ev_var ts h_law_k rfl)) el_nil)) (by decide))) (ev_new (ev_lst (el_cons (ev_op od_ix2 (ev_var ts h_law_b rfl) (ev_var ts h_law_k rfl)) (el_cons (ev_op od_ix2 (ev_var ts h_law_a rfl) (ev_var ts h_law_k rfl)) el_nil)) (by decide)))) e4 (fun v_law_ends H4 s4 h_law_ends => ?_)
    have fr0 := fr0.trans (Fr.same s4)
    have dm := dm.same s4
    have frl := frl.trans (Fr.same s4)
    have h_law_one := ((tT2 tRat tRat) : Ty K (Rat × Rat)).mono (S := (p_law_high :: (p_law_low :: S))) (Fr.same s4) h_law_one
    have h_law_two := ((tT2 tRat tRat) : Ty K (Rat × Rat)).mono (S := (p_law_high :: (p_law_low :: S))) (Fr.same s4) h_law_two
    have h_law_a := ((tT2 tRat tRat) : Ty K (Rat × Rat)).mono (S := (p_law_high :: (p_law_low :: S))) (Fr.same s4) h_law_a
    have h_law_b := ((tT2 tRat tRat) : Ty K (Rat × Rat)).mono (S := (p_law_high :: (p_law_low :: S))) (Fr.same s4) h_law_b
    have h_law_room := (tRat : Ty K Rat).mono (S := (p_law_high :: (p_law_low :: S))) (Fr.same s4) h_law_room
    have o_law_low := o_law_low.same s4
    have o_law_high := o_law_high.same s4
    have h_law_k := (tInt : Ty K Int).mono (S := (p_law_high :: (p_law_low :: S))) (Fr.same s4) h_law_k
    have h_law_ends : ((tL tRat) : Ty K (List Rat)).rp (p_law_high :: (p_law_low :: S)) H4 v_law_ends law_ends_4 := h_law_ends
    obtain ⟨a5, e5, hm⟩ := bd_some hm
    obtain ⟨law_low_6, f5, hm⟩ := bd_some hm
    refine q_app (T := []) dm o_law_low im_law_low nt_law_low ts rfl (ev_call (ea_cons (ev_op od_ixL (ev_var ts h_law_ends rfl) (ev_int (K := K))) (ea_cons (ev_var ts h_law_room rfl) ea_nil))) e5 f5 (fun H5 s5 frx5 o_law_low => ?_)
    have fr0 := fr0.mut Dom.nil n0_law_low s5
    have frl := frl.trans (s5.fr iml_law_low)
    have dm := dm.fx frx5 s5
    have h_law_one := ((tT2 tRat tRat) : Ty K (Rat × Rat)).mono (S := (p_law_high :: (p_law_low :: S))) frx5 h_law_one
    have h_law_two := ((tT2 tRat tRat) : Ty K (Rat × Rat)).mono (S := (p_law_high :: (p_law_low :: S))) frx5 h_law_two
    have h_law_a := ((tT2 tRat tRat) : Ty K (Rat × Rat)).mono (S := (p_law_high :: (p_law_low :: S))) frx5 h_law_a
    have h_law_b := ((tT2 tRat tRat) : Ty K (Rat × Rat)).mono (S := (p_law_high :: (p_law_low :: S))) frx5 h_law_b
    have h_law_room := (tRat : Ty K Rat).mono (S := (p_law_high :: (p_law_low :: S))) frx5 h_law_room
    have o_law_high := o_law_high.mut frx5 s5 ne_law_high_law_low
    have h_law_k := (tInt : Ty K Int).mono (S := (p_law_high :: (p_law_low :: S))) frx5 h_law_k
    have h_law_ends := ((tL tRat) : Ty K (List Rat)).mono (S := (p_law_high :: (p_law_low :: S))) frx5 h_law_ends
    obtain ⟨a7, e7, hm⟩ := bd_some hm
    obtain ⟨law_high_8, f7, hm⟩ := bd_some hm
    refine l_app (T := []) dm o_law_high im_law_high nt_law_high ts rfl (ev_call (ea_cons (ev_op od_ixL (ev_var ts h_law_ends rfl) (ev_int (K := K))) (ea_cons (ev_var ts h_law_room rfl) ea_nil))) e7 f7 (fun H7 s7 frx7 o_law_high => ?_)
    have fr0 := fr0.mut Dom.nil n0_law_high s7
    have frl := frl.trans (s7.fr iml_law_high)
    have dm := dm.fx frx7 s7
    have h_law_one := ((tT2 tRat tRat) : Ty K (Rat × Rat)).mono (S := (p_law_high :: (p_law_low :: S))) frx7 h_law_one
    have h_law_two := ((tT2 tRat tRat) : Ty K (Rat × Rat)).mono (S := (p_law_high :: (p_law_low :: S))) frx7 h_law_two
    have h_law_a := ((tT2 tRat tRat) : Ty K (Rat × Rat)).mono (S := (p_law_high :: (p_law_low :: S))) frx7 h_law_a
    have h_law_b := ((tT2 tRat tRat) : Ty K (Rat × Rat)).mono (S := (p_law_high :: (p_law_low :: S))) frx7 h_law_b
    have h_law_room := (tRat : Ty K Rat).mono (S := (p_law_high :: (p_law_low :: S))) frx7 h_law_room
    have o_law_low := o_law_low.mut frx7 s7 ne_law_low_law_high
    have h_law_k := (tInt : Ty K Int).mono (S := (p_law_high :: (p_law_low :: S))) frx7 h_law_k
    have h_law_ends := ((tL tRat) : Ty K (List Rat)).mono (S := (p_law_high :: (p_law_low :: S))) frx7 h_law_ends
    cases hm
    exact ⟨_, rfl, frl, ⟨v_law_one, v_law_two, v_law_a, v_law_b, v_law_room, _, _, rfl, fr0, dm, h_law_one, h_law_two, h_law_a, h_law_b, h_law_room, o_law_low, o_law_high⟩⟩
  subst er
  have hm := hm3
  obtain ⟨v_law_one, v_law_two, v_law_a, v_law_b, v_law_room, f_7, f_8, rfl, fr0, dm, h_law_one, h_law_two, h_law_a, h_law_b, h_law_room, o_law_low, o_law_high⟩ := hI
  have sbz : Sub (p_law_high :: S) (p_law_high :: (p_law_low :: S)) := (sub_keep (sub_cons (fun a m => m)))
  have nfz : p_law_low ∉ (p_law_high :: S) := by first | exact (nmc ne_law_low_law_high ns_law_low) | (have h := ns_law_low; simp only [List.mem_cons, not_or] at h ⊢; grind)
  have h_law_low := o_law_low.frz sbz nfz
  have dm := dm.sub sbz
  have h_law_one := ((tT2 tRat tRat) : Ty K (Rat × Rat)).sub sbz h_law_one
  have h_law_two := ((tT2 tRat tRat) : Ty K (Rat × Rat)).sub sbz h_law_two
  have h_law_a := ((tT2 tRat tRat) : Ty K (Rat × Rat)).sub sbz h_law_a
  have h_law_b := ((tT2 tRat tRat) : Ty K (Rat × Rat)).sub sbz h_law_b
  have h_law_room := (tRat : Ty K Rat).sub sbz h_law_room
  have o_law_high := o_law_high.sub sbz
  have im_law_high : p_law_high ∈ (p_law_high :: S) := (List.mem_cons_self ..)
  have ts : Sub [] (p_law_high :: S) := fun a m => by have h1 := ts a m; have h2 : a ≠ p_law_low := (fun e => nt_law_low (e ▸ m)); simp only [List.mem_cons] at h1 ⊢; grind
  have sub0 : Sub S (p_law_high :: S) := fun a m => by have h1 := sub0 a m; have h2 : a ≠ p_law_low := (fun e => nb_law_low (e ▸ m)); simp only [List.mem_cons] at h1 ⊢; grind
  have sbz : Sub S (p_law_high :: S) := (sub_cons (fun a m => m))
  have nfz : p_law_high ∉ S := by first | exact ns_law_high | (have h := ns_law_high; simp only [List.mem_cons, not_or] at h ⊢; grind)
  have h_law_high := o_law_high.frz sbz nfz
  have dm := dm.sub sbz
  have h_law_one := ((tT2 tRat tRat) : Ty K (Rat × Rat)).sub sbz h_law_one
  have h_law_two := ((tT2 tRat tRat) : Ty K (Rat × Rat)).sub sbz h_law_two
  have h_law_a := ((tT2 tRat tRat) : Ty K (Rat × Rat)).sub sbz h_law_a
  have h_law_b := ((tT2 tRat tRat) : Ty K (Rat × Rat)).sub sbz h_law_b
  have h_law_room := (tRat : Ty K Rat).sub sbz h_law_room
  have h_law_low := ((tL tRat) : Ty K (List Rat)).sub sbz h_law_low
  have ts : Sub [] S := fun a m => by have h1 := ts a m; have h2 : a ≠ p_law_high := (fun e => nt_law_high (e ▸ m)); simp only [List.mem_cons] at h1 ⊢; grind
  have sub0 : Sub S S := fun a m => by have h1 := sub0 a m; have h2 : a ≠ p_law_high := (fun e => nb_law_high (e ▸ m)); simp only [List.mem_cons] at h1 ⊢; grind
  have er := hm
  exact q_ret (T := []) dm (ev_call (ea_cons (ev_var ts h_law_one rfl) (ea_cons (ev_var ts h_law_two rfl) (ea_cons (ev_var ts h_law_low rfl) (ea_cons (ev_var ts h_law_high rfl) ea_nil))))) er (fun v H10 s10 hv => q v H10 (fr0.trans (Fr.same s10)).toSame (((tOpt (tT2 tRat tRat)) : Ty K (Option (Rat × Rat))).sub (S := S) (H := H10) sub0 hv))
end
end G

namespace G
open PySem L2 M
section
variable {P : Program} {w : World} {K : PySem.W.Frag} {mg : Str → Option Value} {base : Heap}

def m_law_spots_of (d_law_ones : (List (Rat × Rat))) (d_law_others : (List (Rat × Rat))) (d_law_room : Rat) (P : (List (Rat × Rat)) → Prop) : Prop :=
  (lf (bd (bd (some d_law_ones) fun x => bd (some (0 : Int)) fun y => atI x y) fun x => bd (some []) fun y => some (x :: y)) fun law_found_1 => ((lf (bd (some (1 : Int)) fun x => bd (bd (some d_law_ones) fun x => some (x.length : Int)) fun y => rng2? x y)) fun xs23 => loopW (fun s_2 law_k_2 K2 => (lf (bd (some d_law_ones) fun x => bd (bd (some law_k_2) fun x => bd (some (1 : Int)) fun y => some (x - y)) fun y => atI x y) fun law_one_3 => (lf (bd (some d_law_ones) fun x => bd (some law_k_2) fun y => atI x y) fun law_two_4 => ((consW (lf (bd (bd (some (1 : Int)) fun x => bd (some (1 : Int)) fun y => some (x, y)) p2r)) (consW (lf (bd (bd (some (1 : Int)) fun x => bd (some (2 : Int)) fun y => some (x, y)) p2r)) (consW (lf (bd (bd (some (1 : Int)) fun x => bd (some (3 : Int)) fun y => some (x, y)) p2r)) (consW (lf (bd (bd (some (2 : Int)) fun x => bd (some (3 : Int)) fun y => some (x, y)) p2r)) (consW (unW (fun a => ratio? a.1 a.2.1) (tup2W (callBW drawW (lf (some (100 : Int)))) (tup2W (lf (some (99 : Int))) (lf (some ()))))) (lf (some []))))))) fun law_parts_5 => ((lf (bd (bd (some d_law_others) fun x => some (x.length : Int)) rng1?)) fun xs22 => loopW (fun s_6 law_here_6 K6 => (lf (bd (bd (some law_one_3) fun x => bd (bd (some law_two_4) fun x => bd (bd (bd (some d_law_others) fun x => bd (bd (some (0 : Int)) fun x => bd (bd (some law_here_6) fun x => bd (some (1 : Int)) fun y => some (x - y)) fun y => some (max x y)) fun y => atI x y) fun x => bd (bd (bd (some d_law_others) fun x => bd (some law_here_6) fun y => atI x y) fun x => bd (bd (some d_law_room) fun x => bd (some ()) fun y => some (x, y)) fun y => some (x, y)) fun y => some (x, y)) fun y => some (x, y)) fun y => some (x, y)) fun a => m_law_bits a.1 a.2.1 a.2.2.1 a.2.2.2.1 a.2.2.2.2.1) fun law_bits_here_7 => (jn (fun J8 => (optM law_bits_here_7 (J8 s_6) fun law_bits_here_8 => (lf (bd (some s_6) fun x => bd (bd (bd (some law_bits_here_8) fun x => some x.1) fun x => bd (bd (bd (some law_bits_here_8) fun x => some x.2) fun x => bd (some []) fun y => some (x :: y)) fun y => some (x :: y)) fun y => cat? x y) fun law_parts_9 => J8 law_parts_9))) fun j10 => K6 (Ct.go j10)))) xs22 law_parts_5 fun r_6 => match r_6 with | .ret y => K2 (Ct.ret y) | .go t_6 => ((lf (some t_6)) fun xs21 => loopW (fun s_11 law_part_11 K11 => ((lf (bd (bd (some (1 : Int)) fun x => bd (some (1000 : Int)) fun y => some (x, y)) fun x => bd (bd (bd (bd (some (0 : Int)) fun x => bd (some (1 : Int)) fun y => some (x - y)) fun x => bd (some (1000 : Int)) fun y => some (x, y)) fun x => bd (some []) fun y => some (x :: y)) fun y => some (x :: y))) fun xs18 => loopW (fun s_12 law_more_12 K12 => (lf (bd (bd (some law_part_11) fun x => bd (bd (bd (some law_more_12) p2r) fun x => bd (some ()) fun y => some (x, y)) fun y => some (x, y)) fun a => m_law_sum a.1 a.2.1) fun law_near_13 => (jn (fun J14 => (lf (bd (some (0 : Int)) fun x => bd (bd (some law_near_13) fun x => some x.num) fun y => if decide (x ≤ y) then bd (bd (some law_near_13) fun x => some (x.den : Int)) fun z => some (decide (y ≤ z)) else some false) fun c14 => if c14 then (lf (some law_near_13) fun a15 => (lf (app? s_12 a15) fun law_parts_16 => J14 law_parts_16)) else J14 s_12)) fun j17 => K12 (Ct.go j17)))) xs18 s_11 fun r_12 => match r_12 with | .ret y => K11 (Ct.ret y) | .go t_12 => K11 (Ct.go t_12) | .brk _ => False)) xs21 t_6 fun r_11 => match r_11 with | .ret y => K2 (Ct.ret y) | .go t_11 => (lf (bd (some s_2) fun x => bd (bd (some t_11) fun xs => mapL? (fun law_part_19 => (bd (bd (some law_one_3) fun x => bd (bd (some law_two_4) fun x => bd (bd (some law_part_19) fun x => bd (some ()) fun y => some (x, y)) fun y => some (x, y)) fun y => some (x, y)) fun a => m_law_on a.1 a.2.1 a.2.2.1)) xs) fun y => cat? x y) fun law_found_20 => K2 (Ct.go law_found_20)) | .brk _ => False) | .brk _ => False))))) xs23 law_found_1 fun r_2 => match r_2 with | .ret y => P y | .go t_2 => (lf (some t_2) P) | .brk _ => False))
abbrev sp_law_spots_of (K : PySem.W.Frag) : Sp := spB (K := K) (aCons (tL (tT2 tRat tRat)) (aCons (tL (tT2 tRat tRat)) (aCons tRat aNil))) (fun S => of (K := K) (tL (tT2 tRat tRat)) S) (fun a => m_law_spots_of a.1 a.2.1 a.2.2.1)
theorem ok_law_spots_of (ev : Env K mg) : FnOk P w K mg base CX0 6 ev.f_law_spots_of ev.d_law_spots_of p_law_spots_of (sp_law_spots_of K) := by
  refine ev.A_law_spots_of.F.ok sc_law_spots_of (fun vs H Q E h => ?_) (fun cdv A outer s H0 vs Q E hr h => ?_)
  · obtain ⟨S, b, c, r, ⟨d_law_ones, d_law_others, d_law_room, _⟩, P, rfl, _, _, _, ⟨v_law_ones, _, rfl, h_law_ones, v_law_others, _, rfl, h_law_others, v_law_room, _, rfl, h_law_room, rfl⟩, _⟩ := h
    rfl
  obtain ⟨S, b, c, r, ⟨d_law_ones, d_law_others, d_law_room, _⟩, P, rfl, dm, ts, hB, ⟨v_law_ones, _, rfl, h_law_ones, v_law_others, _, rfl, h_law_others, v_law_room, _, rfl, h_law_room, rfl⟩, hm, q⟩ := h
  have fr0 := Fr.refl (T := [b, c]) H0
  have sub0 : Sub S S := fun a m => m
  refine ⟨_, (pss_cons (ps_set (i := 4) sc_law_spots_of.nd rfl (Or.inl rfl) (pe_lst (pa_cons (pe_ix ix_list (pv 1) pe_int (fun _ _ => rfl)) pa_nil)))
    (pss_cons (ps_for PassesOwn.never rfl (pi_range2 rfl ev.B.range_ (pa_cons pe_int (pa_cons (pe_callB call_len_seq (by rfl) ev.B.len_ PySem.boot_len (pa_cons (pv 1) pa_nil)) pa_nil))) (pg_name (i := 5) sc_law_spots_of.nd rfl (Or.inl rfl))
    (pss_cons (ps_asg (pe_tup (pa_cons (pe_ix ix_list (pv 1) (pe_op op_sub (pv 5) pe_int) (fun _ _ => rfl)) (pa_cons (pe_ix ix_list (pv 1) (pv 5) (fun _ _ => rfl)) pa_nil))) (pg_tup rfl (pgs_cons (pg_name (i := 6) sc_law_spots_of.nd rfl (Or.inr rfl)) (pgs_cons (pg_name (i := 7) sc_law_spots_of.nd rfl (Or.inr rfl)) pgs_nil))))
    (pss_cons (ps_set (i := 8) sc_law_spots_of.nd rfl (Or.inl rfl) (pe_lst (pa_cons (pe_tup (pa_cons pe_int (pa_cons pe_int pa_nil))) (pa_cons (pe_tup (pa_cons pe_int (pa_cons pe_int pa_nil))) (pa_cons (pe_tup (pa_cons pe_int (pa_cons pe_int pa_nil))) (pa_cons (pe_tup (pa_cons pe_int (pa_cons pe_int pa_nil))) (pa_cons (pe_call (ok_law_rat ev) (hr.mono (by decide)) (by rfl) ev.A_law_rat.m ev.A_law_rat.F.kp ev.A_law_rat.b .nil pass0 (pa_cons (pe_call (ok_law_draw ev) (hr.mono (by decide)) (by rfl) ev.A_law_draw.m ev.A_law_draw.F.kp ev.A_law_draw.b .nil pass0 (pa_cons (pv 0) (pa_cons pe_int pa_nil))) (pa_cons pe_int pa_nil))) pa_nil)))))))
    (pss_cons (ps_for PassesOwn.never rfl (pi_range1 rfl ev.B.range_ (pa_cons (pe_callB call_len_seq (by rfl) ev.B.len_ PySem.boot_len (pa_cons (pv 2) pa_nil)) pa_nil)) (pg_name (i := 9) sc_law_spots_of.nd rfl (Or.inl rfl))
    (pss_cons (ps_set (i := 10) sc_law_spots_of.nd rfl (Or.inl rfl) (pe_call (ok_law_bits ev) (hr.mono (by decide)) (by rfl) ev.A_law_bits.m ev.A_law_bits.F.kp ev.A_law_bits.b .nil pass0 (pa_cons (pv 6) (pa_cons (pv 7) (pa_cons (pe_ix ix_list (pv 2) (pe_callB (call_max2 rfl) (by rfl) ev.B.max_ (by decide +kernel) (pa_cons pe_int (pa_cons (pe_op op_sub (pv 9) pe_int) pa_nil))) (fun _ _ => rfl)) (pa_cons (pe_ix ix_list (pv 2) (pv 9) (fun _ _ => rfl)) (pa_cons (pv 3) pa_nil)))))))
    (pss_one (ps_if (pt_cmpR op_notN (pv 10) pe_non (nomark _))
    (pss_one (ps_set (i := 8) sc_law_spots_of.nd rfl (Or.inl rfl) (pe_op op_cat (pv 8) (pe_lst (pa_cons (pe_ix ix_tup (pv 10) pe_int (fun _ _ => rfl)) (pa_cons (pe_ix ix_tup (pv 10) pe_int (fun _ _ => rfl)) pa_nil)))))) pss_nil))))
    (pss_cons (ps_for PassesOwn.never rfl (pi_list (pe_callTy call_list_of (by rfl) ev.B.list_ (by decide +kernel) (pa_cons (pv 8) pa_nil))) (pg_name (i := 11) sc_law_spots_of.nd rfl (Or.inl rfl))
    (pss_one (ps_for PassesOwn.never rfl (pi_list (pe_lst (pa_cons (pe_tup (pa_cons pe_int (pa_cons pe_int pa_nil))) (pa_cons (pe_tup (pa_cons (pe_op op_sub pe_int pe_int) (pa_cons pe_int pa_nil))) pa_nil)))) (pg_name (i := 12) sc_law_spots_of.nd rfl (Or.inl rfl))
    (pss_cons (ps_set (i := 13) sc_law_spots_of.nd rfl (Or.inl rfl) (pe_call (ok_law_sum ev) (hr.mono (by decide)) (by rfl) ev.A_law_sum.m ev.A_law_sum.F.kp ev.A_law_sum.b .nil pass0 (pa_cons (pv 11) (pa_cons (pv 12) pa_nil))))
    (pss_one (ps_if (pt_chain op_le op_le pe_int (pe_ix ix_tup (pv 13) pe_int (fun _ _ => rfl)) (pe_ix ix_tup (pv 13) pe_int (fun _ _ => rfl)))
    (pss_one (ps_expr (pe_bm PySem.F.plainAttrs_list PySem.F.slot_list_append PySem.F.type_list_append mt_append (pv 8) (pa_cons (pv 13) pa_nil)))) pss_nil))))))
    (pss_one (ps_set (i := 4) sc_law_spots_of.nd rfl (Or.inl rfl) (pe_op op_cat (pv 4) (pe_lc (own := [("_law_part", 11)]) (g := gName 11) (tt := tYes) (by rfl) sc_law_spots_of.nd (pi_list (pv 8)) (blkOk_by (own := [("_law_part", 11)]) (N := n_law_spots_of) (sc := defScope s_law_spots_of) (by decide +kernel)) (fun _ _ _ _ _ => pg_name (i := 11) sc_law_spots_of.nd rfl (Or.inl rfl)) (fun _ _ _ _ _ => pts_nil) (fun _ _ _ _ _ => (pe_call (ok_law_on ev) (hr.mono (by decide)) (by rfl) ev.A_law_on.m ev.A_law_on.F.kp ev.A_law_on.b .nil pass0 (pa_cons (pv 6) (pa_cons (pv 7) (pa_cons (pv 11) pa_nil))))))))))))))
    (pss_one (ps_ret (pv 4))))), ?_⟩
  dsimp only [m_law_spots_of] at hm
  obtain ⟨law_found_1, e1, hm⟩ := hm
  refine q_asg (T := [b, c]) dm (ev_new (ev_lst (el_cons (ev_op od_ixL (ev_var ts h_law_ones rfl) (ev_int (K := K))) el_nil) (by decide))) e1 (fun v_law_found H1 s1 h_law_found => ?_)
  have fr0 := fr0.trans (Fr.same s1)
  have dm := dm.same s1
  have h_law_ones := ((tL (tT2 tRat tRat)) : Ty K (List (Rat × Rat))).mono (S := S) (Fr.same s1) h_law_ones
  have h_law_others := ((tL (tT2 tRat tRat)) : Ty K (List (Rat × Rat))).mono (S := S) (Fr.same s1) h_law_others
  have h_law_room := (tRat : Ty K Rat).mono (S := S) (Fr.same s1) h_law_room
  have hB := hB.same s1
  have h_law_found : ((tL (tT2 tRat tRat)) : Ty K (List (Rat × Rat))).rp S H1 v_law_found law_found_1 := h_law_found
  refine qw_for_s dm hB ts (srw_pure (sr_r2 (K := K) (ev_int (K := K)) (ev_lenL (ev_var ts h_law_ones rfl)))) hm (fun s_2 σ' H' => ∃ v_law_ones : V, ∃ v_law_others : V, ∃ v_law_room : V, ∃ v_law_found : V, ∃ f_5 : Option V, ∃ f_6 : Option V, ∃ f_7 : Option V, ∃ f_8 : Option V, ∃ f_9 : Option V, ∃ f_10 : Option V, ∃ f_11 : Option V, ∃ f_12 : Option V, ∃ f_13 : Option V, σ' = [some (.ref b), some v_law_ones, some v_law_others, some v_law_room, some v_law_found, f_5, f_6, f_7, f_8, f_9, f_10, f_11, f_12, f_13] ∧ Fr [b, c] H0 H' ∧ Dom S H' ∧ Bag H' b c ∧ ((tL (tT2 tRat tRat)) : Ty K (List (Rat × Rat))).rp S H' v_law_ones d_law_ones ∧ ((tL (tT2 tRat tRat)) : Ty K (List (Rat × Rat))).rp S H' v_law_others d_law_others ∧ (tRat : Ty K Rat).rp S H' v_law_room d_law_room ∧ ((tL (tT2 tRat tRat)) : Ty K (List (Rat × Rat))).rp S H' v_law_found s_2) (fun H2 fr2 dm2 hB2 => ?_) (fun hd2 s_2 law_k_2 C2 v_law_k σ' H' hI h_law_k hm hret2 hbrk2 => ?_) (fun t_2 σ' H' hm hI => ?_)
  · skip
    have fr0 := fr0.trans fr2
    have h_law_ones := ((tL (tT2 tRat tRat)) : Ty K (List (Rat × Rat))).mono (S := S) (fr2.sub ts) h_law_ones
    have h_law_others := ((tL (tT2 tRat tRat)) : Ty K (List (Rat × Rat))).mono (S := S) (fr2.sub ts) h_law_others
    have h_law_room := (tRat : Ty K Rat).mono (S := S) (fr2.sub ts) h_law_room
    have h_law_found := ((tL (tT2 tRat tRat)) : Ty K (List (Rat × Rat))).mono (S := S) (fr2.sub ts) h_law_found
    have dm := dm2
    have hB := hB2
    exact ⟨v_law_ones, v_law_others, v_law_room, v_law_found, _, _, _, _, _, _, _, _, _, rfl, fr0, dm, hB, h_law_ones, h_law_others, h_law_room, h_law_found⟩
  · skip
    obtain ⟨v_law_ones, v_law_others, v_law_room, v_law_found, f_5, f_6, f_7, f_8, f_9, f_10, f_11, f_12, f_13, rfl, fr0, dm, hB, h_law_ones, h_law_others, h_law_room, h_law_found⟩ := hI
    let HL := H'
    have freshl : ∀ a ∈ S, a ∉ S → H' a = none := fun a m n => absurd m n
    have frl : Fr S HL H' := Fr.refl (T := S) H'
    have tsl := ts
    have subl : Sub S S := fun a m => m
    have h_law_k : (tInt : Ty K Int).rp S H' v_law_k law_k_2 := h_law_k
    obtain ⟨law_one_3, ea4, hm⟩ := hm
    obtain ⟨law_two_4, eb4, hm⟩ := hm
    refine q_par2 (T := [b, c]) dm (ev_op od_ixL (ev_var ts h_law_ones rfl) (ev_op (od_sub (K := K)) (ev_var ts h_law_k rfl) (ev_int (K := K)))) ea4 (ev_op od_ixL (ev_var ts h_law_ones rfl) (ev_var ts h_law_k rfl)) eb4 (fun v_law_one v_law_two H4 s4 h_law_one h_law_two => ?_)
    have fr0 := fr0.trans (Fr.same s4)
    have dm := dm.same s4
    have frl := frl.trans (Fr.same s4)
    have h_law_ones := ((tL (tT2 tRat tRat)) : Ty K (List (Rat × Rat))).mono (S := S) (Fr.same s4) h_law_ones
    have h_law_others := ((tL (tT2 tRat tRat)) : Ty K (List (Rat × Rat))).mono (S := S) (Fr.same s4) h_law_others
    have h_law_room := (tRat : Ty K Rat).mono (S := S) (Fr.same s4) h_law_room
    have h_law_found := ((tL (tT2 tRat tRat)) : Ty K (List (Rat × Rat))).mono (S := S) (Fr.same s4) h_law_found
    have h_law_k := (tInt : Ty K Int).mono (S := S) (Fr.same s4) h_law_k
    have hB := hB.same s4
    obtain ⟨Hs, frs, fr0s, dms, frls, hs_law_ones, hs_law_others, hs_law_room, hs_law_found, hs_law_k, hs_law_one, hs_law_two⟩ : ∃ Hs : Hp, Fr [b, c] Hs _ ∧ Fr [b, c] H0 Hs ∧ Dom S Hs ∧ Fr S HL Hs ∧ ((tL (tT2 tRat tRat)) : Ty K (List (Rat × Rat))).rp S Hs v_law_ones d_law_ones ∧ ((tL (tT2 tRat tRat)) : Ty K (List (Rat × Rat))).rp S Hs v_law_others d_law_others ∧ (tRat : Ty K Rat).rp S Hs v_law_room d_law_room ∧ ((tL (tT2 tRat tRat)) : Ty K (List (Rat × Rat))).rp S Hs v_law_found s_2 ∧ (tInt : Ty K Int).rp S Hs v_law_k law_k_2 ∧ ((tT2 tRat tRat) : Ty K (Rat × Rat)).rp S Hs v_law_one law_one_3 ∧ ((tT2 tRat tRat) : Ty K (Rat × Rat)).rp S Hs v_law_two law_two_4 := ⟨_, Fr.reflOf fr0, fr0, dm, frl, h_law_ones, h_law_others, h_law_room, h_law_found, h_law_k, h_law_one, h_law_two⟩
    refine qw_asg dm hB ts (ew_FL frs (ew_lst (wl_cons (ew_pure (ev_p2r (ev_tup2 (ev_int (K := K)) (ev_int (K := K))))) (wl_cons (ew_pure (ev_p2r (ev_tup2 (ev_int (K := K)) (ev_int (K := K))))) (wl_cons (ew_pure (ev_p2r (ev_tup2 (ev_int (K := K)) (ev_int (K := K))))) (wl_cons (ew_pure (ev_p2r (ev_tup2 (ev_int (K := K)) (ev_int (K := K))))) (wl_cons (ew_law_rat (wa_cons (ew_draw (K := K) rfl (ew_pure (ev_int (K := K)))) (wa_cons (ew_pure (ev_int (K := K))) wa_nil))) wl_nil))))) (by decide))) hm (fun v_law_parts H5 law_parts_5 hm fr5 dm5 hB5 h_law_parts => ?_)
    have fr0 := fr0.trans fr5
    have frl := frl.trans (fr5.sub tsl)
    have h_law_ones := ((tL (tT2 tRat tRat)) : Ty K (List (Rat × Rat))).mono (S := S) (fr5.sub ts) h_law_ones
    have h_law_others := ((tL (tT2 tRat tRat)) : Ty K (List (Rat × Rat))).mono (S := S) (fr5.sub ts) h_law_others
    have h_law_room := (tRat : Ty K Rat).mono (S := S) (fr5.sub ts) h_law_room
    have h_law_found := ((tL (tT2 tRat tRat)) : Ty K (List (Rat × Rat))).mono (S := S) (fr5.sub ts) h_law_found
    have h_law_k := (tInt : Ty K Int).mono (S := S) (fr5.sub ts) h_law_k
    have h_law_one := ((tT2 tRat tRat) : Ty K (Rat × Rat)).mono (S := S) (fr5.sub ts) h_law_one
    have h_law_two := ((tT2 tRat tRat) : Ty K (Rat × Rat)).mono (S := S) (fr5.sub ts) h_law_two
    have frs := frs.trans fr5
    have dm := dm5
    have hB := hB5
    have h_law_parts : ((tFL Hs tRat) : Ty K (List Rat)).rp S H5 v_law_parts law_parts_5 := h_law_parts
    refine qw_for_s dm hB ts (srw_pure (sr_r1 (K := K) (ev_lenL (ev_var ts h_law_others rfl)))) hm (fun s_6 σ' H' => Fr S HL H' ∧ ∃ v_law_ones : V, ∃ v_law_others : V, ∃ v_law_room : V, ∃ v_law_found : V, ∃ v_law_k : V, ∃ v_law_one : V, ∃ v_law_two : V, ∃ v_law_parts : V, ∃ f_9 : Option V, ∃ f_10 : Option V, ∃ f_11 : Option V, ∃ f_12 : Option V, ∃ f_13 : Option V, σ' = [some (.ref b), some v_law_ones, some v_law_others, some v_law_room, some v_law_found, some v_law_k, some v_law_one, some v_law_two, some v_law_parts, f_9, f_10, f_11, f_12, f_13] ∧ Fr [b, c] H0 H' ∧ Dom S H' ∧ Fr [b, c] Hs H' ∧ Bag H' b c ∧ ((tL (tT2 tRat tRat)) : Ty K (List (Rat × Rat))).rp S H' v_law_ones d_law_ones ∧ ((tL (tT2 tRat tRat)) : Ty K (List (Rat × Rat))).rp S H' v_law_others d_law_others ∧ (tRat : Ty K Rat).rp S H' v_law_room d_law_room ∧ ((tL (tT2 tRat tRat)) : Ty K (List (Rat × Rat))).rp S H' v_law_found s_2 ∧ (tInt : Ty K Int).rp S H' v_law_k law_k_2 ∧ ((tT2 tRat tRat) : Ty K (Rat × Rat)).rp S H' v_law_one law_one_3 ∧ ((tT2 tRat tRat) : Ty K (Rat × Rat)).rp S H' v_law_two law_two_4 ∧ ((tFL Hs tRat) : Ty K (List Rat)).rp S H' v_law_parts s_6 ∧ ((tL (tT2 tRat tRat)) : Ty K (List (Rat × Rat))).rp S Hs v_law_ones d_law_ones ∧ ((tL (tT2 tRat tRat)) : Ty K (List (Rat × Rat))).rp S Hs v_law_others d_law_others ∧ (tRat : Ty K Rat).rp S Hs v_law_room d_law_room ∧ ((tL (tT2 tRat tRat)) : Ty K (List (Rat × Rat))).rp S Hs v_law_found s_2 ∧ (tInt : Ty K Int).rp S Hs v_law_k law_k_2 ∧ ((tT2 tRat tRat) : Ty K (Rat × Rat)).rp S Hs v_law_one law_one_3 ∧ ((tT2 tRat tRat) : Ty K (Rat × Rat)).rp S Hs v_law_two law_two_4) (fun H6 fr6 dm6 hB6 => ?_) (fun hd6 s_6 law_here_6 C6 v_law_here σ' H' hI h_law_here hm hret6 hbrk6 => ?_) (fun t_6 σ' H' hm hI => ?_)
    · skip
      have fr0 := fr0.trans fr6
      have frl := frl.trans (fr6.sub tsl)
      have h_law_ones := ((tL (tT2 tRat tRat)) : Ty K (List (Rat × Rat))).mono (S := S) (fr6.sub ts) h_law_ones
      have h_law_others := ((tL (tT2 tRat tRat)) : Ty K (List (Rat × Rat))).mono (S := S) (fr6.sub ts) h_law_others
      have h_law_room := (tRat : Ty K Rat).mono (S := S) (fr6.sub ts) h_law_room
      have h_law_found := ((tL (tT2 tRat tRat)) : Ty K (List (Rat × Rat))).mono (S := S) (fr6.sub ts) h_law_found
      have h_law_k := (tInt : Ty K Int).mono (S := S) (fr6.sub ts) h_law_k
      have h_law_one := ((tT2 tRat tRat) : Ty K (Rat × Rat)).mono (S := S) (fr6.sub ts) h_law_one
      have h_law_two := ((tT2 tRat tRat) : Ty K (Rat × Rat)).mono (S := S) (fr6.sub ts) h_law_two
      have h_law_parts := ((tFL Hs tRat) : Ty K (List Rat)).mono (S := S) (fr6.sub ts) h_law_parts
      have frs := frs.trans fr6
      have dm := dm6
      have hB := hB6
      exact ⟨frl, v_law_ones, v_law_others, v_law_room, v_law_found, v_law_k, v_law_one, v_law_two, v_law_parts, _, _, _, _, _, rfl, fr0, dm, frs, hB, h_law_ones, h_law_others, h_law_room, h_law_found, h_law_k, h_law_one, h_law_two, h_law_parts, hs_law_ones, hs_law_others, hs_law_room, hs_law_found, hs_law_k, hs_law_one, hs_law_two⟩
    · skip
      obtain ⟨frl, v_law_ones, v_law_others, v_law_room, v_law_found, v_law_k, v_law_one, v_law_two, v_law_parts, f_9, f_10, f_11, f_12, f_13, rfl, fr0, dm, frs, hB, h_law_ones, h_law_others, h_law_room, h_law_found, h_law_k, h_law_one, h_law_two, h_law_parts, hs_law_ones, hs_law_others, hs_law_room, hs_law_found, hs_law_k, hs_law_one, hs_law_two⟩ := hI
      have frlo := frl
      have freshlo := freshl
      let HL := H'
      have freshl : ∀ a ∈ S, a ∉ S → H' a = none := fun a m n => absurd m n
      have frl : Fr S HL H' := Fr.refl (T := S) H'
      have tsl := ts
      have subl : Sub S S := fun a m => m
      have h_law_here : (tInt : Ty K Int).rp S H' v_law_here law_here_6 := h_law_here
      obtain ⟨law_bits_here_7, e7, hm⟩ := hm
      refine q_asg (T := [b, c]) dm (ev_call (ea_cons (ev_var ts h_law_one rfl) (ea_cons (ev_var ts h_law_two rfl) (ea_cons (ev_op od_ixL (ev_var ts h_law_others rfl) (ev_max2 (ev_int (K := K)) (ev_op (od_sub (K := K)) (ev_var ts h_law_here rfl) (ev_int (K := K))))) (ea_cons (ev_op od_ixL (ev_var ts h_law_others rfl) (ev_var ts h_law_here rfl)) (ea_cons (ev_var ts h_law_room rfl) ea_nil)))))) e7 (fun v_law_bits_here H7 s7 h_law_bits_here => ?_)
      have fr0 := fr0.trans (Fr.same s7)
      have dm := dm.same s7
      have frl := frl.trans (Fr.same s7)
      have h_law_ones := ((tL (tT2 tRat tRat)) : Ty K (List (Rat × Rat))).mono (S := S) (Fr.same s7) h_law_ones
      have h_law_others := ((tL (tT2 tRat tRat)) : Ty K (List (Rat × Rat))).mono (S := S) (Fr.same s7) h_law_others
      have h_law_room := (tRat : Ty K Rat).mono (S := S) (Fr.same s7) h_law_room
      have h_law_found := ((tL (tT2 tRat tRat)) : Ty K (List (Rat × Rat))).mono (S := S) (Fr.same s7) h_law_found
      have h_law_k := (tInt : Ty K Int).mono (S := S) (Fr.same s7) h_law_k
      have h_law_one := ((tT2 tRat tRat) : Ty K (Rat × Rat)).mono (S := S) (Fr.same s7) h_law_one
      have h_law_two := ((tT2 tRat tRat) : Ty K (Rat × Rat)).mono (S := S) (Fr.same s7) h_law_two
      have h_law_parts := ((tFL Hs tRat) : Ty K (List Rat)).mono (S := S) (Fr.same s7) h_law_parts
      have h_law_here := (tInt : Ty K Int).mono (S := S) (Fr.same s7) h_law_here
      have hB := hB.same s7
      have frs := frs.trans (Fr.same s7)
      have h_law_bits_here : ((tOpt (tT2 tRat tRat)) : Ty K (Option (Rat × Rat))).rp S H7 v_law_bits_here law_bits_here_7 := h_law_bits_here
      obtain ⟨J8, hK8, hm⟩ := jn_open hm
      refine seq_last (fun σ' H' => ∃ j10, J8 j10 ∧ Fr S HL H' ∧ ∃ v_law_ones : V, ∃ v_law_others : V, ∃ v_law_room : V, ∃ v_law_found : V, ∃ v_law_k : V, ∃ v_law_one : V, ∃ v_law_two : V, ∃ v_law_here : V, ∃ v_law_bits_here : V, ∃ v_law_parts : V, ∃ f_11 : Option V, ∃ f_12 : Option V, ∃ f_13 : Option V, σ' = [some (.ref b), some v_law_ones, some v_law_others, some v_law_room, some v_law_found, some v_law_k, some v_law_one, some v_law_two, some v_law_parts, some v_law_here, some v_law_bits_here, f_11, f_12, f_13] ∧ Fr [b, c] H0 H' ∧ Dom S H' ∧ Fr [b, c] Hs H' ∧ Bag H' b c ∧ ((tL (tT2 tRat tRat)) : Ty K (List (Rat × Rat))).rp S H' v_law_ones d_law_ones ∧ ((tL (tT2 tRat tRat)) : Ty K (List (Rat × Rat))).rp S H' v_law_others d_law_others ∧ (tRat : Ty K Rat).rp S H' v_law_room d_law_room ∧ ((tL (tT2 tRat tRat)) : Ty K (List (Rat × Rat))).rp S H' v_law_found s_2 ∧ (tInt : Ty K Int).rp S H' v_law_k law_k_2 ∧ ((tT2 tRat tRat) : Ty K (Rat × Rat)).rp S H' v_law_one law_one_3 ∧ ((tT2 tRat tRat) : Ty K (Rat × Rat)).rp S H' v_law_two law_two_4 ∧ (tInt : Ty K Int).rp S H' v_law_here law_here_6 ∧ ((tOpt (tT2 tRat tRat)) : Ty K (Option (Rat × Rat))).rp S H' v_law_bits_here law_bits_here_7 ∧ ((tFL Hs tRat) : Ty K (List Rat)).rp S H' v_law_parts j10 ∧ ((tL (tT2 tRat tRat)) : Ty K (List (Rat × Rat))).rp S Hs v_law_ones d_law_ones ∧ ((tL (tT2 tRat tRat)) : Ty K (List (Rat × Rat))).rp S Hs v_law_others d_law_others ∧ (tRat : Ty K Rat).rp S Hs v_law_room d_law_room ∧ ((tL (tT2 tRat tRat)) : Ty K (List (Rat × Rat))).rp S Hs v_law_found s_2 ∧ (tInt : Ty K Int).rp S Hs v_law_k law_k_2 ∧ ((tT2 tRat tRat) : Ty K (Rat × Rat)).rp S Hs v_law_one law_one_3 ∧ ((tT2 tRat tRat) : Ty K (Rat × Rat)).rp S Hs v_law_two law_two_4) (fun σ' H' hI => ?_) (fun rest8 => ?_)
      · skip
        obtain ⟨j10, hj, ⟨frl, v_law_ones, v_law_others, v_law_room, v_law_found, v_law_k, v_law_one, v_law_two, v_law_here, v_law_bits_here, v_law_parts, f_11, f_12, f_13, rfl, fr0, dm, frs, hB, h_law_ones, h_law_others, h_law_room, h_law_found, h_law_k, h_law_one, h_law_two, h_law_here, h_law_bits_here, h_law_parts, hs_law_ones, hs_law_others, hs_law_room, hs_law_found, hs_law_k, hs_law_one, hs_law_two⟩⟩ := hI
        have hm := hK8 j10 hj
        exact ⟨_, hm, frl, ⟨frlo.transx frl freshlo, v_law_ones, v_law_others, v_law_room, v_law_found, v_law_k, v_law_one, v_law_two, v_law_parts, _, _, _, _, _, rfl, fr0, dm, frs, hB, h_law_ones, h_law_others, h_law_room, h_law_found, h_law_k, h_law_one, h_law_two, h_law_parts, hs_law_ones, hs_law_others, hs_law_room, hs_law_found, hs_law_k, hs_law_one, hs_law_two⟩⟩
      rcases optp_cases hm with ⟨eo8, hm⟩ | ⟨law_bits_here_8, eo8, hm⟩
      · skip
        refine l_if (T := [b, c]) (b := false) dm (eb_notN (a := ((tT2 tRat tRat) : Ty K (Rat × Rat))) ts h_law_bits_here rfl) (by rw [eo8]; rfl) (fun hc H8 s8 => by cases hc) (fun hc H8 s8 => ?_)
        have fr0 := fr0.trans (Fr.same s8)
        have dm := dm.same s8
        have frl := frl.trans (Fr.same s8)
        have h_law_ones := ((tL (tT2 tRat tRat)) : Ty K (List (Rat × Rat))).mono (S := S) (Fr.same s8) h_law_ones
        have h_law_others := ((tL (tT2 tRat tRat)) : Ty K (List (Rat × Rat))).mono (S := S) (Fr.same s8) h_law_others
        have h_law_room := (tRat : Ty K Rat).mono (S := S) (Fr.same s8) h_law_room
        have h_law_found := ((tL (tT2 tRat tRat)) : Ty K (List (Rat × Rat))).mono (S := S) (Fr.same s8) h_law_found
        have h_law_k := (tInt : Ty K Int).mono (S := S) (Fr.same s8) h_law_k
        have h_law_one := ((tT2 tRat tRat) : Ty K (Rat × Rat)).mono (S := S) (Fr.same s8) h_law_one
        have h_law_two := ((tT2 tRat tRat) : Ty K (Rat × Rat)).mono (S := S) (Fr.same s8) h_law_two
        have h_law_parts := ((tFL Hs tRat) : Ty K (List Rat)).mono (S := S) (Fr.same s8) h_law_parts
        have h_law_here := (tInt : Ty K Int).mono (S := S) (Fr.same s8) h_law_here
        have h_law_bits_here := ((tOpt (tT2 tRat tRat)) : Ty K (Option (Rat × Rat))).mono (S := S) (Fr.same s8) h_law_bits_here
        have hB := hB.same s8
        have frs := frs.trans (Fr.same s8)
        exact rest8 _ _ ⟨_, hm, ⟨frl, v_law_ones, v_law_others, v_law_room, v_law_found, v_law_k, v_law_one, v_law_two, v_law_here, v_law_bits_here, v_law_parts, _, _, _, rfl, fr0, dm, frs, hB, h_law_ones, h_law_others, h_law_room, h_law_found, h_law_k, h_law_one, h_law_two, h_law_here, h_law_bits_here, h_law_parts, hs_law_ones, hs_law_others, hs_law_room, hs_law_found, hs_law_k, hs_law_one, hs_law_two⟩⟩
      · skip
        refine l_if (T := [b, c]) (b := true) dm (eb_notN (a := ((tT2 tRat tRat) : Ty K (Rat × Rat))) ts h_law_bits_here rfl) (by rw [eo8]; rfl) (fun hc H8 s8 => ?_) (fun hc H8 s8 => by cases hc)
        have fr0 := fr0.trans (Fr.same s8)
        have dm := dm.same s8
        have frl := frl.trans (Fr.same s8)
        have h_law_ones := ((tL (tT2 tRat tRat)) : Ty K (List (Rat × Rat))).mono (S := S) (Fr.same s8) h_law_ones
        have h_law_others := ((tL (tT2 tRat tRat)) : Ty K (List (Rat × Rat))).mono (S := S) (Fr.same s8) h_law_others
        have h_law_room := (tRat : Ty K Rat).mono (S := S) (Fr.same s8) h_law_room
        have h_law_found := ((tL (tT2 tRat tRat)) : Ty K (List (Rat × Rat))).mono (S := S) (Fr.same s8) h_law_found
        have h_law_k := (tInt : Ty K Int).mono (S := S) (Fr.same s8) h_law_k
        have h_law_one := ((tT2 tRat tRat) : Ty K (Rat × Rat)).mono (S := S) (Fr.same s8) h_law_one
        have h_law_two := ((tT2 tRat tRat) : Ty K (Rat × Rat)).mono (S := S) (Fr.same s8) h_law_two
        have h_law_parts := ((tFL Hs tRat) : Ty K (List Rat)).mono (S := S) (Fr.same s8) h_law_parts
        have h_law_here := (tInt : Ty K Int).mono (S := S) (Fr.same s8) h_law_here
        have h_law_bits_here := ((tOpt (tT2 tRat tRat)) : Ty K (Option (Rat × Rat))).mono (S := S) (Fr.same s8) h_law_bits_here
        have hB := hB.same s8
        have frs := frs.trans (Fr.same s8)
        have h_law_bits_here := opt_is (a := ((tT2 tRat tRat) : Ty K (Rat × Rat))) (S := S) h_law_bits_here eo8
        obtain ⟨law_parts_9, e9, hm⟩ := hm
        refine l_asg (T := [b, c]) dm (ev_FL ts frs (ev_op od_cat (ev_FL2L (ev_var ts h_law_parts rfl)) (ev_new (ev_lst (el_cons (ev_ix20 (ev_var ts h_law_bits_here rfl)) (el_cons (ev_ix21 (ev_var ts h_law_bits_here rfl)) el_nil)) (by decide))))) e9 (fun v_law_parts H9 s9 h_law_parts => ?_)
        have fr0 := fr0.trans (Fr.same s9)
        have dm := dm.same s9
        have frl := frl.trans (Fr.same s9)
        have h_law_ones := ((tL (tT2 tRat tRat)) : Ty K (List (Rat × Rat))).mono (S := S) (Fr.same s9) h_law_ones
        have h_law_others := ((tL (tT2 tRat tRat)) : Ty K (List (Rat × Rat))).mono (S := S) (Fr.same s9) h_law_others
        have h_law_room := (tRat : Ty K Rat).mono (S := S) (Fr.same s9) h_law_room
        have h_law_found := ((tL (tT2 tRat tRat)) : Ty K (List (Rat × Rat))).mono (S := S) (Fr.same s9) h_law_found
        have h_law_k := (tInt : Ty K Int).mono (S := S) (Fr.same s9) h_law_k
        have h_law_one := ((tT2 tRat tRat) : Ty K (Rat × Rat)).mono (S := S) (Fr.same s9) h_law_one
        have h_law_two := ((tT2 tRat tRat) : Ty K (Rat × Rat)).mono (S := S) (Fr.same s9) h_law_two
        have h_law_here := (tInt : Ty K Int).mono (S := S) (Fr.same s9) h_law_here
        have h_law_bits_here := ((tT2 tRat tRat) : Ty K (Rat × Rat)).mono (S := S) (Fr.same s9) h_law_bits_here
        have hB := hB.same s9
        have frs := frs.trans (Fr.same s9)
        have h_law_parts : ((tFL Hs tRat) : Ty K (List Rat)).rp S H9 v_law_parts law_parts_9 := h_law_parts
        have h_law_bits_here := opt_back (a := ((tT2 tRat tRat) : Ty K (Rat × Rat))) (S := S) h_law_bits_here eo8
        exact rest8 _ _ ⟨_, hm, ⟨frl, v_law_ones, v_law_others, v_law_room, v_law_found, v_law_k, v_law_one, v_law_two, v_law_here, v_law_bits_here, v_law_parts, _, _, _, rfl, fr0, dm, frs, hB, h_law_ones, h_law_others, h_law_room, h_law_found, h_law_k, h_law_one, h_law_two, h_law_here, h_law_bits_here, h_law_parts, hs_law_ones, hs_law_others, hs_law_room, hs_law_found, hs_law_k, hs_law_one, hs_law_two⟩⟩
    obtain ⟨frl, v_law_ones, v_law_others, v_law_room, v_law_found, v_law_k, v_law_one, v_law_two, v_law_parts, f_9, f_10, f_11, f_12, f_13, rfl, fr0, dm, frs, hB, h_law_ones, h_law_others, h_law_room, h_law_found, h_law_k, h_law_one, h_law_two, h_law_parts, hs_law_ones, hs_law_others, hs_law_room, hs_law_found, hs_law_k, hs_law_one, hs_law_two⟩ := hI
    obtain ⟨p_law_parts, ev_law_parts, np_law_parts, ns_law_parts, o_law_parts⟩ := h_law_parts
    subst ev_law_parts
    have dts := dms.sub ts
    have n0_law_parts := fr_back fr0s dts np_law_parts
    have nt_law_parts := dts.not_mem np_law_parts
    have nb_law_parts : p_law_parts ∉ S := fun m => ns_law_parts (sub0 _ m)
    have nbl_law_parts : p_law_parts ∉ S := fun m => ns_law_parts (subl _ m)
    have nl_law_parts := fr_back frls (dms.sub subl) np_law_parts
    have subl := sub_cons (p := p_law_parts) subl
    have freshl := fresh_cons freshl nl_law_parts
    have h_law_ones := ((tL (tT2 tRat tRat)) : Ty K (List (Rat × Rat))).mono (frs.sub (sub_cons ts)) (((tL (tT2 tRat tRat)) : Ty K (List (Rat × Rat))).ext (S := S) np_law_parts hs_law_ones)
    have h_law_others := ((tL (tT2 tRat tRat)) : Ty K (List (Rat × Rat))).mono (frs.sub (sub_cons ts)) (((tL (tT2 tRat tRat)) : Ty K (List (Rat × Rat))).ext (S := S) np_law_parts hs_law_others)
    have h_law_room := (tRat : Ty K Rat).mono (frs.sub (sub_cons ts)) ((tRat : Ty K Rat).ext (S := S) np_law_parts hs_law_room)
    have h_law_found := ((tL (tT2 tRat tRat)) : Ty K (List (Rat × Rat))).mono (frs.sub (sub_cons ts)) (((tL (tT2 tRat tRat)) : Ty K (List (Rat × Rat))).ext (S := S) np_law_parts hs_law_found)
    have h_law_k := (tInt : Ty K Int).mono (frs.sub (sub_cons ts)) ((tInt : Ty K Int).ext (S := S) np_law_parts hs_law_k)
    have h_law_one := ((tT2 tRat tRat) : Ty K (Rat × Rat)).mono (frs.sub (sub_cons ts)) (((tT2 tRat tRat) : Ty K (Rat × Rat)).ext (S := S) np_law_parts hs_law_one)
    have h_law_two := ((tT2 tRat tRat) : Ty K (Rat × Rat)).mono (frs.sub (sub_cons ts)) (((tT2 tRat tRat) : Ty K (Rat × Rat)).ext (S := S) np_law_parts hs_law_two)
    have dm := dm.cons o_law_parts.choose_spec.1
    have ts := sub_cons (p := p_law_parts) ts
    have sub0 := sub_cons (p := p_law_parts) sub0
    have im_law_parts : p_law_parts ∈ p_law_parts :: S := List.mem_cons_self ..
    refine qw_for_s dm hB ts (srw_pure (sr_list (ev_new (ev_listO o_law_parts nt_law_parts ts rfl)))) hm (fun s_11 σ' H' => Fr S HL H' ∧ ∃ v_law_ones : V, ∃ v_law_others : V, ∃ v_law_room : V, ∃ v_law_found : V, ∃ v_law_k : V, ∃ v_law_one : V, ∃ v_law_two : V, ∃ f_9 : Option V, ∃ f_10 : Option V, ∃ f_11 : Option V, ∃ f_12 : Option V, ∃ f_13 : Option V, σ' = [some (.ref b), some v_law_ones, some v_law_others, some v_law_room, some v_law_found, some v_law_k, some v_law_one, some v_law_two, some (.ref p_law_parts), f_9, f_10, f_11, f_12, f_13] ∧ Fr [b, c] H0 H' ∧ Dom (p_law_parts :: S) H' ∧ Bag H' b c ∧ ((tL (tT2 tRat tRat)) : Ty K (List (Rat × Rat))).rp (p_law_parts :: S) H' v_law_ones d_law_ones ∧ ((tL (tT2 tRat tRat)) : Ty K (List (Rat × Rat))).rp (p_law_parts :: S) H' v_law_others d_law_others ∧ (tRat : Ty K Rat).rp (p_law_parts :: S) H' v_law_room d_law_room ∧ ((tL (tT2 tRat tRat)) : Ty K (List (Rat × Rat))).rp (p_law_parts :: S) H' v_law_found s_2 ∧ (tInt : Ty K Int).rp (p_law_parts :: S) H' v_law_k law_k_2 ∧ ((tT2 tRat tRat) : Ty K (Rat × Rat)).rp (p_law_parts :: S) H' v_law_one law_one_3 ∧ ((tT2 tRat tRat) : Ty K (Rat × Rat)).rp (p_law_parts :: S) H' v_law_two law_two_4 ∧ Own (tRat : Ty K Rat) (p_law_parts :: S) H' p_law_parts s_11) (fun H11 fr11 dm11 hB11 => ?_) (fun hd11 s_11 law_part_11 C11 v_law_part σ' H' hI h_law_part hm hret11 hbrk11 => ?_) (fun t_11 σ' H' hm hI => ?_)
    · skip
      have fr0 := fr0.trans fr11
      have frl := frl.trans (fr11.sub tsl)
      have h_law_ones := ((tL (tT2 tRat tRat)) : Ty K (List (Rat × Rat))).mono (S := (p_law_parts :: S)) (fr11.sub ts) h_law_ones
      have h_law_others := ((tL (tT2 tRat tRat)) : Ty K (List (Rat × Rat))).mono (S := (p_law_parts :: S)) (fr11.sub ts) h_law_others
      have h_law_room := (tRat : Ty K Rat).mono (S := (p_law_parts :: S)) (fr11.sub ts) h_law_room
      have h_law_found := ((tL (tT2 tRat tRat)) : Ty K (List (Rat × Rat))).mono (S := (p_law_parts :: S)) (fr11.sub ts) h_law_found
      have h_law_k := (tInt : Ty K Int).mono (S := (p_law_parts :: S)) (fr11.sub ts) h_law_k
      have h_law_one := ((tT2 tRat tRat) : Ty K (Rat × Rat)).mono (S := (p_law_parts :: S)) (fr11.sub ts) h_law_one
      have h_law_two := ((tT2 tRat tRat) : Ty K (Rat × Rat)).mono (S := (p_law_parts :: S)) (fr11.sub ts) h_law_two
      have o_law_parts := o_law_parts.fr fr11 ts nt_law_parts
      have dm := dm11
      have hB := hB11
      exact ⟨frl, v_law_ones, v_law_others, v_law_room, v_law_found, v_law_k, v_law_one, v_law_two, _, _, _, _, _, rfl, fr0, dm, hB, h_law_ones, h_law_others, h_law_room, h_law_found, h_law_k, h_law_one, h_law_two, o_law_parts⟩
    · skip
      obtain ⟨frl, v_law_ones, v_law_others, v_law_room, v_law_found, v_law_k, v_law_one, v_law_two, f_9, f_10, f_11, f_12, f_13, rfl, fr0, dm, hB, h_law_ones, h_law_others, h_law_room, h_law_found, h_law_k, h_law_one, h_law_two, o_law_parts⟩ := hI
      have frlo := frl
      have freshlo := freshl
      let HL := H'
      have freshl : ∀ a ∈ (p_law_parts :: S), a ∉ (p_law_parts :: S) → H' a = none := fun a m n => absurd m n
      have frl : Fr (p_law_parts :: S) HL H' := Fr.refl (T := (p_law_parts :: S)) H'
      have tsl := ts
      have subl : Sub (p_law_parts :: S) (p_law_parts :: S) := fun a m => m
      have iml_law_parts := im_law_parts
      have h_law_part : (tRat : Ty K Rat).rp (p_law_parts :: S) H' v_law_part law_part_11 := h_law_part
      refine lw_for_s dm hB ts (srw_pure (sr_list (ev_new (ev_lst (el_cons (ev_tup2 (ev_int (K := K)) (ev_int (K := K))) (el_cons (ev_tup2 (ev_op (od_sub (K := K)) (ev_int (K := K)) (ev_int (K := K))) (ev_int (K := K))) el_nil)) (by decide))))) hm (fun s_12 σ' H' => Fr (p_law_parts :: S) HL H' ∧ ∃ v_law_ones : V, ∃ v_law_others : V, ∃ v_law_room : V, ∃ v_law_found : V, ∃ v_law_k : V, ∃ v_law_one : V, ∃ v_law_two : V, ∃ v_law_part : V, ∃ f_9 : Option V, ∃ f_10 : Option V, ∃ f_12 : Option V, ∃ f_13 : Option V, σ' = [some (.ref b), some v_law_ones, some v_law_others, some v_law_room, some v_law_found, some v_law_k, some v_law_one, some v_law_two, some (.ref p_law_parts), f_9, f_10, some v_law_part, f_12, f_13] ∧ Fr [b, c] H0 H' ∧ Dom (p_law_parts :: S) H' ∧ Bag H' b c ∧ ((tL (tT2 tRat tRat)) : Ty K (List (Rat × Rat))).rp (p_law_parts :: S) H' v_law_ones d_law_ones ∧ ((tL (tT2 tRat tRat)) : Ty K (List (Rat × Rat))).rp (p_law_parts :: S) H' v_law_others d_law_others ∧ (tRat : Ty K Rat).rp (p_law_parts :: S) H' v_law_room d_law_room ∧ ((tL (tT2 tRat tRat)) : Ty K (List (Rat × Rat))).rp (p_law_parts :: S) H' v_law_found s_2 ∧ (tInt : Ty K Int).rp (p_law_parts :: S) H' v_law_k law_k_2 ∧ ((tT2 tRat tRat) : Ty K (Rat × Rat)).rp (p_law_parts :: S) H' v_law_one law_one_3 ∧ ((tT2 tRat tRat) : Ty K (Rat × Rat)).rp (p_law_parts :: S) H' v_law_two law_two_4 ∧ (tRat : Ty K Rat).rp (p_law_parts :: S) H' v_law_part law_part_11 ∧ Own (tRat : Ty K Rat) (p_law_parts :: S) H' p_law_parts s_12) (fun H12 fr12 dm12 hB12 => ?_) (fun hd12 s_12 law_more_12 C12 v_law_more σ' H' hI h_law_more hm hret12 hbrk12 => ?_) (fun t_12 σ' H' hm hI => ?_)
      · skip
        have fr0 := fr0.trans fr12
        have frl := frl.trans (fr12.sub tsl)
        have h_law_ones := ((tL (tT2 tRat tRat)) : Ty K (List (Rat × Rat))).mono (S := (p_law_parts :: S)) (fr12.sub ts) h_law_ones
        have h_law_others := ((tL (tT2 tRat tRat)) : Ty K (List (Rat × Rat))).mono (S := (p_law_parts :: S)) (fr12.sub ts) h_law_others
        have h_law_room := (tRat : Ty K Rat).mono (S := (p_law_parts :: S)) (fr12.sub ts) h_law_room
        have h_law_found := ((tL (tT2 tRat tRat)) : Ty K (List (Rat × Rat))).mono (S := (p_law_parts :: S)) (fr12.sub ts) h_law_found
        have h_law_k := (tInt : Ty K Int).mono (S := (p_law_parts :: S)) (fr12.sub ts) h_law_k
        have h_law_one := ((tT2 tRat tRat) : Ty K (Rat × Rat)).mono (S := (p_law_parts :: S)) (fr12.sub ts) h_law_one
        have h_law_two := ((tT2 tRat tRat) : Ty K (Rat × Rat)).mono (S := (p_law_parts :: S)) (fr12.sub ts) h_law_two
        have h_law_part := (tRat : Ty K Rat).mono (S := (p_law_parts :: S)) (fr12.sub ts) h_law_part
        have o_law_parts := o_law_parts.fr fr12 ts nt_law_parts
        have dm := dm12
        have hB := hB12
        exact ⟨frl, v_law_ones, v_law_others, v_law_room, v_law_found, v_law_k, v_law_one, v_law_two, v_law_part, _, _, _, _, rfl, fr0, dm, hB, h_law_ones, h_law_others, h_law_room, h_law_found, h_law_k, h_law_one, h_law_two, h_law_part, o_law_parts⟩
      · skip
        obtain ⟨frl, v_law_ones, v_law_others, v_law_room, v_law_found, v_law_k, v_law_one, v_law_two, v_law_part, f_9, f_10, f_12, f_13, rfl, fr0, dm, hB, h_law_ones, h_law_others, h_law_room, h_law_found, h_law_k, h_law_one, h_law_two, h_law_part, o_law_parts⟩ := hI
        have frlo := frl
        have freshlo := freshl
        let HL := H'
        have freshl : ∀ a ∈ (p_law_parts :: S), a ∉ (p_law_parts :: S) → H' a = none := fun a m n => absurd m n
        have frl : Fr (p_law_parts :: S) HL H' := Fr.refl (T := (p_law_parts :: S)) H'
        have tsl := ts
        have subl : Sub (p_law_parts :: S) (p_law_parts :: S) := fun a m => m
        have iml_law_parts := im_law_parts
        have h_law_more : ((tT2 tInt tInt) : Ty K (Int × Int)).rp (p_law_parts :: S) H' v_law_more law_more_12 := h_law_more
        obtain ⟨law_near_13, e13, hm⟩ := hm
        refine q_asg (T := [b, c]) dm (ev_call (ea_cons (ev_var ts h_law_part rfl) (ea_cons (ev_p2r (ev_var ts h_law_more rfl)) ea_nil))) e13 (fun v_law_near H13 s13 h_law_near => ?_)
        have fr0 := fr0.trans (Fr.same s13)
        have dm := dm.same s13
        have frl := frl.trans (Fr.same s13)
        have h_law_ones := ((tL (tT2 tRat tRat)) : Ty K (List (Rat × Rat))).mono (S := (p_law_parts :: S)) (Fr.same s13) h_law_ones
        have h_law_others := ((tL (tT2 tRat tRat)) : Ty K (List (Rat × Rat))).mono (S := (p_law_parts :: S)) (Fr.same s13) h_law_others
        have h_law_room := (tRat : Ty K Rat).mono (S := (p_law_parts :: S)) (Fr.same s13) h_law_room
        have h_law_found := ((tL (tT2 tRat tRat)) : Ty K (List (Rat × Rat))).mono (S := (p_law_parts :: S)) (Fr.same s13) h_law_found
        have h_law_k := (tInt : Ty K Int).mono (S := (p_law_parts :: S)) (Fr.same s13) h_law_k
        have h_law_one := ((tT2 tRat tRat) : Ty K (Rat × Rat)).mono (S := (p_law_parts :: S)) (Fr.same s13) h_law_one
        have h_law_two := ((tT2 tRat tRat) : Ty K (Rat × Rat)).mono (S := (p_law_parts :: S)) (Fr.same s13) h_law_two
        have h_law_part := (tRat : Ty K Rat).mono (S := (p_law_parts :: S)) (Fr.same s13) h_law_part
        have o_law_parts := o_law_parts.same s13
        have h_law_more := ((tT2 tInt tInt) : Ty K (Int × Int)).mono (S := (p_law_parts :: S)) (Fr.same s13) h_law_more
        have hB := hB.same s13
        have h_law_near : (tRat : Ty K Rat).rp (p_law_parts :: S) H13 v_law_near law_near_13 := h_law_near
        obtain ⟨J14, hK14, hm⟩ := jn_open hm
        refine seq_last (fun σ' H' => ∃ j17, J14 j17 ∧ Fr (p_law_parts :: S) HL H' ∧ ∃ v_law_ones : V, ∃ v_law_others : V, ∃ v_law_room : V, ∃ v_law_found : V, ∃ v_law_k : V, ∃ v_law_one : V, ∃ v_law_two : V, ∃ v_law_part : V, ∃ v_law_more : V, ∃ v_law_near : V, ∃ f_9 : Option V, ∃ f_10 : Option V, σ' = [some (.ref b), some v_law_ones, some v_law_others, some v_law_room, some v_law_found, some v_law_k, some v_law_one, some v_law_two, some (.ref p_law_parts), f_9, f_10, some v_law_part, some v_law_more, some v_law_near] ∧ Fr [b, c] H0 H' ∧ Dom (p_law_parts :: S) H' ∧ Bag H' b c ∧ ((tL (tT2 tRat tRat)) : Ty K (List (Rat × Rat))).rp (p_law_parts :: S) H' v_law_ones d_law_ones ∧ ((tL (tT2 tRat tRat)) : Ty K (List (Rat × Rat))).rp (p_law_parts :: S) H' v_law_others d_law_others ∧ (tRat : Ty K Rat).rp (p_law_parts :: S) H' v_law_room d_law_room ∧ ((tL (tT2 tRat tRat)) : Ty K (List (Rat × Rat))).rp (p_law_parts :: S) H' v_law_found s_2 ∧ (tInt : Ty K Int).rp (p_law_parts :: S) H' v_law_k law_k_2 ∧ ((tT2 tRat tRat) : Ty K (Rat × Rat)).rp (p_law_parts :: S) H' v_law_one law_one_3 ∧ ((tT2 tRat tRat) : Ty K (Rat × Rat)).rp (p_law_parts :: S) H' v_law_two law_two_4 ∧ (tRat : Ty K Rat).rp (p_law_parts :: S) H' v_law_part law_part_11 ∧ ((tT2 tInt tInt) : Ty K (Int × Int)).rp (p_law_parts :: S) H' v_law_more law_more_12 ∧ (tRat : Ty K Rat).rp (p_law_parts :: S) H' v_law_near law_near_13 ∧ Own (tRat : Ty K Rat) (p_law_parts :: S) H' p_law_parts j17) (fun σ' H' hI => ?_) (fun rest14 => ?_)
        · skip
          obtain ⟨j17, hj, ⟨frl, v_law_ones, v_law_others, v_law_room, v_law_found, v_law_k, v_law_one, v_law_two, v_law_part, v_law_more, v_law_near, f_9, f_10, rfl, fr0, dm, hB, h_law_ones, h_law_others, h_law_room, h_law_found, h_law_k, h_law_one, h_law_two, h_law_part, h_law_more, h_law_near, o_law_parts⟩⟩ := hI
          have hm := hK14 j17 hj
          exact ⟨_, hm, frl, ⟨frlo.transx frl freshlo, v_law_ones, v_law_others, v_law_room, v_law_found, v_law_k, v_law_one, v_law_two, v_law_part, _, _, _, _, rfl, fr0, dm, hB, h_law_ones, h_law_others, h_law_room, h_law_found, h_law_k, h_law_one, h_law_two, h_law_part, o_law_parts⟩⟩
        obtain ⟨c14, e14, hm⟩ := hm
        refine l_if (T := [b, c]) dm (eb_test (K := K) (ev_chain (od_le (K := K)) (od_le (K := K)) (ev_int (K := K)) (ev_ixR0 (ev_var ts h_law_near rfl)) (ev_ixR1 (ev_var ts h_law_near rfl)))) e14 (fun hc H14 s14 => ?_) (fun hc H14 s14 => ?_)
        · skip
          subst hc
          have fr0 := fr0.trans (Fr.same s14)
          have dm := dm.same s14
          have frl := frl.trans (Fr.same s14)
          have h_law_ones := ((tL (tT2 tRat tRat)) : Ty K (List (Rat × Rat))).mono (S := (p_law_parts :: S)) (Fr.same s14) h_law_ones
          have h_law_others := ((tL (tT2 tRat tRat)) : Ty K (List (Rat × Rat))).mono (S := (p_law_parts :: S)) (Fr.same s14) h_law_others
          have h_law_room := (tRat : Ty K Rat).mono (S := (p_law_parts :: S)) (Fr.same s14) h_law_room
          have h_law_found := ((tL (tT2 tRat tRat)) : Ty K (List (Rat × Rat))).mono (S := (p_law_parts :: S)) (Fr.same s14) h_law_found
          have h_law_k := (tInt : Ty K Int).mono (S := (p_law_parts :: S)) (Fr.same s14) h_law_k
          have h_law_one := ((tT2 tRat tRat) : Ty K (Rat × Rat)).mono (S := (p_law_parts :: S)) (Fr.same s14) h_law_one
          have h_law_two := ((tT2 tRat tRat) : Ty K (Rat × Rat)).mono (S := (p_law_parts :: S)) (Fr.same s14) h_law_two
          have h_law_part := (tRat : Ty K Rat).mono (S := (p_law_parts :: S)) (Fr.same s14) h_law_part
          have o_law_parts := o_law_parts.same s14
          have h_law_more := ((tT2 tInt tInt) : Ty K (Int × Int)).mono (S := (p_law_parts :: S)) (Fr.same s14) h_law_more
          have h_law_near := (tRat : Ty K Rat).mono (S := (p_law_parts :: S)) (Fr.same s14) h_law_near
          have hB := hB.same s14
          have hm := ifp_t hm
          obtain ⟨a15, e15, hm⟩ := hm
          obtain ⟨law_parts_16, f15, hm⟩ := hm
          refine l_app (T := [b, c]) dm o_law_parts im_law_parts nt_law_parts ts rfl (ev_var ts h_law_near rfl) e15 f15 (fun H15 s15 frx15 o_law_parts => ?_)
          have fr0 := fr0.mut hB.dom n0_law_parts s15
          have frl := frl.trans (s15.fr iml_law_parts)
          have dm := dm.fx frx15 s15
          have h_law_ones := ((tL (tT2 tRat tRat)) : Ty K (List (Rat × Rat))).mono (S := (p_law_parts :: S)) frx15 h_law_ones
          have h_law_others := ((tL (tT2 tRat tRat)) : Ty K (List (Rat × Rat))).mono (S := (p_law_parts :: S)) frx15 h_law_others
          have h_law_room := (tRat : Ty K Rat).mono (S := (p_law_parts :: S)) frx15 h_law_room
          have h_law_found := ((tL (tT2 tRat tRat)) : Ty K (List (Rat × Rat))).mono (S := (p_law_parts :: S)) frx15 h_law_found
          have h_law_k := (tInt : Ty K Int).mono (S := (p_law_parts :: S)) frx15 h_law_k
          have h_law_one := ((tT2 tRat tRat) : Ty K (Rat × Rat)).mono (S := (p_law_parts :: S)) frx15 h_law_one
          have h_law_two := ((tT2 tRat tRat) : Ty K (Rat × Rat)).mono (S := (p_law_parts :: S)) frx15 h_law_two
          have h_law_part := (tRat : Ty K Rat).mono (S := (p_law_parts :: S)) frx15 h_law_part
          have h_law_more := ((tT2 tInt tInt) : Ty K (Int × Int)).mono (S := (p_law_parts :: S)) frx15 h_law_more
          have h_law_near := (tRat : Ty K Rat).mono (S := (p_law_parts :: S)) frx15 h_law_near
          have hB := hB.mut s15 nt_law_parts
          exact rest14 _ _ ⟨_, hm, ⟨frl, v_law_ones, v_law_others, v_law_room, v_law_found, v_law_k, v_law_one, v_law_two, v_law_part, v_law_more, v_law_near, _, _, rfl, fr0, dm, hB, h_law_ones, h_law_others, h_law_room, h_law_found, h_law_k, h_law_one, h_law_two, h_law_part, h_law_more, h_law_near, o_law_parts⟩⟩
        · skip
          subst hc
          have fr0 := fr0.trans (Fr.same s14)
          have dm := dm.same s14
          have frl := frl.trans (Fr.same s14)
          have h_law_ones := ((tL (tT2 tRat tRat)) : Ty K (List (Rat × Rat))).mono (S := (p_law_parts :: S)) (Fr.same s14) h_law_ones
          have h_law_others := ((tL (tT2 tRat tRat)) : Ty K (List (Rat × Rat))).mono (S := (p_law_parts :: S)) (Fr.same s14) h_law_others
          have h_law_room := (tRat : Ty K Rat).mono (S := (p_law_parts :: S)) (Fr.same s14) h_law_room
          have h_law_found := ((tL (tT2 tRat tRat)) : Ty K (List (Rat × Rat))).mono (S := (p_law_parts :: S)) (Fr.same s14) h_law_found
          have h_law_k := (tInt : Ty K Int).mono (S := (p_law_parts :: S)) (Fr.same s14) h_law_k
          have h_law_one := ((tT2 tRat tRat) : Ty K (Rat × Rat)).mono (S := (p_law_parts :: S)) (Fr.same s14) h_law_one
          have h_law_two := ((tT2 tRat tRat) : Ty K (Rat × Rat)).mono (S := (p_law_parts :: S)) (Fr.same s14) h_law_two
          have h_law_part := (tRat : Ty K Rat).mono (S := (p_law_parts :: S)) (Fr.same s14) h_law_part
          have o_law_parts := o_law_parts.same s14
          have h_law_more := ((tT2 tInt tInt) : Ty K (Int × Int)).mono (S := (p_law_parts :: S)) (Fr.same s14) h_law_more
          have h_law_near := (tRat : Ty K Rat).mono (S := (p_law_parts :: S)) (Fr.same s14) h_law_near
          have hB := hB.same s14
          have hm := ifp_f hm
          exact rest14 _ _ ⟨_, hm, ⟨frl, v_law_ones, v_law_others, v_law_room, v_law_found, v_law_k, v_law_one, v_law_two, v_law_part, v_law_more, v_law_near, _, _, rfl, fr0, dm, hB, h_law_ones, h_law_others, h_law_room, h_law_found, h_law_k, h_law_one, h_law_two, h_law_part, h_law_more, h_law_near, o_law_parts⟩⟩
      obtain ⟨frl, v_law_ones, v_law_others, v_law_room, v_law_found, v_law_k, v_law_one, v_law_two, v_law_part, f_9, f_10, f_12, f_13, rfl, fr0, dm, hB, h_law_ones, h_law_others, h_law_room, h_law_found, h_law_k, h_law_one, h_law_two, h_law_part, o_law_parts⟩ := hI
      exact ⟨_, hm, frl, ⟨frlo.transx frl freshlo, v_law_ones, v_law_others, v_law_room, v_law_found, v_law_k, v_law_one, v_law_two, _, _, _, _, _, rfl, fr0, dm, hB, h_law_ones, h_law_others, h_law_room, h_law_found, h_law_k, h_law_one, h_law_two, o_law_parts⟩⟩
    obtain ⟨frl, v_law_ones, v_law_others, v_law_room, v_law_found, v_law_k, v_law_one, v_law_two, f_9, f_10, f_11, f_12, f_13, rfl, fr0, dm, hB, h_law_ones, h_law_others, h_law_room, h_law_found, h_law_k, h_law_one, h_law_two, o_law_parts⟩ := hI
    have sbz : Sub S (p_law_parts :: S) := (sub_cons (fun a m => m))
    have nfz : p_law_parts ∉ S := by first | exact ns_law_parts | (have h := ns_law_parts; simp only [List.mem_cons, not_or] at h ⊢; grind)
    have h_law_parts := o_law_parts.frz sbz nfz
    have dm := dm.sub sbz
    have h_law_ones := ((tL (tT2 tRat tRat)) : Ty K (List (Rat × Rat))).sub sbz h_law_ones
    have h_law_others := ((tL (tT2 tRat tRat)) : Ty K (List (Rat × Rat))).sub sbz h_law_others
    have h_law_room := (tRat : Ty K Rat).sub sbz h_law_room
    have h_law_found := ((tL (tT2 tRat tRat)) : Ty K (List (Rat × Rat))).sub sbz h_law_found
    have h_law_k := (tInt : Ty K Int).sub sbz h_law_k
    have h_law_one := ((tT2 tRat tRat) : Ty K (Rat × Rat)).sub sbz h_law_one
    have h_law_two := ((tT2 tRat tRat) : Ty K (Rat × Rat)).sub sbz h_law_two
    have ts : Sub [b, c] S := fun a m => by have h1 := ts a m; have h2 : a ≠ p_law_parts := (fun e => nt_law_parts (e ▸ m)); simp only [List.mem_cons] at h1 ⊢; grind
    have sub0 : Sub S S := fun a m => by have h1 := sub0 a m; have h2 : a ≠ p_law_parts := (fun e => nb_law_parts (e ▸ m)); simp only [List.mem_cons] at h1 ⊢; grind
    have subl : Sub S S := fun a m => by have h1 := subl a m; have h2 : a ≠ p_law_parts := (fun e => nbl_law_parts (e ▸ m)); simp only [List.mem_cons] at h1 ⊢; grind
    have freshl := fun a m n => freshl a (sbz a m) n
    obtain ⟨law_found_20, e20, hm⟩ := hm
    refine l_asg (T := [b, c]) dm (ev_new (ev_op od_cat (ev_var ts h_law_found rfl) (ev_new (ev_lc (sr_list (ev_var ts h_law_parts rfl)) (fun v => by rfl) (fun law_part_19 v_law_part H2' H' p' fr' nD' sm' h_law_part => by have h_law_ones := ((tL (tT2 tRat tRat)) : Ty K (List (Rat × Rat))).mono (Fr.same sm') (((tL (tT2 tRat tRat)) : Ty K (List (Rat × Rat))).ext (S := S) nD' (((tL (tT2 tRat tRat)) : Ty K (List (Rat × Rat))).mono (Fr.sub ts fr') h_law_ones)); have h_law_others := ((tL (tT2 tRat tRat)) : Ty K (List (Rat × Rat))).mono (Fr.same sm') (((tL (tT2 tRat tRat)) : Ty K (List (Rat × Rat))).ext (S := S) nD' (((tL (tT2 tRat tRat)) : Ty K (List (Rat × Rat))).mono (Fr.sub ts fr') h_law_others)); have h_law_room := (tRat : Ty K Rat).mono (Fr.same sm') ((tRat : Ty K Rat).ext (S := S) nD' ((tRat : Ty K Rat).mono (Fr.sub ts fr') h_law_room)); have h_law_found := ((tL (tT2 tRat tRat)) : Ty K (List (Rat × Rat))).mono (Fr.same sm') (((tL (tT2 tRat tRat)) : Ty K (List (Rat × Rat))).ext (S := S) nD' (((tL (tT2 tRat tRat)) : Ty K (List (Rat × Rat))).mono (Fr.sub ts fr') h_law_found)); have h_law_k := (tInt : Ty K Int).mono (Fr.same sm') ((tInt : Ty K Int).ext (S := S) nD' ((tInt : Ty K Int).mono (Fr.sub ts fr') h_law_k)); have h_law_one := ((tT2 tRat tRat) : Ty K (Rat × Rat)).mono (Fr.same sm') (((tT2 tRat tRat) : Ty K (Rat × Rat)).ext (S := S) nD' (((tT2 tRat tRat) : Ty K (Rat × Rat)).mono (Fr.sub ts fr') h_law_one)); have h_law_two := ((tT2 tRat tRat) : Ty K (Rat × Rat)).mono (Fr.same sm') (((tT2 tRat tRat) : Ty K (Rat × Rat)).ext (S := S) nD' (((tT2 tRat tRat) : Ty K (Rat × Rat)).mono (Fr.sub ts fr') h_law_two)); have h_law_parts := ((tL tRat) : Ty K (List Rat)).mono (Fr.same sm') (((tL tRat) : Ty K (List Rat)).ext (S := S) nD' (((tL tRat) : Ty K (List Rat)).mono (Fr.sub ts fr') h_law_parts)); have ts0' := ts; have ts : Sub [] (p' :: S) := (fun a m => by simp at m);  exact (ev_call (ea_cons (ev_var ts h_law_one rfl) (ea_cons (ev_var ts h_law_two rfl) (ea_cons (ev_var ts h_law_part rfl) ea_nil))))))))) e20 (fun v_law_found H20 s20 h_law_found => ?_)
    have fr0 := fr0.trans (Fr.same s20)
    have dm := dm.same s20
    have frl := frl.trans (Fr.same s20)
    have h_law_ones := ((tL (tT2 tRat tRat)) : Ty K (List (Rat × Rat))).mono (S := S) (Fr.same s20) h_law_ones
    have h_law_others := ((tL (tT2 tRat tRat)) : Ty K (List (Rat × Rat))).mono (S := S) (Fr.same s20) h_law_others
    have h_law_room := (tRat : Ty K Rat).mono (S := S) (Fr.same s20) h_law_room
    have h_law_k := (tInt : Ty K Int).mono (S := S) (Fr.same s20) h_law_k
    have h_law_one := ((tT2 tRat tRat) : Ty K (Rat × Rat)).mono (S := S) (Fr.same s20) h_law_one
    have h_law_two := ((tT2 tRat tRat) : Ty K (Rat × Rat)).mono (S := S) (Fr.same s20) h_law_two
    have h_law_parts := ((tL tRat) : Ty K (List Rat)).mono (S := S) (Fr.same s20) h_law_parts
    have hB := hB.same s20
    have h_law_found : ((tL (tT2 tRat tRat)) : Ty K (List (Rat × Rat))).rp S H20 v_law_found law_found_20 := h_law_found
    exact ⟨_, hm, frl, ⟨v_law_ones, v_law_others, v_law_room, v_law_found, _, _, _, _, _, _, _, _, _, rfl, fr0, dm, hB, h_law_ones, h_law_others, h_law_room, h_law_found⟩⟩
  obtain ⟨v_law_ones, v_law_others, v_law_room, v_law_found, f_5, f_6, f_7, f_8, f_9, f_10, f_11, f_12, f_13, rfl, fr0, dm, hB, h_law_ones, h_law_others, h_law_room, h_law_found⟩ := hI
  obtain ⟨z, er, hm⟩ := hm
  exact q_ret (T := [b, c]) dm (ev_var ts h_law_found rfl) er (fun v H24 s24 hv => q v H24 _ hm (fr0.trans (Fr.same s24)) (hB.same s24) (((tL (tT2 tRat tRat)) : Ty K (List (Rat × Rat))).sub (S := S) (H := H24) sub0 hv))
end
end G

namespace G
open PySem L2 M
section
variable {P : Program} {w : World} {K : PySem.W.Frag} {mg : Str → Option Value} {base : Heap}

def m_law (P : Bool → Prop) : Prop :=
  (lf (some true) fun law_good_1 => ((lf (bd (some (3 : Int)) rng1?)) fun xs24 => loopW (fun s_2 law_turn_2 K2 => ((slW (callBW (fun a => m_law_corners a.1) (tup2W (lf (some (4 : Int))) (lf (some ())))) (unW (fun i => some (some i)) (callBW drawW (lf (some (2 : Int))))) (lf (some none))) fun law_ones_3 => ((slW (callBW (fun a => m_law_corners a.1) (tup2W (lf (some (4 : Int))) (lf (some ())))) (unW (fun i => some (some i)) (callBW drawW (lf (some (2 : Int))))) (lf (some none))) fun law_others_4 => (jn (fun J5 => ((opW (fun x y => some (decide (y < x))) (callBW drawW (lf (some (3 : Int)))) (lf (some (0 : Int)))) fun c5 => if c5 then ((callBW drawW (lf (bd (some law_ones_3) fun x => some (x.length : Int)))) fun law_gone_6 => (lf (bd (bd (bd (some law_ones_3) fun x => some (x.length : Int)) fun x => bd (some (3 : Int)) fun y => some (decide (x < y))) fun x => if x then (bd (bd (some law_ones_3) fun x => bd (some (0 : Int)) fun y => atI x y) fun x => bd (bd (bd (some law_ones_3) fun x => bd (bd (some (1 : Int)) fun x => some (-x)) fun y => atI x y) fun x => bd (some []) fun y => some (x :: y)) fun y => some (x :: y)) else (bd (bd (some law_ones_3) fun xs => bd (some none) fun l => bd (bd (some law_gone_6) fun i => some (some i)) fun h => some (cutD xs l h)) fun x => bd (bd (some law_ones_3) fun xs => bd (bd (bd (some law_gone_6) fun x => bd (some (1 : Int)) fun y => some (x + y)) fun i => some (some i)) fun l => bd (some none) fun h => some (cutD xs l h)) fun y => cat? x y)) fun law_others_7 => J5 law_others_7)) else J5 law_others_4)) fun j8 => ((callBW anyW (consW (lf (bd (bd (some (0 : Int)) fun x => bd (some (1 : Int)) fun y => some (x, y)) p2r)) (consW (lf (bd (bd (some (1 : Int)) fun x => bd (some (2 : Int)) fun y => some (x, y)) p2r)) (consW (lf (bd (bd (some (3 : Int)) fun x => bd (some (1 : Int)) fun y => some (x, y)) p2r)) (consW (lf (bd (bd (some (9 : Int)) fun x => bd (some (1 : Int)) fun y => some (x, y)) p2r)) (consW (callBW (fun a => m_law_ratio a.1) (tup2W (lf (some (5 : Int))) (lf (some ())))) (lf (some [])))))))) fun law_room_9 => (jn (fun J10 => ((opW (fun x y => some (decide (x = y))) (callBW drawW (lf (some (3 : Int)))) (lf (some (0 : Int)))) fun c10 => if c10 then ((unW (fun a => m_apart a.1 a.2.1) (tup2W (callBW anyW (lf (some law_ones_3))) (tup2W (lf (some j8)) (lf (some ()))))) fun law_room_11 => J10 law_room_11) else J10 law_room_9)) fun j12 => (lf (bd (bd (bd (bd (some j12) fun x => some x.num) fun x => some ((x.natAbs : Nat) : Int)) fun x => bd (bd (some j12) fun x => some (x.den : Int)) fun y => some (x, y)) p2r) fun law_room_13 => (lf (bd (some law_ones_3) fun x => bd (bd (some j8) fun x => bd (some []) fun y => some (x :: y)) fun y => some (x :: y)) fun law_handed_14 => (lf (bd (bd (bd (some law_handed_14) fun x => bd (some (0 : Int)) fun y => atI x y) fun x => bd (bd (bd (some law_handed_14) fun x => bd (some (1 : Int)) fun y => atI x y) fun x => bd (bd (some law_room_13) fun x => bd (some ()) fun y => some (x, y)) fun y => some (x, y)) fun y => some (x, y)) fun a => m_bare a.1 a.2.1 a.2.2.1) fun law_told_15 => (lf (bd (some s_2) fun x => if x then (bd (some law_handed_14) fun x => bd (bd (some law_ones_3) fun x => bd (bd (some j8) fun x => bd (some []) fun y => some (x :: y)) fun y => some (x :: y)) fun y => some (decide (x = y))) else some false) fun law_good_16 => (jn (fun J17 => (optM law_told_15 (((callBW (fun a => m_law_spots_of a.1 a.2.1 a.2.2.1) (tup2W (lf (some law_ones_3)) (tup2W (lf (some j8)) (tup2W (lf (some law_room_13)) (lf (some ())))))) fun xs20 => loopW (fun s_18 law_spot_here_18 K18 => (lf (bd (some s_18) fun x => if x then (bd (bd (some law_spot_here_18) fun x => bd (bd (some j8) fun x => bd (bd (some law_room_13) fun x => bd (some ()) fun y => some (x, y)) fun y => some (x, y)) fun y => some (x, y)) fun a => m_law_reaches a.1 a.2.1 a.2.2.1) else some false) fun law_good_19 => K18 (Ct.go law_good_19))) xs20 law_good_16 fun r_18 => match r_18 with | .ret y => K2 (Ct.ret y) | .go t_18 => J17 t_18 | .brk _ => False)) fun law_told_17 => (lf (bd (some law_good_16) fun x => if x then (bd (bd (bd (some law_told_17) fun x => bd (some ()) fun y => some (x, y)) fun a => m_law_is_spot a.1) fun x => if x then (bd (bd (some law_told_17) fun x => bd (bd (some law_ones_3) fun x => bd (bd (bd (bd (some (0 : Int)) fun x => bd (some (1 : Int)) fun y => some (x, y)) p2r) fun x => bd (some ()) fun y => some (x, y)) fun y => some (x, y)) fun y => some (x, y)) fun a => m_law_reaches a.1 a.2.1 a.2.2.1) else some false) else some false) fun law_good_21 => (lf (bd (some law_good_21) fun x => if x then (bd (bd (bd (some law_told_17) fun x => bd (bd (some j8) fun x => bd (bd (some law_room_13) fun x => bd (some ()) fun y => some (x, y)) fun y => some (x, y)) fun y => some (x, y)) fun a => m_law_reaches a.1 a.2.1 a.2.2.1) fun x => some (!x)) else some false) fun law_good_22 => J17 law_good_22)))) fun j23 => K2 (Ct.go j23)))))))))))) xs24 law_good_1 fun r_2 => match r_2 with | .ret y => P y | .go t_2 => (lf (some t_2) P) | .brk _ => False))
end
end G

namespace G
open PySem L2 M
/-! ### ratios of bounded size -/
structure Bq (n : Nat) (q : Rat) : Prop where
  o : q.num.natAbs < 2 ^ n
  u : q.den < 2 ^ n
theorem pow_le {a b : Nat} (h : a ≤ b) : (2 : Nat) ^ a ≤ 2 ^ b := Nat.pow_le_pow_right (by decide) h
theorem Bq.le {a b : Nat} {q : Rat} (h : Bq a q) (l : a ≤ b) : Bq b q := ⟨Nat.lt_of_lt_of_le h.o (pow_le l), Nat.lt_of_lt_of_le h.u (pow_le l)⟩
theorem den_ne (q : Rat) : (q.den : Int) ≠ 0 := by have := q.den_nz; omega
theorem den_pos (q : Rat) : (0 : Int) < q.den := by have := q.den_nz; omega
theorem bq_divInt {n : Nat} {o u : Int} (h : u ≠ 0) (ho : o.natAbs < 2 ^ n) (hu : u.natAbs < 2 ^ n) : Bq n (Rat.divInt o u) := by
  have e := rat_rND (o := o) h
  refine ⟨?_, ?_⟩
  · rw [e.1]; exact Nat.lt_of_le_of_lt (rN_le h) ho
  · have := rD_le (o := o) h
    have := rD_pos (o := o) h
    omega
theorem nat_mul_lt {x y : Int} {n m : Nat} (hx : x.natAbs < 2 ^ n) (hy : y.natAbs < 2 ^ m) : (x * y).natAbs < 2 ^ (n + m) := wide_lt hx hy
theorem den_nat (q : Rat) : ((q.den : Int)).natAbs = q.den := by omega
theorem den_lt {n : Nat} {q : Rat} (h : Bq n q) : ((q.den : Int)).natAbs < 2 ^ n := by rw [den_nat]; exact h.u
theorem den_mul_ne (q r : Rat) : (q.den : Int) * (r.den : Int) ≠ 0 := Int.mul_ne_zero (den_ne q) (den_ne r)
theorem add_divInt (q r : Rat) : Rat.divInt (q.num * r.den + r.num * q.den) (q.den * r.den) = q + r := by
  have h := Rat.divInt_add_divInt q.num r.num (den_ne q) (den_ne r)
  rw [Rat.num_divInt_den, Rat.num_divInt_den] at h
  exact h.symm
theorem sub_divInt (q r : Rat) : Rat.divInt (q.num * r.den - r.num * q.den) (q.den * r.den) = q - r := by
  have h := add_divInt q (-r)
  rw [Rat.neg_num, Rat.neg_den] at h
  rw [Rat.sub_eq_add_neg, ← h]
  congr 1
  rw [Int.neg_mul, Int.sub_eq_add_neg]
theorem mul_divInt (q r : Rat) : Rat.divInt (q.num * r.num) (q.den * r.den) = q * r := by
  have h := Rat.divInt_mul_divInt q.num r.num (d₁ := q.den) (d₂ := r.den)
  rw [Rat.num_divInt_den, Rat.num_divInt_den] at h
  exact h.symm
theorem div_divInt (q r : Rat) : Rat.divInt (q.num * r.den) (q.den * r.num) = q / r := by
  rw [Rat.div_def, Rat.inv_def]
  have h := Rat.divInt_mul_divInt q.num (r.den : Int) (d₁ := q.den) (d₂ := r.num)
  rw [Rat.num_divInt_den] at h
  exact h.symm
theorem Bq.add {n m : Nat} {q r : Rat} (h : Bq n q) (h' : Bq m r) : Bq (n + m + 1) (q + r) := by
  rw [← add_divInt]
  have h1 := nat_mul_lt h.o (den_lt h')
  have h2 := nat_mul_lt h'.o (den_lt h)
  have h3 := nat_mul_lt (den_lt h) (den_lt h')
  rw [Nat.add_comm m n] at h2
  refine bq_divInt (den_mul_ne q r) ?_ ?_
  · rw [Nat.pow_succ]; omega
  · rw [Nat.pow_succ]; omega
theorem Bq.sub {n m : Nat} {q r : Rat} (h : Bq n q) (h' : Bq m r) : Bq (n + m + 1) (q - r) := by
  rw [← sub_divInt]
  have h1 := nat_mul_lt h.o (den_lt h')
  have h2 := nat_mul_lt h'.o (den_lt h)
  have h3 := nat_mul_lt (den_lt h) (den_lt h')
  rw [Nat.add_comm m n] at h2
  refine bq_divInt (den_mul_ne q r) ?_ ?_
  · rw [Nat.pow_succ]; omega
  · rw [Nat.pow_succ]; omega
theorem Bq.mul {n m : Nat} {q r : Rat} (h : Bq n q) (h' : Bq m r) : Bq (n + m) (q * r) := by
  rw [← mul_divInt]
  exact bq_divInt (den_mul_ne q r) (nat_mul_lt h.o h'.o) (nat_mul_lt (den_lt h) (den_lt h'))
theorem Bq.div {n m : Nat} {q r : Rat} (h : Bq n q) (h' : Bq m r) (hr : r ≠ 0) : Bq (n + m) (q / r) := by
  rw [← div_divInt]
  have hn : r.num ≠ 0 := by rw [Ne, Rat.num_eq_zero]; exact hr
  exact bq_divInt (Int.mul_ne_zero (den_ne q) hn) (nat_mul_lt h.o (den_lt h')) (nat_mul_lt (den_lt h) h'.o)
theorem mul?_g {x y : Int} {n m : Nat} (hx : x.natAbs < 2 ^ n) (hy : y.natAbs < 2 ^ m) (hl : n + m ≤ 900000) : mul? x y = some (x * y) := by
  unfold mul? mulP
  rw [if_pos]
  refine decide_eq_true ?_
  have lg : ∀ (z k : Nat), z < 2 ^ k → z.log2 ≤ k := fun z k h => by
    by_cases c : z = 0
    · subst c; simp
    · exact Nat.le_of_lt ((Nat.log2_lt c).mpr h)
  have := lg _ _ hx
  have := lg _ _ hy
  omega
theorem ratio?_eq {o u : Int} (h : u ≠ 0) (hu : u.natAbs < 2 ^ 9000) : ratio? o u = some (Rat.divInt o u) := by
  unfold ratio?
  rw [if_pos ⟨h, hu⟩]
theorem lt9g {x y : Int} {n m : Nat} (hx : x.natAbs < 2 ^ n) (hy : y.natAbs < 2 ^ m) (l : n + m ≤ 9000) : (x * y).natAbs < 2 ^ 9000 := Nat.lt_of_lt_of_le (nat_mul_lt hx hy) (pow_le l)
section
variable {q r : Rat} {n m : Nat}
theorem m_plus_g (h : Bq n q) (h' : Bq m r) (l : n + m ≤ 9000) : m_plus q r = some (q + r) := by
  simp only [m_plus, bd, Option.bind_some, mul?_g h.o (den_lt h') (by omega), mul?_g h'.o (den_lt h) (by omega), mul?_g (den_lt h) (den_lt h') (by omega)]
  rw [ratio?_eq (den_mul_ne q r) (lt9g (den_lt h) (den_lt h') l), add_divInt]
theorem m_minus_g (h : Bq n q) (h' : Bq m r) (l : n + m ≤ 9000) : m_minus q r = some (q - r) := by
  simp only [m_minus, bd, Option.bind_some, mul?_g h.o (den_lt h') (by omega), mul?_g h'.o (den_lt h) (by omega), mul?_g (den_lt h) (den_lt h') (by omega)]
  rw [ratio?_eq (den_mul_ne q r) (lt9g (den_lt h) (den_lt h') l), sub_divInt]
theorem m_times_g (h : Bq n q) (h' : Bq m r) (l : n + m ≤ 9000) : m_times q r = some (q * r) := by
  simp only [m_times, bd, Option.bind_some, mul?_g h.o h'.o (by omega), mul?_g (den_lt h) (den_lt h') (by omega)]
  rw [ratio?_eq (den_mul_ne q r) (lt9g (den_lt h) (den_lt h') l), mul_divInt]
theorem m_divided_g (h : Bq n q) (h' : Bq m r) (hr : r ≠ 0) (l : n + m ≤ 9000) : m_divided q r = some (q / r) := by
  have hn : r.num ≠ 0 := by rw [Ne, Rat.num_eq_zero]; exact hr
  simp only [m_divided, bd, Option.bind_some, mul?_g h.o (den_lt h') (by omega), mul?_g (den_lt h) h'.o (by omega)]
  rw [ratio?_eq (Int.mul_ne_zero (den_ne q) hn) (lt9g (den_lt h) h'.o l), div_divInt]
theorem m_law_sum_g (h : Bq n q) (h' : Bq m r) (l : n + m ≤ 9000) : m_law_sum q r = some (q + r) := m_plus_g h h' l
theorem m_law_dif_g (h : Bq n q) (h' : Bq m r) (l : n + m ≤ 9000) : m_law_dif q r = some (q - r) := m_minus_g h h' l
theorem m_law_prod_g (h : Bq n q) (h' : Bq m r) (l : n + m ≤ 9000) : m_law_prod q r = some (q * r) := m_times_g h h' l
theorem m_law_quo_g (h : Bq n q) (h' : Bq m r) (hr : r ≠ 0) (l : n + m ≤ 9000) : m_law_quo q r = some (q / r) := m_divided_g h h' hr l
end
def ordI (q r : Rat) : Int := if q < r then -1 else if r < q then 1 else 0
theorem gap_lt (q r : Rat) : q.num * r.den - r.num * q.den < 0 ↔ q < r := by rw [Rat.lt_iff]; omega
theorem gap_gt (q r : Rat) : 0 < q.num * r.den - r.num * q.den ↔ r < q := by rw [Rat.lt_iff]; omega
theorem gap_le (q r : Rat) : q.num * r.den - r.num * q.den ≤ 0 ↔ q ≤ r := by rw [Rat.le_iff]; omega
section
variable {q r : Rat} {n m : Nat}
theorem m_order_g (h : Bq n q) (h' : Bq m r) (l : n + m ≤ 900000) : m_order q r = some (ordI q r) := by
  simp only [m_order, bd, Option.bind_some, mul?_g h.o (den_lt h') l, mul?_g h'.o (den_lt h) (by omega), gap_lt, gap_gt, ordI]
  by_cases c : q < r
  · simp [c]
  · by_cases c' : r < q <;> simp [c, c']
end
theorem ord_lt (q r : Rat) : ordI q r < 0 ↔ q < r := by
  unfold ordI
  by_cases c : q < r
  · simp [c]
  · by_cases c' : r < q <;> simp [c, c']
theorem ord_gt (q r : Rat) : 0 < ordI q r ↔ r < q := by
  unfold ordI
  by_cases c : q < r
  · have : ¬ r < q := by grind
    simp [c, this]
  · by_cases c' : r < q <;> simp [c, c']
theorem ord_ge (q r : Rat) : 0 ≤ ordI q r ↔ r ≤ q := by
  have := ord_lt q r
  constructor
  · intro h
    have : ¬ q < r := fun z => by have := this.mpr z; omega
    grind
  · intro h
    have : ¬ ordI q r < 0 := fun z => by have := this.mp z; grind
    omega
theorem ord_le (q r : Rat) : ordI q r ≤ 0 ↔ q ≤ r := by
  have := ord_gt q r
  constructor
  · intro h
    have : ¬ r < q := fun z => by have := this.mpr z; omega
    grind
  · intro h
    have : ¬ 0 < ordI q r := fun z => by have := this.mp z; grind
    omega
def absR (q : Rat) : Rat := if q < 0 then -q else q
theorem Bq.neg {n : Nat} {q : Rat} (h : Bq n q) : Bq n (-q) := ⟨by rw [Rat.neg_num, Int.natAbs_neg]; exact h.o, by rw [Rat.neg_den]; exact h.u⟩
theorem Bq.abs {n : Nat} {q : Rat} (h : Bq n q) : Bq n (absR q) := by
  unfold absR
  split
  · exact h.neg
  · exact h
theorem abs_pair (q : Rat) : ((q.num.natAbs : Nat) : Int) = (absR q).num ∧ (q.den : Int) = ((absR q).den : Int) := by
  unfold absR
  split
  · rename_i h
    have : q.num < 0 := by rw [Rat.lt_iff] at h; simpa using h
    rw [Rat.neg_num, Rat.neg_den]
    omega
  · rename_i h
    have : ¬ q.num < 0 := by rw [Rat.lt_iff] at h; simpa using h
    omega
theorem p2r_abs (q : Rat) : p2r (((q.num.natAbs : Nat) : Int), (q.den : Int)) = some (absR q) := by
  rw [(abs_pair q).1, (abs_pair q).2, p2r_rat]
theorem m_size_eq (q : Rat) : m_size q = some (absR q) := by
  simp only [m_size, bd, Option.bind_some, p2r_abs]
section
variable {q r : Rat} {n m : Nat}
theorem m_law_comp_g (h : Bq n q) (h' : Bq m r) (l : n + m ≤ 900000) : m_law_comp q r = some (q.num * r.den - r.num * q.den) := by
  simp only [m_law_comp, bd, Option.bind_some, mul?_g h.o (den_lt h') l, mul?_g h'.o (den_lt h) (by omega)]
theorem m_lesser_g (h : Bq n q) (h' : Bq m r) (l : n + m ≤ 900000) : m_lesser q r = some (if q < r then q else r) := by
  simp only [m_lesser, bd, Option.bind_some, m_order_g h h' l, ord_lt]
  by_cases c : q < r <;> simp [c]
theorem m_greater_g (h : Bq n q) (h' : Bq m r) (l : n + m ≤ 900000) : m_greater q r = some (if r < q then q else r) := by
  simp only [m_greater, bd, Option.bind_some, m_order_g h h' l, ord_gt]
  by_cases c : r < q <;> simp [c]
end
end G

namespace G
open PySem L2 M
abbrev Spt := Rat × Rat
structure Bs (n : Nat) (s : Spt) : Prop where
  x : Bq n s.1
  y : Bq n s.2
theorem Bs.le {a b : Nat} {s : Spt} (h : Bs a s) (l : a ≤ b) : Bs b s := ⟨h.x.le l, h.y.le l⟩
theorem num_neg (q : Rat) : q.num < 0 ↔ q < 0 := by rw [Rat.lt_iff]; simp
theorem num_pos' (q : Rat) : 0 < q.num ↔ 0 < q := by rw [Rat.lt_iff]; simp
theorem num_nn (q : Rat) : 0 ≤ q.num ↔ 0 ≤ q := by rw [Rat.le_iff]; simp
theorem num_zero (q : Rat) : q.num = 0 ↔ q = 0 := Rat.num_eq_zero
/-! ### straight pieces -/
/-- from a (at 0) to b (at 1) -/
def ln (a b t : Rat) : Rat := a + t * (b - a)
theorem mul_pos_lt {m u v : Rat} (hm : 0 < m) (h : u < v) : m * u < m * v := by
  have : 0 < m * (v - u) := Rat.mul_pos hm (by grind)
  grind
theorem mul_nn_le {m u v : Rat} (hm : 0 ≤ m) (h : u ≤ v) : m * u ≤ m * v := by
  have : 0 ≤ m * (v - u) := Rat.mul_nonneg hm (by grind)
  grind
theorem lt_of_mul {m u v : Rat} (hm : 0 < m) (h : m * u < m * v) : u < v := by
  rcases (Rat.le_total : u ≤ v ∨ v ≤ u) with z | z
  · by_cases e : u = v
    · subst e; grind
    · grind
  · have := mul_nn_le (Rat.le_of_lt hm) z
    grind
/-- a straight function does not sink below both of its ends -/
theorem ln_min {a b u t v : Rat} (h1 : u ≤ t) (h2 : t ≤ v) : ln a b u ≤ ln a b t ∨ ln a b v ≤ ln a b t := by
  unfold ln
  rcases (Rat.le_total : 0 ≤ b - a ∨ b - a ≤ 0) with z | z
  · left
    have := mul_nn_le z h1
    grind
  · right
    have := mul_nn_le (show 0 ≤ -(b - a) by grind) h2
    grind
/-- where it has another sign at both ends a root lies between -/
theorem ln_root {a b u v : Rat} (h : u < v) (h1 : ln a b u < 0) (h2 : 0 < ln a b v) : a ≠ b ∧ u < a / (a - b) ∧ a / (a - b) < v := by
  unfold ln at h1 h2
  have ne : a ≠ b := fun e => by subst e; grind
  have hr : a / (a - b) * (a - b) = a := by
    have : a - b ≠ 0 := by grind
    grind
  generalize a / (a - b) = r at hr
  have m0 : 0 < b - a := by
    rcases (Rat.le_total : 0 ≤ b - a ∨ b - a ≤ 0) with z | z
    · by_cases e : b - a = 0
      · grind
      · grind
    · have := mul_nn_le (show 0 ≤ -(b - a) by grind) (Rat.le_of_lt h)
      grind
  refine ⟨ne, lt_of_mul m0 ?_, lt_of_mul m0 ?_⟩ <;> grind
theorem ln_neg (a b t : Rat) : ln (-a) (-b) t = - ln a b t := by unfold ln; grind
theorem ln_root' {a b u v : Rat} (h : u < v) (h1 : 0 < ln a b u) (h2 : ln a b v < 0) : a ≠ b ∧ u < a / (a - b) ∧ a / (a - b) < v := by
  have := ln_root (a := -a) (b := -b) h (by rw [ln_neg]; grind) (by rw [ln_neg]; grind)
  have e : -a / (-a - -b) = a / (a - b) := by
    have n1 : a - b ≠ 0 := fun z => this.1 (by grind)
    have n2 : -a - -b ≠ 0 := fun z => n1 (by grind)
    grind
  rw [e] at this
  exact ⟨fun z => this.1 (by grind), this.2⟩
theorem greatest_le (t : Rat) : ∀ C : List Rat, (∃ c ∈ C, c ≤ t) → ∃ u ∈ C, u ≤ t ∧ ∀ c ∈ C, c ≤ t → c ≤ u
  | [], ⟨c, h, _⟩ => by simp at h
  | x :: r, h => by
    by_cases ex : ∃ c ∈ r, c ≤ t
    · obtain ⟨u, hu, h1, h2⟩ := greatest_le t r ex
      by_cases c : x ≤ t ∧ u ≤ x
      · refine ⟨x, List.mem_cons_self .., c.1, fun z hz hzt => ?_⟩
        rcases List.mem_cons.mp hz with rfl | hz
        · exact Rat.le_refl
        · have := h2 z hz hzt
          grind
      · refine ⟨u, List.mem_cons_of_mem _ hu, h1, fun z hz hzt => ?_⟩
        rcases List.mem_cons.mp hz with rfl | hz
        · rcases (Rat.le_total : z ≤ u ∨ u ≤ z) with w | w
          · exact w
          · exact absurd ⟨hzt, w⟩ c
        · exact h2 z hz hzt
    · obtain ⟨c, hc, hct⟩ := h
      rcases List.mem_cons.mp hc with rfl | hc
      · refine ⟨c, List.mem_cons_self .., hct, fun z hz hzt => ?_⟩
        rcases List.mem_cons.mp hz with rfl | hz
        · exact Rat.le_refl
        · exact absurd ⟨z, hz, hzt⟩ ex
      · exact absurd ⟨c, hc, hct⟩ ex
theorem least_ge (t : Rat) (C : List Rat) (h : ∃ c ∈ C, t ≤ c) : ∃ u ∈ C, t ≤ u ∧ ∀ c ∈ C, t ≤ c → u ≤ c := by
  obtain ⟨c, hc, hct⟩ := h
  obtain ⟨u, hu, h1, h2⟩ := greatest_le (-t) (C.map fun x => -x) ⟨-c, List.mem_map_of_mem hc, by grind⟩
  obtain ⟨w, hw, rfl⟩ := List.mem_map.mp hu
  refine ⟨w, hw, by grind, fun z hz hzt => ?_⟩
  have := h2 (-z) (List.mem_map_of_mem hz) (by grind)
  grind
/-- the greater of both sizes -/
def gm (a b : Rat) : Rat := if absR b < absR a then absR a else absR b
theorem gm_ge (a b : Rat) : a ≤ gm a b ∧ -a ≤ gm a b ∧ b ≤ gm a b ∧ -b ≤ gm a b := by
  unfold gm absR
  grind
/-- the same sign, weakly -/
def ss (p q : Rat) : Prop := (0 ≤ p ∧ 0 ≤ q) ∨ (p ≤ 0 ∧ q ≤ 0)
theorem gm_one {xu yu xv yv : Rat} (h1 : ss xu xv) (h2 : ss yu yv) (h3 : ss (xu - yu) (xv - yv)) (h4 : ss (xu + yu) (xv + yv)) :
    (gm xu yu = xu ∧ gm xv yv = xv) ∨ (gm xu yu = -xu ∧ gm xv yv = -xv) ∨ (gm xu yu = yu ∧ gm xv yv = yv) ∨ (gm xu yu = -yu ∧ gm xv yv = -yv) := by
  unfold ss at *
  unfold gm absR
  rcases h1 with h1 | h1 <;> rcases h2 with h2 | h2 <;> rcases h3 with h3 | h3 <;> rcases h4 with h4 | h4 <;> grind
/-- the turns of the greater size along a piece -/
theorem turn_min {x0 x1 y0 y1 t : Rat} (h0 : 0 ≤ t) (h1 : t ≤ 1) (C : List Rat) (c0 : (0 : Rat) ∈ C) (c1 : (1 : Rat) ∈ C)
    (hr : ∀ p ∈ [(x0, x1), (y0, y1), (x0 - y0, x1 - y1), (x0 + y0, x1 + y1)], p.1 ≠ p.2 → 0 ≤ p.1 / (p.1 - p.2) → p.1 / (p.1 - p.2) ≤ 1 → p.1 / (p.1 - p.2) ∈ C) (hC : ∀ c ∈ C, 0 ≤ c ∧ c ≤ 1) :
    ∃ u ∈ C, gm (ln x0 x1 u) (ln y0 y1 u) ≤ gm (ln x0 x1 t) (ln y0 y1 t) := by
  obtain ⟨u, hu, ut, um⟩ := greatest_le t C ⟨0, c0, h0⟩
  obtain ⟨v, hv, tv, vm⟩ := least_ge t C ⟨1, c1, h1⟩
  have hu' := hC u hu
  have hv' := hC v hv
  by_cases eq : u = v
  · have : u = t := by grind
    subst this
    exact ⟨u, hu, Rat.le_refl⟩
  have uv : u < v := by grind
  have key : ∀ p ∈ [(x0, x1), (y0, y1), (x0 - y0, x1 - y1), (x0 + y0, x1 + y1)], ss (ln p.1 p.2 u) (ln p.1 p.2 v) := by
    intro p hp
    have bad : ¬ (p.1 ≠ p.2 ∧ u < p.1 / (p.1 - p.2) ∧ p.1 / (p.1 - p.2) < v) := by
      rintro ⟨n, z1, z2⟩
      have hm := hr p hp n (by grind) (by grind)
      rcases (Rat.le_total : p.1 / (p.1 - p.2) ≤ t ∨ t ≤ p.1 / (p.1 - p.2)) with w | w
      · have := um _ hm w
        grind
      · have := vm _ hm w
        grind
    unfold ss
    rcases (Rat.le_total : 0 ≤ ln p.1 p.2 u ∨ ln p.1 p.2 u ≤ 0) with a | a <;> rcases (Rat.le_total : 0 ≤ ln p.1 p.2 v ∨ ln p.1 p.2 v ≤ 0) with b | b
    · exact .inl ⟨a, b⟩
    · by_cases e1 : ln p.1 p.2 u = 0
      · exact .inr ⟨by grind, b⟩
      · by_cases e2 : ln p.1 p.2 v = 0
        · exact .inl ⟨a, by grind⟩
        · exact absurd (ln_root' uv (by grind) (by grind)) bad
    · by_cases e1 : ln p.1 p.2 u = 0
      · exact .inl ⟨by grind, b⟩
      · by_cases e2 : ln p.1 p.2 v = 0
        · exact .inr ⟨a, by grind⟩
        · exact absurd (ln_root uv (by grind) (by grind)) bad
    · exact .inr ⟨a, b⟩
  have k1 := key (x0, x1) (by simp)
  have k2 := key (y0, y1) (by simp)
  have k3 := key (x0 - y0, x1 - y1) (by simp)
  have k4 := key (x0 + y0, x1 + y1) (by simp)
  have e3 : ∀ z, ln (x0 - y0) (x1 - y1) z = ln x0 x1 z - ln y0 y1 z := fun z => by unfold ln; grind
  have e4 : ∀ z, ln (x0 + y0) (x1 + y1) z = ln x0 x1 z + ln y0 y1 z := fun z => by unfold ln; grind
  simp only [e3, e4] at k3 k4
  have gt := gm_ge (ln x0 x1 t) (ln y0 y1 t)
  have fin : ∀ B : Rat → Rat, (B u ≤ B t ∨ B v ≤ B t) → gm (ln x0 x1 u) (ln y0 y1 u) = B u → gm (ln x0 x1 v) (ln y0 y1 v) = B v → B t ≤ gm (ln x0 x1 t) (ln y0 y1 t) → ∃ u ∈ C, gm (ln x0 x1 u) (ln y0 y1 u) ≤ gm (ln x0 x1 t) (ln y0 y1 t) := by
    intro B hB e1 e2 e3
    rcases hB with w | w
    · exact ⟨u, hu, by rw [e1]; grind⟩
    · exact ⟨v, hv, by rw [e2]; grind⟩
  rcases gm_one k1 k2 k3 k4 with ⟨e1, e2⟩ | ⟨e1, e2⟩ | ⟨e1, e2⟩ | ⟨e1, e2⟩
  · exact fin (ln x0 x1) (ln_min ut tv) e1 e2 gt.1
  · exact fin (fun z => - ln x0 x1 z) (by have := ln_min (a := -x0) (b := -x1) ut tv; simpa only [ln_neg] using this) e1 e2 gt.2.1
  · exact fin (ln y0 y1) (ln_min ut tv) e1 e2 gt.2.2.1
  · exact fin (fun z => - ln y0 y1 z) (by have := ln_min (a := -y0) (b := -y1) ut tv; simpa only [ln_neg] using this) e1 e2 gt.2.2.2
end G

namespace G
open PySem L2 M
theorem gap_g {n m : Nat} {s p : Spt} (hs : Bs n s) (hp : Bs m p) (l : n + m ≤ 9000) : m_gap s p = some (gm (s.1 - p.1) (s.2 - p.2)) ∧ Bq (n + m + 1) (gm (s.1 - p.1) (s.2 - p.2)) := by
  have x := (hs.x.sub hp.x).abs
  have y := (hs.y.sub hp.y).abs
  constructor
  · simp only [m_gap, bd, Option.bind_some, m_minus_g hs.x hp.x l, m_minus_g hs.y hp.y l, m_size_eq, m_greater_g x y (by omega), gm]
  · unfold gm
    split <;> assumption
def onL (p q : Spt) (t : Rat) : Spt := (ln p.1 q.1 t, ln p.2 q.2 t)
theorem on_b {n m : Nat} {p q : Spt} {t : Rat} (hp : Bs n p) (hq : Bs n q) (ht : Bq m t) : Bs (n + (m + (n + n + 1)) + 1) (onL p q t) :=
  ⟨hp.x.add (ht.mul (hq.x.sub hp.x)), hp.y.add (ht.mul (hq.y.sub hp.y))⟩
theorem between_g {n m : Nat} {p q : Spt} {t : Rat} (hp : Bs n p) (hq : Bs n q) (ht : Bq m t) (l : m + 3 * n + 1 ≤ 9000) : m_between p q t = some (onL p q t) := by
  have x1 := hq.x.sub hp.x
  have y1 := hq.y.sub hp.y
  have x2 := ht.mul x1
  have y2 := ht.mul y1
  simp only [m_between, bd, Option.bind_some, m_minus_g hq.x hp.x (by omega), m_minus_g hq.y hp.y (by omega), m_times_g ht x1 (by omega), m_times_g ht y1 (by omega), m_plus_g hp.x x2 (by omega), m_plus_g hp.y y2 (by omega), onL, ln]
theorem law_on_g {n m : Nat} {p q : Spt} {t : Rat} (hp : Bs n p) (hq : Bs n q) (ht : Bq m t) (l : m + 3 * n + 1 ≤ 9000) : m_law_on p q t = some (onL p q t) := by
  have x1 := hq.x.sub hp.x
  have y1 := hq.y.sub hp.y
  have x2 := ht.mul x1
  have y2 := ht.mul y1
  simp only [m_law_on, bd, Option.bind_some, m_law_dif_g hq.x hp.x (by omega), m_law_dif_g hq.y hp.y (by omega), m_law_prod_g ht x1 (by omega), m_law_prod_g ht y1 (by omega), m_law_sum_g hp.x x2 (by omega), m_law_sum_g hp.y y2 (by omega), onL, ln]
/-! ### the turns -/
def prs (s : Spt) (p : Spt × Spt) : List (Rat × Rat) := [(p.1.1 - s.1, p.2.1 - s.1), (p.1.2 - s.2, p.2.2 - s.2), ((p.1.1 - s.1) - (p.1.2 - s.2), (p.2.1 - s.1) - (p.2.2 - s.2)), ((p.1.1 - s.1) + (p.1.2 - s.2), (p.2.1 - s.1) + (p.2.2 - s.2))]
def rt (p : Rat × Rat) : List Rat := if p.1 = p.2 then [] else [p.1 / (p.1 - p.2)]
def trn (s : Spt) (p : Spt × Spt) : List Rat := ([0, 1] ++ (prs s p).flatMap rt).filter fun t => decide (0 ≤ t) && decide (t ≤ 1)
theorem bq01 : Bq 1 (0 : Rat) ∧ Bq 1 (1 : Rat) := ⟨⟨by decide, by decide⟩, ⟨by decide, by decide⟩⟩
theorem prs_b {s : Spt} {p : Spt × Spt} (hs : Bs 77 s) (h1 : Bs 77 p.1) (h2 : Bs 77 p.2) : ∀ z ∈ prs s p, Bq 311 z.1 ∧ Bq 311 z.2 := by
  have a1 := h1.x.sub hs.x
  have a2 := h2.x.sub hs.x
  have b1 := h1.y.sub hs.y
  have b2 := h2.y.sub hs.y
  intro z hz
  unfold prs at hz
  simp only [List.mem_cons, List.not_mem_nil, or_false] at hz
  rcases hz with rfl | rfl | rfl | rfl
  · exact ⟨a1.le (by decide), a2.le (by decide)⟩
  · exact ⟨b1.le (by decide), b2.le (by decide)⟩
  · exact ⟨(a1.sub b1).le (by decide), (a2.sub b2).le (by decide)⟩
  · exact ⟨(a1.add b1).le (by decide), (a2.add b2).le (by decide)⟩
theorem rt_b {s : Spt} {p : Spt × Spt} (hs : Bs 77 s) (h1 : Bs 77 p.1) (h2 : Bs 77 p.2) : ∀ t ∈ [0, 1] ++ (prs s p).flatMap rt, Bq 934 t := by
  intro t ht
  rcases List.mem_append.mp ht with ht | ht
  · simp only [List.mem_cons, List.not_mem_nil, or_false] at ht
    rcases ht with rfl | rfl
    · exact bq01.1.le (by decide)
    · exact bq01.2.le (by decide)
  · obtain ⟨z, hz, h⟩ := List.mem_flatMap.mp ht
    have b := prs_b hs h1 h2 z hz
    unfold rt at h
    by_cases c : z.1 = z.2
    · rw [if_pos c] at h; simp at h
    · rw [if_neg c, List.mem_singleton] at h
      subst h
      exact (b.1.div (b.1.sub b.2) (by grind)).le (by decide)
theorem turns_g {s : Spt} {p : Spt × Spt} (hs : Bs 77 s) (h1 : Bs 77 p.1) (h2 : Bs 77 p.2) : m_turns s p = some (trn s p) := by
  have a1 := h1.x.sub hs.x
  have a2 := h2.x.sub hs.x
  have b1 := h1.y.sub hs.y
  have b2 := h2.y.sub hs.y
  have w0 : ∀ (A B : Rat), atI [A, B] 0 = some A := fun _ _ => rfl
  have w1 : ∀ (A B : Rat), atI [A, B] 1 = some B := fun _ _ => rfl
  have mp : ∀ (f : Spt → Option Rat) (u v : Rat), f p.1 = some u → f p.2 = some v → mapL? f [p.1, p.2] = some [u, v] := fun f u v e1 e2 => by
    unfold mapL?
    rw [if_pos (by simp)]
    simp [mapO, e1, e2]
  simp only [m_turns, bd, Option.bind_some]
  rw [mp _ _ _ (m_minus_g h1.x hs.x (by decide)) (m_minus_g h2.x hs.x (by decide)), Option.bind_some, mp _ _ _ (m_minus_g h1.y hs.y (by decide)) (m_minus_g h2.y hs.y (by decide)), Option.bind_some]
  simp only [w0, w1, Option.bind_some, m_minus_g a1 b1 (by decide), m_minus_g a2 b2 (by decide), m_plus_g a1 b1 (by decide), m_plus_g a2 b2 (by decide)]
  rw [show mapO two? [[p.1.1 - s.1, p.2.1 - s.1], [p.1.2 - s.2, p.2.2 - s.2], [p.1.1 - s.1 - (p.1.2 - s.2), p.2.1 - s.1 - (p.2.2 - s.2)], [p.1.1 - s.1 + (p.1.2 - s.2), p.2.1 - s.1 + (p.2.2 - s.2)]] = some (prs s p) from rfl, Option.bind_some]
  rw [loopC_app (g := rt) (M := 1000) (c := 1) (prs s p) [0, 1] ?_ (by simp [prs])]
  rotate_left
  · intro z hz
    have b := prs_b hs h1 h2 z hz
    refine ⟨by unfold rt; split <;> simp, fun acc hacc => ?_⟩
    unfold rt
    by_cases c : z.1 = z.2
    · simp only [c, decide_true, Bool.not_true, Bool.false_eq_true, if_false, Option.bind_some, if_true, List.append_nil]
    · have d := b.1.sub b.2
      simp only [c, decide_false, Bool.not_false, if_true, if_false, m_minus_g b.1 b.2 (by decide), Option.bind_some, m_divided_g b.1 d (by grind) (by decide), app_eq _ (show acc.length < 100000 by omega)]
  rw [Option.bind_some]
  dsimp only
  rw [fil_gen (p := fun t => decide (0 ≤ t) && decide (t ≤ 1))]
  · rfl
  · have := flatMap_len (g := rt) (c := 1) (prs s p) (fun z _ => by unfold rt; split <;> simp)
    have e : (prs s p).length = 4 := rfl
    rw [List.length_append]
    simp only [List.length_cons, List.length_nil]
    omega
  · intro t ht
    have b := rt_b hs h1 h2 t ht
    simp only [m_order_g b bq01.1 (by decide), m_order_g b bq01.2 (by decide), Option.bind_some, ord_ge, ord_le]
    by_cases c : 0 ≤ t <;> simp [c]
theorem trn_mem {s : Spt} {p : Spt × Spt} : (0 : Rat) ∈ trn s p ∧ (1 : Rat) ∈ trn s p ∧ (∀ c ∈ trn s p, 0 ≤ c ∧ c ≤ 1) ∧ ∀ z ∈ prs s p, z.1 ≠ z.2 → 0 ≤ z.1 / (z.1 - z.2) → z.1 / (z.1 - z.2) ≤ 1 → z.1 / (z.1 - z.2) ∈ trn s p := by
  unfold trn
  refine ⟨List.mem_filter.mpr ⟨by simp, by decide⟩, List.mem_filter.mpr ⟨by simp, by decide⟩, fun c hc => ?_, fun z hz n g1 g2 => ?_⟩
  · have := (List.mem_filter.mp hc).2
    simpa using this
  · refine List.mem_filter.mpr ⟨List.mem_append.mpr (.inr (List.mem_flatMap.mpr ⟨z, hz, ?_⟩)), by simp [g1, g2]⟩
    unfold rt
    rw [if_neg n]
    simp
/-- how far a spot is from the point t of a piece -/
def gp (s : Spt) (p : Spt × Spt) (t : Rat) : Rat := gm (s.1 - ln p.1.1 p.2.1 t) (s.2 - ln p.1.2 p.2.2 t)
theorem gm_neg (a b : Rat) : gm (-a) (-b) = gm a b := by
  unfold gm absR
  grind
theorem gp_ln (s : Spt) (p : Spt × Spt) (t : Rat) : gp s p t = gm (ln (p.1.1 - s.1) (p.2.1 - s.1) t) (ln (p.1.2 - s.2) (p.2.2 - s.2) t) := by
  unfold gp
  rw [← gm_neg]
  congr 1 <;> (unfold ln; grind)
theorem gp_min {s : Spt} {p : Spt × Spt} {t : Rat} (h0 : 0 ≤ t) (h1 : t ≤ 1) : ∃ u ∈ trn s p, gp s p u ≤ gp s p t := by
  obtain ⟨m0, m1, m2, m3⟩ := trn_mem (s := s) (p := p)
  obtain ⟨u, hu, h⟩ := turn_min (x0 := p.1.1 - s.1) (x1 := p.2.1 - s.1) (y0 := p.1.2 - s.2) (y1 := p.2.2 - s.2) h0 h1 (trn s p) m0 m1 m3 m2
  exact ⟨u, hu, by rw [gp_ln, gp_ln]; exact h⟩
/-! ### the least along all pieces -/
def lpc : List Spt → List (Spt × Spt)
  | [] => []
  | [p] => [(p, p)]
  | p :: q :: r => (List.range (q :: r).length).map fun i => ((p :: q :: r).getD i p, (p :: q :: r).getD (i + 1) p)
def minL (a : Rat) : List Rat → Rat
  | [] => a
  | x :: r => minL (if a < x then a else x) r
theorem minL_le : ∀ (xs : List Rat) (a : Rat), minL a xs ≤ a ∧ ∀ x ∈ xs, minL a xs ≤ x
  | [], a => ⟨Rat.le_refl, fun x h => by simp at h⟩
  | x :: r, a => by
    have h := minL_le r (if a < x then a else x)
    unfold minL
    refine ⟨by split at h <;> grind, fun z hz => ?_⟩
    rcases List.mem_cons.mp hz with rfl | hz
    · split at h <;> grind
    · exact h.2 z hz
theorem minL_mem : ∀ (xs : List Rat) (a : Rat), minL a xs = a ∨ minL a xs ∈ xs
  | [], a => .inl rfl
  | x :: r, a => by
    unfold minL
    rcases minL_mem r (if a < x then a else x) with h | h
    · by_cases c : a < x
      · rw [if_pos c] at h ⊢
        exact .inl h
      · rw [if_neg c] at h ⊢
        exact .inr (by rw [h]; exact List.mem_cons_self ..)
    · exact .inr (List.mem_cons_of_mem _ h)
theorem minL_app : ∀ (xs ys : List Rat) (a : Rat), minL a (xs ++ ys) = minL (minL a xs) ys
  | [], _, _ => rfl
  | x :: r, ys, a => by
    show minL _ (r ++ ys) = _
    rw [minL_app r ys]
    rfl
theorem minL_b {n : Nat} : ∀ (xs : List Rat) (a : Rat), Bq n a → (∀ x ∈ xs, Bq n x) → Bq n (minL a xs)
  | [], a, h, _ => h
  | x :: r, a, h, hx => by
    unfold minL
    refine minL_b r _ ?_ fun y hy => hx y (List.mem_cons_of_mem _ hy)
    split
    · exact h
    · exact hx x (List.mem_cons_self ..)
theorem gp_b {s : Spt} {p : Spt × Spt} {t : Rat} (hs : Bs 77 s) (h1 : Bs 77 p.1) (h2 : Bs 77 p.2) (ht : Bq 934 t) : m_between p.1 p.2 t = some (onL p.1 p.2 t) ∧ m_gap s (onL p.1 p.2 t) = some (gp s p t) ∧ Bq 1245 (gp s p t) := by
  have o := (on_b h1 h2 ht).le (show _ ≤ 1167 by decide)
  obtain ⟨g1, g2⟩ := gap_g hs o (by decide)
  exact ⟨between_g h1 h2 ht (by decide), g1, g2.le (by decide)⟩
theorem loop_min {f : Rat → Rat → Option (Ct Rat Rat)} {g : Rat → Rat} : ∀ (xs : List Rat) (a : Rat), Bq 1245 a → (∀ x ∈ xs, Bq 1245 (g x) ∧ ∀ a, Bq 1245 a → f a x = some (.go (if a < g x then a else g x))) → loopC f xs a = some (.go (minL a (xs.map g)))
  | [], a, _, _ => rfl
  | x :: r, a, ha, h => by
    have hx := h x (List.mem_cons_self ..)
    unfold loopC
    rw [hx.2 a ha, Option.bind_some]
    refine loop_min r _ ?_ fun y hy => h y (List.mem_cons_of_mem _ hy)
    split
    · exact ha
    · exact hx.1
end G

namespace G
open PySem L2 M
theorem mul?_eq {x y : Int} (hx : x.natAbs < 2 ^ 4000) (hy : y.natAbs < 2 ^ 4000) : mul? x y = some (x * y) := mul?_g hx hy (by decide)
theorem m_law_sum_eq {q r : Rat} (h : Bq 4000 q) (h' : Bq 4000 r) : m_law_sum q r = some (q + r) := m_law_sum_g h h' (by decide)
theorem p2r_int (t : Int) : p2r (t, 1) = some (t : Rat) := by
  have h := p2r_rat (t : Rat)
  simpa using h
theorem bq_int {t : Int} {n : Nat} (hn : 0 < n) (h : t.natAbs < 2 ^ n) : Bq n (t : Rat) := ⟨by simpa using h, by
  show 1 < 2 ^ n
  exact Nat.one_lt_two_pow (by omega)⟩
theorem half_p2r : p2r (1, 2) = some (Rat.divInt 1 2) := by decide +kernel
theorem ratio_sp {reach : Int} (h0 : 0 ≤ reach) (h1 : reach ≤ 30) {P : Rat → Prop} (h : ∀ q, Bq 12 q → P q) : m_law_ratio reach P := by
  simp only [m_law_ratio, callBW, bd, Option.bind_some, lf_some, anyW]
  refine ⟨by simp, by decide, fun low hl => ?_⟩
  have hl' : 1 ≤ low ∧ low ≤ 60 := by
    simp only [List.mem_cons, List.not_mem_nil, or_false] at hl
    omega
  have hm : (reach * low).natAbs ≤ 1800 := by
    rw [Int.natAbs_mul]
    exact Nat.mul_le_mul (show reach.natAbs ≤ 30 by omega) (show low.natAbs ≤ 60 by omega)
  have hp : 0 ≤ reach * low := Int.mul_nonneg h0 (by omega)
  have p1 : (4 : Nat) ^ 30 ≤ 2 ^ 4000 := by
    rw [show (4 : Nat) ^ 30 = 2 ^ 60 by decide]
    exact pow_le (by decide)
  have b : ∀ x : Int, x.natAbs ≤ 1000000000 → x.natAbs < 2 ^ 4000 := fun x hx => Nat.lt_of_le_of_lt hx (Nat.lt_of_lt_of_le (by decide) p1)
  rw [mul?_eq (b reach (by omega)) (b low (by omega)), lf_some]
  generalize hroom : reach * low = room at hm hp
  simp only [unW, tup2W, opW, callBW, mul?_eq (b 2 (by decide)) (b room (by omega)), bd, Option.bind_some, lf_some, drawW]
  refine ⟨by omega, by omega, fun r r0 r1 => ?_⟩
  rw [ratio?_eq (by omega) (Nat.lt_of_lt_of_le (b low (by omega)) (pow_le (by decide))), lf_some]
  refine h _ (bq_divInt (by omega) ?_ ?_)
  · have : (2 : Nat) ^ 12 = 4096 := by decide
    omega
  · have : (2 : Nat) ^ 12 = 4096 := by decide
    omega
theorem spot_sp {reach : Int} (h0 : 0 ≤ reach) (h1 : reach ≤ 30) {P : Spt → Prop} (h : ∀ z, Bs 12 z → P z) : m_law_spot reach P := by
  simp only [m_law_spot, callBW, tup2W, lf_some]
  exact ratio_sp h0 h1 fun q hq => ratio_sp h0 h1 fun r hr => h _ ⟨hq, hr⟩
theorem corners_sp {n : Int} (n0 : 0 < n) (n1 : n ≤ 4) {P : List Spt → Prop} (h : ∀ row, row.length ≤ 5 → 2 ≤ row.length → (∀ z ∈ row, Bs 77 z) → P row) : m_law_corners n P := by
  have pz : p2r (0, 1) = some ((0 : Int) : Rat) := p2r_int 0
  have pm : p2r (0 - 1, 1) = some ((0 - 1 : Int) : Rat) := p2r_int (0 - 1)
  have p1 : p2r (1, 1) = some ((1 : Int) : Rat) := p2r_int 1
  simp only [m_law_corners, callBW, opW, unW, lf_some, drawW]
  refine ⟨by omega, by omega, fun r r0 r1 => ?_⟩
  simp only [rng1_eq (b := 2 + r) (by omega), lf_some]
  refine loopW_ix (fun i row => row.length = i ∧ ∀ z ∈ row, Bs (13 * i + 12) z) _ 0 [] ⟨rfl, fun z hz => by simp at hz⟩ (fun i row x C _ hi ⟨hl, hz⟩ _ hC => ?_) (fun row ⟨hl, hz⟩ => ?_)
  rotate_left
  · rw [rng_len] at hl
    refine h row (by omega) (by omega) fun z hz' => (hz z hz').le ?_
    rw [rng_len]
    omega
  rw [rng_len] at hi
  simp only [tup2W, lf_some]
  refine spot_sp (by decide) (by decide) fun z0 hz0 => ?_
  have z0' : Bs (13 * (i + 1) + 12) z0 := hz0.le (by omega)
  refine jn_of (fun z => Bs (13 * (i + 1) + 12) z) (fun J hJ => ?_) (fun z hz1 => ?_)
  · simp only [andW, opW, callBW, drawW, bd, Option.bind_some, lf_some]
    by_cases c : row = []
    · simp only [c, decide_true, Bool.not_true, Bool.false_eq_true, if_false]
      exact hJ z0 z0'
    · simp only [c, decide_false, Bool.not_false, if_true]
      refine ⟨by decide, by decide, fun r _ _ => ?_⟩
      by_cases c2 : 0 < r
      · simp only [c2, decide_true, if_true]
        obtain ⟨la, e1, m1⟩ := last_at c
        have bl := hz la m1
        simp only [unW, tup2W, e1, Option.bind_some, lf_some, callBW, pz, pm, p1, half_p2r]
        refine ratio_sp (reach := 4) (by decide) (by decide) fun q hq => ?_
        rw [m_law_sum_eq (bl.x.le (by omega)) (hq.le (by decide)), lf_some]
        simp only [anyW]
        refine ⟨by simp, by decide, fun w hw => ?_⟩
        have hw' : Bq 2 w := by
          simp only [List.mem_cons, List.not_mem_nil, or_false] at hw
          rcases hw with rfl | rfl | rfl | rfl
          · exact ⟨by decide, by decide⟩
          · exact ⟨by decide +kernel, by decide +kernel⟩
          · exact ⟨by decide, by decide⟩
          · exact ⟨by decide, by decide⟩
        rw [m_law_sum_eq (bl.y.le (by omega)) (hw'.le (by decide)), lf_some]
        exact hJ _ ⟨(bl.x.add hq).le (by omega), (bl.y.add hw').le (by omega)⟩
      · simp only [c2, decide_false, Bool.false_eq_true, if_false]
        exact hJ z0 z0'
  · refine jn_of (fun z => Bs (13 * (i + 1) + 12) z) (fun J hJ => ?_) (fun z hz1 => ?_)
    · simp only [andW, opW, callBW, drawW, bd, Option.bind_some, lf_some]
      by_cases c : row = []
      · simp only [c, decide_true, Bool.not_true, Bool.false_eq_true, if_false]
        exact hJ z hz1
      · simp only [c, decide_false, Bool.not_false, if_true]
        refine ⟨by decide, by decide, fun r _ _ => ?_⟩
        by_cases c2 : r = 0
        · simp only [c2, decide_true, if_true, anyW]
          exact ⟨c, by omega, fun w hw => hJ w ((hz w hw).le (by omega))⟩
        · simp only [c2, decide_false, Bool.false_eq_true, if_false]
          exact hJ z hz1
    · unfold app?
      rw [if_pos (by omega), lf_some]
      refine hC _ ⟨by simp [hl], fun y hy => ?_⟩
      rcases List.mem_append.mp hy with hy | hy
      · exact (hz y hy).le (by omega)
      · rw [List.mem_singleton.mp hy]
        exact hz1
/-! ### apart -/
def pt (ps : List Spt) (k : Int) : Spt := ps.getD k.toNat (0, 0)
def pcs (ps : List Spt) : List (Spt × Spt) := if ps.length = 1 then [(pt ps 0, pt ps 0)] else (rngL 1 (ps.length - 1)).map fun k => (pt ps (k - 1), pt ps k)
theorem pt_at {ps : List Spt} {k : Int} (h0 : 0 ≤ k) (h : k < ps.length) : atI ps k = some (pt ps k) := at_get _ h0 h
theorem pt_mem {ps : List Spt} {k : Int} (h0 : 0 ≤ k) (h : k < ps.length) : pt ps k ∈ ps := by
  unfold pt
  rw [List.getD_eq_getElem?_getD, List.getElem?_eq_getElem (by omega)]
  exact List.getElem_mem _
structure Pl (ps : List Spt) : Prop where
  l0 : 1 ≤ ps.length
  l1 : ps.length ≤ 6
  b : ∀ z ∈ ps, Bs 77 z
theorem pieces_g {ps : List Spt} (h : Pl ps) : m_pieces_of ps = some (pcs ps) := by
  have l0 := h.l0
  have l1 := h.l1
  simp only [m_pieces_of, bd, Option.bind_some]
  unfold pcs
  by_cases c : ps.length = 1
  · have c' : (ps.length : Int) = 1 := by omega
    simp only [c, c', decide_true, if_true, pt_at (ps := ps) (k := 0) (by omega) (by omega), Option.bind_some]
    rfl
  · have c' : (ps.length : Int) ≠ 1 := by omega
    simp only [c, c', decide_false, Bool.false_eq_true, if_false]
    rw [rng2_eq (by omega) (by omega), Option.bind_some, mapL_eq (g := fun k => (pt ps (k - 1), pt ps k))]
    · rw [show ((ps.length : Int) - 1).toNat = ps.length - 1 by omega]
    · rw [rng_len]; omega
    · intro k hk
      have := rng_mem hk
      rw [pt_at (by omega) (by omega), pt_at (by omega) (by omega)]
      rfl
theorem pcs_mem {ps : List Spt} (h : Pl ps) {p : Spt × Spt} (hp : p ∈ pcs ps) : ∃ k : Int, 0 ≤ k ∧ k < ps.length ∧ p = (pt ps (max 0 (k - 1)), pt ps k) := by
  have l0 := h.l0
  unfold pcs at hp
  split at hp
  · rename_i c
    refine ⟨0, by omega, by omega, ?_⟩
    rw [List.mem_singleton.mp hp]
    rfl
  · obtain ⟨k, hk, rfl⟩ := List.mem_map.mp hp
    have := rng_mem hk
    exact ⟨k, by omega, by omega, by rw [show max 0 (k - 1) = k - 1 by omega]⟩
theorem pcs_in {ps : List Spt} (h : Pl ps) {p : Spt × Spt} (hp : p ∈ pcs ps) : Bs 77 p.1 ∧ Bs 77 p.2 := by
  obtain ⟨k, h0, h1, rfl⟩ := pcs_mem h hp
  exact ⟨h.b _ (pt_mem (by omega) (by omega)), h.b _ (pt_mem h0 h1)⟩
def apR (s : Spt) (ps : List Spt) : Rat := minL (gm (s.1 - (pt ps 0).1) (s.2 - (pt ps 0).2)) ((pcs ps).flatMap fun p => (trn s p).map (gp s p))
theorem loop_minO {f : Rat → Spt × Spt → Option (Ct Rat Rat)} {G : Spt × Spt → List Rat} : ∀ (xs : List (Spt × Spt)) (a : Rat), Bq 1245 a → (∀ p ∈ xs, (∀ x ∈ G p, Bq 1245 x) ∧ ∀ a, Bq 1245 a → f a p = some (.go (minL a (G p)))) → loopC f xs a = some (.go (minL a (xs.flatMap G)))
  | [], a, _, _ => rfl
  | x :: r, a, ha, h => by
    have hx := h x (List.mem_cons_self ..)
    unfold loopC
    rw [hx.2 a ha, Option.bind_some, List.flatMap_cons, minL_app]
    exact loop_minO r _ (minL_b _ _ ha hx.1) fun y hy => h y (List.mem_cons_of_mem _ hy)
theorem gp_bm {s : Spt} {p : Spt × Spt} (hs : Bs 77 s) (h1 : Bs 77 p.1) (h2 : Bs 77 p.2) : ∀ x ∈ (trn s p).map (gp s p), Bq 1245 x := by
  intro x hx
  obtain ⟨t, ht, rfl⟩ := List.mem_map.mp hx
  exact (gp_b hs h1 h2 (rt_b hs h1 h2 t (List.mem_filter.mp ht).1)).2.2
theorem apart_g {s : Spt} {ps : List Spt} (hs : Bs 77 s) (h : Pl ps) : m_apart s ps = some (apR s ps) ∧ Bq 1245 (apR s ps) := by
  have l0 := h.l0
  have b0 := h.b _ (pt_mem (ps := ps) (k := 0) (by omega) (by omega))
  obtain ⟨g1, g2⟩ := gap_g hs b0 (by decide)
  have g3 := g2.le (show _ ≤ 1245 by decide)
  constructor
  · simp only [m_apart, bd, Option.bind_some, pt_at (ps := ps) (k := 0) (by omega) (by omega), g1, pieces_g h]
    rw [loop_minO (G := fun p => (trn s p).map (gp s p)) _ _ g3]
    · rfl
    · intro p hp
      obtain ⟨h1, h2⟩ := pcs_in h hp
      refine ⟨gp_bm hs h1 h2, fun a ha => ?_⟩
      rw [turns_g hs h1 h2, Option.bind_some]
      rw [loop_min (g := gp s p) _ _ ha fun t ht => ?_]
      · rfl
      · have tb : Bq 934 t := rt_b hs h1 h2 t (List.mem_filter.mp ht).1
        obtain ⟨e1, e2, e3⟩ := gp_b hs h1 h2 tb
        refine ⟨e3, fun a ha => ?_⟩
        simp only [e1, Option.bind_some, e2, m_lesser_g ha e3 (by decide)]
  · refine minL_b _ _ g3 fun x hx => ?_
    obtain ⟨p, hp, hx⟩ := List.mem_flatMap.mp hx
    obtain ⟨h1, h2⟩ := pcs_in h hp
    exact gp_bm hs h1 h2 x hx
theorem ap_le {s : Spt} {ps : List Spt} {p : Spt × Spt} (hp : p ∈ pcs ps) {t : Rat} (h0 : 0 ≤ t) (h1 : t ≤ 1) : apR s ps ≤ gp s p t := by
  obtain ⟨u, hu, h⟩ := gp_min (s := s) (p := p) h0 h1
  have := (minL_le ((pcs ps).flatMap fun p => (trn s p).map (gp s p)) (gm (s.1 - (pt ps 0).1) (s.2 - (pt ps 0).2))).2 (gp s p u) (List.mem_flatMap.mpr ⟨p, hp, List.mem_map_of_mem hu⟩)
  exact Rat.le_trans this h
/-- the piece that the law looks at in turn k -/
def lk (ps : List Spt) (k : Int) : Spt × Spt := (pt ps (max 0 (k - 1)), pt ps k)
theorem ap_at {s : Spt} {ps : List Spt} (h : Pl ps) : ∃ k : Int, 0 ≤ k ∧ k < ps.length ∧ ∃ t : Rat, 0 ≤ t ∧ t ≤ 1 ∧ gp s (lk ps k) t = apR s ps := by
  have l0 := h.l0
  rcases minL_mem ((pcs ps).flatMap fun p => (trn s p).map (gp s p)) (gm (s.1 - (pt ps 0).1) (s.2 - (pt ps 0).2)) with e | e
  · refine ⟨0, by omega, by omega, 0, by decide, by decide, ?_⟩
    unfold apR
    rw [e]
    unfold gp lk ln
    simp
    congr 1 <;> grind
  · obtain ⟨p, hp, e⟩ := List.mem_flatMap.mp e
    obtain ⟨t, ht, e⟩ := List.mem_map.mp e
    obtain ⟨k, h0, h1, rfl⟩ := pcs_mem h hp
    have := trn_mem.2.2.1 t ht
    exact ⟨k, h0, h1, t, this.1, this.2, e⟩
theorem lk_pcs {ps : List Spt} (h : Pl ps) {k : Int} (h0 : 0 ≤ k) (h1 : k < ps.length) {s : Spt} {t : Rat} (t0 : 0 ≤ t) (t1 : t ≤ 1) : apR s ps ≤ gp s (lk ps k) t := by
  have l0 := h.l0
  by_cases c : 1 ≤ k
  · refine ap_le (p := lk ps k) ?_ t0 t1
    unfold pcs lk
    rw [if_neg (by omega)]
    exact List.mem_map.mpr ⟨k, rng_memI (by omega), by rw [show max 0 (k - 1) = k - 1 by omega]⟩
  · have : k = 0 := by omega
    subst this
    have e : gp s (lk ps 0) t = gm (s.1 - (pt ps 0).1) (s.2 - (pt ps 0).2) := by
      unfold gp lk ln
      simp
      congr 1 <;> grind
    rw [e]
    exact (minL_le _ _).1
theorem gm_nn (a b : Rat) : 0 ≤ gm a b := by
  unfold gm absR
  grind
theorem ap_nn {s : Spt} {ps : List Spt} (h : Pl ps) : 0 ≤ apR s ps := by
  obtain ⟨k, _, _, t, _, _, e⟩ := ap_at (s := s) h
  rw [← e]
  exact gm_nn _ _
end G

namespace G
open PySem L2 M
theorem le_of_mul {m u v : Rat} (hm : 0 < m) (h : m * u ≤ m * v) : u ≤ v := by
  rcases (Rat.le_total : u ≤ v ∨ v ≤ u) with z | z
  · exact z
  · by_cases e : u = v
    · subst e; exact z
    · have := mul_pos_lt hm (show v < u by grind)
      grind
theorem div_pos_iff {f v t : Rat} (hf : 0 < f) : (v ≤ t * f ↔ v / f ≤ t) ∧ (t * f ≤ v ↔ t ≤ v / f) := by
  have e : v / f * f = v := by grind
  generalize v / f = d at e
  subst e
  refine ⟨⟨fun h => le_of_mul hf (by grind), fun h => ?_⟩, ⟨fun h => le_of_mul hf (by grind), fun h => ?_⟩⟩
  · have := mul_nn_le (Rat.le_of_lt hf) h
    grind
  · have := mul_nn_le (Rat.le_of_lt hf) h
    grind
theorem div_neg_iff {f v t : Rat} (hf : f < 0) : (v ≤ t * f ↔ t ≤ v / f) ∧ (t * f ≤ v ↔ v / f ≤ t) := by
  have h := div_pos_iff (f := -f) (v := -v) (t := t) (by grind)
  have e : -v / -f = v / f := by grind
  rw [e] at h
  refine ⟨⟨fun z => h.2.mp (by grind), fun z => ?_⟩, ⟨fun z => h.1.mp (by grind), fun z => ?_⟩⟩
  · have := h.2.mpr z
    grind
  · have := h.1.mpr z
    grind
/-- what a span tells -/
structure SpanOk (N : Nat) (a b st fr lo hi : Rat) (o : Option (Rat × Rat)) : Prop where
  no : o = none → ∀ t, a ≤ t → t ≤ b → ¬ (lo ≤ st + t * fr ∧ st + t * fr ≤ hi)
  yes : ∀ z, o = some z → z.1 ≤ z.2 ∧ Bq N z.1 ∧ Bq N z.2 ∧ ∀ t, (z.1 ≤ t ∧ t ≤ z.2) ↔ (a ≤ t ∧ t ≤ b ∧ lo ≤ st + t * fr ∧ st + t * fr ≤ hi)
theorem span_mk {N : Nat} {a b st fr lo hi A B X Y : Rat} (bX : Bq N X) (bY : Bq N Y) (eX : ∀ t, X ≤ t ↔ a ≤ t ∧ A ≤ t) (eY : ∀ t, t ≤ Y ↔ t ≤ b ∧ t ≤ B) (h : ∀ t, (lo ≤ st + t * fr ∧ st + t * fr ≤ hi) ↔ (A ≤ t ∧ t ≤ B)) :
    SpanOk N a b st fr lo hi (if X ≤ Y then some (X, Y) else none) := by
  by_cases c : X ≤ Y
  · rw [if_pos c]
    refine ⟨fun e => (by cases e), fun z e => ?_⟩
    cases e
    refine ⟨c, bX, bY, fun t => ?_⟩
    have h1 := eX t
    have h2 := eY t
    have h3 := h t
    dsimp only
    constructor
    · intro w
      have w1 := h1.mp w.1
      have w2 := h2.mp w.2
      have w3 := h3.mpr ⟨w1.2, w2.2⟩
      exact ⟨w1.1, w2.1, w3.1, w3.2⟩
    · intro w
      have w3 := h3.mp ⟨w.2.2.1, w.2.2.2⟩
      exact ⟨h1.mpr ⟨w.1, w3.1⟩, h2.mpr ⟨w.2.1, w3.2⟩⟩
  · rw [if_neg c]
    refine ⟨fun _ t h1 h2 h3 => ?_, fun z e => (by cases e)⟩
    have w3 := (h t).mp h3
    have w1 := (eX t).mpr ⟨h1, w3.1⟩
    have w2 := (eY t).mpr ⟨h2, w3.2⟩
    exact c (Rat.le_trans w1 w2)
theorem span_flat {N : Nat} {a b st lo hi : Rat} (ha : Bq N a) (hb : Bq N b) (hab : a ≤ b) : SpanOk N a b st 0 lo hi (if lo ≤ st ∧ st ≤ hi then some (a, b) else none) := by
  by_cases c : lo ≤ st ∧ st ≤ hi
  · rw [if_pos c]
    refine ⟨fun e => (by cases e), fun z e => ?_⟩
    cases e
    refine ⟨hab, ha, hb, fun t => ?_⟩
    constructor
    · intro w
      exact ⟨w.1, w.2, by grind, by grind⟩
    · exact fun w => ⟨w.1, w.2.1⟩
  · rw [if_neg c]
    exact ⟨fun _ t _ _ w => c (by grind), fun z e => (by cases e)⟩
theorem way_iff {st fr lo hi : Rat} (c : fr ≠ 0) : (fr < 0 → ∀ t, (lo ≤ st + t * fr ∧ st + t * fr ≤ hi) ↔ ((hi - st) / fr ≤ t ∧ t ≤ (lo - st) / fr)) ∧ (0 < fr → ∀ t, (lo ≤ st + t * fr ∧ st + t * fr ≤ hi) ↔ ((lo - st) / fr ≤ t ∧ t ≤ (hi - st) / fr)) := by
  constructor
  · intro d t
    have h1 := (div_neg_iff (v := lo - st) (t := t) d).1
    have h2 := (div_neg_iff (v := hi - st) (t := t) d).2
    rw [← h1, ← h2]
    constructor
    · intro w
      grind
    · intro w
      grind
  · intro d t
    have h1 := (div_pos_iff (v := lo - st) (t := t) d).1
    have h2 := (div_pos_iff (v := hi - st) (t := t) d).2
    rw [← h1, ← h2]
    constructor
    · intro w
      grind
    · intro w
      grind
theorem span_g {N m k j : Nat} {a b st fr lo hi : Rat} (ha : Bq N a) (hb : Bq N b) (hab : a ≤ b) (hst : Bq k st) (hfr : Bq j fr) (hlo : Bq m lo) (hhi : Bq m hi) (l1 : m + k + 1 + j ≤ N) (l2 : N ≤ 9000) : ∃ o, m_law_span (some (a, b)) st fr lo hi = some o ∧ SpanOk N a b st fr lo hi o := by
  simp only [m_law_span, optM, bd, Option.bind_some, num_zero, m_law_comp_g hlo hst (by omega), m_law_comp_g hst hhi (by omega), gap_le]
  by_cases c : fr = 0
  · subst c
    simp only [decide_true, if_true]
    refine ⟨_, ?_, span_flat ha hb hab⟩
    by_cases c1 : lo ≤ st <;> by_cases c2 : st ≤ hi <;> simp [c1, c2]
  · have d1 := hlo.sub hst
    have d2 := hhi.sub hst
    have a1 := (d1.div hfr c).le l1
    have a2 := (d2.div hfr c).le l1
    have w0 : ∀ (A B : Rat), atI [A, B] 0 = some A := fun _ _ => rfl
    have w1 : ∀ (A B : Rat), atI [A, B] 1 = some B := fun _ _ => rfl
    have fin : ∀ A B : Rat, Bq N A → Bq N B → (∀ t, (lo ≤ st + t * fr ∧ st + t * fr ≤ hi) ↔ (A ≤ t ∧ t ≤ B)) →
        ∃ o, (((m_law_comp a A).bind fun x => some (decide (x < 0))).bind fun x => if x = true then some A else some a).bind (fun law_first_8 => (((m_law_comp B b).bind fun x => some (decide (x < 0))).bind fun x => if x = true then some B else some b).bind fun law_last_9 => ((m_law_comp law_first_8 law_last_9).bind fun x => some (decide (x ≤ 0))).bind fun x => if x = true then some (some (law_first_8, law_last_9)) else some none) = some o ∧ SpanOk N a b st fr lo hi o := by
      intro A B bA bB hh
      have bf : Bq N (if a < A then A else a) := by split <;> assumption
      have bl : Bq N (if B < b then B else b) := by split <;> assumption
      refine ⟨_, ?_, span_mk bf bl (fun t => ?_) (fun t => ?_) hh⟩
      · simp only [m_law_comp_g ha bA (by omega), m_law_comp_g bB hb (by omega), Option.bind_some, gap_lt]
        have e1 : (if decide (a < A) = true then some A else some a) = some (if a < A then A else a) := by by_cases z : a < A <;> simp [z]
        have e2 : (if decide (B < b) = true then some B else some b) = some (if B < b then B else b) := by by_cases z : B < b <;> simp [z]
        rw [e1, Option.bind_some, e2, Option.bind_some, m_law_comp_g bf bl (by omega), Option.bind_some, Option.bind_some]
        simp only [gap_le]
        generalize (if a < A then A else a) = X
        generalize (if B < b then B else b) = Y
        by_cases z : X ≤ Y <;> simp [z]
      · constructor
        · intro w
          split at w <;> grind
        · intro w
          split <;> grind
      · constructor
        · intro w
          split at w <;> grind
        · intro w
          split <;> grind
    simp only [c, decide_false, if_false, Bool.false_eq_true, m_law_dif_g hlo hst (by omega), m_law_dif_g hhi hst (by omega), Option.bind_some, m_law_quo_g d1 hfr c (by omega), m_law_quo_g d2 hfr c (by omega), num_neg]
    by_cases d : fr < 0
    · simp only [d, decide_true, if_true, Option.bind_some, List.reverse_cons, List.reverse_nil, List.nil_append, List.cons_append, w0, w1]
      exact fin _ _ a2 a1 ((way_iff c).1 d)
    · simp only [d, decide_false, if_false, Bool.false_eq_true, Option.bind_some, w0, w1]
      exact fin _ _ a1 a2 ((way_iff c).2 (by grind))
theorem narrowed_g {N m k j : Nat} {a b st en lo hi : Rat} (ha : Bq N a) (hb : Bq N b) (hab : a ≤ b) (hst : Bq k st) (hen : Bq k en) (hlo : Bq m lo) (hhi : Bq m hi) (hlh : lo ≤ hi) (hj : k + k + 1 ≤ j) (l1 : m + k + 1 + j ≤ N) (l2 : N ≤ 9000) : ∃ o, m_narrowed (some (a, b)) st en lo hi = some o ∧ SpanOk N a b st (en - st) lo hi o := by
  have hfr : Bq j (en - st) := (hen.sub hst).le hj
  simp only [m_narrowed, optM, bd, Option.bind_some, m_minus_g hen hst (by omega), m_order_g hlo hst (by omega), m_order_g hst hhi (by omega), ord_le]
  by_cases c : en - st = 0
  · simp only [c, decide_true, if_true]
    refine ⟨_, ?_, span_flat ha hb hab⟩
    by_cases c1 : lo ≤ st <;> by_cases c2 : st ≤ hi <;> simp [c1, c2]
  · have d1 := hlo.sub hst
    have d2 := hhi.sub hst
    have a1 := (d1.div hfr c).le l1
    have a2 := (d2.div hfr c).le l1
    have w0 : ∀ (A B : Rat), atI [A, B] 0 = some A := fun _ _ => rfl
    have w1 : ∀ (A B : Rat), atI [A, B] 1 = some B := fun _ _ => rfl
    simp only [c, decide_false, if_false, Bool.false_eq_true, m_minus_g hlo hst (by omega), m_minus_g hhi hst (by omega), Option.bind_some, m_divided_g d1 hfr c (by omega), m_divided_g d2 hfr c (by omega), w0, w1, m_lesser_g a1 a2 (by omega), m_greater_g a1 a2 (by omega)]
    generalize es0 : (lo - st) / (en - st) = s0 at *
    generalize es1 : (hi - st) / (en - st) = s1 at *
    have bA : Bq N (if s0 < s1 then s0 else s1) := by split <;> assumption
    have bB : Bq N (if s1 < s0 then s0 else s1) := by split <;> assumption
    have hAB : ∀ t, (lo ≤ st + t * (en - st) ∧ st + t * (en - st) ≤ hi) ↔ ((if s0 < s1 then s0 else s1) ≤ t ∧ t ≤ (if s1 < s0 then s0 else s1)) := by
      intro t
      have m0 : s0 * (en - st) = lo - st := by rw [← es0]; grind
      have m1 : s1 * (en - st) = hi - st := by rw [← es1]; grind
      by_cases d : en - st < 0
      · have h := (way_iff (st := st) (lo := lo) (hi := hi) c).1 d t
        rw [es0, es1] at h
        rw [h]
        have n : ¬ s0 < s1 := fun z => by
          have := mul_pos_lt (m := -(en - st)) (by grind) z
          grind
        rw [if_neg n]
        by_cases q : s1 < s0
        · rw [if_pos q]
        · have : s0 = s1 := by grind
          rw [if_neg q, this]
      · have h := (way_iff (st := st) (lo := lo) (hi := hi) c).2 (by grind) t
        rw [es0, es1] at h
        rw [h]
        have n : ¬ s1 < s0 := fun z => by
          have := mul_pos_lt (m := en - st) (by grind) z
          grind
        rw [if_neg n]
        by_cases q : s0 < s1
        · rw [if_pos q]
        · have : s0 = s1 := by grind
          rw [if_neg q, this]
    generalize (if s0 < s1 then s0 else s1) = A at *
    generalize (if s1 < s0 then s0 else s1) = B at *
    have bX : Bq N (if A < a then a else A) := by split <;> assumption
    have bY : Bq N (if b < B then b else B) := by split <;> assumption
    simp only [m_greater_g ha bA (by omega), m_lesser_g hb bB (by omega), Option.bind_some, m_order_g bX bY (by omega), ord_le]
    refine ⟨_, ?_, span_mk (A := A) (B := B) bX bY (fun t => ?_) (fun t => ?_) hAB⟩
    · generalize (if A < a then a else A) = X
      generalize (if b < B then b else B) = Y
      by_cases z : X ≤ Y <;> simp [z]
    · constructor
      · intro w
        split at w <;> grind
      · intro w
        split <;> grind
    · constructor
      · intro w
        split at w <;> grind
      · intro w
        split <;> grind
theorem clip_g {N m : Nat} {p q lo hi : Spt} (hp : Bs 77 p) (hq : Bs 77 q) (hl : Bs m lo) (hh : Bs m hi) (l1 : m + 233 ≤ N) (l2 : N ≤ 9000) : ∃ o, m_law_clip p q lo hi = some o ∧ (o.isSome = true ↔ ∃ t : Rat, 0 ≤ t ∧ t ≤ 1 ∧ (lo.1 ≤ ln p.1 q.1 t ∧ ln p.1 q.1 t ≤ hi.1) ∧ lo.2 ≤ ln p.2 q.2 t ∧ ln p.2 q.2 t ≤ hi.2) ∧ ∀ z, o = some z → Bq N z.1 ∧ Bq N z.2 ∧ 0 ≤ z.1 ∧ z.1 ≤ 1 ∧ 0 ≤ z.2 ∧ z.2 ≤ 1 := by
  have z0 : p2r (0, 1) = some (0 : Rat) := by decide +kernel
  have z1 : p2r (1, 1) = some (1 : Rat) := by decide +kernel
  have r2 : rng1? (2 : Int) = some [0, 1] := by decide
  have A : ∀ s : Spt, at2 s 0 = some s.1 := fun _ => rfl
  have B : ∀ s : Spt, at2 s 1 = some s.2 := fun _ => rfl
  obtain ⟨o1, e1, k1⟩ := span_g (N := N) (bq01.1.le (by omega)) (bq01.2.le (by omega)) (by decide) hp.x (hq.x.sub hp.x) hl.x hh.x (by omega) l2
  simp only [m_law_clip, bd, Option.bind_some, z0, z1, r2, loopC, A, B, m_law_dif_g hq.x hp.x (by decide), m_law_dif_g hq.y hp.y (by decide), e1]
  cases o1 with
  | none =>
    refine ⟨none, rfl, ⟨fun h => (by cases h), fun ⟨t, t0, t1, h1, _⟩ => absurd h1 (k1.no rfl t t0 t1)⟩, fun z h => (by cases h)⟩
  | some z =>
    obtain ⟨y1, y2, y3, y4⟩ := k1.yes z rfl
    obtain ⟨o2, e2, k2⟩ := span_g (N := N) (a := z.1) (b := z.2) y2 y3 y1 hp.y (hq.y.sub hp.y) hl.y hh.y (by omega) l2
    rw [show (z.1, z.2) = z from rfl] at e2
    rw [e2]
    refine ⟨o2, rfl, ?_, ?_⟩
    · cases o2 with
      | none =>
        refine ⟨fun h => (by cases h), fun ⟨t, t0, t1, h1, h2⟩ => ?_⟩
        have := (y4 t).mpr ⟨t0, t1, h1.1, h1.2⟩
        exact absurd h2 (k2.no rfl t this.1 this.2)
      | some w =>
        obtain ⟨x1, x2, x3, x4⟩ := k2.yes w rfl
        refine ⟨fun _ => ?_, fun _ => rfl⟩
        have h1 := (x4 w.1).mp ⟨Rat.le_refl, x1⟩
        have h2 := (y4 w.1).mp ⟨h1.1, h1.2.1⟩
        exact ⟨w.1, h2.1, h2.2.1, ⟨h2.2.2.1, h2.2.2.2⟩, h1.2.2⟩
    · intro w hw
      obtain ⟨x1, x2, x3, x4⟩ := k2.yes w hw
      have h1 := (x4 w.1).mp ⟨Rat.le_refl, x1⟩
      have h2 := (y4 w.1).mp ⟨h1.1, h1.2.1⟩
      have h3 := (x4 w.2).mp ⟨x1, Rat.le_refl⟩
      have h4 := (y4 w.2).mp ⟨h3.1, h3.2.1⟩
      exact ⟨x2, x3, h2.1, h2.2.1, h4.1, h4.2.1⟩
theorem loopC_ex {α : Type} {f : Unit → α → Option (Ct Bool Unit)} {Pk : α → Prop} : ∀ xs : List α, (∀ x ∈ xs, ∃ k : Bool, f () x = some (if k then .ret true else .go ()) ∧ (k = true ↔ Pk x)) → ∃ k : Bool, loopC f xs () = some (if k then .ret true else .go ()) ∧ (k = true ↔ ∃ x ∈ xs, Pk x)
  | [], _ => ⟨false, rfl, by simp⟩
  | x :: r, h => by
    obtain ⟨k, e, hk⟩ := h x (List.mem_cons_self ..)
    obtain ⟨k', e', hk'⟩ := loopC_ex r fun y hy => h y (List.mem_cons_of_mem _ hy)
    unfold loopC
    rw [e, Option.bind_some]
    cases k with
    | true => exact ⟨true, rfl, ⟨fun _ => ⟨x, List.mem_cons_self .., hk.mp rfl⟩, fun _ => rfl⟩⟩
    | false =>
      refine ⟨k', e', ?_⟩
      rw [hk']
      constructor
      · rintro ⟨y, hy, hp⟩
        exact ⟨y, List.mem_cons_of_mem _ hy, hp⟩
      · rintro ⟨y, hy, hp⟩
        rcases List.mem_cons.mp hy with rfl | hy
        · have := hk.mpr hp
          cases this
        · exact ⟨y, hy, hp⟩
theorem gm_le {a b r : Rat} : gm a b ≤ r ↔ (a ≤ r ∧ -a ≤ r) ∧ b ≤ r ∧ -b ≤ r := by
  unfold gm absR
  constructor
  · intro h
    grind
  · intro h
    grind
theorem reaches_g {s : Spt} {ps : List Spt} {room : Rat} (hs : Bs 7082 s) (h : Pl ps) (hr : Bq 1245 room) : ∃ k : Bool, m_law_reaches s ps room = some k ∧ (k = true ↔ ∃ i : Int, 0 ≤ i ∧ i < ps.length ∧ ∃ t : Rat, 0 ≤ t ∧ t ≤ 1 ∧ gp s (lk ps i) t ≤ room) := by
  have l0 := h.l0
  have l1 := h.l1
  have bl : Bs 8328 (s.1 - room, s.2 - room) := ⟨(hs.x.sub hr).le (by decide), (hs.y.sub hr).le (by decide)⟩
  have bh : Bs 8328 (s.1 + room, s.2 + room) := ⟨(hs.x.add hr).le (by decide), (hs.y.add hr).le (by decide)⟩
  simp only [m_law_reaches, bd, Option.bind_some, m_law_dif_g hs.x hr (by decide), m_law_dif_g hs.y hr (by decide), m_law_sum_g hs.x hr (by decide), m_law_sum_g hs.y hr (by decide)]
  rw [rng1_eq (by omega), Option.bind_some, Int.toNat_natCast]
  have key := loopC_ex (f := fun s_3 law_k_3 => (atI ps (max 0 (law_k_3 - 1))).bind fun law_one_4 => (((((atI ps law_k_3).bind fun x => some (x, (s.1 - room, s.2 - room), (s.1 + room, s.2 + room), ())).bind fun y => some (law_one_4, y)).bind fun a => m_law_clip a.1 a.2.1 a.2.2.1 a.2.2.2.1).bind fun x => some x.isSome).bind fun c5 => if c5 = true then some (Ct.ret true) else some (Ct.go ())) (Pk := fun i => ∃ t : Rat, 0 ≤ t ∧ t ≤ 1 ∧ gp s (lk ps i) t ≤ room) (rngL 0 ps.length) ?_
  · obtain ⟨k, e, hk⟩ := key
    rw [e]
    refine ⟨k, by cases k <;> rfl, ?_⟩
    rw [hk]
    constructor
    · rintro ⟨i, hi, w⟩
      have := rng_mem hi
      exact ⟨i, by omega, by omega, w⟩
    · rintro ⟨i, i0, i1, w⟩
      exact ⟨i, rng_memI (by omega), w⟩
  · intro i hi
    have hi := rng_mem hi
    rw [pt_at (by omega) (by omega), Option.bind_some, pt_at (k := i) (by omega) (by omega)]
    simp only [Option.bind_some]
    obtain ⟨o, eo, ho, _⟩ := clip_g (N := 8700) (h.b _ (pt_mem (k := max 0 (i - 1)) (by omega) (by omega))) (h.b _ (pt_mem (k := i) (by omega) (by omega))) bl bh (by decide) (by decide)
    rw [eo]
    simp only [Option.bind_some]
    refine ⟨o.isSome, by cases o <;> rfl, ?_⟩
    rw [ho]
    constructor
    · rintro ⟨t, t0, t1, w1, w2⟩
      refine ⟨t, t0, t1, ?_⟩
      unfold gp lk
      rw [gm_le]
      dsimp only at w1 w2 ⊢
      grind
    · rintro ⟨t, t0, t1, w⟩
      unfold gp lk at w
      rw [gm_le] at w
      refine ⟨t, t0, t1, ?_⟩
      dsimp only at w ⊢
      grind
theorem is_ratio_g {q : Rat} (h : Bq 8900 q) : m_law_is_ratio q = some true := by
  have hd := den_pos q
  have e : ratio? q.num (q.den : Int) = some q := by
    rw [ratio?_eq (den_ne q) (Nat.lt_of_lt_of_le (den_lt h) (pow_le (by decide))), Rat.num_divInt_den]
  have hn := q.den_nz
  simp [m_law_is_ratio, bd, e, hd, hn]
end G

namespace G
open PySem L2 M
/-! ### what lies within r of a piece -/
theorem helly {l1 l2 h1 h2 : Rat} (a : 0 ≤ h1) (b : 0 ≤ h2) (c : l1 ≤ 1) (d : l2 ≤ 1) (e : l1 ≤ h1) (f : l2 ≤ h2) (g : l1 ≤ h2) (h : l2 ≤ h1) : ∃ s, 0 ≤ s ∧ s ≤ 1 ∧ l1 ≤ s ∧ l2 ≤ s ∧ s ≤ h1 ∧ s ≤ h2 := by
  have o : (0 : Rat) ≤ 1 := by decide
  rcases (Rat.le_total : l1 ≤ l2 ∨ l2 ≤ l1) with x | x
  · rcases (Rat.le_total : l2 ≤ 0 ∨ 0 ≤ l2) with y | y
    · exact ⟨0, Rat.le_refl, o, Rat.le_trans x y, y, a, b⟩
    · exact ⟨l2, y, d, x, Rat.le_refl, h, f⟩
  · rcases (Rat.le_total : l1 ≤ 0 ∨ 0 ≤ l1) with y | y
    · exact ⟨0, Rat.le_refl, o, y, Rat.le_trans x y, a, b⟩
    · exact ⟨l1, y, c, Rat.le_refl, x, e, g⟩
theorem hex0 {u v dx dy r : Rat} (hr : 0 ≤ r) (hx : 0 ≤ dx) (hy : 0 ≤ dy) : (∃ s, 0 ≤ s ∧ s ≤ 1 ∧ (-r ≤ u - s * dx ∧ u - s * dx ≤ r) ∧ (-r ≤ v - s * dy ∧ v - s * dy ≤ r)) ↔ (-r ≤ u ∧ u ≤ dx + r) ∧ (-r ≤ v ∧ v ≤ dy + r) ∧ (-(r * (dx + dy)) ≤ dx * v - dy * u ∧ dx * v - dy * u ≤ r * (dx + dy)) := by
  constructor
  · rintro ⟨s, s0, s1, ⟨a, b⟩, c, d⟩
    have p1 := mul_nn_le hx s0
    have p2 := mul_nn_le hx s1
    have q1 := mul_nn_le hy s0
    have q2 := mul_nn_le hy s1
    have a1 := mul_nn_le hx c
    have a2 := mul_nn_le hx d
    have b1 := mul_nn_le hy a
    have b2 := mul_nn_le hy b
    refine ⟨⟨?_, ?_⟩, ⟨?_, ?_⟩, ?_, ?_⟩ <;> grind
  · rintro ⟨⟨a, b⟩, ⟨c, d⟩, e, f⟩
    by_cases zx : dx = 0
    · subst zx
      by_cases zy : dy = 0
      · subst zy
        exact ⟨0, by decide, by decide, ⟨by grind, by grind⟩, by grind, by grind⟩
      · have py : 0 < dy := by grind
        have k : (v - r) / dy * dy = v - r := by grind
        have k2 : (v + r) / dy * dy = v + r := by grind
        generalize (v - r) / dy = l at k
        generalize (v + r) / dy = h at k2
        obtain ⟨s, s0, s1, s2, _, s3, _⟩ := helly (l1 := l) (l2 := l) (h1 := h) (h2 := h) (le_of_mul py (by grind)) (le_of_mul py (by grind)) (le_of_mul py (by grind)) (le_of_mul py (by grind)) (le_of_mul py (by grind)) (le_of_mul py (by grind)) (le_of_mul py (by grind)) (le_of_mul py (by grind))
        have m1 := mul_nn_le hy s2
        have m2 := mul_nn_le hy s3
        exact ⟨s, s0, s1, ⟨by grind, by grind⟩, by grind, by grind⟩
    · have px : 0 < dx := by grind
      have k : (u - r) / dx * dx = u - r := by grind
      have k2 : (u + r) / dx * dx = u + r := by grind
      generalize (u - r) / dx = l at k
      generalize (u + r) / dx = h at k2
      by_cases zy : dy = 0
      · subst zy
        obtain ⟨s, s0, s1, s2, _, s3, _⟩ := helly (l1 := l) (l2 := l) (h1 := h) (h2 := h) (le_of_mul px (by grind)) (le_of_mul px (by grind)) (le_of_mul px (by grind)) (le_of_mul px (by grind)) (le_of_mul px (by grind)) (le_of_mul px (by grind)) (le_of_mul px (by grind)) (le_of_mul px (by grind))
        have m1 := mul_nn_le hx s2
        have m2 := mul_nn_le hx s3
        exact ⟨s, s0, s1, ⟨by grind, by grind⟩, by grind, by grind⟩
      · have py : 0 < dy := by grind
        have j : (v - r) / dy * dy = v - r := by grind
        have j2 : (v + r) / dy * dy = v + r := by grind
        generalize (v - r) / dy = l' at j
        generalize (v + r) / dy = h' at j2
        have pp : 0 < dx * dy := Rat.mul_pos px py
        obtain ⟨s, s0, s1, s2, s3, s4, s5⟩ := helly (l1 := l) (l2 := l') (h1 := h) (h2 := h') (le_of_mul px (by grind)) (le_of_mul py (by grind)) (le_of_mul px (by grind)) (le_of_mul py (by grind)) (le_of_mul px (by grind)) (le_of_mul py (by grind))
          (le_of_mul pp (by
            have e1 : dx * dy * l = dy * (u - r) := by rw [← k]; grind
            have e2 : dx * dy * h' = dx * (v + r) := by rw [← j2]; grind
            rw [e1, e2]
            grind))
          (le_of_mul pp (by
            have e1 : dx * dy * l' = dx * (v - r) := by rw [← j]; grind
            have e2 : dx * dy * h = dy * (u + r) := by rw [← k2]; grind
            rw [e1, e2]
            grind))
        have m1 := mul_nn_le hx s2
        have m2 := mul_nn_le hx s4
        have m3 := mul_nn_le hy s3
        have m4 := mul_nn_le hy s5
        exact ⟨s, s0, s1, ⟨by grind, by grind⟩, by grind, by grind⟩
def mn (a b : Rat) : Rat := if a < b then a else b
def mx (a b : Rat) : Rat := if b < a then a else b
/-- a spot lies within r of a piece just where it lies in the box and near the line -/
theorem hexagon {P : Spt} {o : Spt × Spt} {r : Rat} (hr : 0 ≤ r) : (∃ s : Rat, 0 ≤ s ∧ s ≤ 1 ∧ gp P o s ≤ r) ↔ (mn o.1.1 o.2.1 - r ≤ P.1 ∧ P.1 ≤ mx o.1.1 o.2.1 + r) ∧ (mn o.1.2 o.2.2 - r ≤ P.2 ∧ P.2 ≤ mx o.1.2 o.2.2 + r) ∧
    (-(r * (absR (o.2.1 - o.1.1) + absR (o.2.2 - o.1.2))) ≤ (o.2.1 - o.1.1) * (P.2 - o.1.2) - (o.2.2 - o.1.2) * (P.1 - o.1.1) ∧ (o.2.1 - o.1.1) * (P.2 - o.1.2) - (o.2.2 - o.1.2) * (P.1 - o.1.1) ≤ r * (absR (o.2.1 - o.1.1) + absR (o.2.2 - o.1.2))) := by
  obtain ⟨⟨a1, a2⟩, b1, b2⟩ := o
  obtain ⟨p1, p2⟩ := P
  dsimp only
  have e : ∀ s : Rat, gp (p1, p2) ((a1, a2), (b1, b2)) s ≤ r ↔ (-r ≤ (p1 - a1) - s * (b1 - a1) ∧ (p1 - a1) - s * (b1 - a1) ≤ r) ∧ (-r ≤ (p2 - a2) - s * (b2 - a2) ∧ (p2 - a2) - s * (b2 - a2) ≤ r) := fun s => by
    unfold gp
    rw [gm_le]
    dsimp only
    unfold ln
    constructor
    · intro h
      refine ⟨⟨?_, ?_⟩, ?_, ?_⟩ <;> grind
    · intro h
      refine ⟨⟨?_, ?_⟩, ?_, ?_⟩ <;> grind
  simp only [e]
  rcases (Rat.le_total : 0 ≤ b1 - a1 ∨ b1 - a1 ≤ 0) with x | x
  · have ax : absR (b1 - a1) = b1 - a1 := by unfold absR; grind
    have nx : mn a1 b1 = a1 := by unfold mn; grind
    have mx1 : mx a1 b1 = b1 := by unfold mx; grind
    rcases (Rat.le_total : 0 ≤ b2 - a2 ∨ b2 - a2 ≤ 0) with y | y
    · have ay : absR (b2 - a2) = b2 - a2 := by unfold absR; grind
      have ny : mn a2 b2 = a2 := by unfold mn; grind
      have my1 : mx a2 b2 = b2 := by unfold mx; grind
      rw [hex0 hr x y, ax, ay, nx, mx1, ny, my1]
      constructor <;> (intro h; refine ⟨⟨?_, ?_⟩, ⟨?_, ?_⟩, ?_, ?_⟩ <;> grind)
    · have ay : absR (b2 - a2) = -(b2 - a2) := by unfold absR; grind
      have ny : mn a2 b2 = b2 := by unfold mn; grind
      have my1 : mx a2 b2 = a2 := by unfold mx; grind
      have h := hex0 (u := p1 - a1) (v := -(p2 - a2)) (dx := b1 - a1) (dy := -(b2 - a2)) hr x (by grind)
      rw [ax, ay, nx, mx1, ny, my1]
      constructor
      · rintro ⟨s, s0, s1, h1, h2⟩
        have := h.mp ⟨s, s0, s1, h1, by grind, by grind⟩
        refine ⟨⟨?_, ?_⟩, ⟨?_, ?_⟩, ?_, ?_⟩ <;> grind
      · intro w
        obtain ⟨s, s0, s1, h1, h2⟩ := h.mpr ⟨⟨by grind, by grind⟩, ⟨by grind, by grind⟩, by grind, by grind⟩
        exact ⟨s, s0, s1, h1, by grind, by grind⟩
  · have ax : absR (b1 - a1) = -(b1 - a1) := by unfold absR; grind
    have nx : mn a1 b1 = b1 := by unfold mn; grind
    have mx1 : mx a1 b1 = a1 := by unfold mx; grind
    rcases (Rat.le_total : 0 ≤ b2 - a2 ∨ b2 - a2 ≤ 0) with y | y
    · have ay : absR (b2 - a2) = b2 - a2 := by unfold absR; grind
      have ny : mn a2 b2 = a2 := by unfold mn; grind
      have my1 : mx a2 b2 = b2 := by unfold mx; grind
      have h := hex0 (u := -(p1 - a1)) (v := p2 - a2) (dx := -(b1 - a1)) (dy := b2 - a2) hr (by grind) y
      rw [ax, ay, nx, mx1, ny, my1]
      constructor
      · rintro ⟨s, s0, s1, h1, h2⟩
        have := h.mp ⟨s, s0, s1, by grind, h2⟩
        refine ⟨⟨?_, ?_⟩, ⟨?_, ?_⟩, ?_, ?_⟩ <;> grind
      · intro w
        obtain ⟨s, s0, s1, h1, h2⟩ := h.mpr ⟨⟨by grind, by grind⟩, ⟨by grind, by grind⟩, by grind, by grind⟩
        exact ⟨s, s0, s1, by grind, h2⟩
    · have ay : absR (b2 - a2) = -(b2 - a2) := by unfold absR; grind
      have ny : mn a2 b2 = b2 := by unfold mn; grind
      have my1 : mx a2 b2 = a2 := by unfold mx; grind
      have h := hex0 (u := -(p1 - a1)) (v := -(p2 - a2)) (dx := -(b1 - a1)) (dy := -(b2 - a2)) hr (by grind) (by grind)
      rw [ax, ay, nx, mx1, ny, my1]
      constructor
      · rintro ⟨s, s0, s1, h1, h2⟩
        have := h.mp ⟨s, s0, s1, by grind, by grind⟩
        refine ⟨⟨?_, ?_⟩, ⟨?_, ?_⟩, ?_, ?_⟩ <;> grind
      · intro w
        obtain ⟨s, s0, s1, h1, h2⟩ := h.mpr ⟨⟨by grind, by grind⟩, ⟨by grind, by grind⟩, by grind, by grind⟩
        exact ⟨s, s0, s1, by grind, by grind⟩
end G

namespace G
open PySem L2 M
def sideR (o : Spt × Spt) (P : Spt) : Rat := (o.2.1 - o.1.1) * (P.2 - o.1.2) - (o.2.2 - o.1.2) * (P.1 - o.1.1)
theorem side_g {o : Spt × Spt} {P : Spt} (h1 : Bs 77 o.1) (h2 : Bs 77 o.2) (hP : Bs 77 P) : m_off_side o P = some (sideR o P) ∧ Bq 621 (sideR o P) := by
  have a := h2.x.sub h1.x
  have b := hP.y.sub h1.y
  have c := h2.y.sub h1.y
  have d := hP.x.sub h1.x
  constructor
  · simp only [m_off_side, bd, Option.bind_some, m_minus_g h2.x h1.x (by decide), m_minus_g hP.y h1.y (by decide), m_minus_g h2.y h1.y (by decide), m_minus_g hP.x h1.x (by decide), m_times_g a b (by decide), m_times_g c d (by decide), m_minus_g (a.mul b) (c.mul d) (by decide), sideR]
  · exact (a.mul b).sub (c.mul d)
theorem stretch_g {p q : Spt} (h1 : Bs 77 p) (h2 : Bs 77 q) : m_stretch p q = some (absR (q.1 - p.1) + absR (q.2 - p.2)) ∧ Bq 311 (absR (q.1 - p.1) + absR (q.2 - p.2)) := by
  have a := (h2.x.sub h1.x).abs
  have b := (h2.y.sub h1.y).abs
  constructor
  · simp only [m_stretch, bd, Option.bind_some, m_minus_g h2.x h1.x (by decide), m_minus_g h2.y h1.y (by decide), m_size_eq, m_plus_g a b (by decide)]
  · exact a.add b
def near (p o : Spt × Spt) (r t : Rat) : Prop := ∃ s : Rat, 0 ≤ s ∧ s ≤ 1 ∧ gp (onL p.1 p.2 t) o s ≤ r
theorem side_ln (o p : Spt × Spt) (t : Rat) : sideR o (onL p.1 p.2 t) = sideR o p.1 + t * (sideR o p.2 - sideR o p.1) := by
  unfold sideR onL ln
  dsimp only
  grind
theorem near_iff {p o : Spt × Spt} {r t : Rat} (hr : 0 ≤ r) : near p o r t ↔ (mn o.1.1 o.2.1 - r ≤ p.1.1 + t * (p.2.1 - p.1.1) ∧ p.1.1 + t * (p.2.1 - p.1.1) ≤ mx o.1.1 o.2.1 + r) ∧ (mn o.1.2 o.2.2 - r ≤ p.1.2 + t * (p.2.2 - p.1.2) ∧ p.1.2 + t * (p.2.2 - p.1.2) ≤ mx o.1.2 o.2.2 + r) ∧
    (0 - r * (absR (o.2.1 - o.1.1) + absR (o.2.2 - o.1.2)) ≤ sideR o p.1 + t * (sideR o p.2 - sideR o p.1) ∧ sideR o p.1 + t * (sideR o p.2 - sideR o p.1) ≤ r * (absR (o.2.1 - o.1.1) + absR (o.2.2 - o.1.2))) := by
  unfold near
  rw [hexagon hr, ← side_ln]
  unfold sideR onL ln
  dsimp only
  constructor <;> (rintro ⟨a, b, c, d⟩; exact ⟨a, b, by grind, by grind⟩)
/-- what the span of a piece near another tells -/
structure NearOk (p o : Spt × Spt) (r : Rat) (op : Option (Rat × Rat)) : Prop where
  no : op = none → ∀ t, 0 ≤ t → t ≤ 1 → ¬ near p o r t
  yes : ∀ z, op = some z → z.1 ≤ z.2 ∧ Bq 3423 z.1 ∧ Bq 3423 z.2 ∧ ∀ t, (z.1 ≤ t ∧ t ≤ z.2) ↔ (0 ≤ t ∧ t ≤ 1 ∧ near p o r t)
theorem mnx (a b r : Rat) (hr : 0 ≤ r) : mn a b - r ≤ mx a b + r := by
  unfold mn mx
  grind
theorem near_g {p o : Spt × Spt} {r : Rat} (p1 : Bs 77 p.1) (p2 : Bs 77 p.2) (o1 : Bs 77 o.1) (o2 : Bs 77 o.2) (br : Bq 1245 r) (hr : 0 ≤ r) : ∃ op, m_span_near p o r = some op ∧ NearOk p o r op := by
  have A : ∀ s : Spt, at2 s 0 = some s.1 := fun _ => rfl
  have B : ∀ s : Spt, at2 s 1 = some s.2 := fun _ => rfl
  have bm : ∀ {a b : Rat}, Bq 77 a → Bq 77 b → Bq 77 (mn a b) ∧ Bq 77 (mx a b) := fun ha hb => by
    unfold mn mx
    constructor <;> (split <;> assumption)
  have bx := bm o1.x o2.x
  have bY := bm o1.y o2.y
  have ex : m_lesser o.1.1 o.2.1 = some (mn o.1.1 o.2.1) := m_lesser_g o1.x o2.x (by decide)
  have ey : m_lesser o.1.2 o.2.2 = some (mn o.1.2 o.2.2) := m_lesser_g o1.y o2.y (by decide)
  have fx : m_greater o.1.1 o.2.1 = some (mx o.1.1 o.2.1) := m_greater_g o1.x o2.x (by decide)
  have fy : m_greater o.1.2 o.2.2 = some (mx o.1.2 o.2.2) := m_greater_g o1.y o2.y (by decide)
  have lx := bx.1.sub br
  have hx := bx.2.add br
  have ly := bY.1.sub br
  have hy := bY.2.add br
  have nn : m_narrowed none p.1.2 p.2.2 (mn o.1.2 o.2.2 - r) (mx o.1.2 o.2.2 + r) = some none := rfl
  obtain ⟨q1, e1, k1⟩ := narrowed_g (N := 1560) (j := 155) (bq01.1.le (by decide)) (bq01.2.le (by decide)) (by decide) p1.x p2.x lx hx (mnx _ _ _ hr) (by decide) (by decide) (by decide)
  simp only [m_span_near, bd, Option.bind_some, loopC, A, B, ex, ey, fx, fy, m_minus_g bx.1 br (by decide), m_plus_g bx.2 br (by decide), m_minus_g bY.1 br (by decide), m_plus_g bY.2 br (by decide), e1]
  cases q1 with
  | none =>
    rw [nn]
    exact ⟨none, rfl, fun _ t t0 t1 h => k1.no rfl t t0 t1 ((near_iff hr).mp h).1, fun z h => (by cases h)⟩
  | some z1 =>
    obtain ⟨y1, y2, y3, y4⟩ := k1.yes z1 rfl
    obtain ⟨q2, e2, k2⟩ := narrowed_g (N := 1560) (j := 155) (a := z1.1) (b := z1.2) y2 y3 y1 p1.y p2.y ly hy (mnx _ _ _ hr) (by decide) (by decide) (by decide)
    rw [show (z1.1, z1.2) = z1 from rfl] at e2
    simp only [e2, Option.bind_some]
    cases q2 with
    | none =>
      refine ⟨none, rfl, fun _ t t0 t1 h => ?_, fun z h => (by cases h)⟩
      have w := (near_iff hr).mp h
      have := (y4 t).mpr ⟨t0, t1, w.1⟩
      exact k2.no rfl t this.1 this.2 w.2.1
    | some z2 =>
      obtain ⟨x1, x2, x3, x4⟩ := k2.yes z2 rfl
      obtain ⟨es, bs⟩ := stretch_g o1 o2
      have brm := br.mul bs
      obtain ⟨s1, b1⟩ := side_g o1 o2 p1
      obtain ⟨s2, b2⟩ := side_g o1 o2 p2
      have nn' : 0 ≤ r * (absR (o.2.1 - o.1.1) + absR (o.2.2 - o.1.2)) := Rat.mul_nonneg hr (by unfold absR; grind)
      obtain ⟨q3, e3, k3⟩ := narrowed_g (N := 3423) (m := 1558) (j := 1243) (a := z2.1) (b := z2.2) (x2.le (by decide)) (x3.le (by decide)) x1 b1 b2 ((bq01.1.sub brm).le (by decide)) (brm.le (by decide)) (by grind) (by decide) (by decide) (by decide)
      rw [show (z2.1, z2.2) = z2 from rfl] at e3
      simp only [optM, es, Option.bind_some, m_times_g br bs (by decide), s1, s2, m_minus_g bq01.1 brm (by decide), e3]
      refine ⟨q3, rfl, fun hq t t0 t1 h => ?_, fun z hz => ?_⟩
      · have w := (near_iff hr).mp h
        have a1 := (y4 t).mpr ⟨t0, t1, w.1⟩
        have a2 := (x4 t).mpr ⟨a1.1, a1.2, w.2.1⟩
        exact k3.no hq t a2.1 a2.2 w.2.2
      · obtain ⟨c1, c2, c3, c4⟩ := k3.yes z hz
        refine ⟨c1, c2, c3, fun t => ?_⟩
        rw [c4 t, near_iff hr]
        constructor
        · rintro ⟨d1, d2, d3⟩
          have f1 := (x4 t).mp ⟨d1, d2⟩
          have f2 := (y4 t).mp ⟨f1.1, f1.2.1⟩
          exact ⟨f2.1, f2.2.1, f2.2.2, f1.2.2, d3⟩
        · rintro ⟨t0, t1, w1, w2, w3⟩
          have a1 := (y4 t).mpr ⟨t0, t1, w1⟩
          have a2 := (x4 t).mpr ⟨a1.1, a1.2, w2⟩
          exact ⟨a2.1, a2.2, w3⟩
end G

namespace G
open PySem L2 M
/-! ### how far the spans cover -/
abbrev Sps := List (Rat × Rat)
def stp (s : Rat × Bool) (x : Rat × Rat) : Rat × Bool := if x.1 ≤ s.1 ∧ s.1 < x.2 then (x.2, true) else s
structure Sp01 (xs : Sps) : Prop where
  l : xs.length ≤ 1000
  b : ∀ x ∈ xs, Bq 3423 x.1 ∧ Bq 3423 x.2
  o : ∀ x ∈ xs, 0 ≤ x.1 ∧ x.1 ≤ x.2 ∧ x.2 ≤ 1
/-- some span has t -/
def cov (xs : Sps) (t : Rat) : Prop := ∃ x ∈ xs, x.1 ≤ t ∧ t ≤ x.2
def Cv (xs : Sps) (r : Rat) : Prop := r = 0 ∨ ∀ t, 0 ≤ t → t ≤ r → cov xs t
structure Rch (xs : Sps) (r : Rat) : Prop where
  r0 : 0 ≤ r
  r1 : r ≤ 1
  b : Bq 3423 r
  c : Cv xs r
theorem stp_rch {all : Sps} (h : Sp01 all) {s : Rat × Bool} {x : Rat × Rat} (hx : x ∈ all) (hs : Rch all s.1) : Rch all (stp s x).1 := by
  unfold stp
  by_cases c : x.1 ≤ s.1 ∧ s.1 < x.2
  · rw [if_pos c]
    have o := h.o x hx
    refine ⟨by have := hs.r0; grind, o.2.2, (h.b x hx).2, .inr fun t t0 t1 => ?_⟩
    dsimp only at t1
    by_cases d : x.1 ≤ t
    · exact ⟨x, hx, d, t1⟩
    · rcases hs.c with e | e
      · rw [e] at c
        exact absurd (Rat.le_trans c.1 t0) d
      · exact e t t0 (by grind)
  · rw [if_neg c]
    exact hs
theorem fold_rch {all : Sps} (h : Sp01 all) : ∀ (xs : Sps) (s : Rat × Bool), (∀ x ∈ xs, x ∈ all) → Rch all s.1 → Rch all (xs.foldl stp s).1
  | [], _, _, hs => hs
  | x :: r, s, hx, hs => fold_rch h r (stp s x) (fun y hy => hx y (List.mem_cons_of_mem _ hy)) (stp_rch h (hx x (List.mem_cons_self ..)) hs)
/-- either nothing grew, or what is told is the end of a span that lay ahead -/
theorem fold_grow : ∀ (xs : Sps) (s : Rat × Bool), (xs.foldl stp s = s ∧ ∀ x ∈ xs, ¬ (x.1 ≤ s.1 ∧ s.1 < x.2)) ∨ ((xs.foldl stp s).2 = true ∧ s.1 < (xs.foldl stp s).1 ∧ ∃ x ∈ xs, x.2 = (xs.foldl stp s).1)
  | [], s => .inl ⟨rfl, fun x hx => by simp at hx⟩
  | x :: r, s => by
    rw [List.foldl_cons]
    by_cases c : x.1 ≤ s.1 ∧ s.1 < x.2
    · have e : stp s x = (x.2, true) := if_pos c
      rw [e]
      right
      rcases fold_grow r (x.2, true) with ⟨h1, h2⟩ | ⟨h1, h2, y, hy, h3⟩
      · rw [h1]
        exact ⟨rfl, c.2, x, List.mem_cons_self .., rfl⟩
      · exact ⟨h1, by have := c.2; dsimp only at h2; grind, y, List.mem_cons_of_mem _ hy, h3⟩
    · have e : stp s x = s := if_neg c
      rw [e]
      rcases fold_grow r s with ⟨h1, h2⟩ | ⟨h1, h2, y, hy, h3⟩
      · exact .inl ⟨h1, fun z hz => by
          rcases List.mem_cons.mp hz with rfl | hz
          · exact c
          · exact h2 z hz⟩
      · exact .inr ⟨h1, h2, y, List.mem_cons_of_mem _ hy, h3⟩
def ahd (xs : Sps) (r : Rat) : Nat := (xs.filter fun x => decide (r < x.2)).length
theorem ahd_le (r r' : Rat) (h : r ≤ r') : ∀ xs : Sps, ahd xs r' ≤ ahd xs r
  | [] => Nat.le_refl _
  | x :: xs => by
    have ih := ahd_le r r' h xs
    unfold ahd at *
    rw [List.filter_cons, List.filter_cons]
    by_cases c : r' < x.2
    · have c' : r < x.2 := by grind
      simp [c, c', ih]
    · by_cases c' : r < x.2
      · simp [c, c']; omega
      · simp [c, c', ih]
theorem ahd_lt (r r' : Rat) (h : r < r') : ∀ xs : Sps, (∃ x ∈ xs, x.2 = r') → ahd xs r' < ahd xs r
  | [], ⟨x, hx, _⟩ => by simp at hx
  | x :: xs, ⟨y, hy, e⟩ => by
    have le := ahd_le r r' (Rat.le_of_lt h) xs
    by_cases c : ∃ z ∈ xs, z.2 = r'
    · have ih := ahd_lt r r' h xs c
      unfold ahd at *
      rw [List.filter_cons, List.filter_cons]
      by_cases c : r' < x.2
      · have c' : r < x.2 := by grind
        simp [c, c', ih]
      · by_cases c' : r < x.2
        · simp [c, c']; omega
        · simp [c, c', ih]
    · rcases List.mem_cons.mp hy with rfl | hy
      · unfold ahd at *
        rw [List.filter_cons, List.filter_cons]
        have n1 : ¬ r' < y.2 := by grind
        have n2 : r < y.2 := by grind
        simp [n1, n2]
        omega
      · exact absurd ⟨y, hy, e⟩ c
theorem ahd_len (xs : Sps) (r : Rat) : ahd xs r ≤ xs.length := List.length_filter_le ..
theorem step_loop {all : Sps} (h : Sp01 all) {f : Rat × Bool → Rat × Rat → Option (Ct Rat (Rat × Bool))} (hf : ∀ s x, x ∈ all → Rch all s.1 → f s x = some (.go (stp s x))) : ∀ (xs : Sps) (s : Rat × Bool), (∀ x ∈ xs, x ∈ all) → Rch all s.1 → loopC f xs s = some (.go (xs.foldl stp s))
  | [], _, _, _ => rfl
  | x :: r, s, hx, hs => by
    unfold loopC
    rw [hf s x (hx x (List.mem_cons_self ..)) hs, Option.bind_some]
    exact step_loop h hf r (stp s x) (fun y hy => hx y (List.mem_cons_of_mem _ hy)) (stp_rch h (hx x (List.mem_cons_self ..)) hs)
theorem covered_g {xs : Sps} (h : Sp01 xs) : ∃ r, m_covered_to xs = some r ∧ Rch xs r ∧ ∀ x ∈ xs, ¬ (x.1 ≤ r ∧ r < x.2) := by
  have hl := h.l
  simp only [m_covered_to, bd, Option.bind_some]
  have key := whileC_meas (ρ := Rat) (t := fun s_3 : Bool × Rat => some s_3.1)
    (f := fun s_3 => (loopC (ρ := Rat) (fun s_5 x_5 => (((m_order x_5.1 s_5.1).bind fun x => some (decide (x ≤ 0))).bind fun x => if x = true then (m_order x_5.2 s_5.1).bind fun x => some (decide (0 < x)) else some false).bind fun c6 => (if c6 = true then some (x_5.2, true) else some (s_5.1, s_5.2)).bind fun j9 => some (Ct.go (j9.1, j9.2))) xs (s_3.2, false)).bind fun r_5 => match r_5 with | .ret y => some (Ct.ret y) | .go t_5 => some (Ct.go (t_5.2, t_5.1)) | .brk _ => none)
    (fun s => Rch xs s.2 ∧ (s.1 = false → ∀ x ∈ xs, ¬ (x.1 ≤ s.2 ∧ s.2 < x.2))) (fun s => 2 * ahd xs s.2 + (if s.1 then 1 else 0)) (fun s ⟨hr, hn⟩ => by
      obtain ⟨g, r⟩ := s
      cases g with
      | false => exact .inl rfl
      | true =>
        right
        refine ⟨rfl, ?_⟩
        dsimp only at hr ⊢
        rw [step_loop h (fun s x hx hs => ?_) xs (r, false) (fun x hx => hx) hr]
        · refine ⟨((xs.foldl stp (r, false)).2, (xs.foldl stp (r, false)).1), rfl, ?_⟩
          have r2 := fold_rch h xs (r, false) (fun x hx => hx) hr
          rcases fold_grow xs (r, false) with ⟨h1, h2⟩ | ⟨h1, h2, h3⟩
          · rw [h1]
            exact ⟨⟨hr, fun _ => h2⟩, by simp⟩
          · refine ⟨⟨r2, fun e => by dsimp only at e; rw [h1] at e; cases e⟩, ?_⟩
            have := ahd_lt r _ h2 xs h3
            dsimp only
            rw [h1]
            simp only [if_true]
            omega
        · have b := h.b x hx
          simp only [m_order_g b.1 hs.b (by decide), m_order_g b.2 hs.b (by decide), Option.bind_some, ord_le, ord_gt]
          unfold stp
          by_cases c1 : x.1 ≤ s.1
          · by_cases c2 : s.1 < x.2 <;> simp [c1, c2]
          · simp [c1]) 100000 (true, 0) ⟨⟨Rat.le_refl, by decide, bq01.1.le (by decide), .inl rfl⟩, fun e => by cases e⟩ (by
        have := ahd_len xs 0
        simp
        omega)
  obtain ⟨s, e1, ⟨hr, hn⟩, e2⟩ := key
  refine ⟨s.2, Eq.trans (congrArg (fun z => Option.bind z _) e1) rfl, hr, hn (Option.some.inj e2)⟩
/-! ### the share that is bare -/
def ahS (r : Rat) (s : Rat) (x : Rat × Rat) : Rat := if r < x.1 then (if s < x.1 then s else x.1) else s
theorem ah_fold {r : Rat} : ∀ (xs : Sps) (s : Rat), r < s → r < xs.foldl (ahS r) s ∧ xs.foldl (ahS r) s ≤ s ∧ ∀ x ∈ xs, r < x.1 → xs.foldl (ahS r) s ≤ x.1
  | [], s, h => ⟨h, Rat.le_refl, fun x hx => by simp at hx⟩
  | x :: xs, s, h => by
    rw [List.foldl_cons]
    have a : r < ahS r s x ∧ ahS r s x ≤ s ∧ (r < x.1 → ahS r s x ≤ x.1) := by
      unfold ahS
      grind
    obtain ⟨h1, h2, h3⟩ := ah_fold xs (ahS r s x) a.1
    refine ⟨h1, Rat.le_trans h2 a.2.1, fun y hy hr => ?_⟩
    rcases List.mem_cons.mp hy with rfl | hy
    · exact Rat.le_trans h2 (a.2.2 hr)
    · exact h3 y hy hr
theorem ah_loop {all : Sps} (h : Sp01 all) {r : Rat} {f : Rat → Rat × Rat → Option (Ct (Option Rat) Rat)} (hf : ∀ s x, x ∈ all → Bq 3423 s → f s x = some (.go (ahS r s x))) : ∀ (xs : Sps) (s : Rat), (∀ x ∈ xs, x ∈ all) → Bq 3423 s → loopC f xs s = some (.go (xs.foldl (ahS r) s)) ∧ Bq 3423 (xs.foldl (ahS r) s)
  | [], _, _, hs => ⟨rfl, hs⟩
  | x :: xs, s, hx, hs => by
    have b := (h.b x (hx x (List.mem_cons_self ..))).1
    have hb : Bq 3423 (ahS r s x) := by
      unfold ahS
      split
      · split <;> assumption
      · assumption
    have ih := ah_loop h hf xs (ahS r s x) (fun y hy => hx y (List.mem_cons_of_mem _ hy)) hb
    rw [List.foldl_cons]
    refine ⟨?_, ih.2⟩
    unfold loopC
    rw [hf s x (hx x (List.mem_cons_self ..)) hs, Option.bind_some]
    exact ih.1
theorem share_g {xs : Sps} (h : Sp01 xs) : ∃ o, m_bare_share xs = some o ∧ (o = none → ∀ t, 0 ≤ t → t ≤ 1 → cov xs t) ∧ ∀ t, o = some t → Bq 6849 t ∧ 0 ≤ t ∧ t ≤ 1 ∧ ¬ cov xs t := by
  obtain ⟨r, e, hr, hn⟩ := covered_g h
  simp only [m_bare_share, bd, Option.bind_some, e]
  by_cases c : r = 1
  · subst c
    refine ⟨none, by simp, fun _ t t0 t1 => ?_, fun t ht => (by cases ht)⟩
    rcases hr.c with z | z
    · exact absurd z (by decide)
    · exact z t t0 t1
  · have lt : r < 1 := by have := hr.r1; grind
    obtain ⟨e2, b2⟩ := ah_loop (r := r) h (f := fun s_4 x_4 => ((m_order x_4.1 r).bind fun x => some (decide (0 < x))).bind fun c5 => (if c5 = true then (m_lesser s_4 x_4.1).bind fun ahead_6 => some ahead_6 else some s_4).bind fun j7 => some (Ct.go j7)) (fun s x hx hs => by
      have b := h.b x hx
      simp only [m_order_g b.1 hr.b (by decide), m_lesser_g hs b.1 (by decide), Option.bind_some, ord_gt]
      unfold ahS
      by_cases c : r < x.1 <;> simp [c]) xs 1 (fun x hx => hx) (bq01.2.le (by decide))
    obtain ⟨a1, a2, a3⟩ := ah_fold xs 1 lt
    generalize xs.foldl (ahS r) 1 = a at *
    have hf : ratio? 1 2 = some (Rat.divInt 1 2) := ratio?_eq (by decide) (Nat.lt_of_lt_of_le (show (2 : Int).natAbs < 2 ^ 2 by decide) (pow_le (by decide)))
    have bf : Bq 2 (Rat.divInt 1 2) := ⟨by decide +kernel, by decide +kernel⟩
    have h2 : Rat.divInt 1 2 * 2 = 1 := by decide +kernel
    have bs := hr.b.add b2
    simp only [c, decide_false, Bool.false_eq_true, if_false]
    refine ⟨some (Rat.divInt 1 2 * (r + a)), Eq.trans (congrArg (fun z => Option.bind z _) e2) ?_, fun z => (by cases z), fun t ht => ?_⟩
    · simp only [Option.bind_some, hf, m_plus_g hr.b b2 (by decide), m_times_g bf bs (by decide)]
    · cases ht
      have r0 := hr.r0
      have bt := (bf.mul bs).le (show 2 + (3423 + 3423 + 1) ≤ 6849 by decide)
      have h3 : Rat.divInt 1 2 * (r + a) * 2 = r + a := by
        generalize Rat.divInt 1 2 = q at h2
        have : q * (r + a) * 2 = (q * 2) * (r + a) := by grind
        rw [this, h2]
        grind
      generalize Rat.divInt 1 2 * (r + a) = t at bt h3
      refine ⟨bt, by grind, by grind, ?_⟩
      rintro ⟨x, hx, x1, x2⟩
      have n := hn x hx
      by_cases d : r < x.1
      · have := a3 x hx d
        grind
      · have : ¬ r < x.2 := fun z => n ⟨by grind, z⟩
        grind
end G

namespace G
open PySem L2 M
theorem filO_some {α : Type} : ∀ xs : List (Option α), filO (fun x => bd (some x.isSome) fun k => if k then bd x fun y => some (some y) else some none) xs = some (xs.filterMap id)
  | [] => rfl
  | none :: r => by
    have := filO_some r
    simp only [filO, bd, Option.bind_some] at this ⊢
    simp [this]
  | some x :: r => by
    have := filO_some r
    simp only [filO, bd, Option.bind_some] at this ⊢
    simp [this]
theorem fil_some {α : Type} {xs : List (Option α)} (h : xs.length ≤ 1000) : filL? (fun x => some x.isSome) (fun x => x) xs = some (xs.filterMap id) := by
  unfold filL?
  rw [if_pos (by omega)]
  exact filO_some xs
theorem loopC_find {α β : Type} {f : Unit → α → Option (Ct (Option β) Unit)} {Pn : α → Prop} {Py : α → β → Prop} : ∀ xs : List α, (∀ x ∈ xs, (f () x = some (.go ()) ∧ Pn x) ∨ ∃ z, f () x = some (.ret (some z)) ∧ Py x z) → (loopC f xs () = some (.go ()) ∧ ∀ x ∈ xs, Pn x) ∨ ∃ x ∈ xs, ∃ z, loopC f xs () = some (.ret (some z)) ∧ Py x z
  | [], _ => .inl ⟨rfl, fun x hx => by simp at hx⟩
  | x :: r, h => by
    rcases h x (List.mem_cons_self ..) with ⟨e, p⟩ | ⟨z, e, p⟩
    · rcases loopC_find r fun y hy => h y (List.mem_cons_of_mem _ hy) with ⟨e2, p2⟩ | ⟨y, hy, z, e2, p2⟩
      · refine .inl ⟨?_, fun y hy => ?_⟩
        · unfold loopC
          rw [e, Option.bind_some]
          exact e2
        · rcases List.mem_cons.mp hy with rfl | hy
          · exact p
          · exact p2 y hy
      · refine .inr ⟨y, List.mem_cons_of_mem _ hy, z, ?_, p2⟩
        unfold loopC
        rw [e, Option.bind_some]
        exact e2
    · refine .inr ⟨x, List.mem_cons_self .., z, ?_, p⟩
      unfold loopC
      rw [e, Option.bind_some]
theorem pcs_len {ps : List Spt} (h : Pl ps) : (pcs ps).length ≤ 6 := by
  have := h.l1
  unfold pcs
  split
  · simp
  · rw [List.length_map, rng_len]; omega
theorem piece_sp {p : Spt × Spt} {others : List Spt} {r : Rat} (p1 : Bs 77 p.1) (p2 : Bs 77 p.2) (ho : Pl others) (br : Bq 1245 r) (hr : 0 ≤ r) :
    ∃ o : Option Rat, ((mapL? (fun q => m_span_near p q r) (pcs others)).bind fun spans => ((filL? (fun s => some s.isSome) (fun s => s) spans).bind fun x => some (x, ())).bind fun a => m_bare_share a.1) = some o ∧ (o = none → ∀ t, 0 ≤ t → t ≤ 1 → ∃ q ∈ pcs others, near p q r t) ∧ ∀ t, o = some t → Bq 6849 t ∧ 0 ≤ t ∧ t ≤ 1 ∧ ∀ q ∈ pcs others, ¬ near p q r t := by
  have hl := pcs_len ho
  have ng : ∀ q ∈ pcs others, m_span_near p q r = some ((m_span_near p q r).getD none) ∧ NearOk p q r ((m_span_near p q r).getD none) := fun q hq => by
    obtain ⟨b1, b2⟩ := pcs_in ho hq
    obtain ⟨op, e, k⟩ := near_g p1 p2 b1 b2 br hr
    rw [e]
    exact ⟨rfl, k⟩
  generalize hg : (fun q => (m_span_near p q r).getD none) = g
  have ng : ∀ q ∈ pcs others, m_span_near p q r = some (g q) ∧ NearOk p q r (g q) := fun q hq => by
    rw [← hg]
    exact ng q hq
  rw [M.mapL_eq (g := g) (by omega) (fun q hq => (ng q hq).1), Option.bind_some, fil_some (by rw [List.length_map]; omega), Option.bind_some, Option.bind_some]
  have mem : ∀ x, x ∈ ((pcs others).map g).filterMap id ↔ ∃ q ∈ pcs others, g q = some x := fun x => by
    rw [List.mem_filterMap]
    constructor
    · rintro ⟨y, hy, e⟩
      obtain ⟨q, hq, rfl⟩ := List.mem_map.mp hy
      exact ⟨q, hq, e⟩
    · rintro ⟨q, hq, e⟩
      exact ⟨_, List.mem_map.mpr ⟨q, hq, rfl⟩, e⟩
  have s01 : Sp01 (((pcs others).map g).filterMap id) := by
    refine ⟨?_, fun x hx => ?_, fun x hx => ?_⟩
    · have := List.length_filterMap_le id ((pcs others).map g)
      rw [List.length_map] at this
      omega
    · obtain ⟨q, hq, e⟩ := (mem x).mp hx
      obtain ⟨_, b1, b2, _⟩ := (ng q hq).2.yes x e
      exact ⟨b1, b2⟩
    · obtain ⟨q, hq, e⟩ := (mem x).mp hx
      obtain ⟨a, _, _, w⟩ := (ng q hq).2.yes x e
      exact ⟨((w x.1).mp ⟨Rat.le_refl, a⟩).1, a, ((w x.2).mp ⟨a, Rat.le_refl⟩).2.1⟩
  have cv : ∀ t, 0 ≤ t → t ≤ 1 → (cov (((pcs others).map g).filterMap id) t ↔ ∃ q ∈ pcs others, near p q r t) := fun t t0 t1 => by
    constructor
    · rintro ⟨x, hx, w⟩
      obtain ⟨q, hq, e⟩ := (mem x).mp hx
      obtain ⟨_, _, _, y⟩ := (ng q hq).2.yes x e
      exact ⟨q, hq, ((y t).mp w).2.2⟩
    · rintro ⟨q, hq, w⟩
      cases e : g q with
      | none => exact absurd w ((ng q hq).2.no e t t0 t1)
      | some x =>
        obtain ⟨_, _, _, y⟩ := (ng q hq).2.yes x e
        exact ⟨x, (mem x).mpr ⟨q, hq, e⟩, (y t).mpr ⟨t0, t1, w⟩⟩
  obtain ⟨o, e, h1, h2⟩ := share_g s01
  refine ⟨o, e, fun ho t t0 t1 => (cv t t0 t1).mp (h1 ho t t0 t1), fun t ht => ?_⟩
  obtain ⟨b, t0, t1, n⟩ := h2 t ht
  exact ⟨b, t0, t1, fun q hq w => n ((cv t t0 t1).mpr ⟨q, hq, w⟩)⟩
theorem bare_g {ones others : List Spt} {r : Rat} (h1 : Pl ones) (h2 : Pl others) (br : Bq 1245 r) (hr : 0 ≤ r) :
    ∃ o, m_bare ones others r = some o ∧ (o = none → ∀ p ∈ pcs ones, ∀ t, 0 ≤ t → t ≤ 1 → ∃ q ∈ pcs others, near p q r t) ∧ ∀ z, o = some z → Bs 7082 z ∧ ∃ p ∈ pcs ones, ∃ t, 0 ≤ t ∧ t ≤ 1 ∧ z = onL p.1 p.2 t ∧ ∀ q ∈ pcs others, ¬ near p q r t := by
  simp only [m_bare, bd, Option.bind_some, pieces_g h1, pieces_g h2]
  have key := loopC_find (f := fun s_2 piece_2 => (mapL? (fun other_3 => m_span_near piece_2 other_3 r) (pcs others)).bind fun spans_4 => (((filL? (fun span_5 => some span_5.isSome) (fun span_5 => span_5) spans_4).bind fun x => some (x, ())).bind fun a => m_bare_share a.1).bind fun share_6 => optM share_6 (some (Ct.go ())) fun share_7 => ((m_between piece_2.1 piece_2.2 share_7).bind fun x => some (some x)).bind fun y => some (Ct.ret y))
    (Pn := fun p => ∀ t, 0 ≤ t → t ≤ 1 → ∃ q ∈ pcs others, near p q r t) (Py := fun p z => Bs 7082 z ∧ ∃ t, 0 ≤ t ∧ t ≤ 1 ∧ z = onL p.1 p.2 t ∧ ∀ q ∈ pcs others, ¬ near p q r t) (pcs ones) (fun p hp => by
      obtain ⟨b1, b2⟩ := pcs_in h1 hp
      obtain ⟨o, e, k1, k2⟩ := piece_sp b1 b2 h2 br hr
      cases q1 : mapL? (fun other_3 => m_span_near p other_3 r) (pcs others) with
      | none => rw [q1] at e; cases e
      | some spans =>
        rw [q1, Option.bind_some] at e
        simp only [Option.bind_some]
        rw [e, Option.bind_some]
        cases o with
        | none => exact .inl ⟨rfl, k1 rfl⟩
        | some t =>
          obtain ⟨bt, t0, t1, n⟩ := k2 t rfl
          refine .inr ⟨onL p.1 p.2 t, ?_, ?_, t, t0, t1, rfl, n⟩
          · simp only [optM, between_g b1 b2 bt (by decide), Option.bind_some]
          · exact (on_b b1 b2 bt).le (by decide))
  rcases key with ⟨e, k⟩ | ⟨p, hp, z, e, bz, k⟩
  · exact ⟨none, Eq.trans (congrArg (fun z => Option.bind z _) e) rfl, fun _ => k, fun z hz => (by cases hz)⟩
  · exact ⟨some z, Eq.trans (congrArg (fun z => Option.bind z _) e) rfl, fun h => (by cases h), fun z' hz => by cases hz; exact ⟨bz, p, hp, k⟩⟩
/-! ### the pieces that the law looks at -/
theorem lk_near {others : List Spt} (h : Pl others) {P : Spt} {r : Rat} : (∃ i : Int, 0 ≤ i ∧ i < others.length ∧ ∃ t : Rat, 0 ≤ t ∧ t ≤ 1 ∧ gp P (lk others i) t ≤ r) ↔ ∃ q ∈ pcs others, ∃ t : Rat, 0 ≤ t ∧ t ≤ 1 ∧ gp P q t ≤ r := by
  have l0 := h.l0
  constructor
  · rintro ⟨i, i0, i1, t, t0, t1, w⟩
    by_cases c : 1 ≤ i
    · refine ⟨lk others i, ?_, t, t0, t1, w⟩
      unfold pcs lk
      rw [if_neg (by omega)]
      exact List.mem_map.mpr ⟨i, rng_memI (by omega), by rw [show max 0 (i - 1) = i - 1 by omega]⟩
    · have : i = 0 := by omega
      subst this
      by_cases c1 : others.length = 1
      · refine ⟨lk others 0, ?_, t, t0, t1, w⟩
        unfold pcs lk
        rw [if_pos c1]
        exact List.mem_singleton.mpr rfl
      · refine ⟨(pt others 0, pt others 1), ?_, 0, Rat.le_refl, by decide, ?_⟩
        · unfold pcs
          rw [if_neg c1]
          exact List.mem_map.mpr ⟨1, rng_memI (by omega), rfl⟩
        · have e : gp P (pt others 0, pt others 1) 0 = gp P (lk others 0) t := by
            unfold gp lk ln
            simp
            congr 1 <;> grind
          rw [e]
          exact w
  · rintro ⟨q, hq, t, t0, t1, w⟩
    obtain ⟨k, k0, k1, rfl⟩ := pcs_mem h hq
    exact ⟨k, k0, k1, t, t0, t1, w⟩
theorem on_self (p : Spt × Spt) (t : Rat) : gp (onL p.1 p.2 t) p t = 0 := by
  unfold gp onL gm absR
  dsimp only
  grind
end G

namespace G
open PySem L2 M
theorem clipL_eq (p q : Spt) (a b c d : Rat) : m_law_clipL p q [a, b] [c, d] = m_law_clip p q (a, b) (c, d) := rfl
theorem bits_g {p q a b : Spt} {r : Rat} (hp : Bs 77 p) (hq : Bs 77 q) (ha : Bs 77 a) (hb : Bs 77 b) (hr : Bq 1245 r) : ∃ o, m_law_bits p q a b r = some o ∧ ∀ z, o = some z → Bq 1560 z.1 ∧ Bq 1560 z.2 ∧ 0 ≤ z.1 ∧ z.1 ≤ 1 ∧ 0 ≤ z.2 ∧ z.2 ≤ 1 := by
  have r2 : rng1? (2 : Int) = some [0, 1] := by decide
  have A : ∀ s : Spt, at2 s 0 = some s.1 := fun _ => rfl
  have B : ∀ s : Spt, at2 s 1 = some s.2 := fun _ => rfl
  have w0 : ∀ (A B : Rat), atI [A, B] 0 = some A := fun _ _ => rfl
  have w1 : ∀ (A B : Rat), atI [A, B] 1 = some B := fun _ _ => rfl
  have ap0 : ∀ x : Rat, app? [] x = some [x] := fun x => app_eq x (by simp)
  have ap1 : ∀ y x : Rat, app? [y] x = some [y, x] := fun y x => app_eq x (by simp)
  have fin : ∀ lo hi : Spt, Bs 1323 lo → Bs 1323 hi → ∃ o, m_law_clipL p q [lo.1, lo.2] [hi.1, hi.2] = some o ∧ ∀ z, o = some z → Bq 1560 z.1 ∧ Bq 1560 z.2 ∧ 0 ≤ z.1 ∧ z.1 ≤ 1 ∧ 0 ≤ z.2 ∧ z.2 ≤ 1 := fun lo hi hl hh => by
    obtain ⟨o, e, _, k⟩ := clip_g (N := 1560) hp hq hl hh (by decide) (by decide)
    exact ⟨o, by rw [clipL_eq]; exact e, k⟩
  have d : ∀ {x : Rat}, Bq 77 x → m_law_dif x r = some (x - r) ∧ m_law_sum x r = some (x + r) ∧ Bq 1323 (x - r) ∧ Bq 1323 (x + r) := fun hx => ⟨m_law_dif_g hx hr (by decide), m_law_sum_g hx hr (by decide), hx.sub hr, hx.add hr⟩
  have dax := d ha.x
  have day := d ha.y
  have dbx := d hb.x
  have dby := d hb.y
  simp only [m_law_bits, bd, Option.bind_some, r2, loopC, A, B, m_law_comp_g ha.x hb.x (by decide), m_law_comp_g ha.y hb.y (by decide), gap_le]
  by_cases cx : a.1 ≤ b.1
  · by_cases cy : a.2 ≤ b.2
    · simp only [cx, cy, decide_true, if_true, Option.bind_some, w0, w1, dax.1, dbx.2.1, day.1, dby.2.1, ap0, ap1]
      exact fin (a.1 - r, a.2 - r) (b.1 + r, b.2 + r) ⟨dax.2.2.1, day.2.2.1⟩ ⟨dbx.2.2.2, dby.2.2.2⟩
    · simp only [cx, cy, decide_true, decide_false, Bool.false_eq_true, if_false, if_true, Option.bind_some, w0, w1, dax.1, dbx.2.1, dby.1, day.2.1, ap0, ap1]
      exact fin (a.1 - r, b.2 - r) (b.1 + r, a.2 + r) ⟨dax.2.2.1, dby.2.2.1⟩ ⟨dbx.2.2.2, day.2.2.2⟩
  · by_cases cy : a.2 ≤ b.2
    · simp only [cx, cy, decide_true, decide_false, Bool.false_eq_true, if_false, if_true, Option.bind_some, w0, w1, dbx.1, dax.2.1, day.1, dby.2.1, ap0, ap1]
      exact fin (b.1 - r, a.2 - r) (a.1 + r, b.2 + r) ⟨dbx.2.2.1, day.2.2.1⟩ ⟨dax.2.2.2, dby.2.2.2⟩
    · simp only [cx, cy, decide_true, decide_false, Bool.false_eq_true, if_false, if_true, Option.bind_some, w0, w1, dbx.1, dax.2.1, dby.1, day.2.1, ap0, ap1]
      exact fin (b.1 - r, b.2 - r) (a.1 + r, a.2 + r) ⟨dbx.2.2.1, dby.2.2.1⟩ ⟨dax.2.2.2, day.2.2.2⟩
/-- a share of a piece -/
structure Shr (n : Nat) (t : Rat) : Prop where
  b : Bq n t
  t0 : 0 ≤ t
  t1 : t ≤ 1
theorem Shr.le {n m : Nat} {t : Rat} (h : Shr n t) (l : n ≤ m) : Shr m t := ⟨h.b.le l, h.t0, h.t1⟩
theorem num_le_den (q : Rat) : q.num ≤ (q.den : Int) ↔ q ≤ 1 := by rw [Rat.le_iff]; simp
def OnP (ones : List Spt) (s : Spt) : Prop := Bs 2500 s ∧ ∃ p ∈ pcs ones, ∃ t, 0 ≤ t ∧ t ≤ 1 ∧ s = onL p.1 p.2 t
theorem spots_sp {ones others : List Spt} {r : Rat} (h1 : Pl ones) (h2 : Pl others) (br : Bq 1245 r) {P : List Spt → Prop} (h : ∀ F : List Spt, (∀ s ∈ F, OnP ones s) → P F) : m_law_spots_of ones others r P := by
  have l0 := h1.l0
  have l1 := h1.l1
  have m0 := h2.l0
  have m1 := h2.l1
  have q1 : p2r (1, 1) = some (Rat.divInt 1 1) := by decide +kernel
  have q2 : p2r (1, 2) = some (Rat.divInt 1 2) := by decide +kernel
  have q3 : p2r (1, 3) = some (Rat.divInt 1 3) := by decide +kernel
  have q4 : p2r (2, 3) = some (Rat.divInt 2 3) := by decide +kernel
  have qa : p2r (1, 1000) = some (Rat.divInt 1 1000) := by decide +kernel
  have qb : p2r (0 - 1, 1000) = some (Rat.divInt (-1) 1000) := by decide +kernel
  have b0 := h1.b _ (pt_mem (ps := ones) (k := 0) (by omega) (by omega))
  simp only [m_law_spots_of, bd, Option.bind_some, pt_at (ps := ones) (k := 0) (by omega) (by omega), lf_some]
  rw [rng2_eq (by omega) (by omega), lf_some]
  have f0 : OnP ones (pt ones 0) := by
    refine ⟨b0.le (by decide), ?_⟩
    by_cases c : ones.length = 1
    · refine ⟨(pt ones 0, pt ones 0), by unfold pcs; rw [if_pos c]; exact List.mem_singleton.mpr rfl, 0, Rat.le_refl, by decide, ?_⟩
      unfold onL ln
      exact Prod.ext (by grind) (by grind)
    · refine ⟨(pt ones 0, pt ones 1), by unfold pcs; rw [if_neg c]; exact List.mem_map.mpr ⟨1, rng_memI (by omega), rfl⟩, 0, Rat.le_refl, by decide, ?_⟩
      unfold onL ln
      exact Prod.ext (by grind) (by grind)
  refine loopW_ix (fun i F => F.length ≤ 1 + 60 * i ∧ ∀ s ∈ F, OnP ones s) _ 0 [pt ones 0] ⟨by simp, fun s hs => by rw [List.mem_singleton.mp hs]; exact f0⟩ (fun i F k C _ hi ⟨hF, hS⟩ hk hC => ?_) (fun F ⟨_, hS⟩ => h F hS)
  rw [rng_len] at hi
  have hk := rng_mem hk
  have pm : (pt ones (k - 1), pt ones k) ∈ pcs ones := by
    unfold pcs
    rw [if_neg (by omega)]
    exact List.mem_map.mpr ⟨k, rng_memI (by omega), rfl⟩
  have bk1 := h1.b _ (pt_mem (ps := ones) (k := k - 1) (by omega) (by omega))
  have bk2 := h1.b _ (pt_mem (ps := ones) (k := k) (by omega) (by omega))
  rw [pt_at (ps := ones) (k := k - 1) (by omega) (by omega), lf_some, pt_at (ps := ones) (k := k) (by omega) (by omega), lf_some]
  simp only [consW, unW, tup2W, callBW, drawW, lf_some, q1, q2, q3, q4]
  refine ⟨by decide, by decide, fun d d0 d1 => ?_⟩
  rw [ratio?_eq (by decide) (Nat.lt_of_lt_of_le (show (99 : Int).natAbs < 2 ^ 7 by decide) (pow_le (by decide))), lf_some]
  have sd : Shr 10 (Rat.divInt d 99) := by
    refine ⟨bq_divInt (by decide) (by have : (2 : Nat) ^ 10 = 1024 := by decide
                                      omega) (by decide), ?_, ?_⟩
    · rw [Rat.divInt_nonneg_iff_of_pos_right (by decide)]
      exact d0
    · have e : Rat.divInt d 99 = (d : Rat) / 99 := by rw [Rat.divInt_eq_div]; rfl
      have : (d : Rat) ≤ 99 := by
        have : d ≤ 99 := by omega
        exact_mod_cast this
      rw [e]
      grind
  rw [rng1_eq (by omega), lf_some]
  refine loopW_ix (fun i xs => xs.length ≤ 5 + 2 * i ∧ ∀ t ∈ xs, Shr 1560 t) _ 0 _ ⟨by simp, fun t ht => ?_⟩ (fun j xs e C2 _ hj ⟨hx, hsx⟩ he hC2 => ?_) (fun xs ⟨hx, hsx⟩ => ?_)
  · simp only [List.mem_cons, List.not_mem_nil, or_false] at ht
    rcases ht with rfl | rfl | rfl | rfl | rfl
    · exact ⟨(⟨by decide +kernel, by decide +kernel⟩ : Bq 4 (Rat.divInt 1 1)).le (by decide), by decide +kernel, by decide +kernel⟩
    · exact ⟨(⟨by decide +kernel, by decide +kernel⟩ : Bq 4 (Rat.divInt 1 2)).le (by decide), by decide +kernel, by decide +kernel⟩
    · exact ⟨(⟨by decide +kernel, by decide +kernel⟩ : Bq 4 (Rat.divInt 1 3)).le (by decide), by decide +kernel, by decide +kernel⟩
    · exact ⟨(⟨by decide +kernel, by decide +kernel⟩ : Bq 4 (Rat.divInt 2 3)).le (by decide), by decide +kernel, by decide +kernel⟩
    · exact sd.le (by decide)
  · rw [rng_len] at hj
    have he := rng_mem he
    have be1 := h2.b _ (pt_mem (ps := others) (k := max 0 (e - 1)) (by omega) (by omega))
    have be2 := h2.b _ (pt_mem (ps := others) (k := e) (by omega) (by omega))
    obtain ⟨o, eo, ko⟩ := bits_g bk1 bk2 be1 be2 br
    simp only [pt_at (ps := others) (k := max 0 (e - 1)) (by omega) (by omega), pt_at (ps := others) (k := e) (by omega) (by omega), Option.bind_some, eo, lf_some]
    refine jn_of (fun ys => ys.length ≤ 5 + 2 * (j + 1) ∧ ∀ t ∈ ys, Shr 1560 t) (fun J hJ => ?_) (fun ys hy => hC2 ys hy)
    cases o with
    | none => exact hJ xs ⟨by omega, hsx⟩
    | some z =>
      obtain ⟨z1, z2, z3, z4, z5, z6⟩ := ko z rfl
      simp only [optM]
      rw [M.cat_eq (by simp; omega), lf_some]
      refine hJ _ ⟨by simp; omega, fun t ht => ?_⟩
      rcases List.mem_append.mp ht with ht | ht
      · exact hsx t ht
      · simp only [List.mem_cons, List.not_mem_nil, or_false] at ht
        rcases ht with rfl | rfl
        · exact ⟨z1, z3, z4⟩
        · exact ⟨z2, z5, z6⟩
  · rw [rng_len] at hx
    have xl : xs.length ≤ 17 := by omega
    simp only [lf_some]
    refine loopW_ix (fun i ys => ys.length ≤ xs.length + 2 * i ∧ ∀ t ∈ ys, Shr 1571 t) _ 0 xs ⟨by omega, fun t ht => (hsx t ht).le (by decide)⟩ (fun j ys t C3 _ hj ⟨hy, hsy⟩ ht hC3 => ?_) (fun ys ⟨hy, hsy⟩ => ?_)
    · have st := hsx t ht
      refine loopW_ix (fun i zs => zs.length ≤ xs.length + 2 * j + i ∧ ∀ t ∈ zs, Shr 1571 t) _ 0 ys ⟨by omega, hsy⟩ (fun u zs m C4 _ hu ⟨hz, hsz⟩ hm hC4 => ?_) (fun zs ⟨hz, hsz⟩ => hC3 zs ⟨by simp at hz; omega, hsz⟩)
      have pq : ∃ q, p2r m = some q ∧ Bq 10 q := by
        simp only [List.mem_cons, List.not_mem_nil, or_false] at hm
        rcases hm with rfl | rfl
        · exact ⟨_, qa, ⟨by decide +kernel, by decide +kernel⟩⟩
        · exact ⟨_, qb, ⟨by decide +kernel, by decide +kernel⟩⟩
      obtain ⟨q, eq, bq⟩ := pq
      have bs := st.b.add bq
      simp only [eq, Option.bind_some, m_law_sum_g st.b bq (by decide), lf_some]
      refine jn_of (fun ws => ws.length ≤ xs.length + 2 * j + (u + 1) ∧ ∀ t ∈ ws, Shr 1571 t) (fun J hJ => ?_) (fun ws hw => hC4 ws hw)
      simp only [num_nn, num_le_den]
      by_cases c1 : 0 ≤ t + q
      · by_cases c2 : t + q ≤ 1
        · simp only [c1, c2, decide_true, if_true, lf_some]
          simp at hj hu
          rw [app_eq _ (by omega), lf_some]
          refine hJ _ ⟨by simp; omega, fun w hw => ?_⟩
          rcases List.mem_append.mp hw with hw | hw
          · exact hsz w hw
          · rw [List.mem_singleton.mp hw]
            exact ⟨bs, c1, c2⟩
        · simp only [c1, c2, decide_true, decide_false, if_true, Bool.false_eq_true, if_false, lf_some]
          exact hJ zs ⟨by omega, hsz⟩
      · simp only [c1, decide_false, Bool.false_eq_true, if_false, lf_some]
        exact hJ zs ⟨by omega, hsz⟩
    · dsimp only
      rw [M.mapL_eq (g := fun t => onL (pt ones (k - 1)) (pt ones k) t) (by omega) (fun t ht => law_on_g bk1 bk2 (hsy t ht).b (by decide)), Option.bind_some, M.cat_eq (by rw [List.length_map]; omega), lf_some]
      refine hC _ ⟨by rw [List.length_append, List.length_map]; omega, fun s hs => ?_⟩
      rcases List.mem_append.mp hs with hs | hs
      · exact hS s hs
      · obtain ⟨t, ht, rfl⟩ := List.mem_map.mp hs
        have := hsy t ht
        exact ⟨(on_b bk1 bk2 this.b).le (by decide), _, pm, t, this.t0, this.t1, rfl⟩
end G

namespace G
open PySem L2 M
theorem is_spot_g {z : Spt} (h : Bs 8900 z) : m_law_is_spot z = some true := by
  simp [m_law_is_spot, bd, is_ratio_g h.x, is_ratio_g h.y]
theorem cut_mem {α : Type} {xs : List α} {l h : Option Int} {x : α} (hx : x ∈ cutD xs l h) : x ∈ xs := by
  unfold cutD at hx
  exact List.mem_of_mem_drop (List.mem_of_mem_take hx)
theorem absR_nn (q : Rat) : 0 ≤ absR q := by
  unfold absR
  grind
theorem law_math : m_law (fun z => z = true) := by
  have r3 : rng1? (3 : Int) = some (rngL 0 3) := rng1_eq (by decide)
  have pz : p2r (0, 1) = some (0 : Rat) := by decide +kernel
  have ph : p2r (1, 2) = some (Rat.divInt 1 2) := by decide +kernel
  have p3 : p2r (3, 1) = some (Rat.divInt 3 1) := by decide +kernel
  have p9 : p2r (9, 1) = some (Rat.divInt 9 1) := by decide +kernel
  simp only [m_law, bd, Option.bind_some, lf_some, r3]
  refine loopW_all (fun s => s = true) _ true rfl (fun s x C hs _ hC => ?_) (fun s hs => hs)
  subst hs
  simp only [slW, callBW, tup2W, lf_some]
  refine corners_sp (by decide) (by decide) fun row hl h2 hz => ?_
  simp only [unW, callBW, drawW, lf_some]
  refine ⟨by decide, by decide, fun r r0 r1 => ?_⟩
  obtain ⟨rn, rfl⟩ : ∃ n : Nat, r = n := ⟨r.toNat, by omega⟩
  rw [cut_from (by omega)]
  have hP : Pl (row.drop rn) := ⟨by rw [List.length_drop]; omega, by rw [List.length_drop]; omega, fun z hz' => hz z (List.mem_of_mem_drop hz')⟩
  have h5 : (row.drop rn).length ≤ 5 := by rw [List.length_drop]; omega
  generalize row.drop rn = ones at hP h5
  clear hz h2 hl
  refine corners_sp (by decide) (by decide) fun row2 hl h2 hz => ?_
  refine ⟨by decide, by decide, fun r' r0' r1' => ?_⟩
  obtain ⟨rm, rfl⟩ : ∃ n : Nat, r' = n := ⟨r'.toNat, by omega⟩
  rw [cut_from (by omega)]
  have hO : Pl (row2.drop rm) := ⟨by rw [List.length_drop]; omega, by rw [List.length_drop]; omega, fun z hz' => hz z (List.mem_of_mem_drop hz')⟩
  generalize row2.drop rm = others0 at hO
  have l0 := hP.l0
  refine jn_of (fun z => Pl z) (fun J hJ => ?_) (fun others hQ => ?_)
  · simp only [opW, callBW, drawW, lf_some]
    refine ⟨by decide, by decide, fun c _ _ => ?_⟩
    by_cases c0 : 0 < c
    · simp only [c0, decide_true, if_true]
      refine ⟨by omega, by omega, fun gn g0 g1 => ?_⟩
      by_cases c1 : (ones.length : Int) < 3
      · have ne : ones ≠ [] := fun z => by rw [z] at l0; simp at l0
        obtain ⟨la, e1, m1⟩ := last_at ne
        simp only [c1, decide_true, if_true, pt_at (ps := ones) (k := 0) (by omega) (by omega), Option.bind_some, e1, lf_some]
        refine hJ _ ⟨by simp, by simp, fun z hz => ?_⟩
        simp only [List.mem_cons, List.not_mem_nil, or_false] at hz
        rcases hz with rfl | rfl
        · exact hP.b _ (pt_mem (by omega) (by omega))
        · exact hP.b _ m1
      · simp only [c1, decide_false, Bool.false_eq_true, if_false]
        obtain ⟨gm, rfl⟩ : ∃ n : Nat, gn = n := ⟨gn.toNat, by omega⟩
        have e1 : (cutD ones none (some (gm : Int))).length = gm := by
          unfold cutD HT.sIx
          simp [show ¬ (gm : Int) < 0 by omega]
          omega
        have e2 : (cutD ones (some ((gm : Int) + 1)) none).length = ones.length - (gm + 1) := by
          have := cut_from (xs := ones) (a := gm + 1) (by omega)
          rw [show ((gm + 1 : Nat) : Int) = (gm : Int) + 1 by omega] at this
          rw [this, List.length_drop]
        rw [M.cat_eq (by omega), lf_some]
        refine hJ _ ⟨by rw [List.length_append]; omega, by rw [List.length_append]; omega, fun z hz => ?_⟩
        rcases List.mem_append.mp hz with hz | hz
        · exact hP.b _ (cut_mem hz)
        · exact hP.b _ (cut_mem hz)
    · simp only [c0, decide_false, Bool.false_eq_true, if_false]
      exact hJ _ hO
  · have m0 := hQ.l0
    simp only [consW, callBW, tup2W, lf_some, pz, ph, p3, p9]
    refine ratio_sp (by decide) (by decide) fun q5 bq5 => ?_
    simp only [anyW]
    refine ⟨by simp, by simp, fun rm brm => ?_⟩
    have brm : Bq 1245 rm := by
      simp only [List.mem_cons, List.not_mem_nil, or_false] at brm
      rcases brm with rfl | rfl | rfl | rfl | rfl
      · exact bq01.1.le (by decide)
      · exact (⟨by decide +kernel, by decide +kernel⟩ : Bq 4 (Rat.divInt 1 2)).le (by decide)
      · exact (⟨by decide +kernel, by decide +kernel⟩ : Bq 4 (Rat.divInt 3 1)).le (by decide)
      · exact (⟨by decide +kernel, by decide +kernel⟩ : Bq 4 (Rat.divInt 9 1)).le (by decide)
      · exact bq5.le (by decide)
    refine jn_of (fun z => Bq 1245 z) (fun J hJ => ?_) (fun room0 br0 => ?_)
    · simp only [opW, callBW, drawW, lf_some]
      refine ⟨by decide, by decide, fun c _ _ => ?_⟩
      by_cases c0 : c = 0
      · simp only [c0, decide_true, if_true, unW, tup2W, callBW, anyW, lf_some]
        have ne : ones ≠ [] := fun z => by rw [z] at l0; simp at l0
        refine ⟨ne, by omega, fun a ha => ?_⟩
        obtain ⟨e1, b1⟩ := apart_g (hP.b a ha) hQ
        rw [e1, lf_some]
        exact hJ _ b1
      · simp only [c0, decide_false, Bool.false_eq_true, if_false]
        exact hJ _ brm
    · rw [p2r_abs, lf_some]
      have br := br0.abs
      have nn := absR_nn room0
      generalize absR room0 = room at br nn
      have w0 : atI [ones, others] 0 = some ones := rfl
      have w1 : atI [ones, others] 1 = some others := rfl
      obtain ⟨o, eo, k1, k2⟩ := bare_g hP hQ br nn
      simp only [lf_some, w0, w1, Option.bind_some, eo, if_true, decide_true]
      refine jn_of (fun g => g = true) (fun J hJ => ?_) (fun g hg => hC g hg)
      cases o with
      | none =>
        have all := k1 rfl
        simp only [optM, callBW, tup2W, lf_some]
        refine spots_sp hP hQ br fun F hF => ?_
        refine loopW_all (fun s => s = true) F true rfl (fun s z C2 hs hz hC2 => ?_) (fun s hs => hJ s hs)
        subst hs
        obtain ⟨bz, p, hp, t, t0, t1, e⟩ := hF z hz
        obtain ⟨k, ek, hk⟩ := reaches_g (bz.le (by decide)) hQ br
        have kt : k = true := by
          rw [hk, lk_near hQ]
          obtain ⟨q, hq, w⟩ := all p hp t t0 t1
          rw [e]
          exact ⟨q, hq, w⟩
        subst kt
        simp only [if_true, ek, lf_some]
        exact hC2 _ rfl
      | some z =>
        obtain ⟨bz, p, hp, t, t0, t1, e, n⟩ := k2 z rfl
        simp only [optM, pz, Option.bind_some, is_spot_g (bz.le (by decide)), if_true]
        obtain ⟨k, ek, hk⟩ := reaches_g (room := 0) bz hP (bq01.1.le (by decide))
        have kt : k = true := by
          rw [hk, lk_near hP]
          exact ⟨p, hp, t, t0, t1, by rw [e, on_self]; exact Rat.le_refl⟩
        subst kt
        obtain ⟨k', ek', hk'⟩ := reaches_g bz hQ br
        have kf : k' = false := by
          rw [Bool.eq_false_iff]
          intro kt
          obtain ⟨q, hq, w⟩ := (lk_near hQ).mp (hk'.mp kt)
          rw [e] at w
          exact n q hq w
        subst kf
        simp only [ek, ek', if_true, lf_some, Option.bind_some, Bool.not_false]
        exact hJ _ rfl
end G

namespace G
open PySem L2 M
section
variable {P : Program} {w : World} {K : PySem.W.Frag} {mg : Str → Option Value} {base : Heap}

def spLaw (K : PySem.W.Frag) : Sp := fun vs H Q _ => ∃ (a : Addr) (ns : List Int), vs = [.ref a] ∧ SqL K H a (ns.map V.int) ∧ ns.length ≤ 63 ∧ ∀ H', Q (.bl true) H'
theorem ok_law (ev : Env K mg) : FnOk P w K mg base CX0 8 ev.f_law ev.d_law p_law (spLaw K) := by
  refine ev.A_law.F.ok sc_law (fun vs H Q E h => ?_) (fun cdv A outer s Hs vs Q E hr h => ?_)
  · obtain ⟨a, ns, rfl, _⟩ := h
    rfl
  obtain ⟨a0, ns, rfl, hS, hl, qq⟩ := h
  have hm := law_math
  refine ⟨_, (pss_cons (ps_set (i := 1) sc_law.nd rfl (Or.inl rfl) (pe_call (ok_law_bag ev) (hr.mono (by decide)) (by rfl) ev.A_law_bag.m ev.A_law_bag.F.kp ev.A_law_bag.b .nil pass0 (pa_cons (pv 0) pa_nil)))
    (pss_cons (ps_set (i := 2) sc_law.nd rfl (Or.inl rfl) pe_bl)
    (pss_cons (ps_for PassesOwn.never rfl (pi_range1 rfl ev.B.range_ (pa_cons pe_int pa_nil)) (pg_name (i := 3) sc_law.nd rfl (Or.inl rfl))
    (pss_cons (ps_set (i := 4) sc_law.nd rfl (Or.inl rfl) (pe_slice sl_list (pe_call (ok_law_corners ev) (hr.mono (by decide)) (by rfl) ev.A_law_corners.m ev.A_law_corners.F.kp ev.A_law_corners.b .nil pass0 (pa_cons (pv 1) (pa_cons pe_int pa_nil))) (po_some (pe_call (ok_law_draw ev) (hr.mono (by decide)) (by rfl) ev.A_law_draw.m ev.A_law_draw.F.kp ev.A_law_draw.b .nil pass0 (pa_cons (pv 1) (pa_cons pe_int pa_nil)))) po_none))
    (pss_cons (ps_set (i := 5) sc_law.nd rfl (Or.inl rfl) (pe_slice sl_list (pe_call (ok_law_corners ev) (hr.mono (by decide)) (by rfl) ev.A_law_corners.m ev.A_law_corners.F.kp ev.A_law_corners.b .nil pass0 (pa_cons (pv 1) (pa_cons pe_int pa_nil))) (po_some (pe_call (ok_law_draw ev) (hr.mono (by decide)) (by rfl) ev.A_law_draw.m ev.A_law_draw.F.kp ev.A_law_draw.b .nil pass0 (pa_cons (pv 1) (pa_cons pe_int pa_nil)))) po_none))
    (pss_cons (ps_if (pt_cmpR op_gt (pe_call (ok_law_draw ev) (hr.mono (by decide)) (by rfl) ev.A_law_draw.m ev.A_law_draw.F.kp ev.A_law_draw.b .nil pass0 (pa_cons (pv 1) (pa_cons pe_int pa_nil))) pe_int (nomark _))
    (pss_cons (ps_set (i := 6) sc_law.nd rfl (Or.inl rfl) (pe_call (ok_law_draw ev) (hr.mono (by decide)) (by rfl) ev.A_law_draw.m ev.A_law_draw.F.kp ev.A_law_draw.b .nil pass0 (pa_cons (pv 1) (pa_cons (pe_callB call_len_seq (by rfl) ev.B.len_ PySem.boot_len (pa_cons (pv 4) pa_nil)) pa_nil))))
    (pss_one (ps_set (i := 5) sc_law.nd rfl (Or.inl rfl) (pe_ifExp (pt_cmpR op_lt (pe_callB call_len_seq (by rfl) ev.B.len_ PySem.boot_len (pa_cons (pv 4) pa_nil)) pe_int (nomark _)) (pe_lst (pa_cons (pe_ix ix_list (pv 4) pe_int (fun _ _ => rfl)) (pa_cons (pe_ix ix_list (pv 4) (pe_un un_neg pe_int) (fun _ _ => rfl)) pa_nil))) (pe_op op_cat (pe_slice sl_list (pv 4) po_none (po_some (pv 6))) (pe_slice sl_list (pv 4) (po_some (pe_op op_add (pv 6) pe_int)) po_none)))))) pss_nil)
    (pss_cons (ps_set (i := 7) sc_law.nd rfl (Or.inl rfl) (pe_call (ok_law_any ev) (hr.mono (by decide)) (by rfl) ev.A_law_any.m ev.A_law_any.F.kp ev.A_law_any.b .nil pass0 (pa_cons (pv 1) (pa_cons (pe_lst (pa_cons (pe_tup (pa_cons pe_int (pa_cons pe_int pa_nil))) (pa_cons (pe_tup (pa_cons pe_int (pa_cons pe_int pa_nil))) (pa_cons (pe_tup (pa_cons pe_int (pa_cons pe_int pa_nil))) (pa_cons (pe_tup (pa_cons pe_int (pa_cons pe_int pa_nil))) (pa_cons (pe_call (ok_law_ratio ev) (hr.mono (by decide)) (by rfl) ev.A_law_ratio.m ev.A_law_ratio.F.kp ev.A_law_ratio.b .nil pass0 (pa_cons (pv 1) (pa_cons pe_int pa_nil))) pa_nil)))))) pa_nil))))
    (pss_cons (ps_if (pt_cmpR op_eq (pe_call (ok_law_draw ev) (hr.mono (by decide)) (by rfl) ev.A_law_draw.m ev.A_law_draw.F.kp ev.A_law_draw.b .nil pass0 (pa_cons (pv 1) (pa_cons pe_int pa_nil))) pe_int (nomark _))
    (pss_one (ps_set (i := 7) sc_law.nd rfl (Or.inl rfl) (pe_call (ok_apart ev) (hr.mono (by decide)) (by rfl) ev.A_apart.m ev.A_apart.F.kp ev.A_apart.b .nil pass0 (pa_cons (pe_call (ok_law_any ev) (hr.mono (by decide)) (by rfl) ev.A_law_any.m ev.A_law_any.F.kp ev.A_law_any.b .nil pass0 (pa_cons (pv 1) (pa_cons (pv 4) pa_nil))) (pa_cons (pv 5) pa_nil))))) pss_nil)
    (pss_cons (ps_set (i := 7) sc_law.nd rfl (Or.inl rfl) (pe_tup (pa_cons (pe_callB call_abs (by rfl) ev.B.abs_ (by decide +kernel) (pa_cons (pe_ix ix_tup (pv 7) pe_int (fun _ _ => rfl)) pa_nil)) (pa_cons (pe_ix ix_tup (pv 7) pe_int (fun _ _ => rfl)) pa_nil))))
    (pss_cons (ps_set (i := 8) sc_law.nd rfl (Or.inl rfl) (pe_lst (pa_cons (pe_callTy call_list_of (by rfl) ev.B.list_ (by decide +kernel) (pa_cons (pv 4) pa_nil)) (pa_cons (pe_callTy call_list_of (by rfl) ev.B.list_ (by decide +kernel) (pa_cons (pv 5) pa_nil)) pa_nil))))
    (pss_cons (ps_set (i := 9) sc_law.nd rfl (Or.inl rfl) (pe_call (ok_bare ev) (hr.mono (by decide)) (by rfl) ev.A_bare.m ev.A_bare.F.kp ev.A_bare.b .nil pass0 (pa_cons (pe_ix ix_list (pv 8) pe_int (fun _ _ => rfl)) (pa_cons (pe_ix ix_list (pv 8) pe_int (fun _ _ => rfl)) (pa_cons (pv 7) pa_nil)))))
    (pss_cons (ps_set (i := 2) sc_law.nd rfl (Or.inl rfl) (pe_and (pv 2) (pe_one (pe_cmpR (op_eqD hr.units) (pv 8) (pe_lst (pa_cons (pv 4) (pa_cons (pv 5) pa_nil))) (nomark _)))))
    (pss_one (ps_if (pt_cmpR op_isN (pv 9) pe_non (nomark _))
    (pss_one (ps_for PassesOwn.never rfl (pi_list (pe_call (ok_law_spots_of ev) (hr.mono (by decide)) (by rfl) ev.A_law_spots_of.m ev.A_law_spots_of.F.kp ev.A_law_spots_of.b .nil pass0 (pa_cons (pv 1) (pa_cons (pv 4) (pa_cons (pv 5) (pa_cons (pv 7) pa_nil)))))) (pg_name (i := 10) sc_law.nd rfl (Or.inl rfl))
    (pss_one (ps_set (i := 2) sc_law.nd rfl (Or.inl rfl) (pe_and (pv 2) (pe_one (pe_call (ok_law_reaches ev) (hr.mono (by decide)) (by rfl) ev.A_law_reaches.m ev.A_law_reaches.F.kp ev.A_law_reaches.b .nil pass0 (pa_cons (pv 10) (pa_cons (pv 5) (pa_cons (pv 7) pa_nil)))))))))) (pss_cons (ps_set (i := 2) sc_law.nd rfl (Or.inl rfl) (pe_and (pv 2) (pe_and (pe_call (ok_law_is_spot ev) (hr.mono (by decide)) (by rfl) ev.A_law_is_spot.m ev.A_law_is_spot.F.kp ev.A_law_is_spot.b .nil pass0 (pa_cons (pv 9) pa_nil)) (pe_one (pe_call (ok_law_reaches ev) (hr.mono (by decide)) (by rfl) ev.A_law_reaches.m ev.A_law_reaches.F.kp ev.A_law_reaches.b .nil pass0 (pa_cons (pv 9) (pa_cons (pv 4) (pa_cons (pe_tup (pa_cons pe_int (pa_cons pe_int pa_nil))) pa_nil))))))))
    (pss_one (ps_set (i := 2) sc_law.nd rfl (Or.inl rfl) (pe_and (pv 2) (pe_one (pe_not (pe_call (ok_law_reaches ev) (hr.mono (by decide)) (by rfl) ev.A_law_reaches.m ev.A_law_reaches.F.kp ev.A_law_reaches.b .nil pass0 (pa_cons (pv 9) (pa_cons (pv 5) (pa_cons (pv 7) pa_nil))))))))))))))))))))))
    (pss_one (ps_ret (pv 2)))))), ?_⟩
  refine seq_asg ⟨_, rfl, a0, ns, rfl, hS, hl, fun b c H0 hB nb nc sm => ?_⟩
  have dm := hB.dom
  have ts : Sub [b, c] [b, c] := fun a m => m
  have sub0 : Sub [b, c] [b, c] := fun a m => m
  have fr0 := Fr.refl (T := [b, c]) H0
  have q : ∀ (u : V) (H' : Hp) (z : Bool), z = true → Fr [b, c] H0 H' → Bag H' b c → (of (K := K) tBool [b, c]).r H0 H' u z → Q u H' := fun u H' z hz _ _ hu => by
    subst hz
    cases hu
    exact qq H'
  dsimp only [m_law] at hm
  obtain ⟨law_good_1, e1, hm⟩ := hm
  refine q_asg (T := [b, c]) dm (ev_bool (K := K)) e1 (fun v_law_good H1 s1 h_law_good => ?_)
  have fr0 := fr0.trans (Fr.same s1)
  have dm := dm.same s1
  have hB := hB.same s1
  have h_law_good : (tBool : Ty K Bool).rp [b, c] H1 v_law_good law_good_1 := h_law_good
  refine qw_for_s dm hB ts (srw_pure (sr_r1 (K := K) (ev_int (K := K)))) hm (fun s_2 σ' H' => ∃ v_law_good : V, ∃ f_3 : Option V, ∃ f_4 : Option V, ∃ f_5 : Option V, ∃ f_6 : Option V, ∃ f_7 : Option V, ∃ f_8 : Option V, ∃ f_9 : Option V, ∃ f_10 : Option V, σ' = [some (.ref a0), some (.ref b), some v_law_good, f_3, f_4, f_5, f_6, f_7, f_8, f_9, f_10] ∧ Fr [b, c] H0 H' ∧ Dom [b, c] H' ∧ Bag H' b c ∧ (tBool : Ty K Bool).rp [b, c] H' v_law_good s_2) (fun H2 fr2 dm2 hB2 => ?_) (fun hd2 s_2 law_turn_2 C2 v_law_turn σ' H' hI h_law_turn hm hret2 hbrk2 => ?_) (fun t_2 σ' H' hm hI => ?_)
  · skip
    have fr0 := fr0.trans fr2
    have h_law_good := (tBool : Ty K Bool).mono (S := [b, c]) (fr2.sub ts) h_law_good
    have dm := dm2
    have hB := hB2
    exact ⟨v_law_good, _, _, _, _, _, _, _, _, rfl, fr0, dm, hB, h_law_good⟩
  · skip
    obtain ⟨v_law_good, f_3, f_4, f_5, f_6, f_7, f_8, f_9, f_10, rfl, fr0, dm, hB, h_law_good⟩ := hI
    let HL := H'
    have freshl : ∀ a ∈ [b, c], a ∉ [b, c] → H' a = none := fun a m n => absurd m n
    have frl : Fr [b, c] HL H' := Fr.refl (T := [b, c]) H'
    have tsl := ts
    have subl : Sub [b, c] [b, c] := fun a m => m
    have h_law_turn : (tInt : Ty K Int).rp [b, c] H' v_law_turn law_turn_2 := h_law_turn
    refine qw_asg dm hB ts (ew_new (ew_slL (ew_new (ew_callB rfl (wa_cons (ew_pure (ev_int (K := K))) wa_nil))) (wo_some (ew_draw (K := K) rfl (ew_pure (ev_int (K := K))))) (wo_pure eo_none))) hm (fun v_law_ones H3 law_ones_3 hm fr3 dm3 hB3 h_law_ones => ?_)
    have fr0 := fr0.trans fr3
    have frl := frl.trans (fr3.sub tsl)
    have h_law_good := (tBool : Ty K Bool).mono (S := [b, c]) (fr3.sub ts) h_law_good
    have h_law_turn := (tInt : Ty K Int).mono (S := [b, c]) (fr3.sub ts) h_law_turn
    have dm := dm3
    have hB := hB3
    have h_law_ones : ((tL (tT2 tRat tRat)) : Ty K (List (Rat × Rat))).rp [b, c] H3 v_law_ones law_ones_3 := h_law_ones
    refine qw_asg dm hB ts (ew_new (ew_slL (ew_new (ew_callB rfl (wa_cons (ew_pure (ev_int (K := K))) wa_nil))) (wo_some (ew_draw (K := K) rfl (ew_pure (ev_int (K := K))))) (wo_pure eo_none))) hm (fun v_law_others H4 law_others_4 hm fr4 dm4 hB4 h_law_others => ?_)
    have fr0 := fr0.trans fr4
    have frl := frl.trans (fr4.sub tsl)
    have h_law_good := (tBool : Ty K Bool).mono (S := [b, c]) (fr4.sub ts) h_law_good
    have h_law_turn := (tInt : Ty K Int).mono (S := [b, c]) (fr4.sub ts) h_law_turn
    have h_law_ones := ((tL (tT2 tRat tRat)) : Ty K (List (Rat × Rat))).mono (S := [b, c]) (fr4.sub ts) h_law_ones
    have dm := dm4
    have hB := hB4
    have h_law_others : ((tL (tT2 tRat tRat)) : Ty K (List (Rat × Rat))).rp [b, c] H4 v_law_others law_others_4 := h_law_others
    obtain ⟨J5, hK5, hm⟩ := jn_open hm
    refine seq_by (fun σ' H' => ∃ j8, J5 j8 ∧ Fr [b, c] HL H' ∧ ∃ v_law_good : V, ∃ v_law_turn : V, ∃ v_law_ones : V, ∃ v_law_others : V, ∃ f_6 : Option V, ∃ f_7 : Option V, ∃ f_8 : Option V, ∃ f_9 : Option V, ∃ f_10 : Option V, σ' = [some (.ref a0), some (.ref b), some v_law_good, some v_law_turn, some v_law_ones, some v_law_others, f_6, f_7, f_8, f_9, f_10] ∧ Fr [b, c] H0 H' ∧ Dom [b, c] H' ∧ Bag H' b c ∧ (tBool : Ty K Bool).rp [b, c] H' v_law_good s_2 ∧ (tInt : Ty K Int).rp [b, c] H' v_law_turn law_turn_2 ∧ ((tL (tT2 tRat tRat)) : Ty K (List (Rat × Rat))).rp [b, c] H' v_law_ones law_ones_3 ∧ ((tL (tT2 tRat tRat)) : Ty K (List (Rat × Rat))).rp [b, c] H' v_law_others j8) (fun σ' H' hI => ?_) (fun rest5 => ?_)
    · skip
      obtain ⟨j8, hj, ⟨frl, v_law_good, v_law_turn, v_law_ones, v_law_others, f_6, f_7, f_8, f_9, f_10, rfl, fr0, dm, hB, h_law_good, h_law_turn, h_law_ones, h_law_others⟩⟩ := hI
      have hm := hK5 j8 hj
      refine qw_asg dm hB ts (ew_any rfl (ew_new (ew_lst (wl_cons (ew_pure (ev_p2r (ev_tup2 (ev_int (K := K)) (ev_int (K := K))))) (wl_cons (ew_pure (ev_p2r (ev_tup2 (ev_int (K := K)) (ev_int (K := K))))) (wl_cons (ew_pure (ev_p2r (ev_tup2 (ev_int (K := K)) (ev_int (K := K))))) (wl_cons (ew_pure (ev_p2r (ev_tup2 (ev_int (K := K)) (ev_int (K := K))))) (wl_cons (ew_callB rfl (wa_cons (ew_pure (ev_int (K := K))) wa_nil)) wl_nil))))) (by decide)))) hm (fun v_law_room H9 law_room_9 hm fr9 dm9 hB9 h_law_room => ?_)
      have fr0 := fr0.trans fr9
      have frl := frl.trans (fr9.sub tsl)
      have h_law_good := (tBool : Ty K Bool).mono (S := [b, c]) (fr9.sub ts) h_law_good
      have h_law_turn := (tInt : Ty K Int).mono (S := [b, c]) (fr9.sub ts) h_law_turn
      have h_law_ones := ((tL (tT2 tRat tRat)) : Ty K (List (Rat × Rat))).mono (S := [b, c]) (fr9.sub ts) h_law_ones
      have h_law_others := ((tL (tT2 tRat tRat)) : Ty K (List (Rat × Rat))).mono (S := [b, c]) (fr9.sub ts) h_law_others
      have dm := dm9
      have hB := hB9
      have h_law_room : (tRat : Ty K Rat).rp [b, c] H9 v_law_room law_room_9 := h_law_room
      obtain ⟨J10, hK10, hm⟩ := jn_open hm
      refine seq_by (fun σ' H' => ∃ j12, J10 j12 ∧ Fr [b, c] HL H' ∧ ∃ v_law_good : V, ∃ v_law_turn : V, ∃ v_law_ones : V, ∃ v_law_others : V, ∃ v_law_room : V, ∃ f_6 : Option V, ∃ f_8 : Option V, ∃ f_9 : Option V, ∃ f_10 : Option V, σ' = [some (.ref a0), some (.ref b), some v_law_good, some v_law_turn, some v_law_ones, some v_law_others, f_6, some v_law_room, f_8, f_9, f_10] ∧ Fr [b, c] H0 H' ∧ Dom [b, c] H' ∧ Bag H' b c ∧ (tBool : Ty K Bool).rp [b, c] H' v_law_good s_2 ∧ (tInt : Ty K Int).rp [b, c] H' v_law_turn law_turn_2 ∧ ((tL (tT2 tRat tRat)) : Ty K (List (Rat × Rat))).rp [b, c] H' v_law_ones law_ones_3 ∧ ((tL (tT2 tRat tRat)) : Ty K (List (Rat × Rat))).rp [b, c] H' v_law_others j8 ∧ (tRat : Ty K Rat).rp [b, c] H' v_law_room j12) (fun σ' H' hI => ?_) (fun rest10 => ?_)
      · skip
        obtain ⟨j12, hj, ⟨frl, v_law_good, v_law_turn, v_law_ones, v_law_others, v_law_room, f_6, f_8, f_9, f_10, rfl, fr0, dm, hB, h_law_good, h_law_turn, h_law_ones, h_law_others, h_law_room⟩⟩ := hI
        have hm := hK10 j12 hj
        obtain ⟨law_room_13, e13, hm⟩ := hm
        refine q_asg (T := [b, c]) dm (ev_p2r (ev_tup2 (ev_abs (ev_ixR0 (ev_var ts h_law_room rfl))) (ev_ixR1 (ev_var ts h_law_room rfl)))) e13 (fun v_law_room H13 s13 h_law_room => ?_)
        have fr0 := fr0.trans (Fr.same s13)
        have dm := dm.same s13
        have frl := frl.trans (Fr.same s13)
        have h_law_good := (tBool : Ty K Bool).mono (S := [b, c]) (Fr.same s13) h_law_good
        have h_law_turn := (tInt : Ty K Int).mono (S := [b, c]) (Fr.same s13) h_law_turn
        have h_law_ones := ((tL (tT2 tRat tRat)) : Ty K (List (Rat × Rat))).mono (S := [b, c]) (Fr.same s13) h_law_ones
        have h_law_others := ((tL (tT2 tRat tRat)) : Ty K (List (Rat × Rat))).mono (S := [b, c]) (Fr.same s13) h_law_others
        have hB := hB.same s13
        have h_law_room : (tRat : Ty K Rat).rp [b, c] H13 v_law_room law_room_13 := h_law_room
        obtain ⟨law_handed_14, e14, hm⟩ := hm
        refine q_asg (T := [b, c]) dm (ev_new (ev_lst (el_cons (ev_new (ev_list (ev_var ts h_law_ones rfl))) (el_cons (ev_new (ev_list (ev_var ts h_law_others rfl))) el_nil)) (by decide))) e14 (fun v_law_handed H14 s14 h_law_handed => ?_)
        have fr0 := fr0.trans (Fr.same s14)
        have dm := dm.same s14
        have frl := frl.trans (Fr.same s14)
        have h_law_good := (tBool : Ty K Bool).mono (S := [b, c]) (Fr.same s14) h_law_good
        have h_law_turn := (tInt : Ty K Int).mono (S := [b, c]) (Fr.same s14) h_law_turn
        have h_law_ones := ((tL (tT2 tRat tRat)) : Ty K (List (Rat × Rat))).mono (S := [b, c]) (Fr.same s14) h_law_ones
        have h_law_others := ((tL (tT2 tRat tRat)) : Ty K (List (Rat × Rat))).mono (S := [b, c]) (Fr.same s14) h_law_others
        have h_law_room := (tRat : Ty K Rat).mono (S := [b, c]) (Fr.same s14) h_law_room
        have hB := hB.same s14
        have h_law_handed : ((tL (tL (tT2 tRat tRat))) : Ty K (List (List (Rat × Rat)))).rp [b, c] H14 v_law_handed law_handed_14 := h_law_handed
        obtain ⟨law_told_15, e15, hm⟩ := hm
        refine q_asg (T := [b, c]) dm (ev_call (ea_cons (ev_op od_ixL (ev_var ts h_law_handed rfl) (ev_int (K := K))) (ea_cons (ev_op od_ixL (ev_var ts h_law_handed rfl) (ev_int (K := K))) (ea_cons (ev_var ts h_law_room rfl) ea_nil)))) e15 (fun v_law_told H15 s15 h_law_told => ?_)
        have fr0 := fr0.trans (Fr.same s15)
        have dm := dm.same s15
        have frl := frl.trans (Fr.same s15)
        have h_law_good := (tBool : Ty K Bool).mono (S := [b, c]) (Fr.same s15) h_law_good
        have h_law_turn := (tInt : Ty K Int).mono (S := [b, c]) (Fr.same s15) h_law_turn
        have h_law_ones := ((tL (tT2 tRat tRat)) : Ty K (List (Rat × Rat))).mono (S := [b, c]) (Fr.same s15) h_law_ones
        have h_law_others := ((tL (tT2 tRat tRat)) : Ty K (List (Rat × Rat))).mono (S := [b, c]) (Fr.same s15) h_law_others
        have h_law_room := (tRat : Ty K Rat).mono (S := [b, c]) (Fr.same s15) h_law_room
        have h_law_handed := ((tL (tL (tT2 tRat tRat))) : Ty K (List (List (Rat × Rat)))).mono (S := [b, c]) (Fr.same s15) h_law_handed
        have hB := hB.same s15
        have h_law_told : ((tOpt (tT2 tRat tRat)) : Ty K (Option (Rat × Rat))).rp [b, c] H15 v_law_told law_told_15 := h_law_told
        obtain ⟨law_good_16, e16, hm⟩ := hm
        refine q_asg (T := [b, c]) dm (ev_and (ev_var ts h_law_good rfl) (ev_op (od_eqD (K := K) (dL (dL (dT2 dRat dRat))) (Nat.le_of_ble_eq_true rfl)) (ev_var ts h_law_handed rfl) (ev_new (ev_lst (el_cons (ev_var ts h_law_ones rfl) (el_cons (ev_var ts h_law_others rfl) el_nil)) (by decide))))) e16 (fun v_law_good H16 s16 h_law_good => ?_)
        have fr0 := fr0.trans (Fr.same s16)
        have dm := dm.same s16
        have frl := frl.trans (Fr.same s16)
        have h_law_turn := (tInt : Ty K Int).mono (S := [b, c]) (Fr.same s16) h_law_turn
        have h_law_ones := ((tL (tT2 tRat tRat)) : Ty K (List (Rat × Rat))).mono (S := [b, c]) (Fr.same s16) h_law_ones
        have h_law_others := ((tL (tT2 tRat tRat)) : Ty K (List (Rat × Rat))).mono (S := [b, c]) (Fr.same s16) h_law_others
        have h_law_room := (tRat : Ty K Rat).mono (S := [b, c]) (Fr.same s16) h_law_room
        have h_law_handed := ((tL (tL (tT2 tRat tRat))) : Ty K (List (List (Rat × Rat)))).mono (S := [b, c]) (Fr.same s16) h_law_handed
        have h_law_told := ((tOpt (tT2 tRat tRat)) : Ty K (Option (Rat × Rat))).mono (S := [b, c]) (Fr.same s16) h_law_told
        have hB := hB.same s16
        have h_law_good : (tBool : Ty K Bool).rp [b, c] H16 v_law_good law_good_16 := h_law_good
        obtain ⟨J17, hK17, hm⟩ := jn_open hm
        refine seq_last (fun σ' H' => ∃ j23, J17 j23 ∧ Fr [b, c] HL H' ∧ ∃ v_law_turn : V, ∃ v_law_ones : V, ∃ v_law_others : V, ∃ v_law_room : V, ∃ v_law_handed : V, ∃ v_law_told : V, ∃ v_law_good : V, ∃ f_6 : Option V, ∃ f_10 : Option V, σ' = [some (.ref a0), some (.ref b), some v_law_good, some v_law_turn, some v_law_ones, some v_law_others, f_6, some v_law_room, some v_law_handed, some v_law_told, f_10] ∧ Fr [b, c] H0 H' ∧ Dom [b, c] H' ∧ Bag H' b c ∧ (tInt : Ty K Int).rp [b, c] H' v_law_turn law_turn_2 ∧ ((tL (tT2 tRat tRat)) : Ty K (List (Rat × Rat))).rp [b, c] H' v_law_ones law_ones_3 ∧ ((tL (tT2 tRat tRat)) : Ty K (List (Rat × Rat))).rp [b, c] H' v_law_others j8 ∧ (tRat : Ty K Rat).rp [b, c] H' v_law_room law_room_13 ∧ ((tL (tL (tT2 tRat tRat))) : Ty K (List (List (Rat × Rat)))).rp [b, c] H' v_law_handed law_handed_14 ∧ ((tOpt (tT2 tRat tRat)) : Ty K (Option (Rat × Rat))).rp [b, c] H' v_law_told law_told_15 ∧ (tBool : Ty K Bool).rp [b, c] H' v_law_good j23) (fun σ' H' hI => ?_) (fun rest17 => ?_)
        · skip
          obtain ⟨j23, hj, ⟨frl, v_law_turn, v_law_ones, v_law_others, v_law_room, v_law_handed, v_law_told, v_law_good, f_6, f_10, rfl, fr0, dm, hB, h_law_turn, h_law_ones, h_law_others, h_law_room, h_law_handed, h_law_told, h_law_good⟩⟩ := hI
          have hm := hK17 j23 hj
          exact ⟨_, hm, frl, ⟨v_law_good, _, _, _, _, _, _, _, _, rfl, fr0, dm, hB, h_law_good⟩⟩
        rcases optp_cases hm with ⟨eo17, hm⟩ | ⟨law_told_17, eo17, hm⟩
        · skip
          refine l_if (T := [b, c]) (b := true) dm (eb_isN (a := ((tT2 tRat tRat) : Ty K (Rat × Rat))) ts h_law_told rfl) (by rw [eo17]; rfl) (fun hc H17 s17 => ?_) (fun hc H17 s17 => by cases hc)
          have fr0 := fr0.trans (Fr.same s17)
          have dm := dm.same s17
          have frl := frl.trans (Fr.same s17)
          have h_law_turn := (tInt : Ty K Int).mono (S := [b, c]) (Fr.same s17) h_law_turn
          have h_law_ones := ((tL (tT2 tRat tRat)) : Ty K (List (Rat × Rat))).mono (S := [b, c]) (Fr.same s17) h_law_ones
          have h_law_others := ((tL (tT2 tRat tRat)) : Ty K (List (Rat × Rat))).mono (S := [b, c]) (Fr.same s17) h_law_others
          have h_law_room := (tRat : Ty K Rat).mono (S := [b, c]) (Fr.same s17) h_law_room
          have h_law_handed := ((tL (tL (tT2 tRat tRat))) : Ty K (List (List (Rat × Rat)))).mono (S := [b, c]) (Fr.same s17) h_law_handed
          have h_law_told := ((tOpt (tT2 tRat tRat)) : Ty K (Option (Rat × Rat))).mono (S := [b, c]) (Fr.same s17) h_law_told
          have h_law_good := (tBool : Ty K Bool).mono (S := [b, c]) (Fr.same s17) h_law_good
          have hB := hB.same s17
          refine lw_for_s dm hB ts (srw_list (ew_callB rfl (wa_cons (ew_pure (ev_var ts h_law_ones rfl)) (wa_cons (ew_pure (ev_var ts h_law_others rfl)) (wa_cons (ew_pure (ev_var ts h_law_room rfl)) wa_nil))))) hm (fun s_18 σ' H' => Fr [b, c] HL H' ∧ ∃ v_law_turn : V, ∃ v_law_ones : V, ∃ v_law_others : V, ∃ v_law_room : V, ∃ v_law_handed : V, ∃ v_law_told : V, ∃ v_law_good : V, ∃ f_6 : Option V, ∃ f_10 : Option V, σ' = [some (.ref a0), some (.ref b), some v_law_good, some v_law_turn, some v_law_ones, some v_law_others, f_6, some v_law_room, some v_law_handed, some v_law_told, f_10] ∧ Fr [b, c] H0 H' ∧ Dom [b, c] H' ∧ Bag H' b c ∧ (tInt : Ty K Int).rp [b, c] H' v_law_turn law_turn_2 ∧ ((tL (tT2 tRat tRat)) : Ty K (List (Rat × Rat))).rp [b, c] H' v_law_ones law_ones_3 ∧ ((tL (tT2 tRat tRat)) : Ty K (List (Rat × Rat))).rp [b, c] H' v_law_others j8 ∧ (tRat : Ty K Rat).rp [b, c] H' v_law_room law_room_13 ∧ ((tL (tL (tT2 tRat tRat))) : Ty K (List (List (Rat × Rat)))).rp [b, c] H' v_law_handed law_handed_14 ∧ ((tOpt (tT2 tRat tRat)) : Ty K (Option (Rat × Rat))).rp [b, c] H' v_law_told law_told_15 ∧ (tBool : Ty K Bool).rp [b, c] H' v_law_good s_18) (fun H18 fr18 dm18 hB18 => ?_) (fun hd18 s_18 law_spot_here_18 C18 v_law_spot_here σ' H' hI h_law_spot_here hm hret18 hbrk18 => ?_) (fun t_18 σ' H' hm hI => ?_)
          · skip
            have fr0 := fr0.trans fr18
            have frl := frl.trans (fr18.sub tsl)
            have h_law_turn := (tInt : Ty K Int).mono (S := [b, c]) (fr18.sub ts) h_law_turn
            have h_law_ones := ((tL (tT2 tRat tRat)) : Ty K (List (Rat × Rat))).mono (S := [b, c]) (fr18.sub ts) h_law_ones
            have h_law_others := ((tL (tT2 tRat tRat)) : Ty K (List (Rat × Rat))).mono (S := [b, c]) (fr18.sub ts) h_law_others
            have h_law_room := (tRat : Ty K Rat).mono (S := [b, c]) (fr18.sub ts) h_law_room
            have h_law_handed := ((tL (tL (tT2 tRat tRat))) : Ty K (List (List (Rat × Rat)))).mono (S := [b, c]) (fr18.sub ts) h_law_handed
            have h_law_told := ((tOpt (tT2 tRat tRat)) : Ty K (Option (Rat × Rat))).mono (S := [b, c]) (fr18.sub ts) h_law_told
            have h_law_good := (tBool : Ty K Bool).mono (S := [b, c]) (fr18.sub ts) h_law_good
            have dm := dm18
            have hB := hB18
            exact ⟨frl, v_law_turn, v_law_ones, v_law_others, v_law_room, v_law_handed, v_law_told, v_law_good, _, _, rfl, fr0, dm, hB, h_law_turn, h_law_ones, h_law_others, h_law_room, h_law_handed, h_law_told, h_law_good⟩
          · skip
            obtain ⟨frl, v_law_turn, v_law_ones, v_law_others, v_law_room, v_law_handed, v_law_told, v_law_good, f_6, f_10, rfl, fr0, dm, hB, h_law_turn, h_law_ones, h_law_others, h_law_room, h_law_handed, h_law_told, h_law_good⟩ := hI
            have frlo := frl
            have freshlo := freshl
            let HL := H'
            have freshl : ∀ a ∈ [b, c], a ∉ [b, c] → H' a = none := fun a m n => absurd m n
            have frl : Fr [b, c] HL H' := Fr.refl (T := [b, c]) H'
            have tsl := ts
            have subl : Sub [b, c] [b, c] := fun a m => m
            have h_law_spot_here : ((tT2 tRat tRat) : Ty K (Rat × Rat)).rp [b, c] H' v_law_spot_here law_spot_here_18 := h_law_spot_here
            obtain ⟨law_good_19, e19, hm⟩ := hm
            refine l_asg (T := [b, c]) dm (ev_and (ev_var ts h_law_good rfl) (ev_call (ea_cons (ev_var ts h_law_spot_here rfl) (ea_cons (ev_var ts h_law_others rfl) (ea_cons (ev_var ts h_law_room rfl) ea_nil))))) e19 (fun v_law_good H19 s19 h_law_good => ?_)
            have fr0 := fr0.trans (Fr.same s19)
            have dm := dm.same s19
            have frl := frl.trans (Fr.same s19)
            have h_law_turn := (tInt : Ty K Int).mono (S := [b, c]) (Fr.same s19) h_law_turn
            have h_law_ones := ((tL (tT2 tRat tRat)) : Ty K (List (Rat × Rat))).mono (S := [b, c]) (Fr.same s19) h_law_ones
            have h_law_others := ((tL (tT2 tRat tRat)) : Ty K (List (Rat × Rat))).mono (S := [b, c]) (Fr.same s19) h_law_others
            have h_law_room := (tRat : Ty K Rat).mono (S := [b, c]) (Fr.same s19) h_law_room
            have h_law_handed := ((tL (tL (tT2 tRat tRat))) : Ty K (List (List (Rat × Rat)))).mono (S := [b, c]) (Fr.same s19) h_law_handed
            have h_law_told := ((tOpt (tT2 tRat tRat)) : Ty K (Option (Rat × Rat))).mono (S := [b, c]) (Fr.same s19) h_law_told
            have h_law_spot_here := ((tT2 tRat tRat) : Ty K (Rat × Rat)).mono (S := [b, c]) (Fr.same s19) h_law_spot_here
            have hB := hB.same s19
            have h_law_good : (tBool : Ty K Bool).rp [b, c] H19 v_law_good law_good_19 := h_law_good
            exact ⟨_, hm, frl, ⟨frlo.transx frl freshlo, v_law_turn, v_law_ones, v_law_others, v_law_room, v_law_handed, v_law_told, v_law_good, _, _, rfl, fr0, dm, hB, h_law_turn, h_law_ones, h_law_others, h_law_room, h_law_handed, h_law_told, h_law_good⟩⟩
          obtain ⟨frl, v_law_turn, v_law_ones, v_law_others, v_law_room, v_law_handed, v_law_told, v_law_good, f_6, f_10, rfl, fr0, dm, hB, h_law_turn, h_law_ones, h_law_others, h_law_room, h_law_handed, h_law_told, h_law_good⟩ := hI
          exact rest17 _ _ ⟨_, hm, ⟨frl, v_law_turn, v_law_ones, v_law_others, v_law_room, v_law_handed, v_law_told, v_law_good, _, _, rfl, fr0, dm, hB, h_law_turn, h_law_ones, h_law_others, h_law_room, h_law_handed, h_law_told, h_law_good⟩⟩
        · skip
          refine l_if (T := [b, c]) (b := false) dm (eb_isN (a := ((tT2 tRat tRat) : Ty K (Rat × Rat))) ts h_law_told rfl) (by rw [eo17]; rfl) (fun hc H17 s17 => by cases hc) (fun hc H17 s17 => ?_)
          have fr0 := fr0.trans (Fr.same s17)
          have dm := dm.same s17
          have frl := frl.trans (Fr.same s17)
          have h_law_turn := (tInt : Ty K Int).mono (S := [b, c]) (Fr.same s17) h_law_turn
          have h_law_ones := ((tL (tT2 tRat tRat)) : Ty K (List (Rat × Rat))).mono (S := [b, c]) (Fr.same s17) h_law_ones
          have h_law_others := ((tL (tT2 tRat tRat)) : Ty K (List (Rat × Rat))).mono (S := [b, c]) (Fr.same s17) h_law_others
          have h_law_room := (tRat : Ty K Rat).mono (S := [b, c]) (Fr.same s17) h_law_room
          have h_law_handed := ((tL (tL (tT2 tRat tRat))) : Ty K (List (List (Rat × Rat)))).mono (S := [b, c]) (Fr.same s17) h_law_handed
          have h_law_told := ((tOpt (tT2 tRat tRat)) : Ty K (Option (Rat × Rat))).mono (S := [b, c]) (Fr.same s17) h_law_told
          have h_law_good := (tBool : Ty K Bool).mono (S := [b, c]) (Fr.same s17) h_law_good
          have hB := hB.same s17
          have h_law_told := opt_is (a := ((tT2 tRat tRat) : Ty K (Rat × Rat))) (S := [b, c]) h_law_told eo17
          obtain ⟨law_good_21, e21, hm⟩ := hm
          refine q_asg (T := [b, c]) dm (ev_and (ev_var ts h_law_good rfl) (ev_and (ev_call (ea_cons (ev_var ts h_law_told rfl) ea_nil)) (ev_call (ea_cons (ev_var ts h_law_told rfl) (ea_cons (ev_var ts h_law_ones rfl) (ea_cons (ev_p2r (ev_tup2 (ev_int (K := K)) (ev_int (K := K)))) ea_nil)))))) e21 (fun v_law_good H21 s21 h_law_good => ?_)
          have fr0 := fr0.trans (Fr.same s21)
          have dm := dm.same s21
          have frl := frl.trans (Fr.same s21)
          have h_law_turn := (tInt : Ty K Int).mono (S := [b, c]) (Fr.same s21) h_law_turn
          have h_law_ones := ((tL (tT2 tRat tRat)) : Ty K (List (Rat × Rat))).mono (S := [b, c]) (Fr.same s21) h_law_ones
          have h_law_others := ((tL (tT2 tRat tRat)) : Ty K (List (Rat × Rat))).mono (S := [b, c]) (Fr.same s21) h_law_others
          have h_law_room := (tRat : Ty K Rat).mono (S := [b, c]) (Fr.same s21) h_law_room
          have h_law_handed := ((tL (tL (tT2 tRat tRat))) : Ty K (List (List (Rat × Rat)))).mono (S := [b, c]) (Fr.same s21) h_law_handed
          have h_law_told := ((tT2 tRat tRat) : Ty K (Rat × Rat)).mono (S := [b, c]) (Fr.same s21) h_law_told
          have hB := hB.same s21
          have h_law_good : (tBool : Ty K Bool).rp [b, c] H21 v_law_good law_good_21 := h_law_good
          obtain ⟨law_good_22, e22, hm⟩ := hm
          refine l_asg (T := [b, c]) dm (ev_and (ev_var ts h_law_good rfl) (ev_not (ev_call (ea_cons (ev_var ts h_law_told rfl) (ea_cons (ev_var ts h_law_others rfl) (ea_cons (ev_var ts h_law_room rfl) ea_nil)))))) e22 (fun v_law_good H22 s22 h_law_good => ?_)
          have fr0 := fr0.trans (Fr.same s22)
          have dm := dm.same s22
          have frl := frl.trans (Fr.same s22)
          have h_law_turn := (tInt : Ty K Int).mono (S := [b, c]) (Fr.same s22) h_law_turn
          have h_law_ones := ((tL (tT2 tRat tRat)) : Ty K (List (Rat × Rat))).mono (S := [b, c]) (Fr.same s22) h_law_ones
          have h_law_others := ((tL (tT2 tRat tRat)) : Ty K (List (Rat × Rat))).mono (S := [b, c]) (Fr.same s22) h_law_others
          have h_law_room := (tRat : Ty K Rat).mono (S := [b, c]) (Fr.same s22) h_law_room
          have h_law_handed := ((tL (tL (tT2 tRat tRat))) : Ty K (List (List (Rat × Rat)))).mono (S := [b, c]) (Fr.same s22) h_law_handed
          have h_law_told := ((tT2 tRat tRat) : Ty K (Rat × Rat)).mono (S := [b, c]) (Fr.same s22) h_law_told
          have hB := hB.same s22
          have h_law_good : (tBool : Ty K Bool).rp [b, c] H22 v_law_good law_good_22 := h_law_good
          have h_law_told := opt_back (a := ((tT2 tRat tRat) : Ty K (Rat × Rat))) (S := [b, c]) h_law_told eo17
          exact rest17 _ _ ⟨_, hm, ⟨frl, v_law_turn, v_law_ones, v_law_others, v_law_room, v_law_handed, v_law_told, v_law_good, _, _, rfl, fr0, dm, hB, h_law_turn, h_law_ones, h_law_others, h_law_room, h_law_handed, h_law_told, h_law_good⟩⟩
      refine lw_if dm hB ts (bw_test (K := K) (ew_op (od_eqI (K := K)) (ew_draw (K := K) rfl (ew_pure (ev_int (K := K)))) (ew_pure (ev_int (K := K))))) hm (fun H10 hm fr10 dm10 hB10 => ?_) (fun H10 hm fr10 dm10 hB10 => ?_)
      · skip
        have fr0 := fr0.trans fr10
        have frl := frl.trans (fr10.sub tsl)
        have h_law_good := (tBool : Ty K Bool).mono (S := [b, c]) (fr10.sub ts) h_law_good
        have h_law_turn := (tInt : Ty K Int).mono (S := [b, c]) (fr10.sub ts) h_law_turn
        have h_law_ones := ((tL (tT2 tRat tRat)) : Ty K (List (Rat × Rat))).mono (S := [b, c]) (fr10.sub ts) h_law_ones
        have h_law_others := ((tL (tT2 tRat tRat)) : Ty K (List (Rat × Rat))).mono (S := [b, c]) (fr10.sub ts) h_law_others
        have h_law_room := (tRat : Ty K Rat).mono (S := [b, c]) (fr10.sub ts) h_law_room
        have dm := dm10
        have hB := hB10
        have hm := ifp_t hm
        refine lw_asg dm hB ts (ew_call (wa_cons (ew_any rfl (ew_pure (ev_var ts h_law_ones rfl))) (wa_cons (ew_pure (ev_var ts h_law_others rfl)) wa_nil))) hm (fun v_law_room H11 law_room_11 hm fr11 dm11 hB11 h_law_room => ?_)
        have fr0 := fr0.trans fr11
        have frl := frl.trans (fr11.sub tsl)
        have h_law_good := (tBool : Ty K Bool).mono (S := [b, c]) (fr11.sub ts) h_law_good
        have h_law_turn := (tInt : Ty K Int).mono (S := [b, c]) (fr11.sub ts) h_law_turn
        have h_law_ones := ((tL (tT2 tRat tRat)) : Ty K (List (Rat × Rat))).mono (S := [b, c]) (fr11.sub ts) h_law_ones
        have h_law_others := ((tL (tT2 tRat tRat)) : Ty K (List (Rat × Rat))).mono (S := [b, c]) (fr11.sub ts) h_law_others
        have dm := dm11
        have hB := hB11
        have h_law_room : (tRat : Ty K Rat).rp [b, c] H11 v_law_room law_room_11 := h_law_room
        exact rest10 _ _ ⟨_, hm, ⟨frl, v_law_good, v_law_turn, v_law_ones, v_law_others, v_law_room, _, _, _, _, rfl, fr0, dm, hB, h_law_good, h_law_turn, h_law_ones, h_law_others, h_law_room⟩⟩
      · skip
        have fr0 := fr0.trans fr10
        have frl := frl.trans (fr10.sub tsl)
        have h_law_good := (tBool : Ty K Bool).mono (S := [b, c]) (fr10.sub ts) h_law_good
        have h_law_turn := (tInt : Ty K Int).mono (S := [b, c]) (fr10.sub ts) h_law_turn
        have h_law_ones := ((tL (tT2 tRat tRat)) : Ty K (List (Rat × Rat))).mono (S := [b, c]) (fr10.sub ts) h_law_ones
        have h_law_others := ((tL (tT2 tRat tRat)) : Ty K (List (Rat × Rat))).mono (S := [b, c]) (fr10.sub ts) h_law_others
        have h_law_room := (tRat : Ty K Rat).mono (S := [b, c]) (fr10.sub ts) h_law_room
        have dm := dm10
        have hB := hB10
        have hm := ifp_f hm
        exact rest10 _ _ ⟨_, hm, ⟨frl, v_law_good, v_law_turn, v_law_ones, v_law_others, v_law_room, _, _, _, _, rfl, fr0, dm, hB, h_law_good, h_law_turn, h_law_ones, h_law_others, h_law_room⟩⟩
    refine lw_if dm hB ts (bw_test (K := K) (ew_op (od_gt (K := K)) (ew_draw (K := K) rfl (ew_pure (ev_int (K := K)))) (ew_pure (ev_int (K := K))))) hm (fun H5 hm fr5 dm5 hB5 => ?_) (fun H5 hm fr5 dm5 hB5 => ?_)
    · skip
      have fr0 := fr0.trans fr5
      have frl := frl.trans (fr5.sub tsl)
      have h_law_good := (tBool : Ty K Bool).mono (S := [b, c]) (fr5.sub ts) h_law_good
      have h_law_turn := (tInt : Ty K Int).mono (S := [b, c]) (fr5.sub ts) h_law_turn
      have h_law_ones := ((tL (tT2 tRat tRat)) : Ty K (List (Rat × Rat))).mono (S := [b, c]) (fr5.sub ts) h_law_ones
      have h_law_others := ((tL (tT2 tRat tRat)) : Ty K (List (Rat × Rat))).mono (S := [b, c]) (fr5.sub ts) h_law_others
      have dm := dm5
      have hB := hB5
      have hm := ifp_t hm
      refine qw_asg dm hB ts (ew_draw (K := K) rfl (ew_pure (ev_lenL (ev_var ts h_law_ones rfl)))) hm (fun v_law_gone H6 law_gone_6 hm fr6 dm6 hB6 h_law_gone => ?_)
      have fr0 := fr0.trans fr6
      have frl := frl.trans (fr6.sub tsl)
      have h_law_good := (tBool : Ty K Bool).mono (S := [b, c]) (fr6.sub ts) h_law_good
      have h_law_turn := (tInt : Ty K Int).mono (S := [b, c]) (fr6.sub ts) h_law_turn
      have h_law_ones := ((tL (tT2 tRat tRat)) : Ty K (List (Rat × Rat))).mono (S := [b, c]) (fr6.sub ts) h_law_ones
      have h_law_others := ((tL (tT2 tRat tRat)) : Ty K (List (Rat × Rat))).mono (S := [b, c]) (fr6.sub ts) h_law_others
      have dm := dm6
      have hB := hB6
      have h_law_gone : (tInt : Ty K Int).rp [b, c] H6 v_law_gone law_gone_6 := h_law_gone
      obtain ⟨law_others_7, e7, hm⟩ := hm
      refine l_asg (T := [b, c]) dm (ev_if (eb_test (K := K) (ev_op (od_lt (K := K)) (ev_lenL (ev_var ts h_law_ones rfl)) (ev_int (K := K)))) (ev_new (ev_lst (el_cons (ev_op od_ixL (ev_var ts h_law_ones rfl) (ev_int (K := K))) (el_cons (ev_op od_ixL (ev_var ts h_law_ones rfl) (ev_neg (ev_int (K := K)))) el_nil)) (by decide))) (ev_new (ev_op od_cat (ev_new (ev_slL (ev_var ts h_law_ones rfl) eo_none (eo_some (ev_var ts h_law_gone rfl)))) (ev_new (ev_slL (ev_var ts h_law_ones rfl) (eo_some (ev_op (od_add (K := K)) (ev_var ts h_law_gone rfl) (ev_int (K := K)))) eo_none))))) e7 (fun v_law_others H7 s7 h_law_others => ?_)
      have fr0 := fr0.trans (Fr.same s7)
      have dm := dm.same s7
      have frl := frl.trans (Fr.same s7)
      have h_law_good := (tBool : Ty K Bool).mono (S := [b, c]) (Fr.same s7) h_law_good
      have h_law_turn := (tInt : Ty K Int).mono (S := [b, c]) (Fr.same s7) h_law_turn
      have h_law_ones := ((tL (tT2 tRat tRat)) : Ty K (List (Rat × Rat))).mono (S := [b, c]) (Fr.same s7) h_law_ones
      have h_law_gone := (tInt : Ty K Int).mono (S := [b, c]) (Fr.same s7) h_law_gone
      have hB := hB.same s7
      have h_law_others : ((tL (tT2 tRat tRat)) : Ty K (List (Rat × Rat))).rp [b, c] H7 v_law_others law_others_7 := h_law_others
      exact rest5 _ _ ⟨_, hm, ⟨frl, v_law_good, v_law_turn, v_law_ones, v_law_others, _, _, _, _, _, rfl, fr0, dm, hB, h_law_good, h_law_turn, h_law_ones, h_law_others⟩⟩
    · skip
      have fr0 := fr0.trans fr5
      have frl := frl.trans (fr5.sub tsl)
      have h_law_good := (tBool : Ty K Bool).mono (S := [b, c]) (fr5.sub ts) h_law_good
      have h_law_turn := (tInt : Ty K Int).mono (S := [b, c]) (fr5.sub ts) h_law_turn
      have h_law_ones := ((tL (tT2 tRat tRat)) : Ty K (List (Rat × Rat))).mono (S := [b, c]) (fr5.sub ts) h_law_ones
      have h_law_others := ((tL (tT2 tRat tRat)) : Ty K (List (Rat × Rat))).mono (S := [b, c]) (fr5.sub ts) h_law_others
      have dm := dm5
      have hB := hB5
      have hm := ifp_f hm
      exact rest5 _ _ ⟨_, hm, ⟨frl, v_law_good, v_law_turn, v_law_ones, v_law_others, _, _, _, _, _, rfl, fr0, dm, hB, h_law_good, h_law_turn, h_law_ones, h_law_others⟩⟩
  obtain ⟨v_law_good, f_3, f_4, f_5, f_6, f_7, f_8, f_9, f_10, rfl, fr0, dm, hB, h_law_good⟩ := hI
  obtain ⟨z, er, hm⟩ := hm
  exact q_ret (T := [b, c]) dm (ev_var ts h_law_good rfl) er (fun v H25 s25 hv => q v H25 _ hm (fr0.trans (Fr.same s25)) (hB.same s25) ((tBool : Ty K Bool).sub (S := [b, c]) (H := H25) sub0 hv))
end
end G

namespace G
open PySem L2 M
structure Put (K : PySem.W.Frag) (name : String) (st : Stmt) (f : Addr) : Prop where
  a : PySem.W.nsIn K mainGlobals (Str.ofString name) = some (some (.ref f))
  l : ∃ (oc : Value) (od : Option Addr) (kV dc pm : Value) (an : Option Addr) (cd ct : Value) (sl : Array (Option Value)), K.lookup f = some ⟨oc, od, .func (PySem.W.fnOf (Str.ofString name) (Str.ofString name) (defArgs st) (defBody st) (defScope st) .none kV dc pm an cd ct), sl⟩ ∧ PySem.W.codeIn K cd (Str.ofString name) = true
  k : PySem.W.keepIn K (.ref f) = true
theorem put_mk {K : PySem.W.Frag} {name : String} {st : Stmt} {f : Addr} {oc : Value} {od : Option Addr} {kV dc pm : Value} {an : Option Addr} {cd ct : Value} {sl : Array (Option Value)} (a : PySem.W.nsIn K mainGlobals (Str.ofString name) = some (some (.ref f)))
    (l : K.lookup f = some ⟨oc, od, .func (PySem.W.fnOf (Str.ofString name) (Str.ofString name) (defArgs st) (defBody st) (defScope st) .none kV dc pm an cd ct), sl⟩) (c : PySem.W.codeIn K cd (Str.ofString name) = true) (k : PySem.W.keepIn K (.ref f) = true) : Put K name st f :=
  ⟨a, ⟨oc, od, kV, dc, pm, an, cd, ct, sl, l, c⟩, k⟩
structure PutM (K : PySem.W.Frag) (C : Addr) (name qual : String) (st : Stmt) (f : Addr) : Prop where
  me : Meth K C (Str.ofString name) f
  l : ∃ (oc : Value) (od : Option Addr) (kV dc pm : Value) (an : Option Addr) (cd ct : Value) (sl : Array (Option Value)), K.lookup f = some ⟨oc, od, .func (PySem.W.fnOf (Str.ofString name) (Str.ofString qual) (defArgs st) (defBody st) (defScope st) .none kV dc pm an cd ct), sl⟩ ∧ PySem.W.codeIn K cd (Str.ofString qual) = true
theorem putM_mk {K : PySem.W.Frag} {C : Addr} {name qual : String} {st : Stmt} {f : Addr} {oc : Value} {od : Option Addr} {kV dc pm : Value} {an : Option Addr} {cd ct : Value} {sl : Array (Option Value)} (a : PySem.W.findIn K (.ref C) (Str.ofString name) = some (some (.ref f))) (i : PySem.W.isFn K (.ref f) = true)
    (l : K.lookup f = some ⟨oc, od, .func (PySem.W.fnOf (Str.ofString name) (Str.ofString qual) (defArgs st) (defBody st) (defScope st) .none kV dc pm an cd ct), sl⟩) (c : PySem.W.codeIn K cd (Str.ofString qual) = true) (k : PySem.W.keepIn K (.ref f) = true) : PutM K C name qual st f :=
  ⟨⟨a, i, k⟩, ⟨oc, od, kV, dc, pm, an, cd, ct, sl, l, c⟩⟩
theorem all_mk {l : PySem.W.OpenLaw} {w : World} {K : PySem.W.Frag} {h : Heap} {mg : Str → Option Value} {fa f_greatest_common f_ratio f_plus f_minus f_times f_divided f_order f_size f_lesser f_greater f_stretch f_between f_gap f_pieces_of f_turns f_apart f_narrowed f_off_side f_span_near f_covered_to f_bare_share f_bare f_law_bag f_law_draw f_law_whole f_law_any f_law_rat f_law_sum f_law_dif f_law_prod f_law_quo f_law_comp f_law_is_ratio f_law_is_spot f_law_ratio f_law_spot f_law_on f_law_corners f_law_span f_law_clip f_law_reaches f_law_bits f_law_spots_of f_law C_NoRatio a_NOUGHT a_ONE : Addr}  {t00 t01 : Tok} {ddNOUGHT : Option Addr} {nNOUGHT : Nat} {slNOUGHT : Array (Option Value)} {t10 t11 : Tok} {ddONE : Option Addr} {nONE : Nat} {slONE : Array (Option Value)} (X : K.In h) (G : h.Ns mainGlobals mg) (hfa : mg "law" = some (.ref fa))
    (p_greatest_common : Put K "greatest_common" s_greatest_common f_greatest_common)
    (p_ratio : Put K "ratio" s_ratio f_ratio)
    (p_plus : Put K "plus" s_plus f_plus)
    (p_minus : Put K "minus" s_minus f_minus)
    (p_times : Put K "times" s_times f_times)
    (p_divided : Put K "divided" s_divided f_divided)
    (p_order : Put K "order" s_order f_order)
    (p_size : Put K "size" s_size f_size)
    (p_lesser : Put K "lesser" s_lesser f_lesser)
    (p_greater : Put K "greater" s_greater f_greater)
    (p_stretch : Put K "stretch" s_stretch f_stretch)
    (p_between : Put K "between" s_between f_between)
    (p_gap : Put K "gap" s_gap f_gap)
    (p_pieces_of : Put K "pieces_of" s_pieces_of f_pieces_of)
    (p_turns : Put K "turns" s_turns f_turns)
    (p_apart : Put K "apart" s_apart f_apart)
    (p_narrowed : Put K "narrowed" s_narrowed f_narrowed)
    (p_off_side : Put K "off_side" s_off_side f_off_side)
    (p_span_near : Put K "span_near" s_span_near f_span_near)
    (p_covered_to : Put K "covered_to" s_covered_to f_covered_to)
    (p_bare_share : Put K "bare_share" s_bare_share f_bare_share)
    (p_bare : Put K "bare" s_bare f_bare)
    (p_law_bag : Put K "_law_bag" s_law_bag f_law_bag)
    (p_law_draw : Put K "_law_draw" s_law_draw f_law_draw)
    (p_law_whole : Put K "_law_whole" s_law_whole f_law_whole)
    (p_law_any : Put K "_law_any" s_law_any f_law_any)
    (p_law_rat : Put K "_law_rat" s_law_rat f_law_rat)
    (p_law_sum : Put K "_law_sum" s_law_sum f_law_sum)
    (p_law_dif : Put K "_law_dif" s_law_dif f_law_dif)
    (p_law_prod : Put K "_law_prod" s_law_prod f_law_prod)
    (p_law_quo : Put K "_law_quo" s_law_quo f_law_quo)
    (p_law_comp : Put K "_law_comp" s_law_comp f_law_comp)
    (p_law_is_ratio : Put K "_law_is_ratio" s_law_is_ratio f_law_is_ratio)
    (p_law_is_spot : Put K "_law_is_spot" s_law_is_spot f_law_is_spot)
    (p_law_ratio : Put K "_law_ratio" s_law_ratio f_law_ratio)
    (p_law_spot : Put K "_law_spot" s_law_spot f_law_spot)
    (p_law_on : Put K "_law_on" s_law_on f_law_on)
    (p_law_corners : Put K "_law_corners" s_law_corners f_law_corners)
    (p_law_span : Put K "_law_span" s_law_span f_law_span)
    (p_law_clip : Put K "_law_clip" s_law_clip f_law_clip)
    (p_law_reaches : Put K "_law_reaches" s_law_reaches f_law_reaches)
    (p_law_bits : Put K "_law_bits" s_law_bits f_law_bits)
    (p_law_spots_of : Put K "_law_spots_of" s_law_spots_of f_law_spots_of)
    (p_law : Put K "law" s_law f_law)
    (aC : PySem.W.nsIn K mainGlobals "NoRatio" = some (some (.ref C_NoRatio)))
    (x : PySem.W.excIn K C_NoRatio [.type "ZeroDivisionError", .type "ArithmeticError", .type "Exception", .type "BaseException", .type "object"] "ZeroDivisionError.__new__" = true)
    (k : PySem.W.keepIn K (.ref C_NoRatio) = true)
    (b : PySem.W.subIn K (.ref C_NoRatio) (.type "BaseException") = some true)
    (t : PySem.W.typeIn K (.ref C_NoRatio) = some (.type "type"))
    (e4 : PySem.W.hasDictIn K C_NoRatio = true)
    (sc : PySem.W.subIn K (.ref C_NoRatio) (.ref C_NoRatio) = some true)
    (cNOUGHT : PySem.W.nsIn K mainGlobals "NOUGHT" = some (some (.ref a_NOUGHT)))
    (lNOUGHT : K.lookup a_NOUGHT = some ⟨.type "tuple", ddNOUGHT, .seq #[.int 0 t00, .int 1 t01] nNOUGHT, slNOUGHT⟩)
    (cONE : PySem.W.nsIn K mainGlobals "ONE" = some (some (.ref a_ONE)))
    (lONE : K.lookup a_ONE = some ⟨.type "tuple", ddONE, .seq #[.int 1 t10, .int 1 t11] nONE, slONE⟩)
    (z_len : PySem.W.nsIn K mainGlobals "len" = some none)
    (z_list : PySem.W.nsIn K mainGlobals "list" = some none)
    (z_abs : PySem.W.nsIn K mainGlobals "abs" = some none)
    (z_isinstance : PySem.W.nsIn K mainGlobals "isinstance" = some none)
    (z_int : PySem.W.nsIn K mainGlobals "int" = some none)
    (z_bool : PySem.W.nsIn K mainGlobals "bool" = some none)
    (z_str : PySem.W.nsIn K mainGlobals "str" = some none)
    (z_dict : PySem.W.nsIn K mainGlobals "dict" = some none)
    (z_tuple : PySem.W.nsIn K mainGlobals "tuple" = some none)
    (z_all : PySem.W.nsIn K mainGlobals "all" = some none)
    (z_range : PySem.W.nsIn K mainGlobals "range" = some none)
    (z_sorted : PySem.W.nsIn K mainGlobals "sorted" = some none)
    (z_min : PySem.W.nsIn K mainGlobals "min" = some none)
    (z_max : PySem.W.nsIn K mainGlobals "max" = some none)
    (z_any : PySem.W.nsIn K mainGlobals "any" = some none) :
    ∃ fd : FuncData, (∀ (s : Shared) (v : Value), BindsTo s fd ⟨[v], []⟩ [("_law_script", v)]) ∧ ∀ base : Heap, K.In base → base.Ns mainGlobals mg → FnOk l.prog w K mg base CX0 8 fa fd ["_law_script"] (spLaw K) := by
  have e := hfa.symm.trans (PySem.W.mg_of X G p_law.a)
  cases e
  obtain ⟨a_greatest_common, ⟨oc_greatest_common, od_greatest_common, kV_greatest_common, dc_greatest_common, pm_greatest_common, an_greatest_common, cd_greatest_common, ct_greatest_common, sl_greatest_common, l_greatest_common, c_greatest_common⟩, k_greatest_common⟩ := p_greatest_common
  have F_greatest_common := fun_mk (st := s_greatest_common) l_greatest_common c_greatest_common k_greatest_common
  have b_greatest_common := F_greatest_common.binds (ps := p_greatest_common) fun _ _ _ _ _ _ us hl => match us, hl with | [_, _], _ => rfl
  obtain ⟨a_ratio, ⟨oc_ratio, od_ratio, kV_ratio, dc_ratio, pm_ratio, an_ratio, cd_ratio, ct_ratio, sl_ratio, l_ratio, c_ratio⟩, k_ratio⟩ := p_ratio
  have F_ratio := fun_mk (st := s_ratio) l_ratio c_ratio k_ratio
  have b_ratio := F_ratio.binds (ps := p_ratio) fun _ _ _ _ _ _ us hl => match us, hl with | [_, _], _ => rfl
  obtain ⟨a_plus, ⟨oc_plus, od_plus, kV_plus, dc_plus, pm_plus, an_plus, cd_plus, ct_plus, sl_plus, l_plus, c_plus⟩, k_plus⟩ := p_plus
  have F_plus := fun_mk (st := s_plus) l_plus c_plus k_plus
  have b_plus := F_plus.binds (ps := p_plus) fun _ _ _ _ _ _ us hl => match us, hl with | [_, _], _ => rfl
  obtain ⟨a_minus, ⟨oc_minus, od_minus, kV_minus, dc_minus, pm_minus, an_minus, cd_minus, ct_minus, sl_minus, l_minus, c_minus⟩, k_minus⟩ := p_minus
  have F_minus := fun_mk (st := s_minus) l_minus c_minus k_minus
  have b_minus := F_minus.binds (ps := p_minus) fun _ _ _ _ _ _ us hl => match us, hl with | [_, _], _ => rfl
  obtain ⟨a_times, ⟨oc_times, od_times, kV_times, dc_times, pm_times, an_times, cd_times, ct_times, sl_times, l_times, c_times⟩, k_times⟩ := p_times
  have F_times := fun_mk (st := s_times) l_times c_times k_times
  have b_times := F_times.binds (ps := p_times) fun _ _ _ _ _ _ us hl => match us, hl with | [_, _], _ => rfl
  obtain ⟨a_divided, ⟨oc_divided, od_divided, kV_divided, dc_divided, pm_divided, an_divided, cd_divided, ct_divided, sl_divided, l_divided, c_divided⟩, k_divided⟩ := p_divided
  have F_divided := fun_mk (st := s_divided) l_divided c_divided k_divided
  have b_divided := F_divided.binds (ps := p_divided) fun _ _ _ _ _ _ us hl => match us, hl with | [_, _], _ => rfl
  obtain ⟨a_order, ⟨oc_order, od_order, kV_order, dc_order, pm_order, an_order, cd_order, ct_order, sl_order, l_order, c_order⟩, k_order⟩ := p_order
  have F_order := fun_mk (st := s_order) l_order c_order k_order
  have b_order := F_order.binds (ps := p_order) fun _ _ _ _ _ _ us hl => match us, hl with | [_, _], _ => rfl
  obtain ⟨a_size, ⟨oc_size, od_size, kV_size, dc_size, pm_size, an_size, cd_size, ct_size, sl_size, l_size, c_size⟩, k_size⟩ := p_size
  have F_size := fun_mk (st := s_size) l_size c_size k_size
  have b_size := F_size.binds (ps := p_size) fun _ _ _ _ _ _ us hl => match us, hl with | [_], _ => rfl
  obtain ⟨a_lesser, ⟨oc_lesser, od_lesser, kV_lesser, dc_lesser, pm_lesser, an_lesser, cd_lesser, ct_lesser, sl_lesser, l_lesser, c_lesser⟩, k_lesser⟩ := p_lesser
  have F_lesser := fun_mk (st := s_lesser) l_lesser c_lesser k_lesser
  have b_lesser := F_lesser.binds (ps := p_lesser) fun _ _ _ _ _ _ us hl => match us, hl with | [_, _], _ => rfl
  obtain ⟨a_greater, ⟨oc_greater, od_greater, kV_greater, dc_greater, pm_greater, an_greater, cd_greater, ct_greater, sl_greater, l_greater, c_greater⟩, k_greater⟩ := p_greater
  have F_greater := fun_mk (st := s_greater) l_greater c_greater k_greater
  have b_greater := F_greater.binds (ps := p_greater) fun _ _ _ _ _ _ us hl => match us, hl with | [_, _], _ => rfl
  obtain ⟨a_stretch, ⟨oc_stretch, od_stretch, kV_stretch, dc_stretch, pm_stretch, an_stretch, cd_stretch, ct_stretch, sl_stretch, l_stretch, c_stretch⟩, k_stretch⟩ := p_stretch
  have F_stretch := fun_mk (st := s_stretch) l_stretch c_stretch k_stretch
  have b_stretch := F_stretch.binds (ps := p_stretch) fun _ _ _ _ _ _ us hl => match us, hl with | [_, _], _ => rfl
  obtain ⟨a_between, ⟨oc_between, od_between, kV_between, dc_between, pm_between, an_between, cd_between, ct_between, sl_between, l_between, c_between⟩, k_between⟩ := p_between
  have F_between := fun_mk (st := s_between) l_between c_between k_between
  have b_between := F_between.binds (ps := p_between) fun _ _ _ _ _ _ us hl => match us, hl with | [_, _, _], _ => rfl
  obtain ⟨a_gap, ⟨oc_gap, od_gap, kV_gap, dc_gap, pm_gap, an_gap, cd_gap, ct_gap, sl_gap, l_gap, c_gap⟩, k_gap⟩ := p_gap
  have F_gap := fun_mk (st := s_gap) l_gap c_gap k_gap
  have b_gap := F_gap.binds (ps := p_gap) fun _ _ _ _ _ _ us hl => match us, hl with | [_, _], _ => rfl
  obtain ⟨a_pieces_of, ⟨oc_pieces_of, od_pieces_of, kV_pieces_of, dc_pieces_of, pm_pieces_of, an_pieces_of, cd_pieces_of, ct_pieces_of, sl_pieces_of, l_pieces_of, c_pieces_of⟩, k_pieces_of⟩ := p_pieces_of
  have F_pieces_of := fun_mk (st := s_pieces_of) l_pieces_of c_pieces_of k_pieces_of
  have b_pieces_of := F_pieces_of.binds (ps := p_pieces_of) fun _ _ _ _ _ _ us hl => match us, hl with | [_], _ => rfl
  obtain ⟨a_turns, ⟨oc_turns, od_turns, kV_turns, dc_turns, pm_turns, an_turns, cd_turns, ct_turns, sl_turns, l_turns, c_turns⟩, k_turns⟩ := p_turns
  have F_turns := fun_mk (st := s_turns) l_turns c_turns k_turns
  have b_turns := F_turns.binds (ps := p_turns) fun _ _ _ _ _ _ us hl => match us, hl with | [_, _], _ => rfl
  obtain ⟨a_apart, ⟨oc_apart, od_apart, kV_apart, dc_apart, pm_apart, an_apart, cd_apart, ct_apart, sl_apart, l_apart, c_apart⟩, k_apart⟩ := p_apart
  have F_apart := fun_mk (st := s_apart) l_apart c_apart k_apart
  have b_apart := F_apart.binds (ps := p_apart) fun _ _ _ _ _ _ us hl => match us, hl with | [_, _], _ => rfl
  obtain ⟨a_narrowed, ⟨oc_narrowed, od_narrowed, kV_narrowed, dc_narrowed, pm_narrowed, an_narrowed, cd_narrowed, ct_narrowed, sl_narrowed, l_narrowed, c_narrowed⟩, k_narrowed⟩ := p_narrowed
  have F_narrowed := fun_mk (st := s_narrowed) l_narrowed c_narrowed k_narrowed
  have b_narrowed := F_narrowed.binds (ps := p_narrowed) fun _ _ _ _ _ _ us hl => match us, hl with | [_, _, _, _, _], _ => rfl
  obtain ⟨a_off_side, ⟨oc_off_side, od_off_side, kV_off_side, dc_off_side, pm_off_side, an_off_side, cd_off_side, ct_off_side, sl_off_side, l_off_side, c_off_side⟩, k_off_side⟩ := p_off_side
  have F_off_side := fun_mk (st := s_off_side) l_off_side c_off_side k_off_side
  have b_off_side := F_off_side.binds (ps := p_off_side) fun _ _ _ _ _ _ us hl => match us, hl with | [_, _], _ => rfl
  obtain ⟨a_span_near, ⟨oc_span_near, od_span_near, kV_span_near, dc_span_near, pm_span_near, an_span_near, cd_span_near, ct_span_near, sl_span_near, l_span_near, c_span_near⟩, k_span_near⟩ := p_span_near
  have F_span_near := fun_mk (st := s_span_near) l_span_near c_span_near k_span_near
  have b_span_near := F_span_near.binds (ps := p_span_near) fun _ _ _ _ _ _ us hl => match us, hl with | [_, _, _], _ => rfl
  obtain ⟨a_covered_to, ⟨oc_covered_to, od_covered_to, kV_covered_to, dc_covered_to, pm_covered_to, an_covered_to, cd_covered_to, ct_covered_to, sl_covered_to, l_covered_to, c_covered_to⟩, k_covered_to⟩ := p_covered_to
  have F_covered_to := fun_mk (st := s_covered_to) l_covered_to c_covered_to k_covered_to
  have b_covered_to := F_covered_to.binds (ps := p_covered_to) fun _ _ _ _ _ _ us hl => match us, hl with | [_], _ => rfl
  obtain ⟨a_bare_share, ⟨oc_bare_share, od_bare_share, kV_bare_share, dc_bare_share, pm_bare_share, an_bare_share, cd_bare_share, ct_bare_share, sl_bare_share, l_bare_share, c_bare_share⟩, k_bare_share⟩ := p_bare_share
  have F_bare_share := fun_mk (st := s_bare_share) l_bare_share c_bare_share k_bare_share
  have b_bare_share := F_bare_share.binds (ps := p_bare_share) fun _ _ _ _ _ _ us hl => match us, hl with | [_], _ => rfl
  obtain ⟨a_bare, ⟨oc_bare, od_bare, kV_bare, dc_bare, pm_bare, an_bare, cd_bare, ct_bare, sl_bare, l_bare, c_bare⟩, k_bare⟩ := p_bare
  have F_bare := fun_mk (st := s_bare) l_bare c_bare k_bare
  have b_bare := F_bare.binds (ps := p_bare) fun _ _ _ _ _ _ us hl => match us, hl with | [_, _, _], _ => rfl
  obtain ⟨a_law_bag, ⟨oc_law_bag, od_law_bag, kV_law_bag, dc_law_bag, pm_law_bag, an_law_bag, cd_law_bag, ct_law_bag, sl_law_bag, l_law_bag, c_law_bag⟩, k_law_bag⟩ := p_law_bag
  have F_law_bag := fun_mk (st := s_law_bag) l_law_bag c_law_bag k_law_bag
  have b_law_bag := F_law_bag.binds (ps := p_law_bag) fun _ _ _ _ _ _ us hl => match us, hl with | [_], _ => rfl
  obtain ⟨a_law_draw, ⟨oc_law_draw, od_law_draw, kV_law_draw, dc_law_draw, pm_law_draw, an_law_draw, cd_law_draw, ct_law_draw, sl_law_draw, l_law_draw, c_law_draw⟩, k_law_draw⟩ := p_law_draw
  have F_law_draw := fun_mk (st := s_law_draw) l_law_draw c_law_draw k_law_draw
  have b_law_draw := F_law_draw.binds (ps := p_law_draw) fun _ _ _ _ _ _ us hl => match us, hl with | [_, _], _ => rfl
  obtain ⟨a_law_whole, ⟨oc_law_whole, od_law_whole, kV_law_whole, dc_law_whole, pm_law_whole, an_law_whole, cd_law_whole, ct_law_whole, sl_law_whole, l_law_whole, c_law_whole⟩, k_law_whole⟩ := p_law_whole
  have F_law_whole := fun_mk (st := s_law_whole) l_law_whole c_law_whole k_law_whole
  have b_law_whole := F_law_whole.binds (ps := p_law_whole) fun _ _ _ _ _ _ us hl => match us, hl with | [_], _ => rfl
  obtain ⟨a_law_any, ⟨oc_law_any, od_law_any, kV_law_any, dc_law_any, pm_law_any, an_law_any, cd_law_any, ct_law_any, sl_law_any, l_law_any, c_law_any⟩, k_law_any⟩ := p_law_any
  have F_law_any := fun_mk (st := s_law_any) l_law_any c_law_any k_law_any
  have b_law_any := F_law_any.binds (ps := p_law_any) fun _ _ _ _ _ _ us hl => match us, hl with | [_, _], _ => rfl
  obtain ⟨a_law_rat, ⟨oc_law_rat, od_law_rat, kV_law_rat, dc_law_rat, pm_law_rat, an_law_rat, cd_law_rat, ct_law_rat, sl_law_rat, l_law_rat, c_law_rat⟩, k_law_rat⟩ := p_law_rat
  have F_law_rat := fun_mk (st := s_law_rat) l_law_rat c_law_rat k_law_rat
  have b_law_rat := F_law_rat.binds (ps := p_law_rat) fun _ _ _ _ _ _ us hl => match us, hl with | [_, _], _ => rfl
  obtain ⟨a_law_sum, ⟨oc_law_sum, od_law_sum, kV_law_sum, dc_law_sum, pm_law_sum, an_law_sum, cd_law_sum, ct_law_sum, sl_law_sum, l_law_sum, c_law_sum⟩, k_law_sum⟩ := p_law_sum
  have F_law_sum := fun_mk (st := s_law_sum) l_law_sum c_law_sum k_law_sum
  have b_law_sum := F_law_sum.binds (ps := p_law_sum) fun _ _ _ _ _ _ us hl => match us, hl with | [_, _], _ => rfl
  obtain ⟨a_law_dif, ⟨oc_law_dif, od_law_dif, kV_law_dif, dc_law_dif, pm_law_dif, an_law_dif, cd_law_dif, ct_law_dif, sl_law_dif, l_law_dif, c_law_dif⟩, k_law_dif⟩ := p_law_dif
  have F_law_dif := fun_mk (st := s_law_dif) l_law_dif c_law_dif k_law_dif
  have b_law_dif := F_law_dif.binds (ps := p_law_dif) fun _ _ _ _ _ _ us hl => match us, hl with | [_, _], _ => rfl
  obtain ⟨a_law_prod, ⟨oc_law_prod, od_law_prod, kV_law_prod, dc_law_prod, pm_law_prod, an_law_prod, cd_law_prod, ct_law_prod, sl_law_prod, l_law_prod, c_law_prod⟩, k_law_prod⟩ := p_law_prod
  have F_law_prod := fun_mk (st := s_law_prod) l_law_prod c_law_prod k_law_prod
  have b_law_prod := F_law_prod.binds (ps := p_law_prod) fun _ _ _ _ _ _ us hl => match us, hl with | [_, _], _ => rfl
  obtain ⟨a_law_quo, ⟨oc_law_quo, od_law_quo, kV_law_quo, dc_law_quo, pm_law_quo, an_law_quo, cd_law_quo, ct_law_quo, sl_law_quo, l_law_quo, c_law_quo⟩, k_law_quo⟩ := p_law_quo
  have F_law_quo := fun_mk (st := s_law_quo) l_law_quo c_law_quo k_law_quo
  have b_law_quo := F_law_quo.binds (ps := p_law_quo) fun _ _ _ _ _ _ us hl => match us, hl with | [_, _], _ => rfl
  obtain ⟨a_law_comp, ⟨oc_law_comp, od_law_comp, kV_law_comp, dc_law_comp, pm_law_comp, an_law_comp, cd_law_comp, ct_law_comp, sl_law_comp, l_law_comp, c_law_comp⟩, k_law_comp⟩ := p_law_comp
  have F_law_comp := fun_mk (st := s_law_comp) l_law_comp c_law_comp k_law_comp
  have b_law_comp := F_law_comp.binds (ps := p_law_comp) fun _ _ _ _ _ _ us hl => match us, hl with | [_, _], _ => rfl
  obtain ⟨a_law_is_ratio, ⟨oc_law_is_ratio, od_law_is_ratio, kV_law_is_ratio, dc_law_is_ratio, pm_law_is_ratio, an_law_is_ratio, cd_law_is_ratio, ct_law_is_ratio, sl_law_is_ratio, l_law_is_ratio, c_law_is_ratio⟩, k_law_is_ratio⟩ := p_law_is_ratio
  have F_law_is_ratio := fun_mk (st := s_law_is_ratio) l_law_is_ratio c_law_is_ratio k_law_is_ratio
  have b_law_is_ratio := F_law_is_ratio.binds (ps := p_law_is_ratio) fun _ _ _ _ _ _ us hl => match us, hl with | [_], _ => rfl
  obtain ⟨a_law_is_spot, ⟨oc_law_is_spot, od_law_is_spot, kV_law_is_spot, dc_law_is_spot, pm_law_is_spot, an_law_is_spot, cd_law_is_spot, ct_law_is_spot, sl_law_is_spot, l_law_is_spot, c_law_is_spot⟩, k_law_is_spot⟩ := p_law_is_spot
  have F_law_is_spot := fun_mk (st := s_law_is_spot) l_law_is_spot c_law_is_spot k_law_is_spot
  have b_law_is_spot := F_law_is_spot.binds (ps := p_law_is_spot) fun _ _ _ _ _ _ us hl => match us, hl with | [_], _ => rfl
  obtain ⟨a_law_ratio, ⟨oc_law_ratio, od_law_ratio, kV_law_ratio, dc_law_ratio, pm_law_ratio, an_law_ratio, cd_law_ratio, ct_law_ratio, sl_law_ratio, l_law_ratio, c_law_ratio⟩, k_law_ratio⟩ := p_law_ratio
  have F_law_ratio := fun_mk (st := s_law_ratio) l_law_ratio c_law_ratio k_law_ratio
  have b_law_ratio := F_law_ratio.binds (ps := p_law_ratio) fun _ _ _ _ _ _ us hl => match us, hl with | [_, _], _ => rfl
  obtain ⟨a_law_spot, ⟨oc_law_spot, od_law_spot, kV_law_spot, dc_law_spot, pm_law_spot, an_law_spot, cd_law_spot, ct_law_spot, sl_law_spot, l_law_spot, c_law_spot⟩, k_law_spot⟩ := p_law_spot
  have F_law_spot := fun_mk (st := s_law_spot) l_law_spot c_law_spot k_law_spot
  have b_law_spot := F_law_spot.binds (ps := p_law_spot) fun _ _ _ _ _ _ us hl => match us, hl with | [_, _], _ => rfl
  obtain ⟨a_law_on, ⟨oc_law_on, od_law_on, kV_law_on, dc_law_on, pm_law_on, an_law_on, cd_law_on, ct_law_on, sl_law_on, l_law_on, c_law_on⟩, k_law_on⟩ := p_law_on
  have F_law_on := fun_mk (st := s_law_on) l_law_on c_law_on k_law_on
  have b_law_on := F_law_on.binds (ps := p_law_on) fun _ _ _ _ _ _ us hl => match us, hl with | [_, _, _], _ => rfl
  obtain ⟨a_law_corners, ⟨oc_law_corners, od_law_corners, kV_law_corners, dc_law_corners, pm_law_corners, an_law_corners, cd_law_corners, ct_law_corners, sl_law_corners, l_law_corners, c_law_corners⟩, k_law_corners⟩ := p_law_corners
  have F_law_corners := fun_mk (st := s_law_corners) l_law_corners c_law_corners k_law_corners
  have b_law_corners := F_law_corners.binds (ps := p_law_corners) fun _ _ _ _ _ _ us hl => match us, hl with | [_, _], _ => rfl
  obtain ⟨a_law_span, ⟨oc_law_span, od_law_span, kV_law_span, dc_law_span, pm_law_span, an_law_span, cd_law_span, ct_law_span, sl_law_span, l_law_span, c_law_span⟩, k_law_span⟩ := p_law_span
  have F_law_span := fun_mk (st := s_law_span) l_law_span c_law_span k_law_span
  have b_law_span := F_law_span.binds (ps := p_law_span) fun _ _ _ _ _ _ us hl => match us, hl with | [_, _, _, _, _], _ => rfl
  obtain ⟨a_law_clip, ⟨oc_law_clip, od_law_clip, kV_law_clip, dc_law_clip, pm_law_clip, an_law_clip, cd_law_clip, ct_law_clip, sl_law_clip, l_law_clip, c_law_clip⟩, k_law_clip⟩ := p_law_clip
  have F_law_clip := fun_mk (st := s_law_clip) l_law_clip c_law_clip k_law_clip
  have b_law_clip := F_law_clip.binds (ps := p_law_clip) fun _ _ _ _ _ _ us hl => match us, hl with | [_, _, _, _], _ => rfl
  obtain ⟨a_law_reaches, ⟨oc_law_reaches, od_law_reaches, kV_law_reaches, dc_law_reaches, pm_law_reaches, an_law_reaches, cd_law_reaches, ct_law_reaches, sl_law_reaches, l_law_reaches, c_law_reaches⟩, k_law_reaches⟩ := p_law_reaches
  have F_law_reaches := fun_mk (st := s_law_reaches) l_law_reaches c_law_reaches k_law_reaches
  have b_law_reaches := F_law_reaches.binds (ps := p_law_reaches) fun _ _ _ _ _ _ us hl => match us, hl with | [_, _, _], _ => rfl
  obtain ⟨a_law_bits, ⟨oc_law_bits, od_law_bits, kV_law_bits, dc_law_bits, pm_law_bits, an_law_bits, cd_law_bits, ct_law_bits, sl_law_bits, l_law_bits, c_law_bits⟩, k_law_bits⟩ := p_law_bits
  have F_law_bits := fun_mk (st := s_law_bits) l_law_bits c_law_bits k_law_bits
  have b_law_bits := F_law_bits.binds (ps := p_law_bits) fun _ _ _ _ _ _ us hl => match us, hl with | [_, _, _, _, _], _ => rfl
  obtain ⟨a_law_spots_of, ⟨oc_law_spots_of, od_law_spots_of, kV_law_spots_of, dc_law_spots_of, pm_law_spots_of, an_law_spots_of, cd_law_spots_of, ct_law_spots_of, sl_law_spots_of, l_law_spots_of, c_law_spots_of⟩, k_law_spots_of⟩ := p_law_spots_of
  have F_law_spots_of := fun_mk (st := s_law_spots_of) l_law_spots_of c_law_spots_of k_law_spots_of
  have b_law_spots_of := F_law_spots_of.binds (ps := p_law_spots_of) fun _ _ _ _ _ _ us hl => match us, hl with | [_, _, _, _], _ => rfl
  obtain ⟨a_law, ⟨oc_law, od_law, kV_law, dc_law, pm_law, an_law, cd_law, ct_law, sl_law, l_law, c_law⟩, k_law⟩ := p_law
  have F_law := fun_mk (st := s_law) l_law c_law k_law
  have b_law := F_law.binds (ps := p_law) fun _ _ _ _ _ _ us hl => match us, hl with | [_], _ => rfl
  have B : Bt mg := ⟨PySem.W.mg_none_of X G z_len, PySem.W.mg_none_of X G z_list, PySem.W.mg_none_of X G z_abs, PySem.W.mg_none_of X G z_isinstance, PySem.W.mg_none_of X G z_int, PySem.W.mg_none_of X G z_bool, PySem.W.mg_none_of X G z_str, PySem.W.mg_none_of X G z_dict, PySem.W.mg_none_of X G z_tuple, PySem.W.mg_none_of X G z_all, PySem.W.mg_none_of X G z_range, PySem.W.mg_none_of X G z_sorted, PySem.W.mg_none_of X G z_min, PySem.W.mg_none_of X G z_max, PySem.W.mg_none_of X G z_any⟩
  have XN : NoR K mg C_NoRatio := ⟨PySem.W.mg_of X G aC, x, k, b, t, PySem.W.exm_ref b e4 t sc⟩
  have qNOUGHT : ∀ H, SqT K H a_NOUGHT [.int 0, .int 1] := fun H => .inr ⟨_, _, _, lNOUGHT, rfl, rfl, (by show 2 ≤ sizeLine; decide), (.cons ⟨_, rfl⟩ (.cons ⟨_, rfl⟩ .nil))⟩
  have qONE : ∀ H, SqT K H a_ONE [.int 1, .int 1] := fun H => .inr ⟨_, _, _, lONE, rfl, rfl, (by show 2 ≤ sizeLine; decide), (.cons ⟨_, rfl⟩ (.cons ⟨_, rfl⟩ .nil))⟩
  let ev : Env K mg := { f_greatest_common := f_greatest_common, d_greatest_common := _, A_greatest_common := ⟨F_greatest_common, b_greatest_common, PySem.W.mg_of X G a_greatest_common⟩, f_ratio := f_ratio, d_ratio := _, A_ratio := ⟨F_ratio, b_ratio, PySem.W.mg_of X G a_ratio⟩, f_plus := f_plus, d_plus := _, A_plus := ⟨F_plus, b_plus, PySem.W.mg_of X G a_plus⟩, f_minus := f_minus, d_minus := _, A_minus := ⟨F_minus, b_minus, PySem.W.mg_of X G a_minus⟩, f_times := f_times, d_times := _, A_times := ⟨F_times, b_times, PySem.W.mg_of X G a_times⟩, f_divided := f_divided, d_divided := _, A_divided := ⟨F_divided, b_divided, PySem.W.mg_of X G a_divided⟩, f_order := f_order, d_order := _, A_order := ⟨F_order, b_order, PySem.W.mg_of X G a_order⟩, f_size := f_size, d_size := _, A_size := ⟨F_size, b_size, PySem.W.mg_of X G a_size⟩, f_lesser := f_lesser, d_lesser := _, A_lesser := ⟨F_lesser, b_lesser, PySem.W.mg_of X G a_lesser⟩, f_greater := f_greater, d_greater := _, A_greater := ⟨F_greater, b_greater, PySem.W.mg_of X G a_greater⟩, f_stretch := f_stretch, d_stretch := _, A_stretch := ⟨F_stretch, b_stretch, PySem.W.mg_of X G a_stretch⟩, f_between := f_between, d_between := _, A_between := ⟨F_between, b_between, PySem.W.mg_of X G a_between⟩, f_gap := f_gap, d_gap := _, A_gap := ⟨F_gap, b_gap, PySem.W.mg_of X G a_gap⟩, f_pieces_of := f_pieces_of, d_pieces_of := _, A_pieces_of := ⟨F_pieces_of, b_pieces_of, PySem.W.mg_of X G a_pieces_of⟩, f_turns := f_turns, d_turns := _, A_turns := ⟨F_turns, b_turns, PySem.W.mg_of X G a_turns⟩, f_apart := f_apart, d_apart := _, A_apart := ⟨F_apart, b_apart, PySem.W.mg_of X G a_apart⟩, f_narrowed := f_narrowed, d_narrowed := _, A_narrowed := ⟨F_narrowed, b_narrowed, PySem.W.mg_of X G a_narrowed⟩, f_off_side := f_off_side, d_off_side := _, A_off_side := ⟨F_off_side, b_off_side, PySem.W.mg_of X G a_off_side⟩, f_span_near := f_span_near, d_span_near := _, A_span_near := ⟨F_span_near, b_span_near, PySem.W.mg_of X G a_span_near⟩, f_covered_to := f_covered_to, d_covered_to := _, A_covered_to := ⟨F_covered_to, b_covered_to, PySem.W.mg_of X G a_covered_to⟩, f_bare_share := f_bare_share, d_bare_share := _, A_bare_share := ⟨F_bare_share, b_bare_share, PySem.W.mg_of X G a_bare_share⟩, f_bare := f_bare, d_bare := _, A_bare := ⟨F_bare, b_bare, PySem.W.mg_of X G a_bare⟩, f_law_bag := f_law_bag, d_law_bag := _, A_law_bag := ⟨F_law_bag, b_law_bag, PySem.W.mg_of X G a_law_bag⟩, f_law_draw := f_law_draw, d_law_draw := _, A_law_draw := ⟨F_law_draw, b_law_draw, PySem.W.mg_of X G a_law_draw⟩, f_law_whole := f_law_whole, d_law_whole := _, A_law_whole := ⟨F_law_whole, b_law_whole, PySem.W.mg_of X G a_law_whole⟩, f_law_any := f_law_any, d_law_any := _, A_law_any := ⟨F_law_any, b_law_any, PySem.W.mg_of X G a_law_any⟩, f_law_rat := f_law_rat, d_law_rat := _, A_law_rat := ⟨F_law_rat, b_law_rat, PySem.W.mg_of X G a_law_rat⟩, f_law_sum := f_law_sum, d_law_sum := _, A_law_sum := ⟨F_law_sum, b_law_sum, PySem.W.mg_of X G a_law_sum⟩, f_law_dif := f_law_dif, d_law_dif := _, A_law_dif := ⟨F_law_dif, b_law_dif, PySem.W.mg_of X G a_law_dif⟩, f_law_prod := f_law_prod, d_law_prod := _, A_law_prod := ⟨F_law_prod, b_law_prod, PySem.W.mg_of X G a_law_prod⟩, f_law_quo := f_law_quo, d_law_quo := _, A_law_quo := ⟨F_law_quo, b_law_quo, PySem.W.mg_of X G a_law_quo⟩, f_law_comp := f_law_comp, d_law_comp := _, A_law_comp := ⟨F_law_comp, b_law_comp, PySem.W.mg_of X G a_law_comp⟩, f_law_is_ratio := f_law_is_ratio, d_law_is_ratio := _, A_law_is_ratio := ⟨F_law_is_ratio, b_law_is_ratio, PySem.W.mg_of X G a_law_is_ratio⟩, f_law_is_spot := f_law_is_spot, d_law_is_spot := _, A_law_is_spot := ⟨F_law_is_spot, b_law_is_spot, PySem.W.mg_of X G a_law_is_spot⟩, f_law_ratio := f_law_ratio, d_law_ratio := _, A_law_ratio := ⟨F_law_ratio, b_law_ratio, PySem.W.mg_of X G a_law_ratio⟩, f_law_spot := f_law_spot, d_law_spot := _, A_law_spot := ⟨F_law_spot, b_law_spot, PySem.W.mg_of X G a_law_spot⟩, f_law_on := f_law_on, d_law_on := _, A_law_on := ⟨F_law_on, b_law_on, PySem.W.mg_of X G a_law_on⟩, f_law_corners := f_law_corners, d_law_corners := _, A_law_corners := ⟨F_law_corners, b_law_corners, PySem.W.mg_of X G a_law_corners⟩, f_law_span := f_law_span, d_law_span := _, A_law_span := ⟨F_law_span, b_law_span, PySem.W.mg_of X G a_law_span⟩, f_law_clip := f_law_clip, d_law_clip := _, A_law_clip := ⟨F_law_clip, b_law_clip, PySem.W.mg_of X G a_law_clip⟩, f_law_reaches := f_law_reaches, d_law_reaches := _, A_law_reaches := ⟨F_law_reaches, b_law_reaches, PySem.W.mg_of X G a_law_reaches⟩, f_law_bits := f_law_bits, d_law_bits := _, A_law_bits := ⟨F_law_bits, b_law_bits, PySem.W.mg_of X G a_law_bits⟩, f_law_spots_of := f_law_spots_of, d_law_spots_of := _, A_law_spots_of := ⟨F_law_spots_of, b_law_spots_of, PySem.W.mg_of X G a_law_spots_of⟩, f_law := fa, d_law := _, A_law := ⟨F_law, b_law, PySem.W.mg_of X G a_law⟩, B := B, C_NoRatio := C_NoRatio, X_NoRatio := XN, a_NOUGHT := a_NOUGHT, c_NOUGHT := PySem.W.mg_of X G cNOUGHT, q_NOUGHT := qNOUGHT, a_ONE := a_ONE, c_ONE := PySem.W.mg_of X G cONE, q_ONE := qONE }
  exact ⟨_, fun s v => .of_eq rfl, fun base _ _ => ok_law ev⟩
end G
open PySem PySem.W PyProof.Rows
set_option maxHeartbeats 0 in
theorem PySem.Challenge.cw_gromatic_k21_whole_bare_points_holds : PySem.Challenge.rw_gromatic_k21_whole_bare_points.Holds := by
  w_on; o_law; k_head; (case hw => w_witness2)
  k_fill
  refine L2.walk_of (l := PySem.Challenge.rw_gromatic_k21_whole_bare_points) (n := 63) (k := 8) (x := "_law_script") (CX := fun _ => L2.CX0) (sp := fun w => G.spLaw _) rfl (by decide) rfl ⟨rfl, by decide, by decide⟩ (fun w h Y => PySem.W.kIn_of Y) ?F (fun _ _ a ns hl _ hS => ⟨a, ns, rfl, hS, hl, fun _ => rfl⟩) (fun _ _ _ _ _ h => h)
  case F =>
    intro w mg fa h KX GN hmg
    refine' G.all_mk KX GN hmg (G.put_mk ?a_greatest_common ?l_greatest_common ?c_greatest_common ?k_greatest_common) (G.put_mk ?a_ratio ?l_ratio ?c_ratio ?k_ratio) (G.put_mk ?a_plus ?l_plus ?c_plus ?k_plus) (G.put_mk ?a_minus ?l_minus ?c_minus ?k_minus) (G.put_mk ?a_times ?l_times ?c_times ?k_times) (G.put_mk ?a_divided ?l_divided ?c_divided ?k_divided) (G.put_mk ?a_order ?l_order ?c_order ?k_order) (G.put_mk ?a_size ?l_size ?c_size ?k_size) (G.put_mk ?a_lesser ?l_lesser ?c_lesser ?k_lesser) (G.put_mk ?a_greater ?l_greater ?c_greater ?k_greater) (G.put_mk ?a_stretch ?l_stretch ?c_stretch ?k_stretch) (G.put_mk ?a_between ?l_between ?c_between ?k_between) (G.put_mk ?a_gap ?l_gap ?c_gap ?k_gap) (G.put_mk ?a_pieces_of ?l_pieces_of ?c_pieces_of ?k_pieces_of) (G.put_mk ?a_turns ?l_turns ?c_turns ?k_turns) (G.put_mk ?a_apart ?l_apart ?c_apart ?k_apart) (G.put_mk ?a_narrowed ?l_narrowed ?c_narrowed ?k_narrowed) (G.put_mk ?a_off_side ?l_off_side ?c_off_side ?k_off_side) (G.put_mk ?a_span_near ?l_span_near ?c_span_near ?k_span_near) (G.put_mk ?a_covered_to ?l_covered_to ?c_covered_to ?k_covered_to) (G.put_mk ?a_bare_share ?l_bare_share ?c_bare_share ?k_bare_share) (G.put_mk ?a_bare ?l_bare ?c_bare ?k_bare) (G.put_mk ?a_law_bag ?l_law_bag ?c_law_bag ?k_law_bag) (G.put_mk ?a_law_draw ?l_law_draw ?c_law_draw ?k_law_draw) (G.put_mk ?a_law_whole ?l_law_whole ?c_law_whole ?k_law_whole) (G.put_mk ?a_law_any ?l_law_any ?c_law_any ?k_law_any) (G.put_mk ?a_law_rat ?l_law_rat ?c_law_rat ?k_law_rat) (G.put_mk ?a_law_sum ?l_law_sum ?c_law_sum ?k_law_sum) (G.put_mk ?a_law_dif ?l_law_dif ?c_law_dif ?k_law_dif) (G.put_mk ?a_law_prod ?l_law_prod ?c_law_prod ?k_law_prod) (G.put_mk ?a_law_quo ?l_law_quo ?c_law_quo ?k_law_quo) (G.put_mk ?a_law_comp ?l_law_comp ?c_law_comp ?k_law_comp) (G.put_mk ?a_law_is_ratio ?l_law_is_ratio ?c_law_is_ratio ?k_law_is_ratio) (G.put_mk ?a_law_is_spot ?l_law_is_spot ?c_law_is_spot ?k_law_is_spot) (G.put_mk ?a_law_ratio ?l_law_ratio ?c_law_ratio ?k_law_ratio) (G.put_mk ?a_law_spot ?l_law_spot ?c_law_spot ?k_law_spot) (G.put_mk ?a_law_on ?l_law_on ?c_law_on ?k_law_on) (G.put_mk ?a_law_corners ?l_law_corners ?c_law_corners ?k_law_corners) (G.put_mk ?a_law_span ?l_law_span ?c_law_span ?k_law_span) (G.put_mk ?a_law_clip ?l_law_clip ?c_law_clip ?k_law_clip) (G.put_mk ?a_law_reaches ?l_law_reaches ?c_law_reaches ?k_law_reaches) (G.put_mk ?a_law_bits ?l_law_bits ?c_law_bits ?k_law_bits) (G.put_mk ?a_law_spots_of ?l_law_spots_of ?c_law_spots_of ?k_law_spots_of) (G.put_mk ?a_law ?l_law ?c_law ?k_law) ?aC ?x ?k ?b ?t ?e4 ?sc ?cNOUGHT ?lNOUGHT ?cONE ?lONE ?z_len ?z_list ?z_abs ?z_isinstance ?z_int ?z_bool ?z_str ?z_dict ?z_tuple ?z_all ?z_range ?z_sorted ?z_min ?z_max ?z_any
    (case aC => k_is)
    (case x => k_exc)
    (case k => k_is)
    (case b => k_is)
    (case t => k_is)
    (case e4 => k_is)
    (case sc => first | rfl | k_is)
    (case cNOUGHT => k_is)
    (case lNOUGHT => k_is)
    (case cONE => k_is)
    (case lONE => k_is)
    (case a_greatest_common => k_is)
    (case l_greatest_common => k_is)
    (case c_greatest_common => k_is)
    (case k_greatest_common => k_is)
    (case a_ratio => k_is)
    (case l_ratio => k_is)
    (case c_ratio => k_is)
    (case k_ratio => k_is)
    (case a_plus => k_is)
    (case l_plus => k_is)
    (case c_plus => k_is)
    (case k_plus => k_is)
    (case a_minus => k_is)
    (case l_minus => k_is)
    (case c_minus => k_is)
    (case k_minus => k_is)
    (case a_times => k_is)
    (case l_times => k_is)
    (case c_times => k_is)
    (case k_times => k_is)
    (case a_divided => k_is)
    (case l_divided => k_is)
    (case c_divided => k_is)
    (case k_divided => k_is)
    (case a_order => k_is)
    (case l_order => k_is)
    (case c_order => k_is)
    (case k_order => k_is)
    (case a_size => k_is)
    (case l_size => k_is)
    (case c_size => k_is)
    (case k_size => k_is)
    (case a_lesser => k_is)
    (case l_lesser => k_is)
    (case c_lesser => k_is)
    (case k_lesser => k_is)
    (case a_greater => k_is)
    (case l_greater => k_is)
    (case c_greater => k_is)
    (case k_greater => k_is)
    (case a_stretch => k_is)
    (case l_stretch => k_is)
    (case c_stretch => k_is)
    (case k_stretch => k_is)
    (case a_between => k_is)
    (case l_between => k_is)
    (case c_between => k_is)
    (case k_between => k_is)
    (case a_gap => k_is)
    (case l_gap => k_is)
    (case c_gap => k_is)
    (case k_gap => k_is)
    (case a_pieces_of => k_is)
    (case l_pieces_of => k_is)
    (case c_pieces_of => k_is)
    (case k_pieces_of => k_is)
    (case a_turns => k_is)
    (case l_turns => k_is)
    (case c_turns => k_is)
    (case k_turns => k_is)
    (case a_apart => k_is)
    (case l_apart => k_is)
    (case c_apart => k_is)
    (case k_apart => k_is)
    (case a_narrowed => k_is)
    (case l_narrowed => k_is)
    (case c_narrowed => k_is)
    (case k_narrowed => k_is)
    (case a_off_side => k_is)
    (case l_off_side => k_is)
    (case c_off_side => k_is)
    (case k_off_side => k_is)
    (case a_span_near => k_is)
    (case l_span_near => k_is)
    (case c_span_near => k_is)
    (case k_span_near => k_is)
    (case a_covered_to => k_is)
    (case l_covered_to => k_is)
    (case c_covered_to => k_is)
    (case k_covered_to => k_is)
    (case a_bare_share => k_is)
    (case l_bare_share => k_is)
    (case c_bare_share => k_is)
    (case k_bare_share => k_is)
    (case a_bare => k_is)
    (case l_bare => k_is)
    (case c_bare => k_is)
    (case k_bare => k_is)
    (case a_law_bag => k_is)
    (case l_law_bag => k_is)
    (case c_law_bag => k_is)
    (case k_law_bag => k_is)
    (case a_law_draw => k_is)
    (case l_law_draw => k_is)
    (case c_law_draw => k_is)
    (case k_law_draw => k_is)
    (case a_law_whole => k_is)
    (case l_law_whole => k_is)
    (case c_law_whole => k_is)
    (case k_law_whole => k_is)
    (case a_law_any => k_is)
    (case l_law_any => k_is)
    (case c_law_any => k_is)
    (case k_law_any => k_is)
    (case a_law_rat => k_is)
    (case l_law_rat => k_is)
    (case c_law_rat => k_is)
    (case k_law_rat => k_is)
    (case a_law_sum => k_is)
    (case l_law_sum => k_is)
    (case c_law_sum => k_is)
    (case k_law_sum => k_is)
    (case a_law_dif => k_is)
    (case l_law_dif => k_is)
    (case c_law_dif => k_is)
    (case k_law_dif => k_is)
    (case a_law_prod => k_is)
    (case l_law_prod => k_is)
    (case c_law_prod => k_is)
    (case k_law_prod => k_is)
    (case a_law_quo => k_is)
    (case l_law_quo => k_is)
    (case c_law_quo => k_is)
    (case k_law_quo => k_is)
    (case a_law_comp => k_is)
    (case l_law_comp => k_is)
    (case c_law_comp => k_is)
    (case k_law_comp => k_is)
    (case a_law_is_ratio => k_is)
    (case l_law_is_ratio => k_is)
    (case c_law_is_ratio => k_is)
    (case k_law_is_ratio => k_is)
    (case a_law_is_spot => k_is)
    (case l_law_is_spot => k_is)
    (case c_law_is_spot => k_is)
    (case k_law_is_spot => k_is)
    (case a_law_ratio => k_is)
    (case l_law_ratio => k_is)
    (case c_law_ratio => k_is)
    (case k_law_ratio => k_is)
    (case a_law_spot => k_is)
    (case l_law_spot => k_is)
    (case c_law_spot => k_is)
    (case k_law_spot => k_is)
    (case a_law_on => k_is)
    (case l_law_on => k_is)
    (case c_law_on => k_is)
    (case k_law_on => k_is)
    (case a_law_corners => k_is)
    (case l_law_corners => k_is)
    (case c_law_corners => k_is)
    (case k_law_corners => k_is)
    (case a_law_span => k_is)
    (case l_law_span => k_is)
    (case c_law_span => k_is)
    (case k_law_span => k_is)
    (case a_law_clip => k_is)
    (case l_law_clip => k_is)
    (case c_law_clip => k_is)
    (case k_law_clip => k_is)
    (case a_law_reaches => k_is)
    (case l_law_reaches => k_is)
    (case c_law_reaches => k_is)
    (case k_law_reaches => k_is)
    (case a_law_bits => k_is)
    (case l_law_bits => k_is)
    (case c_law_bits => k_is)
    (case k_law_bits => k_is)
    (case a_law_spots_of => k_is)
    (case l_law_spots_of => k_is)
    (case c_law_spots_of => k_is)
    (case k_law_spots_of => k_is)
    (case a_law => k_is)
    (case l_law => k_is)
    (case c_law => k_is)
    (case k_law => k_is)
    (case z_len => k_is)
    (case z_list => k_is)
    (case z_abs => k_is)
    (case z_isinstance => k_is)
    (case z_int => k_is)
    (case z_bool => k_is)
    (case z_str => k_is)
    (case z_dict => k_is)
    (case z_tuple => k_is)
    (case z_all => k_is)
    (case z_range => k_is)
    (case z_sorted => k_is)
    (case z_min => k_is)
    (case z_max => k_is)
    (case z_any => k_is)

