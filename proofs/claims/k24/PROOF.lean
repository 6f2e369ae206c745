import PyProof.Rows.All
import Wide.All
import OpenK.AllK
import Wide.FinOn
import HandS.ForMost
import HandS.ForExc
import HandS.Wide
import HandS.IsInst
import HandS.ExcIs
import HandS.More
import HandS.DictComp
import HandS.SortInts
import HandS.Style
import PySem.Challenge.RW_gromatic_k24_pieces_cut_by_boxes
set_option Elab.async false
set_option linter.all false
set_option maxRecDepth 100000
set_option maxHeartbeats 8000000
namespace M
open PySem L2

/-! ### heaps: what is owned may change -/
abbrev AS := List Addr
def Fr (T : AS) (H H' : Hp) : Prop := ∀ a o, H a = some o → a ∉ T → H' a = some o
theorem Fr.refl {T : AS} (H : Hp) : Fr T H H := fun _ _ e _ => e
theorem Fr.trans {T : AS} {H H1 H2 : Hp} (a : Fr T H H1) (b : Fr T H1 H2) : Fr T H H2 := fun p o e n => b p o (a p o e n) n
theorem Fr.same {T : AS} {H H' : Hp} (s : Same H H') : Fr T H H' := fun p o e _ => s p o e
theorem Fr.sub {T T' : AS} {H H' : Hp} (h : ∀ a ∈ T, a ∈ T') (f : Fr T H H') : Fr T' H H' := fun p o e n => f p o e fun m => n (h p m)
theorem Fr.toSame {H H' : Hp} (f : Fr [] H H') : Same H H' := fun p o e => f p o e (by simp)
def Dom (S : AS) (H : Hp) : Prop := ∀ a ∈ S, H a ≠ none
theorem Dom.same {S : AS} {H H' : Hp} (d : Dom S H) (s : Same H H') : Dom S H' := fun a m e => by
  cases q : H a with
  | none => exact d a m q
  | some o => rw [s a o q] at e; cases e
theorem Dom.nil {H : Hp} : Dom [] H := fun a m => by simp at m
theorem Dom.not_mem {S : AS} {H : Hp} {p : Addr} (d : Dom S H) (h : H p = none) : p ∉ S := fun m => d p m h
theorem Dom.cons {S : AS} {H : Hp} {p : Addr} {o : HO} (d : Dom S H) (h : H p = some o) : Dom (p :: S) H := fun a m => by
  rcases List.mem_cons.mp m with rfl | m
  · rw [h]; intro z; cases z
  · exact d a m
theorem same_new {H : Hp} {p : Addr} {o : HO} (h : H p = none) : Same H (upd H p o) := fun b x e => by
  rw [upd_ne (ne_of_none e h)]
  exact e
theorem fr_upd {T : AS} {H : Hp} {p : Addr} {o : HO} (h : p ∈ T) : Fr T H (upd H p o) := fun b x e n => by
  rw [upd_ne (fun z => n (by rw [z]; exact h))]
  exact e
theorem Dom.upd {S : AS} {H : Hp} {p : Addr} {o : HO} (d : Dom S H) : Dom S (upd H p o) := fun a m => by
  by_cases e : a = p
  · subst e; rw [upd_same]; intro z; cases z
  · rw [upd_ne e]; exact d a m

/-! ### pairs of lists -/
abbrev All2 {α β : Type} := @Paired α β
theorem All2.imp {α β : Type} {F G : α → β → Prop} (h : ∀ a b, F a b → G a b) : ∀ {xs : List α} {ys : List β}, All2 F xs ys → All2 G xs ys
  | _, _, .nil => .nil
  | _, _, .cons a r => .cons (h _ _ a) (All2.imp h r)
theorem All2.len {α β : Type} {F : α → β → Prop} : ∀ {xs : List α} {ys : List β}, All2 F xs ys → xs.length = ys.length
  | _, _, .nil => rfl
  | _, _, .cons _ r => by simp [All2.len r]
theorem All2.get {α β : Type} {F : α → β → Prop} : ∀ {xs : List α} {ys : List β} (i : Nat) {y : β}, All2 F xs ys → ys[i]? = some y → ∃ x, xs[i]? = some x ∧ F x y
  | _, _, i, y, .nil, e => by simp at e
  | _, _, 0, y, .cons a _, e => by simp at e; subst e; exact ⟨_, rfl, a⟩
  | _, _, i + 1, y, .cons _ r, e => by
    obtain ⟨x, h1, h2⟩ := All2.get i (y := y) r (by simpa using e)
    exact ⟨x, by simpa using h1, h2⟩
theorem All2.getL {α β : Type} {F : α → β → Prop} : ∀ {xs : List α} {ys : List β} (i : Nat) {x : α}, All2 F xs ys → xs[i]? = some x → ∃ y, ys[i]? = some y ∧ F x y
  | _, _, i, y, .nil, e => by simp at e
  | _, _, 0, y, .cons a _, e => by simp at e; subst e; exact ⟨_, rfl, a⟩
  | _, _, i + 1, y, .cons _ r, e => by
    obtain ⟨x, h1, h2⟩ := All2.getL i (x := y) r (by simpa using e)
    exact ⟨x, by simpa using h1, h2⟩
theorem All2.snoc {α β : Type} {F : α → β → Prop} {x : α} {y : β} : ∀ {xs : List α} {ys : List β}, All2 F xs ys → F x y → All2 F (xs ++ [x]) (ys ++ [y])
  | _, _, .nil, h => .cons h .nil
  | _, _, .cons a r, h => .cons a (All2.snoc r h)
theorem All2.app {α β : Type} {F : α → β → Prop} : ∀ {xs xs' : List α} {ys ys' : List β}, All2 F xs ys → All2 F xs' ys' → All2 F (xs ++ xs') (ys ++ ys')
  | _, _, _, _, .nil, h => h
  | _, _, _, _, .cons a r, h => .cons a (All2.app r h)
theorem All2.drop {α β : Type} {F : α → β → Prop} : ∀ (n : Nat) {xs : List α} {ys : List β}, All2 F xs ys → All2 F (xs.drop n) (ys.drop n)
  | 0, _, _, h => h
  | _ + 1, _, _, .nil => .nil
  | n + 1, _, _, .cons _ r => All2.drop n r
theorem All2.take {α β : Type} {F : α → β → Prop} : ∀ (n : Nat) {xs : List α} {ys : List β}, All2 F xs ys → All2 F (xs.take n) (ys.take n)
  | 0, _, _, _ => .nil
  | _ + 1, _, _, .nil => .nil
  | n + 1, _, _, .cons a r => .cons a (All2.take n r)
theorem All2.set {α β : Type} {F : α → β → Prop} {x : α} {y : β} (h : F x y) : ∀ (n : Nat) {xs : List α} {ys : List β}, All2 F xs ys → All2 F (xs.set n x) (ys.set n y)
  | _, _, _, .nil => .nil
  | 0, _, _, .cons _ r => .cons h r
  | n + 1, _, _, .cons a r => .cons a (All2.set h n r)
theorem All2.at {α β : Type} {F : α → β → Prop} {xs : List α} {ys : List β} {i : Int} {y : β} (h : All2 F xs ys) (e : atI ys i = some y) : ∃ x, atI xs i = some x ∧ F x y := by
  unfold atI at e ⊢
  rw [h.len]
  cases q : ixN ys.length i with
  | none => rw [q] at e; cases e
  | some j =>
    rw [q] at e
    exact h.get j e

/-! ### codes: what a value stands for -/
def nT (K : PySem.W.Frag) (S : AS) (H : Hp) (a : Addr) (xs : List V) : Prop := (Rd H a (.tup xs) ∧ a ∉ S) ∨ SqT K (fun _ => none) a xs
def nL (K : PySem.W.Frag) (S : AS) (H : Hp) (a : Addr) (xs : List V) : Prop := (Rd H a (.lst xs) ∧ a ∉ S) ∨ SqL K (fun _ => none) a xs
theorem not_rd {a : Addr} {u : HO} (h : Rd (fun _ => none) a u) : False := by
  rcases h with h | ⟨_, h⟩ <;> cases h
theorem Rd.some {H : Hp} {a : Addr} {u : HO} (h : Rd H a u) : H a ≠ none := by
  rcases h with h | ⟨_, h⟩ <;> rw [h] <;> intro z <;> cases z
theorem Rd.fr {T : AS} {H H' : Hp} {a : Addr} {u : HO} (h : Rd H a u) (f : Fr T H H') (n : a ∉ T) : Rd H' a u := by
  rcases h with h | ⟨o, h⟩
  · exact .inl (f _ _ h n)
  · exact .inr ⟨o, f _ _ h n⟩
theorem nT.sq {K : PySem.W.Frag} {S : AS} {H : Hp} {a : Addr} {xs : List V} (h : nT K S H a xs) : SqT K H a xs := by
  rcases h with h | h | h
  · exact .inl h.1
  · exact (not_rd h).elim
  · exact .inr h
theorem nL.sq {K : PySem.W.Frag} {S : AS} {H : Hp} {a : Addr} {xs : List V} (h : nL K S H a xs) : SqL K H a xs := by
  rcases h with h | h | h
  · exact .inl h.1
  · exact (not_rd h).elim
  · exact .inr h
theorem nT.mono {K : PySem.W.Frag} {S : AS} {H H' : Hp} {a : Addr} {xs : List V} (f : Fr S H H') (h : nT K S H a xs) : nT K S H' a xs := by
  rcases h with h | h
  · exact .inl ⟨Rd.fr h.1 f h.2, h.2⟩
  · exact .inr h
theorem nL.mono {K : PySem.W.Frag} {S : AS} {H H' : Hp} {a : Addr} {xs : List V} (f : Fr S H H') (h : nL K S H a xs) : nL K S H' a xs := by
  rcases h with h | h
  · exact .inl ⟨Rd.fr h.1 f h.2, h.2⟩
  · exact .inr h
theorem not_cons {S : AS} {H : Hp} {p a : Addr} (hp : H p = none) (ha : H a ≠ none) (n : a ∉ S) : a ∉ p :: S := fun m => by
  rcases List.mem_cons.mp m with rfl | m
  · exact ha hp
  · exact n m
theorem nT.ext {K : PySem.W.Frag} {S : AS} {H : Hp} {a p : Addr} {xs : List V} (hp : H p = none) (h : nT K S H a xs) : nT K (p :: S) H a xs := by
  rcases h with h | h
  · exact .inl ⟨h.1, not_cons hp (Rd.some h.1) h.2⟩
  · exact .inr h
theorem nL.ext {K : PySem.W.Frag} {S : AS} {H : Hp} {a p : Addr} {xs : List V} (hp : H p = none) (h : nL K S H a xs) : nL K (p :: S) H a xs := by
  rcases h with h | h
  · exact .inl ⟨h.1, not_cons hp (Rd.some h.1) h.2⟩
  · exact .inr h
theorem nT.sub {K : PySem.W.Frag} {S S' : AS} {H : Hp} {a : Addr} {xs : List V} (hs : ∀ a ∈ S', a ∈ S) (h : nT K S H a xs) : nT K S' H a xs := by
  rcases h with h | h
  · exact .inl ⟨h.1, fun m => h.2 (hs _ m)⟩
  · exact .inr h
theorem nL.sub {K : PySem.W.Frag} {S S' : AS} {H : Hp} {a : Addr} {xs : List V} (hs : ∀ a ∈ S', a ∈ S) (h : nL K S H a xs) : nL K S' H a xs := by
  rcases h with h | h
  · exact .inl ⟨h.1, fun m => h.2 (hs _ m)⟩
  · exact .inr h

structure Ty (K : PySem.W.Frag) (α : Type) where
  rp : AS → Hp → V → α → Prop
  mono : ∀ {S H H' v x}, Fr S H H' → rp S H v x → rp S H' v x
  ext : ∀ {S H p v x}, H p = none → rp S H v x → rp (p :: S) H v x
  sub : ∀ {S S' H v x}, (∀ a ∈ S', a ∈ S) → rp S H v x → rp S' H v x

section
variable {K : PySem.W.Frag} {α β γ δ ε : Type}
def tInt : Ty K Int := ⟨fun _ _ v i => v = .int i, fun _ h => h, fun _ h => h, fun _ h => h⟩
def tBool : Ty K Bool := ⟨fun _ _ v i => v = .bl i, fun _ h => h, fun _ h => h, fun _ h => h⟩
def tStr : Ty K Str := ⟨fun _ _ v i => v = .str i ∧ PyData.strOk i = true, fun _ h => h, fun _ h => h, fun _ h => h⟩
def tNone : Ty K Unit := ⟨fun _ _ v _ => v = .non, fun _ h => h, fun _ h => h, fun _ h => h⟩
def tOpt (c : Ty K α) : Ty K (Option α) where
  rp S H v
    | none => v = .non
    | some x => v ≠ .non ∧ c.rp S H v x
  mono {S H H' v x} f h := by cases x with | none => exact h | some x => exact ⟨h.1, c.mono f h.2⟩
  ext {S H p v x} f h := by cases x with | none => exact h | some x => exact ⟨h.1, c.ext f h.2⟩
  sub {S S' H v x} f h := by cases x with | none => exact h | some x => exact ⟨h.1, c.sub f h.2⟩
def tT2 (c : Ty K α) (d : Ty K β) : Ty K (α × β) where
  rp S H v x := ∃ a u w, v = .ref a ∧ nT K S H a [u, w] ∧ c.rp S H u x.1 ∧ d.rp S H w x.2
  mono f := fun ⟨a, u, w, e, h, h1, h2⟩ => ⟨a, u, w, e, h.mono f, c.mono f h1, d.mono f h2⟩
  ext f := fun ⟨a, u, w, e, h, h1, h2⟩ => ⟨a, u, w, e, h.ext f, c.ext f h1, d.ext f h2⟩
  sub f := fun ⟨a, u, w, e, h, h1, h2⟩ => ⟨a, u, w, e, h.sub f, c.sub f h1, d.sub f h2⟩
def tT3 (c : Ty K α) (d : Ty K β) (g : Ty K γ) : Ty K (α × β × γ) where
  rp S H v x := ∃ a u w z, v = .ref a ∧ nT K S H a [u, w, z] ∧ c.rp S H u x.1 ∧ d.rp S H w x.2.1 ∧ g.rp S H z x.2.2
  mono f := fun ⟨a, u, w, z, e, h, h1, h2, h3⟩ => ⟨a, u, w, z, e, h.mono f, c.mono f h1, d.mono f h2, g.mono f h3⟩
  ext f := fun ⟨a, u, w, z, e, h, h1, h2, h3⟩ => ⟨a, u, w, z, e, h.ext f, c.ext f h1, d.ext f h2, g.ext f h3⟩
  sub f := fun ⟨a, u, w, z, e, h, h1, h2, h3⟩ => ⟨a, u, w, z, e, h.sub f, c.sub f h1, d.sub f h2, g.sub f h3⟩
/-- a tuple of any length; a list -/
def tTs (c : Ty K α) : Ty K (List α) where
  rp S H v xs := ∃ a vs, v = .ref a ∧ nT K S H a vs ∧ All2 (c.rp S H) vs xs
  mono f := fun ⟨a, vs, e, h, h1⟩ => ⟨a, vs, e, h.mono f, h1.imp fun _ _ => c.mono f⟩
  ext f := fun ⟨a, vs, e, h, h1⟩ => ⟨a, vs, e, h.ext f, h1.imp fun _ _ => c.ext f⟩
  sub f := fun ⟨a, vs, e, h, h1⟩ => ⟨a, vs, e, h.sub f, h1.imp fun _ _ => c.sub f⟩
def tL (c : Ty K α) : Ty K (List α) where
  rp S H v xs := ∃ a vs, v = .ref a ∧ nL K S H a vs ∧ All2 (c.rp S H) vs xs
  mono f := fun ⟨a, vs, e, h, h1⟩ => ⟨a, vs, e, h.mono f, h1.imp fun _ _ => c.mono f⟩
  ext f := fun ⟨a, vs, e, h, h1⟩ => ⟨a, vs, e, h.ext f, h1.imp fun _ _ => c.ext f⟩
  sub f := fun ⟨a, vs, e, h, h1⟩ => ⟨a, vs, e, h.sub f, h1.imp fun _ _ => c.sub f⟩
/-- a ratio: a tuple of two numbers in lowest terms -/
def tRat : Ty K Rat where
  rp S H v q := ∃ a, v = .ref a ∧ nT K S H a [.int q.num, .int (q.den : Int)]
  mono f := fun ⟨a, e, h⟩ => ⟨a, e, h.mono f⟩
  ext f := fun ⟨a, e, h⟩ => ⟨a, e, h.ext f⟩
  sub f := fun ⟨a, e, h⟩ => ⟨a, e, h.sub f⟩
abbrev tSpot : Ty K (Rat × Rat) := tT2 tRat tRat
/-- a list that is owned: at p, and p is of S -/
def Own (c : Ty K α) (S : AS) (H : Hp) (p : Addr) (xs : List α) : Prop := ∃ vs, H p = some (.lst vs) ∧ All2 (c.rp S H) vs xs
/-- a new list -/
def nwL (c : Ty K α) (S : AS) (H0 H : Hp) (v : V) (xs : List α) : Prop := ∃ p, v = .ref p ∧ H0 p = none ∧ Own c (p :: S) H p xs
theorem nwL.rp {c : Ty K α} {S : AS} {H0 H : Hp} {v : V} {xs : List α} (h : nwL c S H0 H v xs) (d : Dom S H0) : (tL c).rp S H v xs := by
  obtain ⟨p, e, hp, vs, hv, ha⟩ := h
  exact ⟨p, vs, e, .inl ⟨.inl hv, d.not_mem hp⟩, ha.imp fun _ _ => c.sub fun _ m => List.mem_cons_of_mem _ m⟩

/-! ### what an expression tells -/
structure Rl (α : Type) where
  r : Hp → Hp → V → α → Prop
  back : ∀ {T H0 H1 H2 v x}, Fr T H0 H1 → Dom T H1 → r H1 H2 v x → r H0 H2 v x
def of (c : Ty K α) (S : AS) : Rl α := ⟨fun _ H v x => c.rp S H v x, fun _ _ h => h⟩
theorem fr_back {T : AS} {H0 H1 : Hp} {p : Addr} (f : Fr T H0 H1) (d : Dom T H1) (n : H1 p = none) : H0 p = none := by
  cases q : H0 p with
  | none => rfl
  | some o =>
    rw [f p o q (d.not_mem n)] at n
    cases n
def nw (c : Ty K α) (S : AS) : Rl (List α) := ⟨nwL c S, fun f d ⟨p, e, n, h⟩ => ⟨p, e, fr_back f d n, h⟩⟩
theorem Rl.same (R : Rl α) {H0 H1 H2 : Hp} {v : V} {x : α} (s : Same H0 H1) (h : R.r H1 H2 v x) : R.r H0 H2 v x := R.back (T := []) (Fr.same s) Dom.nil h
/-- S: what is owned; T: what of it may change while the expression is read (the bag) -/
def Ev (S T : AS) (te : TE) (σ : St) (H : Hp) (R : Rl α) (r : Option α) : Prop :=
  ∀ x, r = some x → ∀ H1, Fr T H H1 → Dom S H1 → ∀ Q : VK, (∀ v H2, Same H1 H2 → R.r H1 H2 v x → Q v H2) → te σ H1 Q
def EvB (S T : AS) (tt : TT) (σ : St) (H : Hp) (r : Option Bool) : Prop :=
  ∀ b, r = some b → ∀ H1, Fr T H H1 → Dom S H1 → ∀ Q : Bool → Hp → Prop, (∀ H2, Same H1 H2 → Q b H2) → tt σ H1 Q
abbrev bd (r : Option α) (k : α → Option β) : Option β := Option.bind r k
theorem bd_some {r : Option α} {k : α → Option β} {y : β} (h : bd r k = some y) : ∃ x, r = some x ∧ k x = some y := by
  cases r with
  | none => cases h
  | some x => exact ⟨x, rfl, h⟩
abbrev Sub (T S : AS) : Prop := ∀ a ∈ T, a ∈ S
variable {S T : AS} {σ : St} {H : Hp} {ta tb te : TE} {tt tu : TT} {a : Ty K α} {b : Ty K β} {c : Ty K γ}
theorem ev_var (ts : Sub T S) {i : Nat} {v : V} {x : α} (h : a.rp S H v x) (e : σ[i]? = some (some v)) : Ev S T (tVar i) σ H (of a S) (some x) := by
  intro y ey H1 f d Q q
  cases ey
  exact ⟨v, e, q v H1 (Same.refl _) (a.mono (f.sub ts) h)⟩
theorem ev_c {v : V} {x : α} (h : ∀ H, a.rp S H v x) : Ev S T (tC v) σ H (of a S) (some x) := by
  intro y ey H1 f d Q q
  cases ey
  exact q v H1 (Same.refl _) (h H1)
theorem ev_int {i : Int} : Ev S T (tC (.int i)) σ H (of (K := K) tInt S) (some i) := ev_c fun _ => rfl
theorem ev_bool {i : Bool} : Ev S T (tC (.bl i)) σ H (of (K := K) tBool S) (some i) := ev_c fun _ => rfl
theorem ev_str {i : Str} (h : PyData.strOk i = true := by decide +kernel) : Ev S T (tC (.str i)) σ H (of (K := K) tStr S) (some i) := ev_c fun _ => ⟨rfl, h⟩
theorem ev_none : Ev S T (tC .non) σ H (of (K := K) tNone S) (some ()) := ev_c fun _ => rfl
/-- another code for the same value -/
theorem ev_as {R : Rl α} {R' : Rl β} {r : Option α} {g : α → Option β} (h : Ev S T te σ H R r) (k : ∀ x y, g x = some y → ∀ H1 H2 v, Dom S H1 → R.r H1 H2 v x → R'.r H1 H2 v y) : Ev S T te σ H R' (bd r g) := by
  intro y ey H1 f d Q q
  obtain ⟨x, ex, ey⟩ := bd_some ey
  exact h x ex H1 f d Q fun v H2 s hv => q v H2 s (k x y ey H1 H2 v d hv)
theorem ev_new {r : Option (List α)} (h : Ev S T te σ H (nw a S) r) : Ev S T te σ H (of (tL a) S) r := by
  intro x ex H1 f d Q q
  exact h x ex H1 f d Q fun v H2 s hv => q v H2 s (nwL.rp hv d)
def OpD (a : Ty K α) (b : Ty K β) (S : AS) (R : Rl γ) (r : R2) (f : α → β → Option γ) : Prop :=
  ∀ x y z, f x y = some z → ∀ H1 v w, Dom S H1 → a.rp S H1 v x → b.rp S H1 w y → ∀ Q : VK, (∀ u H2, Same H1 H2 → R.r H1 H2 u z → Q u H2) → r v w H1 Q
theorem ev_op {R : Rl γ} {r : R2} {f : α → β → Option γ} {ra : Option α} {rb : Option β} (h : OpD a b S R r f) (ha : Ev S T ta σ H (of a S) ra) (hb : Ev S T tb σ H (of b S) rb) :
    Ev S T (tOp r ta tb) σ H R (bd ra fun x => bd rb fun y => f x y) := by
  intro z e H1 f1 d Q q
  obtain ⟨x, ex, e⟩ := bd_some e
  obtain ⟨y, ey, e⟩ := bd_some e
  refine ha x ex H1 f1 d _ fun v H2 s2 hv => hb y ey H2 (f1.trans (Fr.same s2)) (d.same s2) _ fun w H3 s3 hw => h x y z e H3 v w ((d.same s2).same s3) (a.mono (Fr.same s3) hv) hw Q fun u H4 s4 hu => q u H4 (s2.trans (s3.trans s4)) (R.same (s2.trans s3) hu)
/-- ints -/
theorem od_I0 {g : Int → Int → V} {k : Int → Int → γ} (h : ∀ i j H, c.rp S H (g i j) (k i j)) : OpD (K := K) tInt tInt S (of c S) (rI0 g) (fun i j => some (k i j)) := by
  intro x y z e H1 v w d hv hw Q q
  cases e
  exact ⟨x, y, hv, hw, q _ H1 (Same.refl _) (h x y H1)⟩
theorem od_I {C : Int → Int → Prop} {p : Int → Int → Bool} {g : Int → Int → V} {k : Int → Int → γ} (hp : ∀ i j, p i j = true → C i j) (h : ∀ i j H, c.rp S H (g i j) (k i j)) : OpD (K := K) tInt tInt S (of c S) (rI C g) (fun i j => if p i j then some (k i j) else none) := by
  intro x y z e H1 v w d hv hw Q q
  dsimp only at e
  split at e
  · rename_i hc
    cases e
    exact ⟨x, y, hv, hw, hp _ _ hc, q _ H1 (Same.refl _) (h x y H1)⟩
  · cases e
def mulP (i j : Int) : Bool := decide (i.natAbs.log2 + j.natAbs.log2 < 1000000)
def mul? (i j : Int) : Option Int := if mulP i j then some (i * j) else none
theorem od_add : OpD (K := K) tInt tInt S (of (K := K) tInt S) (rI0 fun i j => .int (i + j)) (fun i j => some (i + j)) := od_I0 fun _ _ _ => rfl
theorem od_sub : OpD (K := K) tInt tInt S (of (K := K) tInt S) (rI0 fun i j => .int (i - j)) (fun i j => some (i - j)) := od_I0 fun _ _ _ => rfl
theorem od_mul : OpD (K := K) tInt tInt S (of (K := K) tInt S) (rI CMulW fun i j => .int (i * j)) mul? := od_I (fun i j h => show i.natAbs.log2 + j.natAbs.log2 < 1000000 from of_decide_eq_true h) fun _ _ _ => rfl
theorem od_lt : OpD (K := K) tInt tInt S (of (K := K) tBool S) (rI0 fun i j => .bl (decide (i < j))) (fun i j => some (decide (i < j))) := od_I0 fun _ _ _ => rfl
theorem od_le : OpD (K := K) tInt tInt S (of (K := K) tBool S) (rI0 fun i j => .bl (decide (i ≤ j))) (fun i j => some (decide (i ≤ j))) := od_I0 fun _ _ _ => rfl
theorem od_gt : OpD (K := K) tInt tInt S (of (K := K) tBool S) (rI0 fun i j => .bl (decide (j < i))) (fun i j => some (decide (j < i))) := od_I0 fun _ _ _ => rfl
theorem od_ge : OpD (K := K) tInt tInt S (of (K := K) tBool S) (rI0 fun i j => .bl (decide (j ≤ i))) (fun i j => some (decide (j ≤ i))) := od_I0 fun _ _ _ => rfl
theorem od_eqI : OpD (K := K) tInt tInt S (of (K := K) tBool S) rEq (fun i j => some (decide (i = j))) := by
  intro x y z e H1 v w d hv hw Q q
  cases e; cases hv; cases hw
  refine ⟨rfl, ?_⟩
  rw [show decide (V.int x = V.int y) = decide (x = y) by simp]
  exact q _ H1 (Same.refl _) rfl
theorem od_neI : OpD (K := K) tInt tInt S (of (K := K) tBool S) rNe (fun i j => some (!decide (i = j))) := by
  intro x y z e H1 v w d hv hw Q q
  cases e; cases hv; cases hw
  refine ⟨rfl, ?_⟩
  rw [show decide (V.int x = V.int y) = decide (x = y) by simp]
  exact q _ H1 (Same.refl _) rfl
theorem od_eqS : OpD (K := K) tStr tStr S (of (K := K) tBool S) rEq (fun i j => some (decide (i = j))) := by
  intro x y z e H1 v w d hv hw Q q
  obtain ⟨rfl, _⟩ := hv; obtain ⟨rfl, _⟩ := hw; cases e
  refine ⟨rfl, ?_⟩
  rw [show decide (V.str x = V.str y) = decide (x = y) by simp]
  exact q _ H1 (Same.refl _) rfl
theorem od_neS : OpD (K := K) tStr tStr S (of (K := K) tBool S) rNe (fun i j => some (!decide (i = j))) := by
  intro x y z e H1 v w d hv hw Q q
  obtain ⟨rfl, _⟩ := hv; obtain ⟨rfl, _⟩ := hw; cases e
  refine ⟨rfl, ?_⟩
  rw [show decide (V.str x = V.str y) = decide (x = y) by simp]
  exact q _ H1 (Same.refl _) rfl
/-- an item of a list, of a tuple -/
theorem od_ixL : OpD (tL a) (K := K) tInt S (of a S) (rIxL K) (fun xs i => atI xs i) := by
  intro x y z e H1 v w d hv hw Q q
  obtain ⟨p, vs, rfl, hp, ha⟩ := hv
  cases hw
  obtain ⟨u, hu, hz⟩ := ha.at e
  exact ⟨p, vs, y, u, rfl, rfl, hp.sq, hu, q u H1 (Same.refl _) hz⟩
theorem od_ixTs : OpD (tTs a) (K := K) tInt S (of a S) (rIxT K) (fun xs i => atI xs i) := by
  intro x y z e H1 v w d hv hw Q q
  obtain ⟨p, vs, rfl, hp, ha⟩ := hv
  cases hw
  obtain ⟨u, hu, hz⟩ := ha.at e
  exact ⟨p, vs, y, u, rfl, rfl, hp.sq, hu, q u H1 (Same.refl _) hz⟩
/-- an item of a pair of alike things -/
def at2 (x : α × α) (i : Int) : Option α := atI [x.1, x.2] i
theorem od_ix2 : OpD (tT2 a a) (K := K) tInt S (of a S) (rIxT K) at2 := by
  intro x y z e H1 v w d hv hw Q q
  obtain ⟨p, u1, u2, rfl, hp, h1, h2⟩ := hv
  cases hw
  obtain ⟨u, hu, hz⟩ := All2.at (F := a.rp S H1) (.cons h1 (.cons h2 .nil)) e
  exact ⟨p, _, y, u, rfl, rfl, hp.sq, hu, q u H1 (Same.refl _) hz⟩
/-- items 0, 1 of tuples by their written places -/
theorem ev_ixT {R : Rl γ} {i : Int} {ra : Option α} {g : α → γ} (ha : Ev S T ta σ H (of a S) ra) (h : ∀ x H v, a.rp S H v x → ∃ p vs u, v = .ref p ∧ SqT K H p vs ∧ atI vs i = some u ∧ R.r H H u (g x)) :
    Ev S T (tOp (rIxT K) ta (tC (.int i))) σ H R (bd ra fun x => some (g x)) := by
  intro z e H1 f1 d Q q
  obtain ⟨x, ex, e⟩ := bd_some e
  cases e
  refine ha x ex H1 f1 d _ fun v H2 s2 hv => ?_
  obtain ⟨p, vs, u, rfl, hp, hu, hz⟩ := h x H2 v hv
  exact ⟨p, vs, i, u, rfl, rfl, hp, hu, q u H2 s2 (R.same s2 hz)⟩
theorem ev_ix20 {ra : Option (α × β)} (ha : Ev S T ta σ H (of (tT2 a b) S) ra) : Ev S T (tOp (rIxT K) ta (tC (.int 0))) σ H (of a S) (bd ra fun x => some x.1) :=
  ev_ixT ha fun x H v ⟨p, u, w, e, h, h1, h2⟩ => ⟨p, _, u, e, h.sq, rfl, h1⟩
theorem ev_ix21 {ra : Option (α × β)} (ha : Ev S T ta σ H (of (tT2 a b) S) ra) : Ev S T (tOp (rIxT K) ta (tC (.int 1))) σ H (of b S) (bd ra fun x => some x.2) :=
  ev_ixT ha fun x H v ⟨p, u, w, e, h, h1, h2⟩ => ⟨p, _, w, e, h.sq, rfl, h2⟩
theorem ev_ixR0 {ra : Option Rat} (ha : Ev S T ta σ H (of (K := K) tRat S) ra) : Ev S T (tOp (rIxT K) ta (tC (.int 0))) σ H (of (K := K) tInt S) (bd ra fun x => some x.num) :=
  ev_ixT ha fun x H v ⟨p, e, h⟩ => ⟨p, _, _, e, h.sq, rfl, rfl⟩
theorem ev_ixR1 {ra : Option Rat} (ha : Ev S T ta σ H (of (K := K) tRat S) ra) : Ev S T (tOp (rIxT K) ta (tC (.int 1))) σ H (of (K := K) tInt S) (bd ra fun x => some (x.den : Int)) :=
  ev_ixT ha fun x H v ⟨p, e, h⟩ => ⟨p, _, _, e, h.sq, rfl, rfl⟩
/-! tests -/
theorem eb_test {r : Option Bool} (h : Ev S T te σ H (of (K := K) tBool S) r) : EvB S T (tTest te) σ H r := fun x ex H1 f d Q q => h x ex H1 f d _ fun v H2 s hv => ⟨x, hv, q H2 s⟩
theorem eb_B {r : Option Bool} (h : Ev S T te σ H (of (K := K) tBool S) r) : EvB S T (tB te) σ H r := fun x ex H1 f d Q q => h x ex H1 f d _ fun v H2 s hv => ⟨x, hv, q H2 s⟩
theorem eb_not {r : Option Bool} (h : EvB S T tt σ H r) : EvB S T (tNot tt) σ H (bd r fun x => some (!x)) := by
  intro z e H1 f1 d Q q
  obtain ⟨x, ex, e⟩ := bd_some e
  cases e
  exact h x ex H1 f1 d _ fun H2 s => q H2 s
theorem eb_and {r u : Option Bool} (h : EvB S T tt σ H r) (h' : EvB S T tu σ H u) : EvB S T (tAnd tt tu) σ H (bd r fun x => if x then u else some false) := by
  intro z e H1 f1 d Q q
  obtain ⟨x, ex, e⟩ := bd_some e
  refine h x ex H1 f1 d _ fun H2 s => ?_
  cases x with
  | true => exact (if_pos rfl).symm ▸ h' z e H2 (f1.trans (Fr.same s)) (d.same s) Q fun H3 s3 => q H3 (s.trans s3)
  | false => cases e; exact q H2 s
theorem eb_or {r u : Option Bool} (h : EvB S T tt σ H r) (h' : EvB S T tu σ H u) : EvB S T (tOr tt tu) σ H (bd r fun x => if x then some true else u) := by
  intro z e H1 f1 d Q q
  obtain ⟨x, ex, e⟩ := bd_some e
  refine h x ex H1 f1 d _ fun H2 s => ?_
  cases x with
  | false => exact h' z e H2 (f1.trans (Fr.same s)) (d.same s) Q fun H3 s3 => q H3 (s.trans s3)
  | true => cases e; exact q H2 s
theorem ev_if {R : Rl γ} {r : Option Bool} {ra rb : Option γ} (h : EvB S T tt σ H r) (ha : Ev S T ta σ H R ra) (hb : Ev S T tb σ H R rb) : Ev S T (tIf tt ta tb) σ H R (bd r fun x => if x then ra else rb) := by
  intro z e H1 f1 d Q q
  obtain ⟨x, ex, e⟩ := bd_some e
  refine h x ex H1 f1 d _ fun H2 s => ?_
  cases x with
  | true => exact ha z e H2 (f1.trans (Fr.same s)) (d.same s) Q fun v H3 s3 hv => q v H3 (s.trans s3) (R.same s hv)
  | false => exact hb z e H2 (f1.trans (Fr.same s)) (d.same s) Q fun v H3 s3 hv => q v H3 (s.trans s3) (R.same s hv)
theorem ev_and {r u : Option Bool} (h : Ev S T ta σ H (of (K := K) tBool S) r) (h' : Ev S T tb σ H (of (K := K) tBool S) u) : Ev S T (tAndV ta tb) σ H (of (K := K) tBool S) (bd r fun x => if x then u else some false) := by
  intro z e H1 f1 d Q q
  obtain ⟨x, ex, e⟩ := bd_some e
  refine h x ex H1 f1 d _ fun v H2 s hv => ⟨x, hv, ?_⟩
  cases x with
  | true => exact h' z e H2 (f1.trans (Fr.same s)) (d.same s) Q fun v H3 s3 hv => q v H3 (s.trans s3) hv
  | false => cases e; exact q _ H2 s rfl
theorem ev_or {r u : Option Bool} (h : Ev S T ta σ H (of (K := K) tBool S) r) (h' : Ev S T tb σ H (of (K := K) tBool S) u) : Ev S T (tOrV ta tb) σ H (of (K := K) tBool S) (bd r fun x => if x then some true else u) := by
  intro z e H1 f1 d Q q
  obtain ⟨x, ex, e⟩ := bd_some e
  refine h x ex H1 f1 d _ fun v H2 s hv => ⟨x, hv, ?_⟩
  cases x with
  | false => exact h' z e H2 (f1.trans (Fr.same s)) (d.same s) Q fun v H3 s3 hv => q v H3 (s.trans s3) hv
  | true => cases e; exact q _ H2 s rfl
theorem ev_not {r : Option Bool} (h : Ev S T ta σ H (of (K := K) tBool S) r) : Ev S T (tNotV ta) σ H (of (K := K) tBool S) (bd r fun x => some (!x)) := by
  intro z e H1 f1 d Q q
  obtain ⟨x, ex, e⟩ := bd_some e
  cases e
  exact h x ex H1 f1 d _ fun v H2 s hv => ⟨x, hv, q _ H2 s rfl⟩

/-! ### arguments and calls -/
structure TyA (K : PySem.W.Frag) (α : Type) where
  rp : AS → Hp → List V → α → Prop
  mono : ∀ {S H H' v x}, Fr S H H' → rp S H v x → rp S H' v x
def aNil : TyA K Unit := ⟨fun _ _ vs _ => vs = [], fun _ h => h⟩
def aCons (c : Ty K α) (t : TyA K β) : TyA K (α × β) := ⟨fun S H vs x => ∃ v r, vs = v :: r ∧ c.rp S H v x.1 ∧ t.rp S H r x.2, fun f ⟨v, r, e, h, h'⟩ => ⟨v, r, e, c.mono f h, t.mono f h'⟩⟩
def EvA (S T : AS) (ta : TA) (σ : St) (H : Hp) (t : TyA K α) (r : Option α) : Prop :=
  ∀ x, r = some x → ∀ H1, Fr T H H1 → Dom S H1 → ∀ Q : List V → Hp → Prop, (∀ vs H2, Same H1 H2 → t.rp S H2 vs x → Q vs H2) → ta σ H1 Q
theorem ea_nil : EvA S T tNil σ H (K := K) aNil (some ()) := fun _ e H1 f d Q q => q [] H1 (Same.refl _) rfl
theorem ea_cons {tr : TA} {t : TyA K β} {ra : Option α} {rr : Option β} (h : Ev S T ta σ H (of a S) ra) (hr : EvA S T tr σ H t rr) : EvA S T (tCons ta tr) σ H (aCons a t) (bd ra fun x => bd rr fun y => some (x, y)) := by
  intro z e H1 f1 d Q q
  obtain ⟨x, ex, e⟩ := bd_some e
  obtain ⟨y, ey, e⟩ := bd_some e
  cases e
  exact h x ex H1 f1 d _ fun v H2 s2 hv => hr y ey H2 (f1.trans (Fr.same s2)) (d.same s2) _ fun vs H3 s3 hw => q _ H3 (s2.trans s3) ⟨v, vs, rfl, a.mono (Fr.same s3) hv, hw⟩
/-- the promise of a def that changes nothing -/
def spF (t : TyA K α) (R : AS → Rl γ) (f : α → Option γ) : Sp := fun vs H Q _ => ∃ S x z, Dom S H ∧ t.rp S H vs x ∧ f x = some z ∧ ∀ u H', Same H H' → (R S).r H H' u z → Q u H'
theorem ev_call {ta : TA} {t : TyA K α} {R : AS → Rl γ} {f : α → Option γ} {r : Option α} {E : XK} (h : EvA S T ta σ H t r) : Ev S T (tCall (spF t R f) [] E ta) σ H (R S) (bd r f) := by
  intro z e H1 f1 d Q q
  obtain ⟨x, ex, e⟩ := bd_some e
  refine h x ex H1 f1 d _ fun vs H2 s2 hv => ⟨S, x, z, d.same s2, ?_, e, fun u H' s hu => q u H' (s2.trans s) ((R S).same s2 hu)⟩
  rw [List.append_nil]
  exact hv
/-! displays -/
theorem ev_tup2 {ra : Option α} {rb : Option β} (ha : Ev S T ta σ H (of a S) ra) (hb : Ev S T tb σ H (of b S) rb) : Ev S T (tTup (tCons ta (tCons tb tNil))) σ H (of (tT2 a b) S) (bd ra fun x => bd rb fun y => some (x, y)) := by
  intro z e H1 f1 d Q q
  obtain ⟨x, ex, e⟩ := bd_some e
  obtain ⟨y, ey, e⟩ := bd_some e
  cases e
  refine ha x ex H1 f1 d _ fun v H2 s2 hv => hb y ey H2 (f1.trans (Fr.same s2)) (d.same s2) _ fun w H3 s3 hw => ⟨(by show 2 ≤ sizeLine; decide), fun p hp => ?_⟩
  have s4 := same_new (o := .tup [v, w]) hp
  exact q _ _ (s2.trans (s3.trans s4)) ⟨p, v, w, rfl, .inl ⟨.inl upd_same, ((d.same s2).same s3).not_mem hp⟩, a.mono (Fr.same (s3.trans s4)) hv, b.mono (Fr.same s4) hw⟩
end
end M

namespace M
open PySem L2
section
variable {K : PySem.W.Frag} {α β γ δ ε ρ : Type} {S T : AS} {σ : St} {H : Hp} {ta tb te : TE} {tt tu : TT} {a : Ty K α} {b : Ty K β} {c : Ty K γ} {D : Ends} {u t1 t2 : TS}
theorem if_t {A B : Option α} {y : α} (h : (if true = true then A else B) = some y) : A = some y := h
theorem if_f {A B : Option α} {y : α} (h : (if false = true then A else B) = some y) : B = some y := h
theorem q_asg {R : Rl α} {r : Option α} {x : α} {i : Nat} (d : Dom S H) (h : Ev S T te σ H R r) (e : r = some x) (k : ∀ v H1, Same H H1 → R.r H H1 v x → u D (σ.set i (some v)) H1) : tSeq (tAsg te (gName i)) u D σ H := h x e H (Fr.refl _) d _ k
theorem l_asg {R : Rl α} {r : Option α} {x : α} {i : Nat} (d : Dom S H) (h : Ev S T te σ H R r) (e : r = some x) (k : ∀ v H1, Same H H1 → R.r H H1 v x → D.nx (σ.set i (some v)) H1) : tAsg te (gName i) D σ H := h x e H (Fr.refl _) d _ k
theorem q_ret {R : Rl α} {r : Option α} {x : α} (d : Dom S H) (h : Ev S T te σ H R r) (e : r = some x) (k : ∀ v H1, Same H H1 → R.r H H1 v x → D.rt v H1) : tRet te D σ H := h x e H (Fr.refl _) d _ k
theorem l_if {r : Option Bool} {b : Bool} (d : Dom S H) (h : EvB S T tt σ H r) (e : r = some b) (k1 : b = true → ∀ H1, Same H H1 → t1 D σ H1) (k2 : b = false → ∀ H1, Same H H1 → t2 D σ H1) : tIfS tt t1 t2 D σ H := h b e H (Fr.refl _) d _ fun H1 s => by
  cases b with
  | true => exact k1 rfl H1 s
  | false => exact k2 rfl H1 s
theorem q_if {r : Option Bool} {b : Bool} (d : Dom S H) (h : EvB S T tt σ H r) (e : r = some b) (k1 : b = true → ∀ H1, Same H H1 → t1 { D with nx := u D } σ H1) (k2 : b = false → ∀ H1, Same H H1 → t2 { D with nx := u D } σ H1) : tSeq (tIfS tt t1 t2) u D σ H := l_if (D := { D with nx := u D }) d h e k1 k2
theorem q_next {u : TS} {D : Ends} {σ : St} {H : Hp} (h : u D σ H) : tNext { D with nx := u D } σ H := h
theorem l_next (h : D.nx σ H) : tNext D σ H := h
theorem seq_by {t u : TS} (Pv : St → Hp → Prop) (h2 : ∀ σ H, Pv σ H → u D σ H) (h1 : (∀ σ H, Pv σ H → u D σ H) → t { D with nx := u D } σ H) : tSeq t u D σ H := h1 h2
/-- two names at once: a, b = e, f -/
theorem q_par {i j : Nat} {ra : Option α} {rb : Option β} {x : α} {y : β} (d : Dom S H) (ha : Ev S T ta σ H (of a S) ra) (ea : ra = some x) (hb : Ev S T tb σ H (of b S) rb) (eb : rb = some y) (k : ∀ v w H1, Same H H1 → a.rp S H1 v x → b.rp S H1 w y → u D ((σ.set i (some v)).set j (some w)) H1) :
    tSeq (tPar i j (tCons ta (tCons tb tNil))) u D σ H := ha x ea H (Fr.refl _) d _ fun v H1 s1 hv => hb y eb H1 (Fr.same s1) (d.same s1) _ fun w H2 s2 hw => ⟨v, w, rfl, k v w H2 (s1.trans s2) (a.mono (Fr.same s2) hv) hw⟩

theorem q_par2 {i j : Nat} {ra : Option α} {rb : Option β} {x : α} {y : β} (d : Dom S H) (ha : Ev S T ta σ H (of a S) ra) (ea : ra = some x) (hb : Ev S T tb σ H (of b S) rb) (eb : rb = some y) (k : ∀ v w H1, Same H H1 → a.rp S H1 v x → b.rp S H1 w y → u D ((σ.set i (some v)).set j (some w)) H1) :
    tSeq (tAsg (tTup (tCons ta (tCons tb tNil))) (gTup K 2 (gCons (gName i) (gCons (gName j) gNil)))) u D σ H := ha x ea H (Fr.refl _) d _ fun v H1 s1 hv => hb y eb H1 (Fr.same s1) (d.same s1) _ fun w H2 s2 hw => ⟨(by show 2 ≤ sizeLine; decide), fun p hp =>
  ⟨p, _, rfl, .inl (.inl upd_same), rfl, v, _, rfl, w, _, rfl, rfl, k v w _ ((s1.trans s2).trans (same_new hp)) (a.mono (Fr.same (s2.trans (same_new hp))) hv) (b.mono (Fr.same (same_new hp)) hw)⟩⟩
/-! ### loops -/
/-- one turn's end: go on, or tell y -/
inductive Ct (ρ σ : Type) where
  | go (s : σ) | ret (y : ρ)
def loopC (f : δ → α → Option (Ct ρ δ)) : List α → δ → Option (Ct ρ δ)
  | [], s => some (.go s)
  | x :: xs, s => (f s x).bind fun r => match r with | .go s' => loopC f xs s' | .ret y => some (.ret y)
theorem itl_go {a : Addr} {vs : List V} {i : Nat} {v : V} {H : Hp} (h : SqL K H a vs) (e : vs[i]? = some v) : (Itl K a).go i H := ⟨vs, v, h, e⟩
/-- a walk over a list that nobody changes; I: what is known of the state at each turn -/
theorem for_l {tl : TE} {j : Nat} {tb : TS} {r : Option (List α)} {xs : List α} {s0 : δ} {f : δ → α → Option (Ct ρ δ)} {res : Ct ρ δ} (d : Dom S H) (h : Ev S T tl σ H (of (tL a) S) r) (e : r = some xs) (hf : loopC f xs s0 = some res)
    (I : δ → St → Hp → Prop) (h0 : ∀ H1, Same H H1 → I s0 σ H1)
    (step : ∀ (s : δ) (x : α) (cr : Ct ρ δ) (v : V) (σ' : St) (H' : Hp), I s σ' H' → a.rp S H' v x → f s x = some cr → (∀ y, cr = .ret y → res = .ret y) →
      tb { D with nx := fun σ2 H2 => ∃ s', cr = .go s' ∧ Fr S H' H2 ∧ I s' σ2 H2, ct := fun σ2 H2 => ∃ s', cr = .go s' ∧ Fr S H' H2 ∧ I s' σ2 H2, bk := D.nx } (σ'.set j (some v)) H')
    (done : ∀ s σ' H', res = .go s → I s σ' H' → D.nx σ' H') : tFor (iList K tl) (gName j) tb D σ H := by
  refine h xs e H (Fr.refl _) d _ fun w H1 s1 hw => ?_
  obtain ⟨p, vs, rfl, hp, ha⟩ := hw
  refine ⟨p, rfl, ⟨vs, hp.sq⟩, fun i m σ' H' => m = vs.length - i ∧ i ≤ vs.length ∧ nL K S H' p vs ∧ All2 (a.rp S H') vs xs ∧ ∃ s, I s σ' H' ∧ loopC f (xs.drop i) s = some res, ⟨_, rfl, Nat.zero_le _, hp, ha, s0, h0 H1 s1, hf⟩, ?_⟩
  rintro i m σ' H' ⟨rfl, hi, hp', ha', s, hI, hl⟩
  by_cases c : i < vs.length
  · right
    have cx : i < xs.length := by rw [← ha'.len]; exact c
    obtain ⟨v, hv, hvx⟩ := ha'.get i (List.getElem?_eq_getElem cx)
    rw [List.drop_eq_getElem_cons cx] at hl
    simp only [loopC] at hl
    cases q : f s xs[i] with
    | none => rw [q] at hl; cases hl
    | some cr =>
      rw [q] at hl
      refine ⟨itl_go hp'.sq hv, fun σ2 H2 => ∃ s', cr = .go s' ∧ Fr S H' H2 ∧ I s' σ2 H2, ?_, ?_⟩
      · rintro σ2 H2 ⟨s', rfl, f2, hI'⟩
        exact ⟨vs.length - (i + 1), by omega, rfl, by omega, hp'.mono f2, ha'.imp fun _ _ => a.mono f2, s', hI', hl⟩
      · rintro x H2 ⟨rfl, hx⟩
        have ex := hx vs hp'.sq
        rw [hv] at ex
        cases ex
        exact step s xs[i] cr v σ' _ hI hvx q fun y ey => by subst ey; cases hl; rfl
  · left
    have ei : i = vs.length := by omega
    refine ⟨⟨vs, hp'.sq, by omega⟩, ?_⟩
    rw [List.drop_eq_nil_of_le (by rw [← ha'.len]; omega)] at hl
    cases hl
    exact done s σ' H' rfl hI
/-- a walk over numbers -/
def rngL (lo : Int) (n : Nat) : List Int := (List.range n).map fun (i : Nat) => lo + (i : Int)
theorem for_rng {lo : Int} {n : Nat} {j : Nat} {tb : TS} {s0 : δ} {f : δ → Int → Option (Ct ρ δ)} {res : Ct ρ δ} (hf : loopC f (rngL lo n) s0 = some res)
    (I : δ → St → Hp → Prop) (h0 : I s0 σ H)
    (step : ∀ (s : δ) (x : Int) (cr : Ct ρ δ) (σ' : St) (H' : Hp), I s σ' H' → lo ≤ x → x < lo + n → f s x = some cr → (∀ y, cr = .ret y → res = .ret y) →
      tb { D with nx := fun σ2 H2 => ∃ s', cr = .go s' ∧ Fr S H' H2 ∧ I s' σ2 H2, ct := fun σ2 H2 => ∃ s', cr = .go s' ∧ Fr S H' H2 ∧ I s' σ2 H2, bk := D.nx } (σ'.set j (some (.int x))) H')
    (done : ∀ s σ' H', res = .go s → I s σ' H' → D.nx σ' H') :
    ∃ W : Nat → Nat → St → Hp → Prop, (∃ m, W 0 m σ H) ∧ ∀ i m σ H, W i m σ H →
      ((Itr lo n).stop i H ∧ D.nx σ H) ∨ ((Itr lo n).go i H ∧ ∃ N : St → Hp → Prop, (∀ σ' H', N σ' H' → ∃ m', m' < m ∧ W (i + 1) m' σ' H') ∧ ∀ x H', (Itr lo n).yld i H x H' → gName j x σ H' fun σ2 H2 => tb { D with nx := N, ct := N, bk := D.nx } σ2 H2) := by
  have len : (rngL lo n).length = n := by simp [rngL]
  refine ⟨fun i m σ' H' => m = n - i ∧ i ≤ n ∧ ∃ s, I s σ' H' ∧ loopC f ((rngL lo n).drop i) s = some res, ⟨_, rfl, Nat.zero_le _, s0, h0, hf⟩, ?_⟩
  rintro i m σ' H' ⟨rfl, hi, s, hI, hl⟩
  by_cases c : i < n
  · right
    have cx : i < (rngL lo n).length := by omega
    have ev : (rngL lo n)[i] = lo + (i : Int) := by simp [rngL]
    rw [List.drop_eq_getElem_cons cx, ev] at hl
    simp only [loopC] at hl
    cases q : f s (lo + (i : Int)) with
    | none => rw [q] at hl; cases hl
    | some cr =>
      rw [q] at hl
      refine ⟨c, fun σ2 H2 => ∃ s', cr = .go s' ∧ Fr S H' H2 ∧ I s' σ2 H2, ?_, ?_⟩
      · rintro σ2 H2 ⟨s', rfl, f2, hI'⟩
        exact ⟨n - (i + 1), by omega, rfl, by omega, s', hI', hl⟩
      · rintro x H2 ⟨rfl, rfl⟩
        exact step s (lo + (i : Int)) cr σ' _ hI (by omega) (by omega) q fun y ey => by subst ey; cases hl; rfl
  · left
    refine ⟨by show n ≤ i; omega, ?_⟩
    rw [List.drop_eq_nil_of_le (by omega)] at hl
    cases hl
    exact done s σ' H' rfl hI
def rngP (i : Int) : Bool := decide (-(2 ^ 62) ≤ i ∧ i < 2 ^ 62)
theorem for_r1 {te : TE} {j : Nat} {tb : TS} {r : Option Int} {n : Int} {s0 : δ} {f : δ → Int → Option (Ct ρ δ)} {res : Ct ρ δ} (d : Dom S H) (h : Ev S T te σ H (of (K := K) tInt S) r) (e : r = some n) (hn : rngP n = true) (hf : loopC f (rngL 0 n.toNat) s0 = some res)
    (I : δ → St → Hp → Prop) (h0 : ∀ H1, Same H H1 → I s0 σ H1)
    (step : ∀ (s : δ) (x : Int) (cr : Ct ρ δ) (σ' : St) (H' : Hp), I s σ' H' → 0 ≤ x → x < 0 + (n.toNat : Int) → f s x = some cr → (∀ y, cr = .ret y → res = .ret y) →
      tb { D with nx := fun σ2 H2 => ∃ s', cr = .go s' ∧ Fr S H' H2 ∧ I s' σ2 H2, ct := fun σ2 H2 => ∃ s', cr = .go s' ∧ Fr S H' H2 ∧ I s' σ2 H2, bk := D.nx } (σ'.set j (some (.int x))) H')
    (done : ∀ s σ' H', res = .go s → I s σ' H' → D.nx σ' H') : tFor (iRng1 (tCons te tNil)) (gName j) tb D σ H := by
  refine h n e H (Fr.refl _) d _ fun w H1 s1 hw => ?_
  cases hw
  have hb := of_decide_eq_true hn
  exact ⟨n, rfl, hb.1, hb.2, for_rng hf I (h0 H1 s1) step done⟩
theorem for_r2 {te tg : TE} {j : Nat} {tb : TS} {r r' : Option Int} {lo n : Int} {s0 : δ} {f : δ → Int → Option (Ct ρ δ)} {res : Ct ρ δ} (d : Dom S H) (h : Ev S T te σ H (of (K := K) tInt S) r) (e : r = some lo) (h' : Ev S T tg σ H (of (K := K) tInt S) r') (e' : r' = some n) (hl : rngP lo = true) (hn : rngP n = true) (hf : loopC f (rngL lo (n - lo).toNat) s0 = some res)
    (I : δ → St → Hp → Prop) (h0 : ∀ H1, Same H H1 → I s0 σ H1)
    (step : ∀ (s : δ) (x : Int) (cr : Ct ρ δ) (σ' : St) (H' : Hp), I s σ' H' → lo ≤ x → x < lo + ((n - lo).toNat : Int) → f s x = some cr → (∀ y, cr = .ret y → res = .ret y) →
      tb { D with nx := fun σ2 H2 => ∃ s', cr = .go s' ∧ Fr S H' H2 ∧ I s' σ2 H2, ct := fun σ2 H2 => ∃ s', cr = .go s' ∧ Fr S H' H2 ∧ I s' σ2 H2, bk := D.nx } (σ'.set j (some (.int x))) H')
    (done : ∀ s σ' H', res = .go s → I s σ' H' → D.nx σ' H') : tFor (iRng2 (tCons te (tCons tg tNil))) (gName j) tb D σ H := by
  refine h lo e H (Fr.refl _) d _ fun w H1 s1 hw => h' n e' H1 (Fr.same s1) (d.same s1) _ fun w' H2 s2 hw' => ?_
  cases hw
  cases hw'
  have hb := of_decide_eq_true hn
  have hc := of_decide_eq_true hl
  exact ⟨lo, n, rfl, ⟨hc.1, hc.2, hb.1, hb.2⟩, for_rng hf I (h0 H2 (s1.trans s2)) step done⟩
/-! slices of lists -/
def cutD (xs : List α) (lo hi : Option Int) : List α := (xs.drop (HT.sIx xs.length 0 lo)).take (HT.sIx xs.length xs.length hi - HT.sIx xs.length 0 lo)
theorem All2.cut {F : V → α → Prop} {vs : List V} {xs : List α} (h : All2 F vs xs) (lo hi : Option Int) : All2 F (cutV vs lo hi) (cutD xs lo hi) := by
  unfold cutV cutD
  rw [h.len]
  exact (h.drop _).take _
def EvO (S T : AS) (to : TO) (σ : St) (H : Hp) (r : Option (Option Int)) : Prop :=
  ∀ x, r = some x → ∀ H1, Fr T H H1 → Dom S H1 → ∀ Q : Option Int → Hp → Prop, (∀ H2, Same H1 H2 → Q x H2) → to σ H1 Q
theorem eo_none : EvO S T tNoPart σ H (some none) := fun x e H1 f d Q q => by cases e; exact q H1 (Same.refl _)
theorem eo_some {r : Option Int} (h : Ev S T te σ H (of (K := K) tInt S) r) : EvO S T (tPart te) σ H (bd r fun i => some (some i)) := fun x e H1 f d Q q => by
  obtain ⟨i, ei, e⟩ := bd_some e
  cases e
  exact h i ei H1 f d _ fun v H2 s hv => ⟨i, hv, q H2 s⟩
theorem ev_slL {tl th : TO} {ra : Option (List α)} {rl rh : Option (Option Int)} (ha : Ev S T ta σ H (of (tL a) S) ra) (hl : EvO S T tl σ H rl) (hh : EvO S T th σ H rh) :
    Ev S T (tSl (rSlL K) ta tl th) σ H (nw a S) (bd ra fun xs => bd rl fun l => bd rh fun h => some (cutD xs l h)) := by
  intro z e H1 f1 d Q q
  obtain ⟨xs, ex, e⟩ := bd_some e
  obtain ⟨l, el, e⟩ := bd_some e
  obtain ⟨h, eh, e⟩ := bd_some e
  cases e
  refine ha xs ex H1 f1 d _ fun v H2 s2 hv => hl l el H2 (f1.trans (Fr.same s2)) (d.same s2) _ fun H3 s3 => hh h eh H3 (f1.trans (Fr.same (s2.trans s3))) (d.same (s2.trans s3)) _ fun H4 s4 => ?_
  obtain ⟨p, vs, rfl, hp, hvs⟩ := (tL a).mono (Fr.same (s3.trans s4)) hv
  refine ⟨p, vs, rfl, hp.sq, fun p' hp' => q _ _ ((s2.trans (s3.trans s4)).trans (same_new hp')) ⟨p', rfl, (s2.trans (s3.trans s4)).free hp', _, upd_same, ?_⟩⟩
  exact (hvs.cut l h).imp fun _ _ hh => a.mono (Fr.same (same_new hp')) (a.ext hp' hh)
end
end M

namespace M
open PySem L2
section
variable {K : PySem.W.Frag} {α β γ δ ε ρ : Type} {S T : AS} {σ : St} {H : Hp} {ta tb te : TE} {tt tu : TT} {a : Ty K α} {b : Ty K β} {c : Ty K γ} {D : Ends} {u t1 t2 : TS}
/-! ### ratios -/
/-- a pair of numbers as a ratio -/
def p2r (x : Int × Int) : Option Rat := if (mkRat x.1 x.2.toNat).num = x.1 ∧ ((mkRat x.1 x.2.toNat).den : Int) = x.2 then some (mkRat x.1 x.2.toNat) else none
theorem p2r_rat (q : Rat) : p2r (q.num, (q.den : Int)) = some q := by
  unfold p2r
  simp only [Int.toNat_natCast, Rat.mkRat_self, and_self, if_true]
theorem ev_p2r {r : Option (Int × Int)} (h : Ev S T te σ H (of (K := K) (tT2 tInt tInt) S) r) : Ev S T te σ H (of (K := K) tRat S) (bd r p2r) := ev_as h fun x y e H1 H2 v d ⟨p, u, w, ev, hp, h1, h2⟩ => by
  unfold p2r at e
  split at e
  · rename_i hc
    cases e
    refine ⟨p, ev, ?_⟩
    rw [hc.1, hc.2, ← h1, ← h2]
    exact hp
  · cases e
/-- a ratio as a pair of numbers -/
theorem ev_r2p {r : Option Rat} (h : Ev S T te σ H (of (K := K) tRat S) r) : Ev S T te σ H (of (K := K) (tT2 tInt tInt) S) (bd r fun q => some (q.num, (q.den : Int))) := ev_as h fun x y e H1 H2 v d ⟨p, ev, hp⟩ => by
  cases e
  exact ⟨p, _, _, ev, hp, rfl, rfl⟩
/-! ints -/
theorem ev_neg {r : Option Int} (h : Ev S T te σ H (of (K := K) tInt S) r) : Ev S T (tUn (rU fun i => .int (-i)) te) σ H (of (K := K) tInt S) (bd r fun x => some (-x)) := by
  intro z e H1 f1 d Q q
  obtain ⟨x, ex, e⟩ := bd_some e
  cases e
  exact h x ex H1 f1 d _ fun v H2 s hv => ⟨x, hv, q _ H2 s rfl⟩
theorem ev_abs {r : Option Int} (h : Ev S T te σ H (of (K := K) tInt S) r) : Ev S T (tCB (fun xs H Q => ∃ i, xs = [.int i] ∧ Q (.int (if i < 0 then -i else i)) H) (tCons te tNil)) σ H (of (K := K) tInt S) (bd r fun x => some ((x.natAbs : Nat) : Int)) := by
  intro z e H1 f1 d Q q
  obtain ⟨x, ex, e⟩ := bd_some e
  cases e
  refine h x ex H1 f1 d _ fun v H2 s hv => ?_
  cases hv
  exact ⟨x, rfl, q _ H2 s (by show V.int _ = V.int _; congr 1; split <;> omega)⟩
def fdivP (j : Int) : Bool := decide (j ≠ 0 ∧ j.natAbs.log2 < 9000)
def fdiv? (i j : Int) : Option Int := if fdivP j then some (i.fdiv j) else none
/-! len -/
theorem ev_lenL {r : Option (List α)} (h : Ev S T te σ H (of (tL a) S) r) : Ev S T (tCB (fun xs H Q => ∃ p ys, xs = [.ref p] ∧ (SqL K H p ys ∨ SqT K H p ys) ∧ Q (.int ys.length) H) (tCons te tNil)) σ H (of (K := K) tInt S) (bd r fun x => some (x.length : Int)) := by
  intro z e H1 f1 d Q q
  obtain ⟨x, ex, e⟩ := bd_some e
  cases e
  refine h x ex H1 f1 d _ fun v H2 s hv => ?_
  obtain ⟨p, vs, rfl, hp, ha⟩ := hv
  exact ⟨p, vs, rfl, .inl hp.sq, q _ H2 s (by show V.int _ = V.int _; rw [ha.len])⟩
theorem ev_lenTs {r : Option (List α)} (h : Ev S T te σ H (of (tTs a) S) r) : Ev S T (tCB (fun xs H Q => ∃ p ys, xs = [.ref p] ∧ (SqL K H p ys ∨ SqT K H p ys) ∧ Q (.int ys.length) H) (tCons te tNil)) σ H (of (K := K) tInt S) (bd r fun x => some (x.length : Int)) := by
  intro z e H1 f1 d Q q
  obtain ⟨x, ex, e⟩ := bd_some e
  cases e
  refine h x ex H1 f1 d _ fun v H2 s hv => ?_
  obtain ⟨p, vs, rfl, hp, ha⟩ := hv
  exact ⟨p, vs, rfl, .inr hp.sq, q _ H2 s (by show V.int _ = V.int _; rw [ha.len])⟩
/-! == of things by what they stand for -/
structure TyD (a : Ty K α) where
  dt : α → PyData
  dep : Nat
  dp : ∀ {S H v x}, a.rp S H v x → Dp K H v (dt x)
  shp : ∀ {S H v x}, a.rp S H v x → PyData.canLay0 (dt x) = true
  hd : ∀ x, PyData.depth (dt x) ≤ dep
  eqv : ∀ x y, PyData.eqv (dt x) (dt y) = true ↔ x = y
def dInt : TyD (K := K) tInt := ⟨.int, 0, fun h => by cases h; exact .int _, fun _ => rfl, fun _ => Nat.le_refl _, fun x y => by simp [PyData.eqv]⟩
def dBool : TyD (K := K) tBool := ⟨.bool, 0, fun h => by cases h; exact .bl _, fun _ => rfl, fun _ => Nat.le_refl _, fun x y => by simp [PyData.eqv]⟩
def dStr : TyD (K := K) tStr := ⟨.str, 0, fun h => by rw [h.1]; exact .str _, fun h => h.2, fun _ => Nat.le_refl _, fun x y => by simp [PyData.eqv]⟩
def dNone : TyD (K := K) tNone := ⟨fun _ => .none, 0, fun h => by cases h; exact .non, fun _ => rfl, fun _ => Nat.le_refl _, fun x y => by simp [PyData.eqv]⟩
theorem dpAll {a : Ty K α} (d : TyD a) {S : AS} {H : Hp} : ∀ {vs : List V} {xs : List α}, All2 (a.rp S H) vs xs → DpAll K H vs (xs.map d.dt)
  | _, _, .nil => .nil
  | _, _, .cons h r => .cons (d.dp h) (dpAll d r)
theorem shpAll {a : Ty K α} (d : TyD a) {S : AS} {H : Hp} : ∀ {vs : List V} {xs : List α}, All2 (a.rp S H) vs xs → PyData.canLayAll0 (xs.map d.dt) = true
  | _, _, .nil => rfl
  | _, x :: r, .cons h q => by
    show (PyData.canLay0 (d.dt x) && PyData.canLayAll0 (r.map d.dt)) = true
    rw [d.shp h, shpAll d q]
    rfl
theorem depAll {a : Ty K α} (d : TyD a) : ∀ xs : List α, PyData.depthAll (xs.map d.dt) ≤ d.dep
  | [] => Nat.zero_le _
  | x :: r => by
    show max (PyData.depth (d.dt x)) (PyData.depthAll (r.map d.dt)) ≤ d.dep
    exact Nat.max_le.mpr ⟨d.hd x, depAll d r⟩
theorem eqvAll {a : Ty K α} (d : TyD a) : ∀ xs ys : List α, PyData.eqvAll (xs.map d.dt) (ys.map d.dt) = true ↔ xs = ys
  | [], [] => by simp [PyData.eqvAll]
  | x :: r, [] => by simp [PyData.eqvAll]
  | [], y :: r => by simp [PyData.eqvAll]
  | x :: r, y :: q => by
    show (PyData.eqv (d.dt x) (d.dt y) && PyData.eqvAll (r.map d.dt) (q.map d.dt)) = true ↔ _
    rw [Bool.and_eq_true, d.eqv, eqvAll d r q]
    simp
def dL {a : Ty K α} (d : TyD a) : TyD (tL a) := ⟨fun xs => .list (xs.map d.dt), d.dep + 1, fun ⟨p, vs, e, hp, h⟩ => by subst e; exact .lst hp.sq (dpAll d h), fun ⟨p, vs, e, hp, h⟩ => shpAll d h, fun x => Nat.succ_le_succ (depAll d x), fun x y => eqvAll d x y⟩
def dTs {a : Ty K α} (d : TyD a) : TyD (tTs a) := ⟨fun xs => .tuple (xs.map d.dt), d.dep + 1, fun ⟨p, vs, e, hp, h⟩ => by subst e; exact .tup hp.sq (dpAll d h), fun ⟨p, vs, e, hp, h⟩ => shpAll d h, fun x => Nat.succ_le_succ (depAll d x), fun x y => eqvAll d x y⟩
def dT2 {a : Ty K α} {b : Ty K β} (d : TyD a) (e : TyD b) : TyD (tT2 a b) := ⟨fun x => .tuple [d.dt x.1, e.dt x.2], max d.dep e.dep + 1, fun ⟨p, u, w, z, hp, h1, h2⟩ => by subst z; exact .tup hp.sq (.cons (d.dp h1) (.cons (e.dp h2) .nil)),
  fun {S H v x} ⟨p, u, w, z, hp, h1, h2⟩ => by
    show (PyData.canLay0 (d.dt x.1) && (PyData.canLay0 (e.dt x.2) && true)) = true
    rw [d.shp h1, e.shp h2]
    rfl,
  fun x => by
    show max (PyData.depth (d.dt x.1)) (max (PyData.depth (e.dt x.2)) 0) + 1 ≤ _
    have h1 := d.hd x.1
    have h2 := e.hd x.2
    omega,
  fun x y => by
    show (PyData.eqv (d.dt x.1) (d.dt y.1) && (PyData.eqv (e.dt x.2) (e.dt y.2) && true)) = true ↔ _
    rw [Bool.and_true, Bool.and_eq_true, d.eqv, e.eqv]
    exact ⟨fun h => Prod.ext h.1 h.2, fun h => by subst h; exact ⟨rfl, rfl⟩⟩⟩
def dRat : TyD (K := K) tRat := ⟨fun q => .tuple [.int q.num, .int (q.den : Int)], 1, fun ⟨p, z, hp⟩ => by subst z; exact .tup hp.sq (.cons (.int _) (.cons (.int _) .nil)),
  fun _ => rfl, fun x => by show max 0 (max 0 0) + 1 ≤ 1; decide,
  fun x y => by
    show ((x.num == y.num) && (((x.den : Int) == (y.den : Int)) && true)) = true ↔ _
    rw [Bool.and_true, Bool.and_eq_true, beq_iff_eq, beq_iff_eq]
    exact ⟨fun h => Rat.ext h.1 (by omega), fun h => by subst h; exact ⟨rfl, rfl⟩⟩⟩
abbrev dSpot : TyD (K := K) tSpot := dT2 dRat dRat
theorem TyD.shaped {a : Ty K α} (d : TyD a) (h : d.dep ≤ 64) {S : AS} {H : Hp} {v : V} {x : α} (r : a.rp S H v x) : SeqAt.shaped (d.dt x) = true := by
  unfold SeqAt.shaped
  rw [d.shp r, Bool.true_and]
  exact decide_eq_true (Nat.le_trans (d.hd x) h)
theorem TyD.dec {a : Ty K α} [DecidableEq α] (d : TyD a) (x y : α) : PyData.eqv (d.dt x) (d.dt y) = decide (x = y) := by
  by_cases h : x = y
  · rw [(d.eqv x y).mpr h, decide_eq_true h]
  · rw [decide_eq_false h]
    cases q : PyData.eqv (d.dt x) (d.dt y) with
    | false => rfl
    | true => exact absurd ((d.eqv x y).mp q) h
theorem od_eqD {a : Ty K α} [DecidableEq α] (d : TyD a) (hd : d.dep ≤ 64) : OpD a a S (of (K := K) tBool S) (rEqD K) (fun x y => some (decide (x = y))) := by
  intro x y z e H1 v w dm hv hw Q q
  cases e
  refine ⟨_, _, d.dp hv, d.dp hw, d.shaped hd hv, d.shaped hd hw, ?_⟩
  rw [d.dec]
  exact q _ H1 (Same.refl _) rfl
theorem od_neD {a : Ty K α} [DecidableEq α] (d : TyD a) (hd : d.dep ≤ 64) : OpD a a S (of (K := K) tBool S) (rNeD K) (fun x y => some (!decide (x = y))) := by
  intro x y z e H1 v w dm hv hw Q q
  cases e
  refine ⟨_, _, d.dp hv, d.dp hw, d.shaped hd hv, d.shaped hd hw, ?_⟩
  rw [d.dec]
  exact q _ H1 (Same.refl _) rfl
end
end M

namespace G
open PySem L2
theorem gcd_fmod (a b : Int) : Int.gcd b (a.fmod b) = Int.gcd a b := by
  rw [Int.fmod_def, Int.sub_eq_add_neg, ← Int.mul_neg]
  rw [Int.gcd_add_mul_left_right]
  exact Int.gcd_comm b a
theorem fmod_abs_lt (a : Int) {b : Int} (h : b ≠ 0) : (a.fmod b).natAbs < b.natAbs := by
  rcases Int.lt_or_gt_of_ne h with h | h
  · have e : a.fmod b = -((-a).fmod (-b)) := by
      rw [Int.neg_fmod_neg]; omega
    have h1 := Int.fmod_nonneg_of_pos (-a) (show 0 < -b by omega)
    have h2 := Int.fmod_lt_of_pos (-a) (show 0 < -b by omega)
    omega
  · have h1 := Int.fmod_nonneg_of_pos a h
    have h2 := Int.fmod_lt_of_pos a h
    omega
theorem abs_if (x : Int) : (if x < 0 then -x else x) = ((x.natAbs : Nat) : Int) := by split <;> omega
def cOf (o u : Int) : Int := if u < 0 then -((Int.gcd o u : Nat) : Int) else ((Int.gcd o u : Nat) : Int)
def rN (o u : Int) : Int := o.fdiv (cOf o u)
def rD (o u : Int) : Int := u.fdiv (cOf o u)
def CDivZ (_ j : Int) : Prop := j ≠ 0 ∧ j.natAbs.log2 < 9000
theorem op_fdivZ {X : Cx} : OpR X (binaryOp .FloorDiv) (rI CDivZ fun i j => .int (i.fdiv j)) := opI fun _ _ _ _ _ _ _ hc q => PyProof.Rows.floordiv_int hc.1 q (.inl (PyProof.noPylong_of_log2 hc.2))
theorem cOf_ok {o u : Int} (h : u ≠ 0) (hb : u.natAbs < 2 ^ 9000) (x : Int) : CDivZ x (cOf o u) := by
  have g : 0 < Int.gcd o u := Int.gcd_pos_of_ne_zero_right o h
  have l : Int.gcd o u ≤ u.natAbs := Nat.le_of_dvd (by omega) (Int.gcd_dvd_natAbs_right o u)
  have n : (cOf o u).natAbs = Int.gcd o u := by
    unfold cOf
    split <;> omega
  refine ⟨fun z => ?_, ?_⟩
  · rw [z] at n
    simp at n
    omega
  · rw [n]
    exact PySem.Flt.log2_lt_of (by decide) (Nat.lt_of_le_of_lt l hb)
theorem pow9000 {n : Nat} (h : n < 2 ^ 200) : n < 2 ^ 9000 := Nat.lt_of_lt_of_le h (Nat.pow_le_pow_right (by decide) (by decide))
theorem small_le {n : Nat} (h : n ≤ 1000) : n ≤ sizeLine := Nat.le_of_lt (small1000 h)
theorem two {a b : V} : [a, b].length ≤ sizeLine := by
  show 2 ≤ sizeLine
  decide
theorem cOf_dl (o u : Int) : cOf o u ∣ o := by
  unfold cOf
  split
  · exact Int.neg_dvd.mpr (Int.gcd_dvd_left o u)
  · exact Int.gcd_dvd_left o u
theorem cOf_dr (o u : Int) : cOf o u ∣ u := by
  unfold cOf
  split
  · exact Int.neg_dvd.mpr (Int.gcd_dvd_right o u)
  · exact Int.gcd_dvd_right o u
theorem cOf_ne {o u : Int} (h : u ≠ 0) : cOf o u ≠ 0 := by
  have g : 0 < Int.gcd o u := Int.gcd_pos_of_ne_zero_right o h
  unfold cOf
  split <;> omega
theorem rN_eq (o u : Int) : cOf o u * rN o u = o := Int.mul_fdiv_cancel' (cOf_dl o u)
theorem rD_eq (o u : Int) : cOf o u * rD o u = u := Int.mul_fdiv_cancel' (cOf_dr o u)
theorem rD_pos {o u : Int} (h : u ≠ 0) : 0 < rD o u := by
  have e := rD_eq o u
  have g : 0 < Int.gcd o u := Int.gcd_pos_of_ne_zero_right o h
  unfold cOf at e
  generalize rD o u = d at e
  split at e
  · rename_i hu
    rcases (show 0 < d ∨ d ≤ 0 by omega) with hd | hd
    · exact hd
    · have z : 0 ≤ -((Int.gcd o u : Nat) : Int) * d := Int.mul_nonneg_of_nonpos_of_nonpos (by omega) hd
      omega
  · rcases (show 0 < d ∨ d ≤ 0 by omega) with hd | hd
    · exact hd
    · have z : ((Int.gcd o u : Nat) : Int) * d ≤ 0 := Int.mul_nonpos_of_nonneg_of_nonpos (by omega) hd
      omega
theorem le_of_mul_eq {c k o : Int} (hc : c ≠ 0) (e : c * k = o) : k.natAbs ≤ o.natAbs := by
  rw [← e, Int.natAbs_mul]
  exact Nat.le_mul_of_pos_left _ (by omega)
theorem rN_le {o u : Int} (h : u ≠ 0) : (rN o u).natAbs ≤ o.natAbs := le_of_mul_eq (cOf_ne h) (rN_eq o u)
theorem rD_le {o u : Int} (h : u ≠ 0) : (rD o u).natAbs ≤ u.natAbs := le_of_mul_eq (cOf_ne h) (rD_eq o u)
theorem rDiv {o u : Int} (h : 0 < u) : (rN o u).fdiv (rD o u) = o.fdiv u := by
  have c0 : 0 < cOf o u := by
    have g : 0 < Int.gcd o u := Int.gcd_pos_of_ne_zero_right o (by omega)
    unfold cOf
    split <;> omega
  have e := Int.mul_fdiv_mul_of_pos (rN o u) (rD o u) c0
  rw [rN_eq, rD_eq] at e
  exact e.symm
structure Bag (H : Hp) (b c : Addr) : Prop where
  ne : b ≠ c
  at_ : ∃ (ns : List Int) (slot seed : Int), H b = some (.lst [.ref c, .int slot, .int seed]) ∧ H c = some (.lst (ns.map V.int)) ∧ ns.length ≤ 63 ∧ 0 ≤ slot ∧ 0 ≤ seed ∧ seed < 2147483647
/-- all but what stands at b and c stands -/
def Kept (b c : Addr) (H H' : Hp) : Prop := ∀ p o, H p = some o → p ≠ b → p ≠ c → H' p = some o
theorem Kept.refl {b c : Addr} {H : Hp} : Kept b c H H := fun _ _ e _ _ => e
theorem Kept.trans {b c : Addr} {H H' H'' : Hp} (h : Kept b c H H') (h' : Kept b c H' H'') : Kept b c H H'' := fun p o e n m => h' p o (h p o e n m) n m
theorem kept_same {b c : Addr} {H H' : Hp} (h : Same H H') : Kept b c H H' := fun p o e _ _ => h p o e
theorem same_upd {H : Hp} {p : Addr} {o : HO} (h : H p = none) : Same H (upd H p o) := fun b x e => by
  rw [upd_ne (ne_of_none e h)]
  exact e
theorem Kept.upd {b c p : Addr} {H H' : Hp} {o : HO} (h : Kept b c H H') (hp : H' p = none) : Kept b c H (upd H' p o) := h.trans (kept_same (same_upd hp))
theorem Bag.same {H H' : Hp} {b c : Addr} (h : Bag H b c) (s : Same H H') : Bag H' b c := by
  obtain ⟨ne, ns, sl, sd, h1, h2, r⟩ := h
  exact ⟨ne, ns, sl, sd, s _ _ h1, s _ _ h2, r⟩
theorem Bag.upd {b c p : Addr} {H : Hp} {o : HO} (h : Bag H b c) (hp : H p = none) : Bag (upd H p o) b c := h.same (same_upd hp)
theorem Bag.off {H : Hp} {b c p : Addr} (h : Bag H b c) (hp : H p = none) : p ≠ b ∧ p ≠ c := by
  obtain ⟨_, ns, sl, sd, h1, h2, _⟩ := h
  exact ⟨(ne_of_none h1 hp).symm, (ne_of_none h2 hp).symm⟩
/-- a thing that is no list of the bag's -/
theorem Bag.tup {H : Hp} {b c p : Addr} {xs : List V} (h : Bag H b c) (hp : H p = some (.tup xs)) : p ≠ b ∧ p ≠ c := by
  obtain ⟨_, ns, sl, sd, h1, h2, _⟩ := h
  exact ⟨ne_of hp h1 (by intro z; cases z), ne_of hp h2 (by intro z; cases z)⟩
theorem seq_by {t u : TS} {D : Ends} {σ : St} {H : Hp} (Pv : St → Hp → Prop) (h2 : ∀ σ H, Pv σ H → u D σ H) (h1 : (∀ σ H, Pv σ H → u D σ H) → t { D with nx := u D } σ H) : tSeq t u D σ H := h1 h2
theorem seq_c {u : TS} {i : Nat} {v : V} {D : Ends} {σ : St} {H : Hp} (h : u D (σ.set i (some v)) H) : tSeq (tAsg (tC v) (gName i)) u D σ H := h
theorem seq_asg {te : TE} {u : TS} {i : Nat} {D : Ends} {σ : St} {H : Hp} (h : te σ H fun x H1 => u D (σ.set i (some x)) H1) : tSeq (tAsg te (gName i)) u D σ H := h
theorem seq_sub {te ta ti : TE} {r : TSet} {u : TS} {D : Ends} {σ : St} {H : Hp} (h : te σ H fun x H1 => gSub ta ti r x σ H1 fun σ' H' => u D σ' H') : tSeq (tAsg te (gSub ta ti r)) u D σ H := h
theorem seq_drop {te : TE} {u : TS} {D : Ends} {σ : St} {H : Hp} (h : te σ H fun _ H1 => u D σ H1) : tSeq (tDrop te) u D σ H := h
theorem next_u {u : TS} {D : Ends} {σ : St} {H : Hp} (h : u D σ H) : tNext { D with nx := u D } σ H := h
theorem nx_u {u : TS} {D : Ends} {rt : VK} {bk ct : St → Hp → Prop} {σ : St} {H : Hp} (h : u D σ H) : Ends.nx { nx := u D, rt := rt, bk := bk, ct := ct } σ H := h
theorem yes_ {σ : St} {H : Hp} {A B : Hp → Prop} (h : A H) : tYes σ H (fun b H3 => if b = true then A H3 else B H3) := by
  show if true = true then A H else B H
  exact iteT h
theorem int_at {ns : List Int} {i : Int} (h0 : 0 ≤ i) (h : i < (ns.length : Int)) : ∃ v : Int, atI (ns.map V.int) i = some (.int v) := by
  have ek : i = ((i.toNat : Nat) : Int) := by omega
  have hk : i.toNat < ns.length := by omega
  rw [ek]
  exact ⟨ns[i.toNat], atI_nat (by rw [List.getElem?_map, List.getElem?_eq_getElem hk] <;> rfl)⟩
theorem ix_at {n : Nat} {i : Int} (h0 : 0 ≤ i) (h : i < (n : Int)) : ixN n i = some i.toNat := by
  unfold ixN
  rw [if_pos h0, if_pos h]
theorem set_ints (ns : List Int) (j : Nat) (v : Int) : (ns.map V.int).set j (.int v) = (ns.set j v).map V.int := by
  rw [List.map_set]
theorem at_mem {xs : List V} {r : Int} (h0 : 0 ≤ r) (h : r < (xs.length : Int)) : ∃ v, v ∈ xs ∧ atI xs r = some v := by
  have hk : r.toNat < xs.length := by omega
  have e := atI_nat (xs := xs) (j := r.toNat) (List.getElem?_eq_getElem hk)
  rw [show ((r.toNat : Nat) : Int) = r by omega] at e
  exact ⟨_, List.getElem_mem hk, e⟩
theorem cut_ints (ns : List Int) (lo hi : Option Int) : ∃ ms : List Int, cutV (ns.map V.int) lo hi = ms.map V.int ∧ ms.length ≤ ns.length := by
  refine ⟨(ns.drop (HT.sIx (ns.map V.int).length 0 lo)).take (HT.sIx (ns.map V.int).length (ns.map V.int).length hi - HT.sIx (ns.map V.int).length 0 lo), ?_, ?_⟩
  · unfold cutV
    rw [List.map_take, List.map_drop]
  · rw [List.length_take, List.length_drop]
    omega
theorem ne_true {u : Int} (z : (!decide (V.int u = V.int 0)) = true) : u ≠ 0 := fun e => by
  subst e
  exact absurd z (by decide)
theorem ne_false {u : Int} (z : ¬ (!decide (V.int u = V.int 0)) = true) : u = 0 := by
  by_cases e : u = 0
  · exact e
  · exact absurd (show (!decide (V.int u = V.int 0)) = true by rw [decide_eq_false (fun q => e (V.int.inj q))]; rfl) z
def leS (a b : Str) : Prop := a.cps.toList ≤ b.cps.toList
theorem leS_trans {a b c : Str} (h : leS a b) (h' : leS b c) : leS a c := List.le_trans h h'
theorem leS_anti {a b : Str} (h : leS a b) (h' : leS b a) : a = b := by
  have e : a.cps.toList = b.cps.toList := List.le_antisymm h h'
  cases a
  cases b
  exact congrArg Str.mk (Array.toList_inj.mp e)
theorem ris_all : ∀ (l : List Str) (p : Str), PyProof.Rows.risingS p l = true → (∀ x ∈ l, leS p x) ∧ l.Pairwise leS
  | [], _, _ => ⟨(fun _ h => nomatch h), .nil⟩
  | x :: r, p, h => by
    unfold PyProof.Rows.risingS at h
    rw [Bool.and_eq_true, Bool.not_eq_true'] at h
    rw [PyProof.Rows.ltCps_eq] at h
    have hx : leS p x := of_decide_eq_false h.1
    obtain ⟨i1, i2⟩ := ris_all r x h.2
    refine ⟨fun y hy => ?_, List.pairwise_cons.mpr ⟨i1, i2⟩⟩
    rcases List.mem_cons.mp hy with rfl | hy
    · exact hx
    · exact leS_trans hx (i1 y hy)
theorem srt_pw : ∀ {l : List Str}, PyProof.Rows.sortedS l = true → l.Pairwise leS
  | [], _ => .nil
  | x :: r, h => List.pairwise_cons.mpr (ris_all r x h)
theorem srt_same {a b : List Str} (hp : a.Perm b) (ha : PyProof.Rows.sortedS a = true) (hb : PyProof.Rows.sortedS b = true) : a = b :=
  hp.eq_of_pairwise (fun _ _ _ _ h1 h2 => leS_anti h1 h2) (srt_pw ha) (srt_pw hb)
theorem srtI_same {a b : List Int} (hp : a.Perm b) (ha : a.Pairwise (· ≤ ·)) (hb : b.Pairwise (· ≤ ·)) : a = b :=
  hp.eq_of_pairwise (fun _ _ _ _ h1 h2 => Int.le_antisymm h1 h2) ha hb
theorem lay_all : ∀ {ds : List PyData}, (∀ d ∈ ds, d.canLay0 = true) → PyData.canLayAll0 ds = true
  | [], _ => rfl
  | d :: r, h => by
    unfold PyData.canLayAll0
    rw [h d List.mem_cons_self, lay_all fun x hx => h x (List.mem_cons_of_mem _ hx)]
    rfl
theorem depth_all : ∀ {ds : List PyData} {n : Nat}, (∀ d ∈ ds, d.depth ≤ n) → PyData.depthAll ds ≤ n
  | [], _, _ => Nat.zero_le _
  | d :: r, n, h => by
    unfold PyData.depthAll
    exact Nat.max_le.mpr ⟨h d List.mem_cons_self, depth_all fun x hx => h x (List.mem_cons_of_mem _ hx)⟩

/-! ### ratios of the program are Lean's -/
theorem gcd_rND {o u : Int} (h : u ≠ 0) : Int.gcd (rN o u) (rD o u) = 1 := by
  have g : 0 < Int.gcd o u := Int.gcd_pos_of_ne_zero_right o h
  have e : Int.gcd o u = (cOf o u).natAbs * Int.gcd (rN o u) (rD o u) := by
    rw [← Int.gcd_mul_left, rN_eq, rD_eq]
  have n : (cOf o u).natAbs = Int.gcd o u := by
    unfold cOf
    split <;> omega
  rw [n] at e
  exact (Nat.eq_of_mul_eq_mul_left g (by rw [Nat.mul_one]; exact e)).symm
theorem rat_rND {o u : Int} (h : u ≠ 0) : (Rat.divInt o u).num = rN o u ∧ ((Rat.divInt o u).den : Int) = rD o u := by
  have p := rD_pos (o := o) h
  have c : Nat.Coprime (rN o u).natAbs (rD o u).toNat := by
    have := gcd_rND (o := o) h
    unfold Int.gcd at this
    rw [show (rD o u).natAbs = (rD o u).toNat by omega] at this
    exact this
  have e : Rat.divInt o u = ⟨rN o u, (rD o u).toNat, by omega, c⟩ := by
    rw [Rat.mk_eq_divInt, Int.toNat_of_nonneg (by omega)]
    have e2 := @Rat.divInt_mul_left (rN o u) (rD o u) (cOf o u) (cOf_ne h)
    rw [rN_eq, rD_eq] at e2
    exact e2
  rw [e]
  exact ⟨rfl, by show (((rD o u).toNat : Nat) : Int) = _; omega⟩
end G


namespace M
open PySem L2
section
variable {K : PySem.W.Frag} {α β γ δ ε ρ : Type} {S T : AS} {σ : St} {H : Hp} {ta tb te : TE} {tt tu : TT} {a : Ty K α} {b : Ty K β} {c : Ty K γ} {D : Ends} {u t1 t2 : TS}
theorem if_and {g : Bool} {A : Option α} {y : α} (h : (if g then A else none) = some y) : g = true ∧ A = some y := by
  cases g with
  | true => exact ⟨rfl, h⟩
  | false => cases h
theorem sub_cons {p : Addr} {S S' : AS} (h : Sub S S') : Sub S (p :: S') := fun a m => List.mem_cons_of_mem _ (h a m)
theorem cons_sub {p : Addr} {S S' : AS} (h : p ∈ S') (h' : Sub S S') : Sub (p :: S) S' := fun a m => by
  rcases List.mem_cons.mp m with rfl | m
  · exact h
  · exact h' a m
theorem nwL.sub {c : Ty K α} {S S' T : AS} {H0 H H1 : Hp} {v : V} {xs : List α} (h : nwL c S H H1 v xs) (hs : Sub S' S) (f : Fr T H0 H) (d : Dom T H) : nwL c S' H0 H1 v xs := by
  obtain ⟨p, e, n, vs, hv, ha⟩ := h
  exact ⟨p, e, fr_back f d n, vs, hv, ha.imp fun _ _ => c.sub fun a m => by
    rcases List.mem_cons.mp m with rfl | m
    · exact List.mem_cons_self ..
    · exact List.mem_cons_of_mem _ (hs a m)⟩
theorem Own.same {c : Ty K α} {S : AS} {H H' : Hp} {p : Addr} {xs : List α} (h : Own c S H p xs) (s : Same H H') : Own c S H' p xs := by
  obtain ⟨vs, hv, ha⟩ := h
  exact ⟨vs, s _ _ hv, ha.imp fun _ _ => c.mono (Fr.same s)⟩
theorem Own.fr {c : Ty K α} {S T : AS} {H H' : Hp} {p : Addr} {xs : List α} (h : Own c S H p xs) (f : Fr T H H') (ts : Sub T S) (n : p ∉ T) : Own c S H' p xs := by
  obtain ⟨vs, hv, ha⟩ := h
  exact ⟨vs, f _ _ hv n, ha.imp fun _ _ => c.mono (f.sub ts)⟩
theorem Own.ext {c : Ty K α} {S : AS} {H : Hp} {p q : Addr} {xs : List α} (h : Own c S H p xs) (n : H q = none) : Own c (q :: S) H p xs := by
  obtain ⟨vs, hv, ha⟩ := h
  exact ⟨vs, hv, ha.imp fun _ _ => c.ext n⟩
theorem Own.ne {c : Ty K α} {S : AS} {H : Hp} {p q : Addr} {xs : List α} (h : Own c S H p xs) (n : H q = none) : p ≠ q := by
  obtain ⟨vs, hv, ha⟩ := h
  exact ne_of_none hv n
theorem Own.sub {c : Ty K α} {S S' : AS} {H : Hp} {p : Addr} {xs : List α} (h : Own c S H p xs) (hs : Sub S' S) : Own c S' H p xs := by
  obtain ⟨vs, hv, ha⟩ := h
  exact ⟨vs, hv, ha.imp fun _ _ => c.sub hs⟩
/-! items put behind an owned list -/
def app? (xs : List α) (x : α) : Option (List α) := if xs.length < 100000 then some (xs ++ [x]) else none
/-- all but p stands, and what p held is H1 p -/
structure Mut1 (p : Addr) (H H' : Hp) : Prop where
  k : ∀ a o, H a = some o → a ≠ p → H' a = some o
  p' : H' p ≠ none
theorem l_app {p : Addr} {xs ys : List α} {i : Nat} {r : Option α} {x : α} (d : Dom S H) (o : Own a S H p xs) (im : p ∈ S) (nt : p ∉ T) (ts : Sub T S) (hi : σ[i]? = some (some (.ref p))) (h : Ev S T te σ H (of a S) r) (e : r = some x) (f : app? xs x = some ys)
    (k : ∀ H1, Mut1 p H H1 → Fr S H H1 → Own a S H1 p ys → D.nx σ H1) : tDrop (tBM K "list" rAppend (tVar i) (tCons te tNil)) D σ H := by
  obtain ⟨vs, hv, ha⟩ := o
  unfold app? at f
  split at f
  · rename_i hl
    cases f
    refine ⟨_, hi, Or.inl ⟨rfl, vs, .inl (.inl hv)⟩, h x e H (Fr.refl _) d _ fun v H1 s1 hx => ?_⟩
    refine ⟨p, vs, v, rfl, rfl, s1 _ _ hv, Nat.lt_of_lt_of_le (by rw [ha.len]; exact hl) (by decide), ?_⟩
    have f1 : Fr S H1 (upd H1 p (.lst (vs ++ [v]))) := fr_upd im
    refine k _ ⟨fun b ob e n => by rw [upd_ne n]; exact s1 _ _ e, by rw [upd_same]; intro z; cases z⟩ ((Fr.same s1).trans f1) ⟨vs ++ [v], upd_same, ?_⟩
    exact ((ha.imp fun _ _ h => a.mono (Fr.same s1) h).snoc hx).imp fun _ _ h => a.mono f1 h
  · cases f
theorem q_app {p : Addr} {xs ys : List α} {i : Nat} {r : Option α} {x : α} (d : Dom S H) (o : Own a S H p xs) (im : p ∈ S) (nt : p ∉ T) (ts : Sub T S) (hi : σ[i]? = some (some (.ref p))) (h : Ev S T te σ H (of a S) r) (e : r = some x) (f : app? xs x = some ys)
    (k : ∀ H1, Mut1 p H H1 → Fr S H H1 → Own a S H1 p ys → u D σ H1) : tSeq (tDrop (tBM K "list" rAppend (tVar i) (tCons te tNil))) u D σ H := l_app (D := { D with nx := u D }) d o im nt ts hi h e f k
theorem Fr.mut {p : Addr} {H0 H H' : Hp} (f : Fr T H0 H) (d : Dom T H) (n : H0 p = none) (m : Mut1 p H H') : Fr T H0 H' := fun b o e nb => m.k b o (f b o e nb) (ne_of_none e n)
theorem Dom.fx {p : Addr} {H H' : Hp} (d : Dom S H) (f : Fr S H H') (m : Mut1 p H H') : Dom S H' := fun b mb e => by
  by_cases q : b = p
  · subst q; exact m.p' e
  · cases z : H b with
    | none => exact d b mb z
    | some o => rw [m.k b o z q] at e; cases e
theorem Own.mut {c : Ty K α} {S : AS} {H H' : Hp} {p q : Addr} {xs : List α} (h : Own c S H p xs) (f : Fr S H H') (m : Mut1 q H H') (n : p ≠ q) : Own c S H' p xs := by
  obtain ⟨vs, hv, ha⟩ := h
  exact ⟨vs, m.k _ _ hv n, ha.imp fun _ _ => c.mono f⟩
theorem seq_last {t : TS} (Pv : St → Hp → Prop) (h2 : ∀ σ H, Pv σ H → D.nx σ H) (h1 : (∀ σ H, Pv σ H → D.nx σ H) → t D σ H) : t D σ H := h1 h2
/-! loops, with what stands behind -/
theorem q_for_l {tl : TE} {j : Nat} {tb : TS} {r : Option (List α)} {xs : List α} {s0 : δ} {f : δ → α → Option (Ct ρ δ)} {res : Ct ρ δ} (d : Dom S H) (h : Ev S T tl σ H (of (tL a) S) r) (e : r = some xs) (hf : loopC f xs s0 = some res)
    (I : δ → St → Hp → Prop) (h0 : ∀ H1, Same H H1 → I s0 σ H1)
    (step : ∀ (s : δ) (x : α) (cr : Ct ρ δ) (v : V) (σ' : St) (H' : Hp), I s σ' H' → a.rp S H' v x → f s x = some cr → (∀ y, cr = .ret y → res = .ret y) →
      tb { D with nx := fun σ2 H2 => ∃ s', cr = .go s' ∧ Fr S H' H2 ∧ I s' σ2 H2, ct := fun σ2 H2 => ∃ s', cr = .go s' ∧ Fr S H' H2 ∧ I s' σ2 H2, bk := u D } (σ'.set j (some v)) H')
    (done : ∀ s σ' H', res = .go s → I s σ' H' → u D σ' H') : tSeq (tFor (iList K tl) (gName j) tb) u D σ H := for_l (D := { D with nx := u D }) d h e hf I h0 step done
theorem q_for_r1 {te : TE} {j : Nat} {tb : TS} {r : Option Int} {n : Int} {s0 : δ} {f : δ → Int → Option (Ct ρ δ)} {res : Ct ρ δ} (d : Dom S H) (h : Ev S T te σ H (of (K := K) tInt S) r) (e : r = some n) (hn : rngP n = true) (hf : loopC f (rngL 0 n.toNat) s0 = some res)
    (I : δ → St → Hp → Prop) (h0 : ∀ H1, Same H H1 → I s0 σ H1)
    (step : ∀ (s : δ) (x : Int) (cr : Ct ρ δ) (σ' : St) (H' : Hp), I s σ' H' → 0 ≤ x → x < 0 + (n.toNat : Int) → f s x = some cr → (∀ y, cr = .ret y → res = .ret y) →
      tb { D with nx := fun σ2 H2 => ∃ s', cr = .go s' ∧ Fr S H' H2 ∧ I s' σ2 H2, ct := fun σ2 H2 => ∃ s', cr = .go s' ∧ Fr S H' H2 ∧ I s' σ2 H2, bk := u D } (σ'.set j (some (.int x))) H')
    (done : ∀ s σ' H', res = .go s → I s σ' H' → u D σ' H') : tSeq (tFor (iRng1 (tCons te tNil)) (gName j) tb) u D σ H := for_r1 (D := { D with nx := u D }) d h e hn hf I h0 step done
theorem q_for_r2 {te tg : TE} {j : Nat} {tb : TS} {r r' : Option Int} {lo n : Int} {s0 : δ} {f : δ → Int → Option (Ct ρ δ)} {res : Ct ρ δ} (d : Dom S H) (h : Ev S T te σ H (of (K := K) tInt S) r) (e : r = some lo) (h' : Ev S T tg σ H (of (K := K) tInt S) r') (e' : r' = some n) (hl : rngP lo = true) (hn : rngP n = true) (hf : loopC f (rngL lo (n - lo).toNat) s0 = some res)
    (I : δ → St → Hp → Prop) (h0 : ∀ H1, Same H H1 → I s0 σ H1)
    (step : ∀ (s : δ) (x : Int) (cr : Ct ρ δ) (σ' : St) (H' : Hp), I s σ' H' → lo ≤ x → x < lo + ((n - lo).toNat : Int) → f s x = some cr → (∀ y, cr = .ret y → res = .ret y) →
      tb { D with nx := fun σ2 H2 => ∃ s', cr = .go s' ∧ Fr S H' H2 ∧ I s' σ2 H2, ct := fun σ2 H2 => ∃ s', cr = .go s' ∧ Fr S H' H2 ∧ I s' σ2 H2, bk := u D } (σ'.set j (some (.int x))) H')
    (done : ∀ s σ' H', res = .go s → I s σ' H' → u D σ' H') : tSeq (tFor (iRng2 (tCons te (tCons tg tNil))) (gName j) tb) u D σ H := for_r2 (D := { D with nx := u D }) d h e h' e' hl hn hf I h0 step done
/-! lists made -/
theorem ev_lst0 : Ev S T (tLst tNil) σ H (nw a S) (some []) := fun x e H1 f d Q q => by
  cases e
  exact ⟨Nat.zero_le _, fun p hp => q _ _ (same_new hp) ⟨p, rfl, hp, [], upd_same, .nil⟩⟩
theorem ev_list {r : Option (List α)} (h : Ev S T te σ H (of (tL a) S) r) : Ev S T (tCB (fun xs H Q => ∃ p ys, xs = [.ref p] ∧ (SqL K H p ys ∨ SqT K H p ys) ∧ ∀ l, H l = none → Q (.ref l) (upd H l (.lst ys))) (tCons te tNil)) σ H (nw a S) r := fun x e H1 f d Q q => by
  refine h x e H1 f d _ fun v H2 s2 hv => ?_
  obtain ⟨p, vs, rfl, hp, ha⟩ := hv
  exact ⟨p, vs, rfl, .inl hp.sq, fun l hl => q _ _ (s2.trans (same_new hl)) ⟨l, rfl, s2.free hl, vs, upd_same, ha.imp fun _ _ h => a.mono (Fr.same (same_new hl)) (a.ext hl h)⟩⟩
def EvE (S T : AS) (ta : TA) (σ : St) (H : Hp) (a : Ty K α) (n : Nat) (r : Option (List α)) : Prop :=
  ∀ x, r = some x → ∀ H1, Fr T H H1 → Dom S H1 → ∀ Q : List V → Hp → Prop, (∀ vs H2, vs.length = n → Same H1 H2 → All2 (a.rp S H2) vs x → Q vs H2) → ta σ H1 Q
theorem el_nil : EvE S T tNil σ H a 0 (some []) := fun _ e H1 f d Q q => by cases e; exact q [] H1 rfl (Same.refl _) .nil
theorem el_cons {tr : TA} {n : Nat} {ra : Option α} {rr : Option (List α)} (h : Ev S T ta σ H (of a S) ra) (hr : EvE S T tr σ H a n rr) : EvE S T (tCons ta tr) σ H a (n + 1) (bd ra fun x => bd rr fun y => some (x :: y)) := by
  intro z e H1 f1 d Q q
  obtain ⟨x, ex, e⟩ := bd_some e
  obtain ⟨y, ey, e⟩ := bd_some e
  cases e
  exact h x ex H1 f1 d _ fun v H2 s2 hv => hr y ey H2 (f1.trans (Fr.same s2)) (d.same s2) _ fun vs H3 hl s3 hw => q _ H3 (by simp [hl]) (s2.trans s3) (.cons (a.mono (Fr.same s3) hv) hw)
theorem ev_lst {tr : TA} {n : Nat} {rr : Option (List α)} (h : EvE S T tr σ H a n rr) (hn : n ≤ sizeLine) : Ev S T (tLst tr) σ H (nw a S) rr := fun x e H1 f d Q q =>
  h x e H1 f d _ fun vs H2 hl s2 ha => ⟨by rw [hl]; exact hn, fun p hp => q _ _ (s2.trans (same_new hp)) ⟨p, rfl, s2.free hp, vs, upd_same, ha.imp fun _ _ h => a.mono (Fr.same (same_new hp)) (a.ext hp h)⟩⟩
theorem All2.bools {S : AS} {H : Hp} : ∀ {vs : List V} {xs : List Bool}, All2 ((tBool (K := K)).rp S H) vs xs → vs = xs.map V.bl
  | _, _, .nil => rfl
  | _, _, .cons h r => by rw [List.map_cons, ← All2.bools r, show _ = _ from h]
theorem ev_all {r : Option (List Bool)} (h : Ev S T te σ H (of (K := K) (tL tBool) S) r) : Ev S T (tCB (rAll K) (tCons te tNil)) σ H (of (K := K) tBool S) (bd r fun x => some (x.all id)) := by
  intro z e H1 f1 d Q q
  obtain ⟨x, ex, e⟩ := bd_some e
  cases e
  refine h x ex H1 f1 d _ fun v H2 s hv => ?_
  obtain ⟨p, vs, rfl, hp, ha⟩ := hv
  refine ⟨p, x, rfl, ?_, q _ H2 s rfl⟩
  rw [← ha.bools]
  exact hp.sq
theorem ev_intB {r : Option Bool} (h : Ev S T te σ H (of (K := K) tBool S) r) : Ev S T (tCB (fun xs H Q => (∃ i, xs = [.int i] ∧ Q (.int i) H) ∨ ∃ k, xs = [.bl k] ∧ Q (.int (if k then 1 else 0)) H) (tCons te tNil)) σ H (of (K := K) tInt S) (bd r fun x => some (if x then 1 else 0 : Int)) := by
  intro z e H1 f1 d Q q
  obtain ⟨x, ex, e⟩ := bd_some e
  cases e
  refine h x ex H1 f1 d _ fun v H2 s hv => ?_
  cases hv
  exact .inr ⟨x, rfl, q _ H2 s rfl⟩
/-! comprehensions over a list -/
def mapO (f : α → Option β) : List α → Option (List β)
  | [] => some []
  | x :: xs => bd (f x) fun y => bd (mapO f xs) fun ys => some (y :: ys)
theorem mapO_get {f : α → Option β} : ∀ {xs : List α} {ys : List β} {i : Nat} {x : α}, mapO f xs = some ys → xs[i]? = some x → ∃ y, f x = some y ∧ ys[i]? = some y
  | [], _, i, x, _, e => by simp at e
  | z :: xs, ys, i, x, h, e => by
    obtain ⟨y, hy, h⟩ := bd_some h
    obtain ⟨r, hr, h⟩ := bd_some h
    cases h
    cases i with
    | zero => simp at e; subst e; exact ⟨y, hy, rfl⟩
    | succ i =>
      obtain ⟨w, h1, h2⟩ := mapO_get (i := i) hr (by simpa using e)
      exact ⟨w, h1, by simpa using h2⟩
theorem mapO_len {f : α → Option β} : ∀ {xs : List α} {ys : List β}, mapO f xs = some ys → ys.length = xs.length
  | [], _, h => by cases h; rfl
  | z :: xs, ys, h => by
    obtain ⟨y, hy, h⟩ := bd_some h
    obtain ⟨r, hr, h⟩ := bd_some h
    cases h
    simp [mapO_len hr]
def mapL? (f : α → Option β) (xs : List α) : Option (List β) := if xs.length < 100000 then mapO f xs else none
theorem ev_lc {tl : TE} {j : Nat} {ws : List Nat} {r : Option (List α)} {f : α → Option β} (h : Ev S T tl σ H (of (tL a) S) r) (hw : ∀ x, wipe ((wipe σ ws).set j (some x)) ws = wipe σ ws)
    (he : ∀ (x : α) (v : V) (H2 H' : Hp) (p : Addr), Fr T H H2 → H2 p = none → Same H2 H' → a.rp (p :: S) H' v x → Ev (p :: S) T te ((wipe σ ws).set j (some v)) H' (of b (p :: S)) (f x)) :
    Ev S T (tLc (iList K tl) (gName j) tYes te ws) σ H (nw b S) (bd r fun xs => mapL? f xs) := by
  intro z e H1 f1 d Q q
  obtain ⟨xs, ex, e⟩ := bd_some e
  unfold mapL? at e
  split at e
  rotate_left
  · cases e
  rename_i hlen
  refine h xs ex H1 f1 d _ fun v H2 s2 hv => ?_
  obtain ⟨p, vs, rfl, hp, ha⟩ := hv
  refine ⟨p, rfl, ⟨vs, hp.sq⟩, fun Dl hD => ?_⟩
  have d2 := d.same s2
  have sD : Same H2 (upd H2 Dl (.lst [])) := same_new hD
  refine lc_list (xs := vs) (fun i H' => ∃ acc, H' Dl = some (.lst acc) ∧ Same H2 H' ∧ acc.length = i ∧ All2 (b.rp (Dl :: S) H') acc (z.take i)) ⟨[], upd_same, sD, rfl, by simp; exact .nil⟩ (fun i H' _ ⟨acc, h1, h2, _⟩ => (hp.mono (Fr.same h2)).sq) (fun i v H' hi ⟨acc, h1, h2, h3, h4⟩ => ?_) (fun H' ⟨acc, h1, h2, h3, h4⟩ => ?_)
  · obtain ⟨x, hx, hvx⟩ := ha.getL i hi
    obtain ⟨y, hy, hzy⟩ := mapO_get e hx
    refine ⟨hw v, ?_⟩
    refine G.yes_ ?_
    refine he x v H2 H' Dl (f1.trans (Fr.same s2)) hD h2 (a.mono (Fr.same h2) (a.ext hD hvx)) y hy H' (Fr.refl _) ((d2.same h2).cons h1) _ fun w H3 s3 hw3 => ?_
    have il : i < vs.length := (List.getElem?_eq_some_iff.mp hi).1
    refine ⟨acc, s3 _ _ h1, Nat.lt_of_lt_of_le (by rw [h3]; have := ha.len; omega : acc.length < 100000) (by decide), acc ++ [w], upd_same, fun b ob eb => ?_, by simp [h3], ?_⟩
    · rw [upd_ne (ne_of_none eb hD)]
      exact s3 _ _ (h2 _ _ eb)
    · rw [List.take_add_one, hzy]
      have fD : Fr (Dl :: S) H3 (upd H3 Dl (.lst (acc ++ [w]))) := fr_upd (List.mem_cons_self ..)
      exact ((h4.imp fun _ _ h => b.mono (Fr.same s3) h).snoc hw3).imp fun _ _ h => b.mono fD h
  · rw [List.take_of_length_le (by rw [mapO_len e, ← ha.len]; exact Nat.le_refl _)] at h4
    exact q _ _ (s2.trans h2) ⟨Dl, rfl, s2.free hD, acc, h1, h4⟩
end
end M

namespace M
open PySem L2 G
abbrev Wp (α : Type) := (α → Prop) → Prop
def lf {α : Type} (r : Option α) : Wp α := fun P => ∃ x, r = some x ∧ P x
def opW {α β γ : Type} (f : α → β → Option γ) (wa : Wp α) (wb : Wp β) : Wp γ := fun P => wa fun x => wb fun y => lf (f x y) P
def unW {α γ : Type} (g : α → Option γ) (wa : Wp α) : Wp γ := fun P => wa fun x => lf (g x) P
def tup2W {α β : Type} (wa : Wp α) (wb : Wp β) : Wp (α × β) := fun P => wa fun x => wb fun y => P (x, y)
def consW {α : Type} (wa : Wp α) (wb : Wp (List α)) : Wp (List α) := fun P => wa fun x => wb fun y => P (x :: y)
def andW (r v : Wp Bool) : Wp Bool := fun P => r fun x => if x then v P else P false
def orW (r v : Wp Bool) : Wp Bool := fun P => r fun x => if x then P true else v P
def callBW {α γ : Type} (m : α → Wp γ) (w : Wp α) : Wp γ := fun P => w fun a => m a P
theorem lf_some {α : Type} {x : α} {P : α → Prop} : lf (some x) P ↔ P x := ⟨fun ⟨y, e, h⟩ => by cases e; exact h, fun h => ⟨x, rfl, h⟩⟩
theorem _root_.G.Bag.dom {H : Hp} {b c : Addr} (h : Bag H b c) : Dom [b, c] H := fun a m e => by
  obtain ⟨_, ns, sl, sd, h1, h2, _⟩ := h
  simp only [List.mem_cons, List.not_mem_nil, or_false] at m
  rcases m with rfl | rfl
  · rw [h1] at e; cases e
  · rw [h2] at e; cases e
theorem dom_fr {S : AS} {H H' : Hp} {b c : Addr} (d : Dom S H) (f : Fr [b, c] H H') (h : Bag H' b c) : Dom S H' := fun a m e => by
  by_cases q : a ∈ [b, c]
  · exact h.dom a q e
  · cases z : H a with
    | none => exact d a m z
    | some o => rw [f a o z q] at e; cases e
section
variable {K : PySem.W.Frag} {α β γ δ ε ρ : Type} {S T : AS} {σ : St} {H : Hp} {ta tb te : TE} {tt tu : TT} {a : Ty K α} {b' : Ty K β} {c' : Ty K γ} {D : Ends} {u t1 t2 : TS} {b c : Addr}
def EvW (b c : Addr) (S : AS) (te : TE) (σ : St) (H : Hp) (R : Rl α) (w : Wp α) : Prop :=
  Sub [b, c] S → ∀ P, w P → ∀ H1, Fr [b, c] H H1 → Dom S H1 → Bag H1 b c → ∀ Q : VK, (∀ v H2 x, P x → Fr [b, c] H1 H2 → Dom S H2 → Bag H2 b c → R.r H1 H2 v x → Q v H2) → te σ H1 Q
def BvW (b c : Addr) (S : AS) (tt : TT) (σ : St) (H : Hp) (w : Wp Bool) : Prop :=
  Sub [b, c] S → ∀ P, w P → ∀ H1, Fr [b, c] H H1 → Dom S H1 → Bag H1 b c → ∀ Q : Bool → Hp → Prop, (∀ H2 x, P x → Fr [b, c] H1 H2 → Dom S H2 → Bag H2 b c → Q x H2) → tt σ H1 Q
theorem ew_pure {R : Rl α} {r : Option α} (h : Ev S [b, c] te σ H R r) : EvW b c S te σ H R (lf r) := fun ts P ⟨x, e, hP⟩ H1 f d hB Q q =>
  h x e H1 f d Q fun v H2 s hv => q v H2 x hP (Fr.same s) (d.same s) (hB.same s) hv
theorem ew_new {w : Wp (List α)} (h : EvW b c S te σ H (nw a S) w) : EvW b c S te σ H (of (tL a) S) w := fun ts P hP H1 f d hB Q q =>
  h ts P hP H1 f d hB Q fun v H2 x hx f2 d2 hB2 hv => q v H2 x hx f2 d2 hB2 (nwL.rp hv d)
theorem ew_op {R : Rl γ} {r : R2} {f : α → β → Option γ} {wa : Wp α} {wb : Wp β} (h : OpD a b' S R r f) (ha : EvW b c S ta σ H (of a S) wa) (hb : EvW b c S tb σ H (of b' S) wb) :
    EvW b c S (tOp r ta tb) σ H R (opW f wa wb) := fun ts P hP H1 f1 d hB Q q =>
  ha ts _ hP H1 f1 d hB _ fun v H2 x hx f2 d2 hB2 hv => hb ts _ hx H2 (f1.trans f2) d2 hB2 _ fun w H3 y ⟨z, e, hz⟩ f3 d3 hB3 hw => h x y z e H3 v w d3 (a.mono (f3.sub ts) hv) hw Q fun u H4 s4 hu => q u H4 z hz ((f2.trans f3).trans (Fr.same s4)) (d3.same s4) (hB3.same s4) (R.back (f2.trans f3) hB3.dom hu)
theorem ew_ixT {R : Rl γ} {i : Int} {wa : Wp α} {g : α → γ} (ha : EvW b c S ta σ H (of a S) wa) (h : ∀ x H v, a.rp S H v x → ∃ p vs u, v = .ref p ∧ SqT K H p vs ∧ atI vs i = some u ∧ R.r H H u (g x)) :
    EvW b c S (tOp (rIxT K) ta (tC (.int i))) σ H R (unW (fun x => some (g x)) wa) := fun ts P hP H1 f1 d hB Q q => by
  refine ha ts _ hP H1 f1 d hB _ fun v H2 x ⟨z, e, hz⟩ f2 d2 hB2 hv => ?_
  cases e
  obtain ⟨p, vs, u, rfl, hp, hu, hr⟩ := h x H2 v hv
  exact ⟨p, vs, i, u, rfl, rfl, hp, hu, q u H2 _ hz f2 d2 hB2 (R.back f2 hB2.dom hr)⟩
theorem ew_ix20 {ra : Wp (α × β)} (ha : EvW b c S ta σ H (of (tT2 a b') S) ra) : EvW b c S (tOp (rIxT K) ta (tC (.int 0))) σ H (of a S) (unW (fun x => some x.1) ra) :=
  ew_ixT ha fun x H v ⟨p, u, w, e, h, h1, h2⟩ => ⟨p, _, u, e, h.sq, rfl, h1⟩
theorem ew_ix21 {ra : Wp (α × β)} (ha : EvW b c S ta σ H (of (tT2 a b') S) ra) : EvW b c S (tOp (rIxT K) ta (tC (.int 1))) σ H (of b' S) (unW (fun x => some x.2) ra) :=
  ew_ixT ha fun x H v ⟨p, u, w, e, h, h1, h2⟩ => ⟨p, _, w, e, h.sq, rfl, h2⟩
theorem ew_tup2 {wa : Wp α} {wb : Wp β} (ha : EvW b c S ta σ H (of a S) wa) (hb : EvW b c S tb σ H (of b' S) wb) : EvW b c S (tTup (tCons ta (tCons tb tNil))) σ H (of (tT2 a b') S) (tup2W wa wb) := fun ts P hP H1 f1 d hB Q q => by
  refine ha ts _ hP H1 f1 d hB _ fun v H2 x hx f2 d2 hB2 hv => hb ts _ hx H2 (f1.trans f2) d2 hB2 _ fun w H3 y hy f3 d3 hB3 hw => ⟨(by show 2 ≤ sizeLine; decide), fun p hp => ?_⟩
  have s4 := same_new (o := .tup [v, w]) hp
  exact q _ _ (x, y) hy ((f2.trans f3).trans (Fr.same s4)) (d3.same s4) (hB3.same s4) ⟨p, v, w, rfl, .inl ⟨.inl upd_same, d3.not_mem hp⟩, a.mono (Fr.same s4) (a.mono (f3.sub ts) hv), b'.mono (Fr.same s4) hw⟩
/-! tests -/
theorem bw_pure {r : Option Bool} (h : EvB S [b, c] tt σ H r) : BvW b c S tt σ H (lf r) := fun ts P ⟨x, e, hP⟩ H1 f d hB Q q => h x e H1 f d Q fun H2 s => q H2 x hP (Fr.same s) (d.same s) (hB.same s)
theorem bw_test {w : Wp Bool} (h : EvW b c S te σ H (of (K := K) tBool S) w) : BvW b c S (tTest te) σ H w := fun ts P hP H1 f d hB Q q => h ts P hP H1 f d hB _ fun v H2 x hx f2 d2 hB2 hv => ⟨x, hv, q H2 x hx f2 d2 hB2⟩
theorem bw_B {w : Wp Bool} (h : EvW b c S te σ H (of (K := K) tBool S) w) : BvW b c S (tB te) σ H w := fun ts P hP H1 f d hB Q q => h ts P hP H1 f d hB _ fun v H2 x hx f2 d2 hB2 hv => ⟨x, hv, q H2 x hx f2 d2 hB2⟩
theorem bw_and {r v : Wp Bool} (h : BvW b c S tt σ H r) (h' : BvW b c S tu σ H v) : BvW b c S (tAnd tt tu) σ H (andW r v) := fun ts P hP H1 f1 d hB Q q => by
  refine h ts _ hP H1 f1 d hB _ fun H2 x hx f2 d2 hB2 => ?_
  cases x with
  | true => exact h' ts P hx H2 (f1.trans f2) d2 hB2 Q fun H3 y hy f3 d3 hB3 => q H3 y hy (f2.trans f3) d3 hB3
  | false => exact q H2 false hx f2 d2 hB2
theorem bw_or {r v : Wp Bool} (h : BvW b c S tt σ H r) (h' : BvW b c S tu σ H v) : BvW b c S (tOr tt tu) σ H (orW r v) := fun ts P hP H1 f1 d hB Q q => by
  refine h ts _ hP H1 f1 d hB _ fun H2 x hx f2 d2 hB2 => ?_
  cases x with
  | false => exact h' ts P hx H2 (f1.trans f2) d2 hB2 Q fun H3 y hy f3 d3 hB3 => q H3 y hy (f2.trans f3) d3 hB3
  | true => exact q H2 true hx f2 d2 hB2
theorem ew_and {r v : Wp Bool} (h : EvW b c S ta σ H (of (K := K) tBool S) r) (h' : EvW b c S tb σ H (of (K := K) tBool S) v) : EvW b c S (tAndV ta tb) σ H (of (K := K) tBool S) (andW r v) := fun ts P hP H1 f1 d hB Q q => by
  refine h ts _ hP H1 f1 d hB _ fun v H2 x hx f2 d2 hB2 hv => ⟨x, hv, ?_⟩
  cases x with
  | true => exact h' ts P hx H2 (f1.trans f2) d2 hB2 Q fun v H3 y hy f3 d3 hB3 hv => q v H3 y hy (f2.trans f3) d3 hB3 hv
  | false => exact q _ H2 false hx f2 d2 hB2 rfl
theorem ew_or {r v : Wp Bool} (h : EvW b c S ta σ H (of (K := K) tBool S) r) (h' : EvW b c S tb σ H (of (K := K) tBool S) v) : EvW b c S (tOrV ta tb) σ H (of (K := K) tBool S) (orW r v) := fun ts P hP H1 f1 d hB Q q => by
  refine h ts _ hP H1 f1 d hB _ fun v H2 x hx f2 d2 hB2 hv => ⟨x, hv, ?_⟩
  cases x with
  | false => exact h' ts P hx H2 (f1.trans f2) d2 hB2 Q fun v H3 y hy f3 d3 hB3 hv => q v H3 y hy (f2.trans f3) d3 hB3 hv
  | true => exact q _ H2 true hx f2 d2 hB2 rfl
/-! arguments, calls -/
def EvWA (b c : Addr) (S : AS) (ta : TA) (σ : St) (H : Hp) (t : TyA K α) (w : Wp α) : Prop :=
  Sub [b, c] S → ∀ P, w P → ∀ H1, Fr [b, c] H H1 → Dom S H1 → Bag H1 b c → ∀ Q : List V → Hp → Prop, (∀ vs H2 x, P x → Fr [b, c] H1 H2 → Dom S H2 → Bag H2 b c → t.rp S H2 vs x → Q vs H2) → ta σ H1 Q
theorem wa_nil : EvWA b c S tNil σ H (K := K) aNil (lf (some ())) := fun ts P ⟨x, e, hP⟩ H1 f d hB Q q => q [] H1 x hP (Fr.refl _) d hB rfl
theorem wa_cons {tr : TA} {t : TyA K β} {wa : Wp α} {wr : Wp β} (h : EvW b c S ta σ H (of a S) wa) (hr : EvWA b c S tr σ H t wr) : EvWA b c S (tCons ta tr) σ H (aCons a t) (tup2W wa wr) := fun ts P hP H1 f1 d hB Q q =>
  h ts _ hP H1 f1 d hB _ fun v H2 x hx f2 d2 hB2 hv => hr ts _ hx H2 (f1.trans f2) d2 hB2 _ fun vs H3 y hy f3 d3 hB3 hw => q _ H3 (x, y) hy (f2.trans f3) d3 hB3 ⟨v, vs, rfl, a.mono (f3.sub ts) hv, hw⟩
theorem ew_call {ta : TA} {t : TyA K α} {R : AS → Rl γ} {f : α → Option γ} {w : Wp α} {E : XK} (h : EvWA b c S ta σ H t w) : EvW b c S (tCall (spF t R f) [] E ta) σ H (R S) (unW f w) := fun ts P hP H1 f1 d hB Q q => by
  refine h ts _ hP H1 f1 d hB _ fun vs H2 x ⟨z, e, hz⟩ f2 d2 hB2 hv => ⟨S, x, z, d2, ?_, e, fun u H' s hu => q u H' z hz (f2.trans (Fr.same s)) (d2.same s) (hB2.same s) ((R S).back f2 hB2.dom hu)⟩
  rw [List.append_nil]
  exact hv
/-- the promise of a def that draws from the bag -/
def spB (t : TyA K α) (R : AS → Rl γ) (m : α → Wp γ) : Sp := fun vs H Q _ => ∃ S b c r x P, vs = .ref b :: r ∧ Dom S H ∧ Sub [b, c] S ∧ Bag H b c ∧ t.rp S H r x ∧ m x P ∧ ∀ u H' z, P z → Fr [b, c] H H' → Bag H' b c → (R S).r H H' u z → Q u H'
theorem ew_callB {ta : TA} {t : TyA K α} {R : AS → Rl γ} {m : α → Wp γ} {w : Wp α} {E : XK} {i : Nat} (hi : σ[i]? = some (some (.ref b))) (h : EvWA b c S ta σ H t w) :
    EvW b c S (tCall (spB t R m) [] E (tCons (tVar i) ta)) σ H (R S) (callBW m w) := fun ts P hP H1 f1 d hB Q q => by
  refine ⟨_, hi, h ts _ hP H1 f1 d hB _ fun vs H2 x hx f2 d2 hB2 hv => ⟨S, b, c, vs, x, P, by rw [List.append_nil], d2, ts, hB2, hv, hx, fun u H' z hz f3 hB3 hu => q u H' z hz (f2.trans f3) (dom_fr d2 f3 hB3) hB3 ((R S).back f2 hB2.dom hu)⟩⟩
/-! lists made -/
def EvWE (b c : Addr) (S : AS) (ta : TA) (σ : St) (H : Hp) (a : Ty K α) (n : Nat) (w : Wp (List α)) : Prop :=
  Sub [b, c] S → ∀ P, w P → ∀ H1, Fr [b, c] H H1 → Dom S H1 → Bag H1 b c → ∀ Q : List V → Hp → Prop, (∀ vs H2 x, P x → vs.length = n → Fr [b, c] H1 H2 → Dom S H2 → Bag H2 b c → All2 (a.rp S H2) vs x → Q vs H2) → ta σ H1 Q
theorem wl_nil : EvWE b c S tNil σ H a 0 (lf (some [])) := fun ts P ⟨x, e, hP⟩ H1 f d hB Q q => by cases e; exact q [] H1 [] hP rfl (Fr.refl _) d hB .nil
theorem wl_cons {tr : TA} {n : Nat} {wa : Wp α} {wr : Wp (List α)} (h : EvW b c S ta σ H (of a S) wa) (hr : EvWE b c S tr σ H a n wr) : EvWE b c S (tCons ta tr) σ H a (n + 1) (consW wa wr) := fun ts P hP H1 f1 d hB Q q =>
  h ts _ hP H1 f1 d hB _ fun v H2 x hx f2 d2 hB2 hv => hr ts _ hx H2 (f1.trans f2) d2 hB2 _ fun vs H3 y hy hl f3 d3 hB3 hw => q _ H3 (x :: y) hy (by simp [hl]) (f2.trans f3) d3 hB3 (.cons (a.mono (f3.sub ts) hv) hw)
theorem ew_lst {tr : TA} {n : Nat} {wr : Wp (List α)} (h : EvWE b c S tr σ H a n wr) (hn : n ≤ sizeLine) : EvW b c S (tLst tr) σ H (nw a S) wr := fun ts P hP H1 f d hB Q q =>
  h ts P hP H1 f d hB _ fun vs H2 x hx hl f2 d2 hB2 ha => ⟨by rw [hl]; exact hn, fun p hp => q _ _ x hx (f2.trans (Fr.same (same_new hp))) (d2.same (same_new hp)) (hB2.same (same_new hp)) ⟨p, rfl, fr_back f2 hB2.dom hp, vs, upd_same, ha.imp fun _ _ h => a.mono (Fr.same (same_new hp)) (a.ext hp h)⟩⟩
/-! statements -/
theorem lw_asg {R : Rl α} {w : Wp α} {P : α → Prop} {i : Nat} (d : Dom S H) (hB : Bag H b c) (ts : Sub [b, c] S) (h : EvW b c S te σ H R w) (e : w P) (k : ∀ v H1 x, P x → Fr [b, c] H H1 → Dom S H1 → Bag H1 b c → R.r H H1 v x → D.nx (σ.set i (some v)) H1) : tAsg te (gName i) D σ H := h ts P e H (Fr.refl _) d hB _ k
theorem qw_asg {R : Rl α} {w : Wp α} {P : α → Prop} {i : Nat} (d : Dom S H) (hB : Bag H b c) (ts : Sub [b, c] S) (h : EvW b c S te σ H R w) (e : w P) (k : ∀ v H1 x, P x → Fr [b, c] H H1 → Dom S H1 → Bag H1 b c → R.r H H1 v x → u D (σ.set i (some v)) H1) : tSeq (tAsg te (gName i)) u D σ H := h ts P e H (Fr.refl _) d hB _ k
theorem qw_ret {R : Rl α} {w : Wp α} {P : α → Prop} (d : Dom S H) (hB : Bag H b c) (ts : Sub [b, c] S) (h : EvW b c S te σ H R w) (e : w P) (k : ∀ v H1 x, P x → Fr [b, c] H H1 → Dom S H1 → Bag H1 b c → R.r H H1 v x → D.rt v H1) : tRet te D σ H := h ts P e H (Fr.refl _) d hB _ k
theorem lw_if {w : Wp Bool} {P : Bool → Prop} (d : Dom S H) (hB : Bag H b c) (ts : Sub [b, c] S) (h : BvW b c S tt σ H w) (e : w P) (k1 : ∀ H1, P true → Fr [b, c] H H1 → Dom S H1 → Bag H1 b c → t1 D σ H1) (k2 : ∀ H1, P false → Fr [b, c] H H1 → Dom S H1 → Bag H1 b c → t2 D σ H1) : tIfS tt t1 t2 D σ H := h ts P e H (Fr.refl _) d hB _ fun H1 x hx f d hB => by
  cases x with
  | true => exact k1 H1 hx f d hB
  | false => exact k2 H1 hx f d hB
theorem qw_if {w : Wp Bool} {P : Bool → Prop} (d : Dom S H) (hB : Bag H b c) (ts : Sub [b, c] S) (h : BvW b c S tt σ H w) (e : w P) (k1 : ∀ H1, P true → Fr [b, c] H H1 → Dom S H1 → Bag H1 b c → t1 { D with nx := u D } σ H1) (k2 : ∀ H1, P false → Fr [b, c] H H1 → Dom S H1 → Bag H1 b c → t2 { D with nx := u D } σ H1) : tSeq (tIfS tt t1 t2) u D σ H := lw_if (D := { D with nx := u D }) d hB ts h e k1 k2
theorem ifp_t {A B : Prop} (h : if true = true then A else B) : A := h
theorem ifp_f {A B : Prop} (h : if false = true then A else B) : B := h
theorem ifp_and {g : Bool} {A : Prop} (h : if g then A else False) : g = true ∧ A := by
  cases g with
  | true => exact ⟨rfl, h⟩
  | false => exact h.elim
/-! loops -/
def loopW (f : δ → α → Wp (Ct ρ δ)) : List α → δ → Wp (Ct ρ δ)
  | [], s, P => P (.go s)
  | x :: xs, s, P => f s x fun r => match r with | .go s' => loopW f xs s' P | .ret y => P (.ret y)
theorem lw_for_l {tl : TE} {j : Nat} {tb : TS} {r : Option (List α)} {xs : List α} {s0 : δ} {f : δ → α → Wp (Ct ρ δ)} {P : Ct ρ δ → Prop} (d : Dom S H) (hB : Bag H b c) (ts : Sub [b, c] S) (h : Ev S [b, c] tl σ H (of (tL a) S) r) (e : r = some xs) (hf : loopW f xs s0 P)
    (I : δ → St → Hp → Prop) (h0 : ∀ H1, Same H H1 → I s0 σ H1)
    (step : ∀ (s : δ) (x : α) (C : Ct ρ δ → Prop) (v : V) (σ' : St) (H' : Hp), I s σ' H' → a.rp S H' v x → f s x C → (∀ y, C (.ret y) → P (.ret y)) →
      tb { D with nx := fun σ2 H2 => ∃ s', C (.go s') ∧ Fr S H' H2 ∧ I s' σ2 H2, ct := fun σ2 H2 => ∃ s', C (.go s') ∧ Fr S H' H2 ∧ I s' σ2 H2, bk := D.nx } (σ'.set j (some v)) H')
    (done : ∀ s σ' H', P (.go s) → I s σ' H' → D.nx σ' H') : tFor (iList K tl) (gName j) tb D σ H := by
  refine h xs e H (Fr.refl _) d _ fun w H1 s1 hw => ?_
  obtain ⟨p, vs, rfl, hp, ha⟩ := hw
  refine ⟨p, rfl, ⟨vs, hp.sq⟩, fun i m σ' H' => m = vs.length - i ∧ i ≤ vs.length ∧ nL K S H' p vs ∧ All2 (a.rp S H') vs xs ∧ ∃ s, I s σ' H' ∧ loopW f (xs.drop i) s P, ⟨_, rfl, Nat.zero_le _, hp, ha, s0, h0 H1 s1, hf⟩, ?_⟩
  rintro i m σ' H' ⟨rfl, hi, hp', ha', s, hI, hl⟩
  by_cases c : i < vs.length
  · right
    have cx : i < xs.length := by rw [← ha'.len]; exact c
    obtain ⟨v, hv, hvx⟩ := ha'.get i (List.getElem?_eq_getElem cx)
    rw [List.drop_eq_getElem_cons cx] at hl
    simp only [loopW] at hl
    refine ⟨itl_go hp'.sq hv, fun σ2 H2 => ∃ s', loopW f (xs.drop (i + 1)) s' P ∧ Fr S H' H2 ∧ I s' σ2 H2, ?_, ?_⟩
    · rintro σ2 H2 ⟨s', hl', f2, hI'⟩
      exact ⟨vs.length - (i + 1), by omega, rfl, by omega, hp'.mono f2, ha'.imp fun _ _ => a.mono f2, s', hI', hl'⟩
    · rintro x H2 ⟨rfl, hx⟩
      have ex := hx vs hp'.sq
      rw [hv] at ex
      cases ex
      exact step s xs[i] _ v σ' _ hI hvx hl fun y ey => ey
  · left
    have ei : i = vs.length := by omega
    refine ⟨⟨vs, hp'.sq, by omega⟩, ?_⟩
    rw [List.drop_eq_nil_of_le (by rw [← ha'.len]; omega)] at hl
    exact done s σ' H' hl hI
theorem w_for_rng {lo : Int} {n : Nat} {j : Nat} {tb : TS} {s0 : δ} {f : δ → Int → Wp (Ct ρ δ)} {P : Ct ρ δ → Prop} (hf : loopW f (rngL lo n) s0 P)
    (I : δ → St → Hp → Prop) (h0 : I s0 σ H)
    (step : ∀ (s : δ) (x : Int) (C : Ct ρ δ → Prop) (σ' : St) (H' : Hp), I s σ' H' → lo ≤ x → x < lo + n → f s x C → (∀ y, C (.ret y) → P (.ret y)) →
      tb { D with nx := fun σ2 H2 => ∃ s', C (.go s') ∧ Fr S H' H2 ∧ I s' σ2 H2, ct := fun σ2 H2 => ∃ s', C (.go s') ∧ Fr S H' H2 ∧ I s' σ2 H2, bk := D.nx } (σ'.set j (some (.int x))) H')
    (done : ∀ s σ' H', P (.go s) → I s σ' H' → D.nx σ' H') :
    ∃ W : Nat → Nat → St → Hp → Prop, (∃ m, W 0 m σ H) ∧ ∀ i m σ H, W i m σ H →
      ((Itr lo n).stop i H ∧ D.nx σ H) ∨ ((Itr lo n).go i H ∧ ∃ N : St → Hp → Prop, (∀ σ' H', N σ' H' → ∃ m', m' < m ∧ W (i + 1) m' σ' H') ∧ ∀ x H', (Itr lo n).yld i H x H' → gName j x σ H' fun σ2 H2 => tb { D with nx := N, ct := N, bk := D.nx } σ2 H2) := by
  have len : (rngL lo n).length = n := by simp [rngL]
  refine ⟨fun i m σ' H' => m = n - i ∧ i ≤ n ∧ ∃ s, I s σ' H' ∧ loopW f ((rngL lo n).drop i) s P, ⟨_, rfl, Nat.zero_le _, s0, h0, hf⟩, ?_⟩
  rintro i m σ' H' ⟨rfl, hi, s, hI, hl⟩
  by_cases c : i < n
  · right
    have cx : i < (rngL lo n).length := by omega
    have ev : (rngL lo n)[i] = lo + (i : Int) := by simp [rngL]
    rw [List.drop_eq_getElem_cons cx, ev] at hl
    simp only [loopW] at hl
    refine ⟨c, fun σ2 H2 => ∃ s', loopW f ((rngL lo n).drop (i + 1)) s' P ∧ Fr S H' H2 ∧ I s' σ2 H2, ?_, ?_⟩
    · rintro σ2 H2 ⟨s', hl', f2, hI'⟩
      exact ⟨n - (i + 1), by omega, rfl, by omega, s', hI', hl'⟩
    · rintro x H2 ⟨rfl, rfl⟩
      exact step s (lo + (i : Int)) _ σ' _ hI (by omega) (by omega) hl fun y ey => ey
  · left
    refine ⟨by show n ≤ i; omega, ?_⟩
    rw [List.drop_eq_nil_of_le (by omega)] at hl
    exact done s σ' H' hl hI
theorem lw_for_r1 {te : TE} {j : Nat} {tb : TS} {w : Wp Int} {s0 : δ} {f : δ → Int → Wp (Ct ρ δ)} {P : Int → Ct ρ δ → Prop} (d : Dom S H) (hB : Bag H b c) (ts : Sub [b, c] S) (h : EvW b c S te σ H (of (K := K) tInt S) w) (hf : w fun n => if rngP n then loopW f (rngL 0 n.toNat) s0 (P n) else False)
    (I : δ → St → Hp → Prop) (h0 : ∀ H1, Fr [b, c] H H1 → Dom S H1 → Bag H1 b c → I s0 σ H1)
    (step : ∀ (n : Int) (s : δ) (x : Int) (C : Ct ρ δ → Prop) (σ' : St) (H' : Hp), I s σ' H' → 0 ≤ x → x < 0 + (n.toNat : Int) → f s x C → (∀ y, C (.ret y) → P n (.ret y)) →
      tb { D with nx := fun σ2 H2 => ∃ s', C (.go s') ∧ Fr S H' H2 ∧ I s' σ2 H2, ct := fun σ2 H2 => ∃ s', C (.go s') ∧ Fr S H' H2 ∧ I s' σ2 H2, bk := D.nx } (σ'.set j (some (.int x))) H')
    (done : ∀ n s σ' H', P n (.go s) → I s σ' H' → D.nx σ' H') : tFor (iRng1 (tCons te tNil)) (gName j) tb D σ H := by
  refine h ts _ hf H (Fr.refl _) d hB _ fun v H1 n hn f1 d1 hB1 hv => ?_
  cases hv
  obtain ⟨g, hl⟩ := ifp_and hn
  have hb := of_decide_eq_true g
  exact ⟨n, rfl, hb.1, hb.2, w_for_rng hl I (h0 H1 f1 d1 hB1) (step n) (done n)⟩
theorem lw_for_r2 {te tg : TE} {j : Nat} {tb : TS} {r r' : Option Int} {lo n : Int} {s0 : δ} {f : δ → Int → Wp (Ct ρ δ)} {P : Ct ρ δ → Prop} (d : Dom S H) (hB : Bag H b c) (ts : Sub [b, c] S) (h : Ev S [b, c] te σ H (of (K := K) tInt S) r) (e : r = some lo) (h' : Ev S [b, c] tg σ H (of (K := K) tInt S) r') (e' : r' = some n) (hl : rngP lo = true) (hn : rngP n = true) (hf : loopW f (rngL lo (n - lo).toNat) s0 P)
    (I : δ → St → Hp → Prop) (h0 : ∀ H1, Same H H1 → I s0 σ H1)
    (step : ∀ (s : δ) (x : Int) (C : Ct ρ δ → Prop) (σ' : St) (H' : Hp), I s σ' H' → lo ≤ x → x < lo + ((n - lo).toNat : Int) → f s x C → (∀ y, C (.ret y) → P (.ret y)) →
      tb { D with nx := fun σ2 H2 => ∃ s', C (.go s') ∧ Fr S H' H2 ∧ I s' σ2 H2, ct := fun σ2 H2 => ∃ s', C (.go s') ∧ Fr S H' H2 ∧ I s' σ2 H2, bk := D.nx } (σ'.set j (some (.int x))) H')
    (done : ∀ s σ' H', P (.go s) → I s σ' H' → D.nx σ' H') : tFor (iRng2 (tCons te (tCons tg tNil))) (gName j) tb D σ H := by
  refine h lo e H (Fr.refl _) d _ fun w H1 s1 hw => h' n e' H1 (Fr.same s1) (d.same s1) _ fun w' H2 s2 hw' => ?_
  cases hw
  cases hw'
  have hb := of_decide_eq_true hn
  have hc := of_decide_eq_true hl
  exact ⟨lo, n, rfl, ⟨hc.1, hc.2, hb.1, hb.2⟩, w_for_rng hf I (h0 H2 (s1.trans s2)) step done⟩
theorem _root_.G.Bag.mut {p : Addr} {H H' : Hp} (h : Bag H b c) (m : Mut1 p H H') (n : p ∉ [b, c]) : Bag H' b c := by
  obtain ⟨ne, ns, sl, sd, h1, h2, r⟩ := h
  simp only [List.mem_cons, List.not_mem_nil, or_false, not_or] at n
  exact ⟨ne, ns, sl, sd, m.k _ _ h1 (Ne.symm n.1), m.k _ _ h2 (Ne.symm n.2), r⟩
def jn (f : (δ → Prop) → Prop) (k : δ → Prop) : Prop := f k
theorem jn_open {f : (δ → Prop) → Prop} {k : δ → Prop} (h : jn f k) : ∃ K_ : δ → Prop, (∀ j, K_ j → k j) ∧ f K_ := ⟨k, fun _ h => h, h⟩
theorem qw_for_l {tl : TE} {j : Nat} {tb : TS} {r : Option (List α)} {xs : List α} {s0 : δ} {f : δ → α → Wp (Ct ρ δ)} {P : Ct ρ δ → Prop} (d : Dom S H) (hB : Bag H b c) (ts : Sub [b, c] S) (h : Ev S [b, c] tl σ H (of (tL a) S) r) (e : r = some xs) (hf : loopW f xs s0 P)
    (I : δ → St → Hp → Prop) (h0 : ∀ H1, Same H H1 → I s0 σ H1)
    (step : ∀ (s : δ) (x : α) (C : Ct ρ δ → Prop) (v : V) (σ' : St) (H' : Hp), I s σ' H' → a.rp S H' v x → f s x C → (∀ y, C (.ret y) → P (.ret y)) →
      tb { D with nx := fun σ2 H2 => ∃ s', C (.go s') ∧ Fr S H' H2 ∧ I s' σ2 H2, ct := fun σ2 H2 => ∃ s', C (.go s') ∧ Fr S H' H2 ∧ I s' σ2 H2, bk := u D } (σ'.set j (some v)) H')
    (done : ∀ s σ' H', P (.go s) → I s σ' H' → u D σ' H') : tSeq (tFor (iList K tl) (gName j) tb) u D σ H := lw_for_l (D := { D with nx := u D }) d hB ts h e hf I h0 step done
theorem qw_for_r1 {te : TE} {j : Nat} {tb : TS} {w : Wp Int} {s0 : δ} {f : δ → Int → Wp (Ct ρ δ)} {P : Int → Ct ρ δ → Prop} (d : Dom S H) (hB : Bag H b c) (ts : Sub [b, c] S) (h : EvW b c S te σ H (of (K := K) tInt S) w) (hf : w fun n => if rngP n then loopW f (rngL 0 n.toNat) s0 (P n) else False)
    (I : δ → St → Hp → Prop) (h0 : ∀ H1, Fr [b, c] H H1 → Dom S H1 → Bag H1 b c → I s0 σ H1)
    (step : ∀ (n : Int) (s : δ) (x : Int) (C : Ct ρ δ → Prop) (σ' : St) (H' : Hp), I s σ' H' → 0 ≤ x → x < 0 + (n.toNat : Int) → f s x C → (∀ y, C (.ret y) → P n (.ret y)) →
      tb { D with nx := fun σ2 H2 => ∃ s', C (.go s') ∧ Fr S H' H2 ∧ I s' σ2 H2, ct := fun σ2 H2 => ∃ s', C (.go s') ∧ Fr S H' H2 ∧ I s' σ2 H2, bk := u D } (σ'.set j (some (.int x))) H')
    (done : ∀ n s σ' H', P n (.go s) → I s σ' H' → u D σ' H') : tSeq (tFor (iRng1 (tCons te tNil)) (gName j) tb) u D σ H := lw_for_r1 (D := { D with nx := u D }) d hB ts h hf I h0 step done
theorem qw_for_r2 {te tg : TE} {j : Nat} {tb : TS} {r r' : Option Int} {lo n : Int} {s0 : δ} {f : δ → Int → Wp (Ct ρ δ)} {P : Ct ρ δ → Prop} (d : Dom S H) (hB : Bag H b c) (ts : Sub [b, c] S) (h : Ev S [b, c] te σ H (of (K := K) tInt S) r) (e : r = some lo) (h' : Ev S [b, c] tg σ H (of (K := K) tInt S) r') (e' : r' = some n) (hl : rngP lo = true) (hn : rngP n = true) (hf : loopW f (rngL lo (n - lo).toNat) s0 P)
    (I : δ → St → Hp → Prop) (h0 : ∀ H1, Same H H1 → I s0 σ H1)
    (step : ∀ (s : δ) (x : Int) (C : Ct ρ δ → Prop) (σ' : St) (H' : Hp), I s σ' H' → lo ≤ x → x < lo + ((n - lo).toNat : Int) → f s x C → (∀ y, C (.ret y) → P (.ret y)) →
      tb { D with nx := fun σ2 H2 => ∃ s', C (.go s') ∧ Fr S H' H2 ∧ I s' σ2 H2, ct := fun σ2 H2 => ∃ s', C (.go s') ∧ Fr S H' H2 ∧ I s' σ2 H2, bk := u D } (σ'.set j (some (.int x))) H')
    (done : ∀ s σ' H', P (.go s) → I s σ' H' → u D σ' H') : tSeq (tFor (iRng2 (tCons te (tCons tg tNil))) (gName j) tb) u D σ H := lw_for_r2 (D := { D with nx := u D }) d hB ts h e h' e' hl hn hf I h0 step done
/-! owned lists read -/
theorem ev_ownIx {p : Addr} {xs : List α} {i : Nat} {r : Option Int} (o : Own a S H p xs) (nt : p ∉ T) (ts : Sub T S) (hi : σ[i]? = some (some (.ref p))) (h : Ev S T te σ H (of (K := K) tInt S) r) : Ev S T (tOp (rIxL K) (tVar i) te) σ H (of a S) (bd r fun y => atI xs y) := by
  intro z e H1 f1 d Q q
  obtain ⟨y, ey, e⟩ := bd_some e
  refine ⟨_, hi, h y ey H1 f1 d _ fun v H2 s2 hv => ?_⟩
  cases hv
  obtain ⟨vs, hvs, ha⟩ := (o.fr f1 ts nt).same s2
  obtain ⟨w, hw, hz⟩ := ha.at e
  exact ⟨p, vs, y, w, rfl, rfl, .inl (.inl hvs), hw, q _ _ s2 hz⟩
theorem ev_ownLen {p : Addr} {xs : List α} {i : Nat} (o : Own a S H p xs) (nt : p ∉ T) (ts : Sub T S) (hi : σ[i]? = some (some (.ref p))) : Ev S T (tCB (fun xs H Q => ∃ p ys, xs = [.ref p] ∧ (SqL K H p ys ∨ SqT K H p ys) ∧ Q (.int ys.length) H) (tCons (tVar i) tNil)) σ H (of (K := K) tInt S) (some (xs.length : Int)) := by
  intro z e H1 f1 d Q q
  cases e
  obtain ⟨vs, hvs, ha⟩ := o.fr f1 ts nt
  exact ⟨_, hi, p, vs, rfl, .inl (.inl (.inl hvs)), q _ _ (Same.refl _) (by show V.int _ = V.int _; rw [ha.len])⟩
theorem ev_ownNe [DecidableEq α] (dt : TyD a) (hd : (dL dt).dep ≤ 64) {p : Addr} {xs : List α} {i : Nat} {r : Option (List α)} (o : Own a S H p xs) (nt : p ∉ T) (ts : Sub T S) (hi : σ[i]? = some (some (.ref p))) (h : Ev S T te σ H (of (tL a) S) r) : Ev S T (tOp (rNeD K) (tVar i) te) σ H (of (K := K) tBool S) (bd r fun y => some (!decide (xs = y))) := by
  intro z e H1 f1 d Q q
  obtain ⟨y, ey, e⟩ := bd_some e
  cases e
  refine ⟨_, hi, h y ey H1 f1 d _ fun v H2 s2 hv => ?_⟩
  obtain ⟨vs, hvs, ha⟩ := (o.fr f1 ts nt).same s2
  have rp0 : (tL a).rp [] H2 (.ref p) xs := ⟨p, vs, rfl, .inl ⟨.inl hvs, by simp⟩, ha.imp fun _ _ => a.sub fun _ m => by simp at m⟩
  refine ⟨_, _, (dL dt).dp rp0, (dL dt).dp hv, (dL dt).shaped hd rp0, (dL dt).shaped hd hv, ?_⟩
  rw [(dL dt).dec]
  exact q _ _ s2 rfl
end
end M

namespace M
open PySem L2 G
section
variable {K : PySem.W.Frag} {α β γ δ ε ρ : Type} {S T : AS} {σ : St} {H : Hp} {ta tb te tc td : TE} {tt tu : TT} {a : Ty K α} {b' : Ty K β} {c' : Ty K γ} {d' : Ty K δ} {D : Ends} {u t1 t2 : TS} {b c : Addr}
/-! ### None or a thing -/
def optM (o : Option α) (A : β) (B : α → β) : β := match o with | none => A | some x => B x
theorem opt_cases {o : Option α} {A : Option β} {B : α → Option β} {y : β} (h : optM o A B = some y) : (o = none ∧ A = some y) ∨ ∃ x, o = some x ∧ B x = some y := by
  cases o with
  | none => exact .inl ⟨rfl, h⟩
  | some x => exact .inr ⟨x, rfl, h⟩
theorem optp_cases {o : Option α} {A : Prop} {B : α → Prop} (h : optM o A B) : (o = none ∧ A) ∨ ∃ x, o = some x ∧ B x := by
  cases o with
  | none => exact .inl ⟨rfl, h⟩
  | some x => exact .inr ⟨x, rfl, h⟩
/-- a code whose things are never None -/
class NN (a : Ty K α) : Prop where
  h : ∀ {S H v x}, a.rp S H v x → v ≠ .non
instance : NN (K := K) tInt := ⟨fun h => by rw [show _ = _ from h]; intro z; cases z⟩
instance : NN (K := K) tBool := ⟨fun h => by rw [show _ = _ from h]; intro z; cases z⟩
instance : NN (K := K) tStr := ⟨fun h => by rw [h.1]; intro z; cases z⟩
instance : NN (K := K) tRat := ⟨fun ⟨p, e, _⟩ => by rw [e]; intro z; cases z⟩
instance : NN (tT2 a b') := ⟨fun ⟨p, u, w, e, _⟩ => by rw [e]; intro z; cases z⟩
instance : NN (tL a) := ⟨fun ⟨p, u, e, _⟩ => by rw [e]; intro z; cases z⟩
instance : NN (tTs a) := ⟨fun ⟨p, u, e, _⟩ => by rw [e]; intro z; cases z⟩
theorem ev_oN {r : Option Unit} (h : Ev S T te σ H (of (K := K) tNone S) r) : Ev S T te σ H (of (tOpt a) S) (bd r fun _ => some none) := ev_as h fun x y e H1 H2 v d hv => by
  cases e
  exact hv
theorem ev_oS [NN a] {r : Option α} (h : Ev S T te σ H (of a S) r) : Ev S T te σ H (of (tOpt a) S) (bd r fun x => some (some x)) := ev_as h fun x y e H1 H2 v d hv => by
  cases e
  exact ⟨NN.h hv, hv⟩
theorem eb_isN (ts : Sub T S) {i : Nat} {v : V} {x : Option α} (h : (tOpt a).rp S H v x) (e : σ[i]? = some (some v)) : EvB S T (tTest (tOp (fun x y H Q => y = .non ∧ Q (.bl (decide (x = .non))) H) (tVar i) (tC .non))) σ H (some x.isNone) := by
  intro z ez H1 f d Q q
  cases ez
  refine ⟨v, e, rfl, _, rfl, ?_⟩
  cases x with
  | none => rw [show v = .non from h]; exact q H1 (Same.refl _)
  | some y => rw [decide_eq_false h.1]; exact q H1 (Same.refl _)
theorem eb_notN (ts : Sub T S) {i : Nat} {v : V} {x : Option α} (h : (tOpt a).rp S H v x) (e : σ[i]? = some (some v)) : EvB S T (tTest (tOp (fun x y H Q => y = .non ∧ Q (.bl (!decide (x = .non))) H) (tVar i) (tC .non))) σ H (some x.isSome) := by
  intro z ez H1 f d Q q
  cases ez
  refine ⟨v, e, rfl, _, rfl, ?_⟩
  cases x with
  | none => rw [show v = .non from h]; exact q H1 (Same.refl _)
  | some y => rw [decide_eq_false h.1]; exact q H1 (Same.refl _)
theorem opt_is {v : V} {x : Option α} {y : α} (h : (tOpt a).rp S H v x) (e : x = some y) : a.rp S H v y := by
  subst e
  exact h.2
theorem opt_back [NN a] {v : V} {x : Option α} {y : α} (h : a.rp S H v y) (e : x = some y) : (tOpt a).rp S H v x := by
  subst e
  exact ⟨NN.h h, h⟩
/-! ### tuples of four -/
def tT4 (c1 : Ty K α) (c2 : Ty K β) (c3 : Ty K γ) (c4 : Ty K δ) : Ty K (α × β × γ × δ) where
  rp S H v x := ∃ a u1 u2 u3 u4, v = .ref a ∧ nT K S H a [u1, u2, u3, u4] ∧ c1.rp S H u1 x.1 ∧ c2.rp S H u2 x.2.1 ∧ c3.rp S H u3 x.2.2.1 ∧ c4.rp S H u4 x.2.2.2
  mono f := fun ⟨a, u1, u2, u3, u4, e, h, h1, h2, h3, h4⟩ => ⟨a, u1, u2, u3, u4, e, h.mono f, c1.mono f h1, c2.mono f h2, c3.mono f h3, c4.mono f h4⟩
  ext f := fun ⟨a, u1, u2, u3, u4, e, h, h1, h2, h3, h4⟩ => ⟨a, u1, u2, u3, u4, e, h.ext f, c1.ext f h1, c2.ext f h2, c3.ext f h3, c4.ext f h4⟩
  sub f := fun ⟨a, u1, u2, u3, u4, e, h, h1, h2, h3, h4⟩ => ⟨a, u1, u2, u3, u4, e, h.sub f, c1.sub f h1, c2.sub f h2, c3.sub f h3, c4.sub f h4⟩
theorem ev_tup4 {ra : Option α} {rb : Option β} {rc : Option γ} {rd : Option δ} (ha : Ev S T ta σ H (of a S) ra) (hb : Ev S T tb σ H (of b' S) rb) (hc : Ev S T tc σ H (of c' S) rc) (hd : Ev S T td σ H (of d' S) rd) :
    Ev S T (tTup (tCons ta (tCons tb (tCons tc (tCons td tNil))))) σ H (of (tT4 a b' c' d') S) (bd ra fun x => bd rb fun y => bd rc fun z => bd rd fun w => some (x, y, z, w)) := by
  intro z e H1 f1 d Q q
  obtain ⟨x, ex, e⟩ := bd_some e
  obtain ⟨y, ey, e⟩ := bd_some e
  obtain ⟨z3, ez, e⟩ := bd_some e
  obtain ⟨w4, ew, e⟩ := bd_some e
  cases e
  refine ha x ex H1 f1 d _ fun v1 H2 s2 h1 => hb y ey H2 (f1.trans (Fr.same s2)) (d.same s2) _ fun v2 H3 s3 h2 => hc z3 ez H3 (f1.trans (Fr.same (s2.trans s3))) (d.same (s2.trans s3)) _ fun v3 H4 s4 h3 => hd w4 ew H4 (f1.trans (Fr.same ((s2.trans s3).trans s4))) (d.same ((s2.trans s3).trans s4)) _ fun v4 H5 s5 h4 => ⟨(by show 4 ≤ sizeLine; decide), fun p hp => ?_⟩
  have sn := same_new (o := .tup [v1, v2, v3, v4]) hp
  have dd := d.same (((s2.trans s3).trans s4).trans s5)
  exact q _ _ ((((s2.trans s3).trans s4).trans s5).trans sn) ⟨p, v1, v2, v3, v4, rfl, .inl ⟨.inl upd_same, dd.not_mem hp⟩, a.mono (Fr.same (((s3.trans s4).trans s5).trans sn)) h1, b'.mono (Fr.same ((s4.trans s5).trans sn)) h2, c'.mono (Fr.same (s5.trans sn)) h3, d'.mono (Fr.same sn) h4⟩
/-! a, b = e -/
theorem q_unp2 {i j : Nat} {r : Option (α × β)} {x : α × β} (d : Dom S H) (h : Ev S T te σ H (of (tT2 a b') S) r) (e : r = some x) (k : ∀ v w H1, Same H H1 → a.rp S H1 v x.1 → b'.rp S H1 w x.2 → u D ((σ.set i (some v)).set j (some w)) H1) :
    tSeq (tAsg te (gTup K 2 (gCons (gName i) (gCons (gName j) gNil)))) u D σ H := h x e H (Fr.refl _) d _ fun v H1 s1 ⟨p, u1, u2, ev, hp, h1, h2⟩ => ⟨p, _, ev, hp.sq, rfl, u1, _, rfl, u2, _, rfl, rfl, k u1 u2 H1 s1 h1 h2⟩
theorem q_unp4 {i j l m : Nat} {r : Option (α × β × γ × δ)} {x : α × β × γ × δ} (d : Dom S H) (h : Ev S T te σ H (of (tT4 a b' c' d') S) r) (e : r = some x) (k : ∀ v1 v2 v3 v4 H1, Same H H1 → a.rp S H1 v1 x.1 → b'.rp S H1 v2 x.2.1 → c'.rp S H1 v3 x.2.2.1 → d'.rp S H1 v4 x.2.2.2 → u D ((((σ.set i (some v1)).set j (some v2)).set l (some v3)).set m (some v4)) H1) :
    tSeq (tAsg te (gTup K 4 (gCons (gName i) (gCons (gName j) (gCons (gName l) (gCons (gName m) gNil)))))) u D σ H := h x e H (Fr.refl _) d _ fun v H1 s1 ⟨p, u1, u2, u3, u4, ev, hp, h1, h2, h3, h4⟩ => ⟨p, _, ev, hp.sq, rfl, u1, _, rfl, u2, _, rfl, u3, _, rfl, u4, _, rfl, rfl, k u1 u2 u3 u4 H1 s1 h1 h2 h3 h4⟩
theorem ev_revL {r : Option (List α)} (h : Ev S T te σ H (of (tL a) S) r) : Ev S T (tRevL K te) σ H (nw a S) (bd r fun x => some x.reverse) := by
  intro z e H1 f1 d Q q
  obtain ⟨x, ex, e⟩ := bd_some e
  cases e
  refine h x ex H1 f1 d _ fun v H2 s2 hv => ?_
  obtain ⟨p, vs, rfl, hp, ha⟩ := hv
  have hr : ∀ {vs : List V} {xs : List α}, All2 (a.rp S H2) vs xs → All2 (a.rp S H2) vs.reverse xs.reverse := fun {vs xs} h => by
    induction h with
    | nil => exact .nil
    | cons h _ ih => rw [List.reverse_cons, List.reverse_cons]; exact ih.snoc h
  exact ⟨p, vs, rfl, hp.sq, fun l hl => q _ _ (s2.trans (same_new hl)) ⟨l, rfl, s2.free hl, _, upd_same, (hr ha).imp fun _ _ h => a.mono (Fr.same (same_new hl)) (a.ext hl h)⟩⟩
end
end M

namespace G
open PySem L2 M

def top (i : Nat) : Stmt := PySem.Challenge.pw_gromatic_k24_pieces_cut_by_boxes.main.body.getD i (.Pass ⟨0, 0, 0, 0⟩)
abbrev s_greatest_common : Stmt := top 5
abbrev n_greatest_common : List Str := ["one", "other"]
abbrev p_greatest_common : List Str := ["one", "other"]
theorem sc_greatest_common : FnScope n_greatest_common p_greatest_common (defScope s_greatest_common) := ⟨rfl, rfl, rfl, by decide +kernel, rfl, by decide +kernel, by decide +kernel⟩
abbrev s_ratio : Stmt := top 6
abbrev n_ratio : List Str := ["over", "under", "common"]
abbrev p_ratio : List Str := ["over", "under"]
theorem sc_ratio : FnScope n_ratio p_ratio (defScope s_ratio) := ⟨rfl, rfl, rfl, by decide +kernel, rfl, by decide +kernel, by decide +kernel⟩
abbrev s_plus : Stmt := top 7
abbrev n_plus : List Str := ["one", "other"]
abbrev p_plus : List Str := ["one", "other"]
theorem sc_plus : FnScope n_plus p_plus (defScope s_plus) := ⟨rfl, rfl, rfl, by decide +kernel, rfl, by decide +kernel, by decide +kernel⟩
abbrev s_minus : Stmt := top 8
abbrev n_minus : List Str := ["one", "other"]
abbrev p_minus : List Str := ["one", "other"]
theorem sc_minus : FnScope n_minus p_minus (defScope s_minus) := ⟨rfl, rfl, rfl, by decide +kernel, rfl, by decide +kernel, by decide +kernel⟩
abbrev s_times : Stmt := top 9
abbrev n_times : List Str := ["one", "other"]
abbrev p_times : List Str := ["one", "other"]
theorem sc_times : FnScope n_times p_times (defScope s_times) := ⟨rfl, rfl, rfl, by decide +kernel, rfl, by decide +kernel, by decide +kernel⟩
abbrev s_divided : Stmt := top 10
abbrev n_divided : List Str := ["one", "other"]
abbrev p_divided : List Str := ["one", "other"]
theorem sc_divided : FnScope n_divided p_divided (defScope s_divided) := ⟨rfl, rfl, rfl, by decide +kernel, rfl, by decide +kernel, by decide +kernel⟩
abbrev s_order : Stmt := top 11
abbrev n_order : List Str := ["one", "other", "gap"]
abbrev p_order : List Str := ["one", "other"]
theorem sc_order : FnScope n_order p_order (defScope s_order) := ⟨rfl, rfl, rfl, by decide +kernel, rfl, by decide +kernel, by decide +kernel⟩
abbrev s_lesser : Stmt := top 12
abbrev n_lesser : List Str := ["one", "other"]
abbrev p_lesser : List Str := ["one", "other"]
theorem sc_lesser : FnScope n_lesser p_lesser (defScope s_lesser) := ⟨rfl, rfl, rfl, by decide +kernel, rfl, by decide +kernel, by decide +kernel⟩
abbrev s_greater : Stmt := top 13
abbrev n_greater : List Str := ["one", "other"]
abbrev p_greater : List Str := ["one", "other"]
theorem sc_greater : FnScope n_greater p_greater (defScope s_greater) := ⟨rfl, rfl, rfl, by decide +kernel, rfl, by decide +kernel, by decide +kernel⟩
abbrev s_spot_of : Stmt := top 14
abbrev n_spot_of : List Str := ["pair"]
abbrev p_spot_of : List Str := ["pair"]
theorem sc_spot_of : FnScope n_spot_of p_spot_of (defScope s_spot_of) := ⟨rfl, rfl, rfl, by decide +kernel, rfl, by decide +kernel, by decide +kernel⟩
abbrev s_between : Stmt := top 15
abbrev n_between : List Str := ["start", "end", "share"]
abbrev p_between : List Str := ["start", "end", "share"]
theorem sc_between : FnScope n_between p_between (defScope s_between) := ⟨rfl, rfl, rfl, by decide +kernel, rfl, by decide +kernel, by decide +kernel⟩
abbrev s_narrowed : Stmt := top 17
abbrev n_narrowed : List Str := ["span", "start", "end", "low", "high", "way", "shares", "first", "last"]
abbrev p_narrowed : List Str := ["span", "start", "end", "low", "high"]
theorem sc_narrowed : FnScope n_narrowed p_narrowed (defScope s_narrowed) := ⟨rfl, rfl, rfl, by decide +kernel, rfl, by decide +kernel, by decide +kernel⟩
abbrev s_tile_box : Stmt := top 19
abbrev n_tile_box : List Str := ["key", "side", "a", "b"]
abbrev p_tile_box : List Str := ["key", "side"]
theorem sc_tile_box : FnScope n_tile_box p_tile_box (defScope s_tile_box) := ⟨rfl, rfl, rfl, by decide +kernel, rfl, by decide +kernel, by decide +kernel⟩
abbrev s_cut : Stmt := top 20
abbrev n_cut : List Str := ["one", "other", "box", "left", "low", "right", "top", "start", "end", "span"]
abbrev p_cut : List Str := ["one", "other", "box"]
theorem sc_cut : FnScope n_cut p_cut (defScope s_cut) := ⟨rfl, rfl, rfl, by decide +kernel, rfl, by decide +kernel, by decide +kernel⟩
abbrev s_law_bag : Stmt := top 22
abbrev n_law_bag : List Str := ["_law_script"]
abbrev p_law_bag : List Str := ["_law_script"]
theorem sc_law_bag : FnScope n_law_bag p_law_bag (defScope s_law_bag) := ⟨rfl, rfl, rfl, by decide +kernel, rfl, by decide +kernel, by decide +kernel⟩
abbrev s_law_draw : Stmt := top 23
abbrev n_law_draw : List Str := ["_law_bag_here", "_law_many", "_law_cells", "_law_slot", "_law_cell", "_law_seed"]
abbrev p_law_draw : List Str := ["_law_bag_here", "_law_many"]
theorem sc_law_draw : FnScope n_law_draw p_law_draw (defScope s_law_draw) := ⟨rfl, rfl, rfl, by decide +kernel, rfl, by decide +kernel, by decide +kernel⟩
abbrev s_law_whole : Stmt := top 24
abbrev n_law_whole : List Str := ["_law_found"]
abbrev p_law_whole : List Str := ["_law_found"]
theorem sc_law_whole : FnScope n_law_whole p_law_whole (defScope s_law_whole) := ⟨rfl, rfl, rfl, by decide +kernel, rfl, by decide +kernel, by decide +kernel⟩
abbrev s_law_same : Stmt := top 25
abbrev n_law_same : List Str := ["_law_found", "_law_due", "_law_name", "_law_k"]
abbrev p_law_same : List Str := ["_law_found", "_law_due"]
theorem sc_law_same : FnScope n_law_same p_law_same (defScope s_law_same) := ⟨rfl, rfl, rfl, by decide +kernel, rfl, by decide +kernel, by decide +kernel⟩
abbrev s_law_any : Stmt := top 26
abbrev n_law_any : List Str := ["_law_bag_here", "_law_some"]
abbrev p_law_any : List Str := ["_law_bag_here", "_law_some"]
theorem sc_law_any : FnScope n_law_any p_law_any (defScope s_law_any) := ⟨rfl, rfl, rfl, by decide +kernel, rfl, by decide +kernel, by decide +kernel⟩
abbrev s_law_rat : Stmt := top 27
abbrev n_law_rat : List Str := ["_law_over", "_law_under", "_law_one", "_law_two"]
abbrev p_law_rat : List Str := ["_law_over", "_law_under"]
theorem sc_law_rat : FnScope n_law_rat p_law_rat (defScope s_law_rat) := ⟨rfl, rfl, rfl, by decide +kernel, rfl, by decide +kernel, by decide +kernel⟩
abbrev s_law_sum : Stmt := top 28
abbrev n_law_sum : List Str := ["_law_one", "_law_two"]
abbrev p_law_sum : List Str := ["_law_one", "_law_two"]
theorem sc_law_sum : FnScope n_law_sum p_law_sum (defScope s_law_sum) := ⟨rfl, rfl, rfl, by decide +kernel, rfl, by decide +kernel, by decide +kernel⟩
abbrev s_law_dif : Stmt := top 29
abbrev n_law_dif : List Str := ["_law_one", "_law_two"]
abbrev p_law_dif : List Str := ["_law_one", "_law_two"]
theorem sc_law_dif : FnScope n_law_dif p_law_dif (defScope s_law_dif) := ⟨rfl, rfl, rfl, by decide +kernel, rfl, by decide +kernel, by decide +kernel⟩
abbrev s_law_prod : Stmt := top 30
abbrev n_law_prod : List Str := ["_law_one", "_law_two"]
abbrev p_law_prod : List Str := ["_law_one", "_law_two"]
theorem sc_law_prod : FnScope n_law_prod p_law_prod (defScope s_law_prod) := ⟨rfl, rfl, rfl, by decide +kernel, rfl, by decide +kernel, by decide +kernel⟩
abbrev s_law_quo : Stmt := top 31
abbrev n_law_quo : List Str := ["_law_one", "_law_two"]
abbrev p_law_quo : List Str := ["_law_one", "_law_two"]
theorem sc_law_quo : FnScope n_law_quo p_law_quo (defScope s_law_quo) := ⟨rfl, rfl, rfl, by decide +kernel, rfl, by decide +kernel, by decide +kernel⟩
abbrev s_law_comp : Stmt := top 32
abbrev n_law_comp : List Str := ["_law_one", "_law_two"]
abbrev p_law_comp : List Str := ["_law_one", "_law_two"]
theorem sc_law_comp : FnScope n_law_comp p_law_comp (defScope s_law_comp) := ⟨rfl, rfl, rfl, by decide +kernel, rfl, by decide +kernel, by decide +kernel⟩
abbrev s_law_on : Stmt := top 33
abbrev n_law_on : List Str := ["_law_one", "_law_two", "_law_part", "_law_x"]
abbrev p_law_on : List Str := ["_law_one", "_law_two", "_law_part"]
theorem sc_law_on : FnScope n_law_on p_law_on (defScope s_law_on) := ⟨rfl, rfl, rfl, by decide +kernel, rfl, by decide +kernel, by decide +kernel⟩
abbrev s_law_span : Stmt := top 34
abbrev n_law_span : List Str := ["_law_bits", "_law_start", "_law_far", "_law_low", "_law_high", "_law_good", "_law_ends", "_law_first", "_law_last"]
abbrev p_law_span : List Str := ["_law_bits", "_law_start", "_law_far", "_law_low", "_law_high"]
theorem sc_law_span : FnScope n_law_span p_law_span (defScope s_law_span) := ⟨rfl, rfl, rfl, by decide +kernel, rfl, by decide +kernel, by decide +kernel⟩
abbrev s_law_clip : Stmt := top 35
abbrev n_law_clip : List Str := ["_law_one", "_law_two", "_law_low", "_law_high", "_law_bits", "_law_k"]
abbrev p_law_clip : List Str := ["_law_one", "_law_two", "_law_low", "_law_high"]
theorem sc_law_clip : FnScope n_law_clip p_law_clip (defScope s_law_clip) := ⟨rfl, rfl, rfl, by decide +kernel, rfl, by decide +kernel, by decide +kernel⟩
abbrev s_law : Stmt := top 36
abbrev n_law : List Str := ["_law_script", "_law_bag_here", "_law_good", "_law_turn", "_law_reach", "_law_one", "_law_two", "_law_low", "_law_high", "_law_spots", "_law_bits", "_law_due", "_law_found", "_law_ab", "_law_wide", "_law_box", "_law_pair"]
abbrev p_law : List Str := ["_law_script"]
theorem sc_law : FnScope n_law p_law (defScope s_law) := ⟨rfl, rfl, rfl, by decide +kernel, rfl, by decide +kernel, by decide +kernel⟩
structure Bt (mg : Str → Option Value) : Prop where
  len_ : mg "len" = none
  list_ : mg "list" = none
  abs_ : mg "abs" = none
  isinstance_ : mg "isinstance" = none
  int_ : mg "int" = none
  bool_ : mg "bool" = none
  str_ : mg "str" = none
  dict_ : mg "dict" = none
  tuple_ : mg "tuple" = none
  all_ : mg "all" = none
  range_ : mg "range" = none
  sorted_ : mg "sorted" = none
structure At (K : PySem.W.Frag) (mg : Str → Option Value) (name : String) (st : Stmt) (ps : List Str) (f : Addr) (fd : FuncData) : Prop where
  F : Fun K (Str.ofString name) (Str.ofString name) st f fd
  b : Binds K fd ps []
  m : mg (Str.ofString name) = some (.ref f)
structure AtM (K : PySem.W.Frag) (C : Addr) (name qual : String) (st : Stmt) (ps : List Str) (f : Addr) (fd : FuncData) : Prop where
  F : Fun K (Str.ofString name) (Str.ofString qual) st f fd
  b : Binds K fd ps []
  me : Meth K C (Str.ofString name) f
structure NoR (K : PySem.W.Frag) (mg : Str → Option Value) (C : Addr) : Prop where
  g : mg "NoRatio" = some (.ref C)
  x : PySem.W.excIn K C [.type "ZeroDivisionError", .type "ArithmeticError", .type "Exception", .type "BaseException", .type "object"] "ZeroDivisionError.__new__" = true
  k : PySem.W.keepIn K (.ref C) = true
  b : PySem.W.subIn K (.ref C) (.type "BaseException") = some true
  t : PySem.W.typeIn K (.ref C) = some (.type "type")
  te : PySem.W.exmOne K (.ref C) (.ref C) = some true
structure Env (K : PySem.W.Frag) (mg : Str → Option Value) where
  f_greatest_common : Addr
  d_greatest_common : FuncData
  f_ratio : Addr
  d_ratio : FuncData
  f_plus : Addr
  d_plus : FuncData
  f_minus : Addr
  d_minus : FuncData
  f_times : Addr
  d_times : FuncData
  f_divided : Addr
  d_divided : FuncData
  f_order : Addr
  d_order : FuncData
  f_lesser : Addr
  d_lesser : FuncData
  f_greater : Addr
  d_greater : FuncData
  f_spot_of : Addr
  d_spot_of : FuncData
  f_between : Addr
  d_between : FuncData
  f_narrowed : Addr
  d_narrowed : FuncData
  f_tile_box : Addr
  d_tile_box : FuncData
  f_cut : Addr
  d_cut : FuncData
  f_law_bag : Addr
  d_law_bag : FuncData
  f_law_draw : Addr
  d_law_draw : FuncData
  f_law_whole : Addr
  d_law_whole : FuncData
  f_law_same : Addr
  d_law_same : FuncData
  f_law_any : Addr
  d_law_any : FuncData
  f_law_rat : Addr
  d_law_rat : FuncData
  f_law_sum : Addr
  d_law_sum : FuncData
  f_law_dif : Addr
  d_law_dif : FuncData
  f_law_prod : Addr
  d_law_prod : FuncData
  f_law_quo : Addr
  d_law_quo : FuncData
  f_law_comp : Addr
  d_law_comp : FuncData
  f_law_on : Addr
  d_law_on : FuncData
  f_law_span : Addr
  d_law_span : FuncData
  f_law_clip : Addr
  d_law_clip : FuncData
  f_law : Addr
  d_law : FuncData
  C_NoRatio : Addr
  a_NOUGHT : Addr
  a_ONE : Addr
  A_greatest_common : At K mg "greatest_common" s_greatest_common p_greatest_common f_greatest_common d_greatest_common
  A_ratio : At K mg "ratio" s_ratio p_ratio f_ratio d_ratio
  A_plus : At K mg "plus" s_plus p_plus f_plus d_plus
  A_minus : At K mg "minus" s_minus p_minus f_minus d_minus
  A_times : At K mg "times" s_times p_times f_times d_times
  A_divided : At K mg "divided" s_divided p_divided f_divided d_divided
  A_order : At K mg "order" s_order p_order f_order d_order
  A_lesser : At K mg "lesser" s_lesser p_lesser f_lesser d_lesser
  A_greater : At K mg "greater" s_greater p_greater f_greater d_greater
  A_spot_of : At K mg "spot_of" s_spot_of p_spot_of f_spot_of d_spot_of
  A_between : At K mg "between" s_between p_between f_between d_between
  A_narrowed : At K mg "narrowed" s_narrowed p_narrowed f_narrowed d_narrowed
  A_tile_box : At K mg "tile_box" s_tile_box p_tile_box f_tile_box d_tile_box
  A_cut : At K mg "cut" s_cut p_cut f_cut d_cut
  A_law_bag : At K mg "_law_bag" s_law_bag p_law_bag f_law_bag d_law_bag
  A_law_draw : At K mg "_law_draw" s_law_draw p_law_draw f_law_draw d_law_draw
  A_law_whole : At K mg "_law_whole" s_law_whole p_law_whole f_law_whole d_law_whole
  A_law_same : At K mg "_law_same" s_law_same p_law_same f_law_same d_law_same
  A_law_any : At K mg "_law_any" s_law_any p_law_any f_law_any d_law_any
  A_law_rat : At K mg "_law_rat" s_law_rat p_law_rat f_law_rat d_law_rat
  A_law_sum : At K mg "_law_sum" s_law_sum p_law_sum f_law_sum d_law_sum
  A_law_dif : At K mg "_law_dif" s_law_dif p_law_dif f_law_dif d_law_dif
  A_law_prod : At K mg "_law_prod" s_law_prod p_law_prod f_law_prod d_law_prod
  A_law_quo : At K mg "_law_quo" s_law_quo p_law_quo f_law_quo d_law_quo
  A_law_comp : At K mg "_law_comp" s_law_comp p_law_comp f_law_comp d_law_comp
  A_law_on : At K mg "_law_on" s_law_on p_law_on f_law_on d_law_on
  A_law_span : At K mg "_law_span" s_law_span p_law_span f_law_span d_law_span
  A_law_clip : At K mg "_law_clip" s_law_clip p_law_clip f_law_clip d_law_clip
  A_law : At K mg "law" s_law p_law f_law d_law
  B : Bt mg
  X_NoRatio : NoR K mg C_NoRatio
  c_NOUGHT : mg "NOUGHT" = some (.ref a_NOUGHT)
  q_NOUGHT : ∀ H, SqT K H a_NOUGHT [.int 0, .int 1]
  c_ONE : mg "ONE" = some (.ref a_ONE)
  q_ONE : ∀ H, SqT K H a_ONE [.int 1, .int 1]
section
variable {P : Program} {w : World} {K : PySem.W.Frag} {mg : Str → Option Value} {base : Heap}

/-! ### the greatest common number -/
def spGcd : Sp := fun vs H Q _ => ∃ a b : Int, vs = [.int a, .int b] ∧ Q (.int ((Int.gcd a b : Nat) : Int)) H
theorem ok_greatest_common (ev : Env K mg) : FnOk P w K mg base CX0 1 ev.f_greatest_common ev.d_greatest_common p_greatest_common spGcd := by
  refine ev.A_greatest_common.F.ok sc_greatest_common (fun vs H Q E h => ?_) (fun cdv A outer s H vs Q E hr h => ?_)
  · obtain ⟨a, b, rfl, _⟩ := h
    rfl
  obtain ⟨a, b, rfl, q⟩ := h
  refine ⟨_, (pss_cons (ps_while PassesOwn.never (pt_cmpR op_ne (pv 1) pe_int (nomark _))
    (pss_one (ps_par (i := 0) (j := 1) (by rfl) sc_greatest_common.nd rfl rfl (by decide) rfl rfl (pa_cons (pv 1) (pa_cons (pe_op op_modN (pv 0) (pv 1)) pa_nil)) (by rfl))))
    (pss_one (ps_ret (pe_callB call_abs (by rfl) ev.B.abs_ (by decide +kernel) (pa_cons (pv 0) pa_nil))))), ?_⟩
  refine ⟨fun m σ H' => H' = H ∧ ∃ x y : Int, σ = [some (.int x), some (.int y)] ∧ m = y.natAbs ∧ Int.gcd x y = Int.gcd a b, ⟨_, rfl, a, b, rfl, rfl, rfl⟩, ?_⟩
  rintro m σ H' ⟨rfl, x, y, rfl, rfl, e⟩
  refine ⟨_, rfl, rfl, _, rfl, ?_⟩
  refine ite2 (fun c => ?_) (fun c => ?_)
  · have hy : y ≠ 0 := ne_true c
    refine ⟨fun σ' H2 => H2 = H' ∧ σ' = [some (.int y), some (.int (x.fmod y))], ?_, ?_⟩
    · rintro σ' H2 ⟨rfl, rfl⟩
      exact ⟨_, fmod_abs_lt x hy, rfl, y, _, rfl, rfl, (gcd_fmod x y).trans e⟩
    · exact ⟨_, rfl, _, rfl, _, rfl, _, _, rfl, rfl, hy, _, _, rfl, rfl, rfl⟩
  · have hy : y = 0 := ne_false c
    subst hy
    refine ⟨_, rfl, _, rfl, ?_⟩
    rw [Int.gcd_zero_right] at e
    rw [abs_if, e]
    exact q

/-! ### ratio -/
def spRatio (C : Addr) : Sp := fun vs H Q E => ∃ o u : Int, vs = [.int o, .int u] ∧ u.natAbs < 2 ^ 9000 ∧ (u = 0 → E (.ref C) none H) ∧ (u ≠ 0 → ∀ p, H p = none → Q (.ref p) (upd H p (.tup [.int (rN o u), .int (rD o u)])))
theorem ok_ratio (ev : Env K mg) : FnOk P w K mg base (L2.CX P w) 2 ev.f_ratio ev.d_ratio p_ratio (spRatio ev.C_NoRatio) := by
  refine ev.A_ratio.F.okX sc_ratio (fun vs H Q E h => ?_) (fun cdv A outer s H vs Q E hr h => ?_)
  · obtain ⟨o, u, rfl, _⟩ := h
    rfl
  obtain ⟨o, u, rfl, hb, q0, q1⟩ := h
  refine ⟨_, (pss_cons (ps_if (pt_cmpR op_eq (pv 1) pe_int (nomark _))
    (pss_one (ps_raise rfl (takes_of rfl rfl rfl rfl) (pmk_own PySem.F.excBase_ZeroDivisionError ev.X_NoRatio.x ev.X_NoRatio.g ev.X_NoRatio.k (raises_own ev.X_NoRatio.b ev.X_NoRatio.t) (by exact rfl)))) pss_nil) (PSs.nox (pss_cons (ps_set (i := 2) sc_ratio.nd rfl (Or.inl rfl) (pe_call (ok_greatest_common ev) (hr.mono (by decide)) (by rfl) ev.A_greatest_common.m ev.A_greatest_common.F.kp ev.A_greatest_common.b .nil pass0 (pa_cons (pv 0) (pa_cons (pv 1) pa_nil))))
    (pss_cons (ps_if (pt_cmpR op_lt (pv 1) pe_int (nomark _))
    (pss_one (ps_set (i := 2) sc_ratio.nd rfl (Or.inl rfl) (pe_un un_neg (pv 2)))) pss_nil)
    (pss_one (ps_ret (pe_tup (pa_cons (pe_op op_fdivZ (pv 0) (pv 2)) (pa_cons (pe_op op_fdivZ (pv 1) (pv 2)) pa_nil))))))))), ?_⟩
  refine ⟨_, rfl, rfl, _, rfl, ?_⟩
  refine ite2 (fun c => ?_) (fun c => ?_)
  · exact q0 (V.int.inj (of_decide_eq_true c))
  have hu0 : u ≠ 0 := fun z => c (decide_eq_true (congrArg V.int z))
  refine next_u ?_
  refine seq_asg ⟨_, rfl, _, rfl, o, u, rfl, ?_⟩
  refine seq_by (fun σ H' => H' = H ∧ σ = [some (.int o), some (.int u), some (.int (cOf o u))]) ?_ (fun k => ?_)
  rotate_left
  · refine ⟨_, rfl, _, _, rfl, rfl, _, rfl, ?_⟩
    refine ite2 (fun z => ?_) (fun z => ?_)
    · have z' : u < 0 := of_decide_eq_true z
      refine ⟨_, rfl, _, rfl, k _ _ ⟨rfl, ?_⟩⟩
      unfold cOf
      rw [if_pos z']
      all_goals rfl
    · have z' : ¬ u < 0 := fun e => z (decide_eq_true e)
      refine k _ _ ⟨rfl, ?_⟩
      unfold cOf
      rw [if_neg z']
      all_goals rfl
  rintro σ H' ⟨rfl, rfl⟩
  exact ⟨_, rfl, _, rfl, _, _, rfl, rfl, cOf_ok hu0 hb _, _, rfl, _, rfl, _, _, rfl, rfl, cOf_ok hu0 hb _, (by show 2 ≤ sizeLine; decide), fun p hp => q1 hu0 p hp⟩

/-! ### ratios, mirrored -/
def ratioP (u : Int) : Prop := u ≠ 0 ∧ u.natAbs < 2 ^ 9000
instance : DecidablePred ratioP := fun u => inferInstanceAs (Decidable (_ ∧ _))
def ratio? (o u : Int) : Option Rat := if ratioP u then some (Rat.divInt o u) else none
theorem ev_ratio {S T : AS} {σ : St} {H : Hp} {C : Addr} {E : St → XK} {ta : TA} {r : Option (Int × Int × Unit)} (h : EvA S T ta σ H (K := K) (aCons tInt (aCons tInt aNil)) r) :
    Ev S T (tCallS (spRatio C) E ta) σ H (of (K := K) tRat S) (bd r fun a => ratio? a.1 a.2.1) := by
  intro z e H1 f1 d Q q
  obtain ⟨x, ex, e⟩ := bd_some e
  unfold ratio? at e
  split at e
  · rename_i hc
    cases e
    refine h x ex H1 f1 d _ fun vs H2 s2 hv => ?_
    obtain ⟨v, _, rfl, h1, w, _, rfl, h2, rfl⟩ := hv
    cases h1
    cases h2
    refine ⟨x.1, x.2.1, rfl, hc.2, fun z => absurd z hc.1, fun _ p hp => q _ _ (s2.trans (same_new hp)) ⟨p, rfl, .inl ⟨.inl ?_, (d.same s2).not_mem hp⟩⟩⟩
    rw [upd_same, (rat_rND hc.1).1, (rat_rND hc.1).2]
  · cases e

end
end G

namespace G
open PySem L2 M
section
variable {P : Program} {w : World} {K : PySem.W.Frag} {mg : Str → Option Value} {base : Heap}

def m_plus (d_one : Rat) (d_other : Rat) : Option Rat :=
  (bd (bd (bd (bd (bd (some d_one) fun x => some x.num) fun x => bd (bd (some d_other) fun x => some (x.den : Int)) fun y => mul? x y) fun x => bd (bd (bd (some d_other) fun x => some x.num) fun x => bd (bd (some d_one) fun x => some (x.den : Int)) fun y => mul? x y) fun y => some (x + y)) fun x => bd (bd (bd (bd (some d_one) fun x => some (x.den : Int)) fun x => bd (bd (some d_other) fun x => some (x.den : Int)) fun y => mul? x y) fun x => bd (some ()) fun y => some (x, y)) fun y => some (x, y)) fun a => ratio? a.1 a.2.1)
abbrev sp_plus (K : PySem.W.Frag) : Sp := spF (K := K) (aCons tRat (aCons tRat aNil)) (fun S => of (K := K) tRat S) (fun a => m_plus a.1 a.2.1)
theorem ok_plus (ev : Env K mg) : FnOk P w K mg base CX0 3 ev.f_plus ev.d_plus p_plus (sp_plus K) := by
  refine ev.A_plus.F.ok sc_plus (fun vs H Q E h => ?_) (fun cdv A outer s H0 vs Q E hr h => ?_)
  · obtain ⟨S, ⟨d_one, d_other, _⟩, y, _, ⟨v_one, _, rfl, h_one, v_other, _, rfl, h_other, rfl⟩, _⟩ := h
    rfl
  obtain ⟨S, ⟨d_one, d_other, _⟩, y, dm, ⟨v_one, _, rfl, h_one, v_other, _, rfl, h_other, rfl⟩, hm, q⟩ := h
  have ts : Sub [] S := fun a m => by simp at m
  have fr0 := Fr.refl (T := []) H0
  have sub0 : Sub S S := fun a m => m
  refine ⟨_, (pss_one (ps_ret (pe_callS (ok_ratio ev) (hr.mono (by decide)) (by rfl) ev.A_ratio.m ev.A_ratio.F.kp ev.A_ratio.b (fun σ => passAt takes0 σ) (pa_cons (pe_op op_add (pe_op op_mulW (pe_ix ix_tup (pv 0) pe_int (fun _ _ => rfl)) (pe_ix ix_tup (pv 1) pe_int (fun _ _ => rfl))) (pe_op op_mulW (pe_ix ix_tup (pv 1) pe_int (fun _ _ => rfl)) (pe_ix ix_tup (pv 0) pe_int (fun _ _ => rfl)))) (pa_cons (pe_op op_mulW (pe_ix ix_tup (pv 0) pe_int (fun _ _ => rfl)) (pe_ix ix_tup (pv 1) pe_int (fun _ _ => rfl))) pa_nil))))), ?_⟩
  dsimp only [m_plus] at hm
  have er := hm
  exact q_ret (T := []) dm (ev_ratio (ea_cons (ev_op (od_add (K := K)) (ev_op (od_mul (K := K)) (ev_ixR0 (ev_var ts h_one rfl)) (ev_ixR1 (ev_var ts h_other rfl))) (ev_op (od_mul (K := K)) (ev_ixR0 (ev_var ts h_other rfl)) (ev_ixR1 (ev_var ts h_one rfl)))) (ea_cons (ev_op (od_mul (K := K)) (ev_ixR1 (ev_var ts h_one rfl)) (ev_ixR1 (ev_var ts h_other rfl))) ea_nil))) er (fun v H1 s1 hv => q v H1 (fr0.trans (Fr.same s1)).toSame ((tRat : Ty K Rat).sub (S := S) (H := H1) sub0 hv))
def m_minus (d_one : Rat) (d_other : Rat) : Option Rat :=
  (bd (bd (bd (bd (bd (some d_one) fun x => some x.num) fun x => bd (bd (some d_other) fun x => some (x.den : Int)) fun y => mul? x y) fun x => bd (bd (bd (some d_other) fun x => some x.num) fun x => bd (bd (some d_one) fun x => some (x.den : Int)) fun y => mul? x y) fun y => some (x - y)) fun x => bd (bd (bd (bd (some d_one) fun x => some (x.den : Int)) fun x => bd (bd (some d_other) fun x => some (x.den : Int)) fun y => mul? x y) fun x => bd (some ()) fun y => some (x, y)) fun y => some (x, y)) fun a => ratio? a.1 a.2.1)
abbrev sp_minus (K : PySem.W.Frag) : Sp := spF (K := K) (aCons tRat (aCons tRat aNil)) (fun S => of (K := K) tRat S) (fun a => m_minus a.1 a.2.1)
theorem ok_minus (ev : Env K mg) : FnOk P w K mg base CX0 3 ev.f_minus ev.d_minus p_minus (sp_minus K) := by
  refine ev.A_minus.F.ok sc_minus (fun vs H Q E h => ?_) (fun cdv A outer s H0 vs Q E hr h => ?_)
  · obtain ⟨S, ⟨d_one, d_other, _⟩, y, _, ⟨v_one, _, rfl, h_one, v_other, _, rfl, h_other, rfl⟩, _⟩ := h
    rfl
  obtain ⟨S, ⟨d_one, d_other, _⟩, y, dm, ⟨v_one, _, rfl, h_one, v_other, _, rfl, h_other, rfl⟩, hm, q⟩ := h
  have ts : Sub [] S := fun a m => by simp at m
  have fr0 := Fr.refl (T := []) H0
  have sub0 : Sub S S := fun a m => m
  refine ⟨_, (pss_one (ps_ret (pe_callS (ok_ratio ev) (hr.mono (by decide)) (by rfl) ev.A_ratio.m ev.A_ratio.F.kp ev.A_ratio.b (fun σ => passAt takes0 σ) (pa_cons (pe_op op_sub (pe_op op_mulW (pe_ix ix_tup (pv 0) pe_int (fun _ _ => rfl)) (pe_ix ix_tup (pv 1) pe_int (fun _ _ => rfl))) (pe_op op_mulW (pe_ix ix_tup (pv 1) pe_int (fun _ _ => rfl)) (pe_ix ix_tup (pv 0) pe_int (fun _ _ => rfl)))) (pa_cons (pe_op op_mulW (pe_ix ix_tup (pv 0) pe_int (fun _ _ => rfl)) (pe_ix ix_tup (pv 1) pe_int (fun _ _ => rfl))) pa_nil))))), ?_⟩
  dsimp only [m_minus] at hm
  have er := hm
  exact q_ret (T := []) dm (ev_ratio (ea_cons (ev_op (od_sub (K := K)) (ev_op (od_mul (K := K)) (ev_ixR0 (ev_var ts h_one rfl)) (ev_ixR1 (ev_var ts h_other rfl))) (ev_op (od_mul (K := K)) (ev_ixR0 (ev_var ts h_other rfl)) (ev_ixR1 (ev_var ts h_one rfl)))) (ea_cons (ev_op (od_mul (K := K)) (ev_ixR1 (ev_var ts h_one rfl)) (ev_ixR1 (ev_var ts h_other rfl))) ea_nil))) er (fun v H1 s1 hv => q v H1 (fr0.trans (Fr.same s1)).toSame ((tRat : Ty K Rat).sub (S := S) (H := H1) sub0 hv))
def m_times (d_one : Rat) (d_other : Rat) : Option Rat :=
  (bd (bd (bd (bd (some d_one) fun x => some x.num) fun x => bd (bd (some d_other) fun x => some x.num) fun y => mul? x y) fun x => bd (bd (bd (bd (some d_one) fun x => some (x.den : Int)) fun x => bd (bd (some d_other) fun x => some (x.den : Int)) fun y => mul? x y) fun x => bd (some ()) fun y => some (x, y)) fun y => some (x, y)) fun a => ratio? a.1 a.2.1)
abbrev sp_times (K : PySem.W.Frag) : Sp := spF (K := K) (aCons tRat (aCons tRat aNil)) (fun S => of (K := K) tRat S) (fun a => m_times a.1 a.2.1)
theorem ok_times (ev : Env K mg) : FnOk P w K mg base CX0 3 ev.f_times ev.d_times p_times (sp_times K) := by
  refine ev.A_times.F.ok sc_times (fun vs H Q E h => ?_) (fun cdv A outer s H0 vs Q E hr h => ?_)
  · obtain ⟨S, ⟨d_one, d_other, _⟩, y, _, ⟨v_one, _, rfl, h_one, v_other, _, rfl, h_other, rfl⟩, _⟩ := h
    rfl
  obtain ⟨S, ⟨d_one, d_other, _⟩, y, dm, ⟨v_one, _, rfl, h_one, v_other, _, rfl, h_other, rfl⟩, hm, q⟩ := h
  have ts : Sub [] S := fun a m => by simp at m
  have fr0 := Fr.refl (T := []) H0
  have sub0 : Sub S S := fun a m => m
  refine ⟨_, (pss_one (ps_ret (pe_callS (ok_ratio ev) (hr.mono (by decide)) (by rfl) ev.A_ratio.m ev.A_ratio.F.kp ev.A_ratio.b (fun σ => passAt takes0 σ) (pa_cons (pe_op op_mulW (pe_ix ix_tup (pv 0) pe_int (fun _ _ => rfl)) (pe_ix ix_tup (pv 1) pe_int (fun _ _ => rfl))) (pa_cons (pe_op op_mulW (pe_ix ix_tup (pv 0) pe_int (fun _ _ => rfl)) (pe_ix ix_tup (pv 1) pe_int (fun _ _ => rfl))) pa_nil))))), ?_⟩
  dsimp only [m_times] at hm
  have er := hm
  exact q_ret (T := []) dm (ev_ratio (ea_cons (ev_op (od_mul (K := K)) (ev_ixR0 (ev_var ts h_one rfl)) (ev_ixR0 (ev_var ts h_other rfl))) (ea_cons (ev_op (od_mul (K := K)) (ev_ixR1 (ev_var ts h_one rfl)) (ev_ixR1 (ev_var ts h_other rfl))) ea_nil))) er (fun v H1 s1 hv => q v H1 (fr0.trans (Fr.same s1)).toSame ((tRat : Ty K Rat).sub (S := S) (H := H1) sub0 hv))
def m_divided (d_one : Rat) (d_other : Rat) : Option Rat :=
  (bd (bd (bd (bd (some d_one) fun x => some x.num) fun x => bd (bd (some d_other) fun x => some (x.den : Int)) fun y => mul? x y) fun x => bd (bd (bd (bd (some d_one) fun x => some (x.den : Int)) fun x => bd (bd (some d_other) fun x => some x.num) fun y => mul? x y) fun x => bd (some ()) fun y => some (x, y)) fun y => some (x, y)) fun a => ratio? a.1 a.2.1)
abbrev sp_divided (K : PySem.W.Frag) : Sp := spF (K := K) (aCons tRat (aCons tRat aNil)) (fun S => of (K := K) tRat S) (fun a => m_divided a.1 a.2.1)
theorem ok_divided (ev : Env K mg) : FnOk P w K mg base CX0 3 ev.f_divided ev.d_divided p_divided (sp_divided K) := by
  refine ev.A_divided.F.ok sc_divided (fun vs H Q E h => ?_) (fun cdv A outer s H0 vs Q E hr h => ?_)
  · obtain ⟨S, ⟨d_one, d_other, _⟩, y, _, ⟨v_one, _, rfl, h_one, v_other, _, rfl, h_other, rfl⟩, _⟩ := h
    rfl
  obtain ⟨S, ⟨d_one, d_other, _⟩, y, dm, ⟨v_one, _, rfl, h_one, v_other, _, rfl, h_other, rfl⟩, hm, q⟩ := h
  have ts : Sub [] S := fun a m => by simp at m
  have fr0 := Fr.refl (T := []) H0
  have sub0 : Sub S S := fun a m => m
  refine ⟨_, (pss_one (ps_ret (pe_callS (ok_ratio ev) (hr.mono (by decide)) (by rfl) ev.A_ratio.m ev.A_ratio.F.kp ev.A_ratio.b (fun σ => passAt takes0 σ) (pa_cons (pe_op op_mulW (pe_ix ix_tup (pv 0) pe_int (fun _ _ => rfl)) (pe_ix ix_tup (pv 1) pe_int (fun _ _ => rfl))) (pa_cons (pe_op op_mulW (pe_ix ix_tup (pv 0) pe_int (fun _ _ => rfl)) (pe_ix ix_tup (pv 1) pe_int (fun _ _ => rfl))) pa_nil))))), ?_⟩
  dsimp only [m_divided] at hm
  have er := hm
  exact q_ret (T := []) dm (ev_ratio (ea_cons (ev_op (od_mul (K := K)) (ev_ixR0 (ev_var ts h_one rfl)) (ev_ixR1 (ev_var ts h_other rfl))) (ea_cons (ev_op (od_mul (K := K)) (ev_ixR1 (ev_var ts h_one rfl)) (ev_ixR0 (ev_var ts h_other rfl))) ea_nil))) er (fun v H1 s1 hv => q v H1 (fr0.trans (Fr.same s1)).toSame ((tRat : Ty K Rat).sub (S := S) (H := H1) sub0 hv))
def m_order (d_one : Rat) (d_other : Rat) : Option Int :=
  (bd (bd (bd (bd (some d_one) fun x => some x.num) fun x => bd (bd (some d_other) fun x => some (x.den : Int)) fun y => mul? x y) fun x => bd (bd (bd (some d_other) fun x => some x.num) fun x => bd (bd (some d_one) fun x => some (x.den : Int)) fun y => mul? x y) fun y => some (x - y)) fun gap_1 => (bd (bd (some gap_1) fun x => bd (some (0 : Int)) fun y => some (decide (x < y))) fun c2 => if c2 then (bd (some (1 : Int)) fun x => some (-x)) else (bd (bd (some gap_1) fun x => bd (some (0 : Int)) fun y => some (decide (y < x))) fun c3 => if c3 then (some (1 : Int)) else (some (0 : Int)))))
abbrev sp_order (K : PySem.W.Frag) : Sp := spF (K := K) (aCons tRat (aCons tRat aNil)) (fun S => of (K := K) tInt S) (fun a => m_order a.1 a.2.1)
theorem ok_order (ev : Env K mg) : FnOk P w K mg base CX0 1 ev.f_order ev.d_order p_order (sp_order K) := by
  refine ev.A_order.F.ok sc_order (fun vs H Q E h => ?_) (fun cdv A outer s H0 vs Q E hr h => ?_)
  · obtain ⟨S, ⟨d_one, d_other, _⟩, y, _, ⟨v_one, _, rfl, h_one, v_other, _, rfl, h_other, rfl⟩, _⟩ := h
    rfl
  obtain ⟨S, ⟨d_one, d_other, _⟩, y, dm, ⟨v_one, _, rfl, h_one, v_other, _, rfl, h_other, rfl⟩, hm, q⟩ := h
  have ts : Sub [] S := fun a m => by simp at m
  have fr0 := Fr.refl (T := []) H0
  have sub0 : Sub S S := fun a m => m
  refine ⟨_, (pss_cons (ps_set (i := 2) sc_order.nd rfl (Or.inl rfl) (pe_op op_sub (pe_op op_mulW (pe_ix ix_tup (pv 0) pe_int (fun _ _ => rfl)) (pe_ix ix_tup (pv 1) pe_int (fun _ _ => rfl))) (pe_op op_mulW (pe_ix ix_tup (pv 1) pe_int (fun _ _ => rfl)) (pe_ix ix_tup (pv 0) pe_int (fun _ _ => rfl)))))
    (pss_cons (ps_if (pt_cmpR op_lt (pv 2) pe_int (nomark _))
    (pss_one (ps_ret (pe_un un_neg pe_int))) pss_nil)
    (pss_cons (ps_if (pt_cmpR op_gt (pv 2) pe_int (nomark _))
    (pss_one (ps_ret pe_int)) pss_nil)
    (pss_one (ps_ret pe_int))))), ?_⟩
  dsimp only [m_order] at hm
  obtain ⟨gap_1, e1, hm⟩ := bd_some hm
  refine q_asg (T := []) dm (ev_op (od_sub (K := K)) (ev_op (od_mul (K := K)) (ev_ixR0 (ev_var ts h_one rfl)) (ev_ixR1 (ev_var ts h_other rfl))) (ev_op (od_mul (K := K)) (ev_ixR0 (ev_var ts h_other rfl)) (ev_ixR1 (ev_var ts h_one rfl)))) e1 (fun v_gap H1 s1 h_gap => ?_)
  have fr0 := fr0.trans (Fr.same s1)
  have dm := dm.same s1
  have h_one := (tRat : Ty K Rat).mono (S := S) (Fr.same s1) h_one
  have h_other := (tRat : Ty K Rat).mono (S := S) (Fr.same s1) h_other
  have h_gap : (tInt : Ty K Int).rp S H1 v_gap gap_1 := h_gap
  obtain ⟨c2, e2, hm⟩ := bd_some hm
  refine q_if (T := []) dm (eb_test (K := K) (ev_op (od_lt (K := K)) (ev_var ts h_gap rfl) (ev_int (K := K)))) e2 (fun hc H2 s2 => ?_) (fun hc H2 s2 => ?_)
  · skip
    subst hc
    have hm := if_t hm
    have fr0 := fr0.trans (Fr.same s2)
    have dm := dm.same s2
    have h_one := (tRat : Ty K Rat).mono (S := S) (Fr.same s2) h_one
    have h_other := (tRat : Ty K Rat).mono (S := S) (Fr.same s2) h_other
    have h_gap := (tInt : Ty K Int).mono (S := S) (Fr.same s2) h_gap
    have er := hm
    exact q_ret (T := []) dm (ev_neg (ev_int (K := K))) er (fun v H4 s4 hv => q v H4 (fr0.trans (Fr.same s4)).toSame ((tInt : Ty K Int).sub (S := S) (H := H4) sub0 hv))
  subst hc
  have hm := if_f hm
  have fr0 := fr0.trans (Fr.same s2)
  have dm := dm.same s2
  have h_one := (tRat : Ty K Rat).mono (S := S) (Fr.same s2) h_one
  have h_other := (tRat : Ty K Rat).mono (S := S) (Fr.same s2) h_other
  have h_gap := (tInt : Ty K Int).mono (S := S) (Fr.same s2) h_gap
  refine q_next ?_
  obtain ⟨c3, e3, hm⟩ := bd_some hm
  refine q_if (T := []) dm (eb_test (K := K) (ev_op (od_gt (K := K)) (ev_var ts h_gap rfl) (ev_int (K := K)))) e3 (fun hc H3 s3 => ?_) (fun hc H3 s3 => ?_)
  · skip
    subst hc
    have hm := if_t hm
    have fr0 := fr0.trans (Fr.same s3)
    have dm := dm.same s3
    have h_one := (tRat : Ty K Rat).mono (S := S) (Fr.same s3) h_one
    have h_other := (tRat : Ty K Rat).mono (S := S) (Fr.same s3) h_other
    have h_gap := (tInt : Ty K Int).mono (S := S) (Fr.same s3) h_gap
    have er := hm
    exact q_ret (T := []) dm (ev_int (K := K)) er (fun v H5 s5 hv => q v H5 (fr0.trans (Fr.same s5)).toSame ((tInt : Ty K Int).sub (S := S) (H := H5) sub0 hv))
  subst hc
  have hm := if_f hm
  have fr0 := fr0.trans (Fr.same s3)
  have dm := dm.same s3
  have h_one := (tRat : Ty K Rat).mono (S := S) (Fr.same s3) h_one
  have h_other := (tRat : Ty K Rat).mono (S := S) (Fr.same s3) h_other
  have h_gap := (tInt : Ty K Int).mono (S := S) (Fr.same s3) h_gap
  refine q_next ?_
  have er := hm
  exact q_ret (T := []) dm (ev_int (K := K)) er (fun v H6 s6 hv => q v H6 (fr0.trans (Fr.same s6)).toSame ((tInt : Ty K Int).sub (S := S) (H := H6) sub0 hv))
def m_lesser (d_one : Rat) (d_other : Rat) : Option Rat :=
  (bd (bd (bd (bd (some d_one) fun x => bd (bd (some d_other) fun x => bd (some ()) fun y => some (x, y)) fun y => some (x, y)) fun a => m_order a.1 a.2.1) fun x => bd (some (0 : Int)) fun y => some (decide (x < y))) fun x => if x then (some d_one) else (some d_other))
abbrev sp_lesser (K : PySem.W.Frag) : Sp := spF (K := K) (aCons tRat (aCons tRat aNil)) (fun S => of (K := K) tRat S) (fun a => m_lesser a.1 a.2.1)
theorem ok_lesser (ev : Env K mg) : FnOk P w K mg base CX0 2 ev.f_lesser ev.d_lesser p_lesser (sp_lesser K) := by
  refine ev.A_lesser.F.ok sc_lesser (fun vs H Q E h => ?_) (fun cdv A outer s H0 vs Q E hr h => ?_)
  · obtain ⟨S, ⟨d_one, d_other, _⟩, y, _, ⟨v_one, _, rfl, h_one, v_other, _, rfl, h_other, rfl⟩, _⟩ := h
    rfl
  obtain ⟨S, ⟨d_one, d_other, _⟩, y, dm, ⟨v_one, _, rfl, h_one, v_other, _, rfl, h_other, rfl⟩, hm, q⟩ := h
  have ts : Sub [] S := fun a m => by simp at m
  have fr0 := Fr.refl (T := []) H0
  have sub0 : Sub S S := fun a m => m
  refine ⟨_, (pss_one (ps_ret (pe_ifExp (pt_cmpR op_lt (pe_call (ok_order ev) (hr.mono (by decide)) (by rfl) ev.A_order.m ev.A_order.F.kp ev.A_order.b .nil pass0 (pa_cons (pv 0) (pa_cons (pv 1) pa_nil))) pe_int (nomark _)) (pv 0) (pv 1)))), ?_⟩
  dsimp only [m_lesser] at hm
  have er := hm
  exact q_ret (T := []) dm (ev_if (eb_test (K := K) (ev_op (od_lt (K := K)) (ev_call (ea_cons (ev_var ts h_one rfl) (ea_cons (ev_var ts h_other rfl) ea_nil))) (ev_int (K := K)))) (ev_var ts h_one rfl) (ev_var ts h_other rfl)) er (fun v H1 s1 hv => q v H1 (fr0.trans (Fr.same s1)).toSame ((tRat : Ty K Rat).sub (S := S) (H := H1) sub0 hv))
def m_greater (d_one : Rat) (d_other : Rat) : Option Rat :=
  (bd (bd (bd (bd (some d_one) fun x => bd (bd (some d_other) fun x => bd (some ()) fun y => some (x, y)) fun y => some (x, y)) fun a => m_order a.1 a.2.1) fun x => bd (some (0 : Int)) fun y => some (decide (y < x))) fun x => if x then (some d_one) else (some d_other))
abbrev sp_greater (K : PySem.W.Frag) : Sp := spF (K := K) (aCons tRat (aCons tRat aNil)) (fun S => of (K := K) tRat S) (fun a => m_greater a.1 a.2.1)
theorem ok_greater (ev : Env K mg) : FnOk P w K mg base CX0 2 ev.f_greater ev.d_greater p_greater (sp_greater K) := by
  refine ev.A_greater.F.ok sc_greater (fun vs H Q E h => ?_) (fun cdv A outer s H0 vs Q E hr h => ?_)
  · obtain ⟨S, ⟨d_one, d_other, _⟩, y, _, ⟨v_one, _, rfl, h_one, v_other, _, rfl, h_other, rfl⟩, _⟩ := h
    rfl
  obtain ⟨S, ⟨d_one, d_other, _⟩, y, dm, ⟨v_one, _, rfl, h_one, v_other, _, rfl, h_other, rfl⟩, hm, q⟩ := h
  have ts : Sub [] S := fun a m => by simp at m
  have fr0 := Fr.refl (T := []) H0
  have sub0 : Sub S S := fun a m => m
  refine ⟨_, (pss_one (ps_ret (pe_ifExp (pt_cmpR op_gt (pe_call (ok_order ev) (hr.mono (by decide)) (by rfl) ev.A_order.m ev.A_order.F.kp ev.A_order.b .nil pass0 (pa_cons (pv 0) (pa_cons (pv 1) pa_nil))) pe_int (nomark _)) (pv 0) (pv 1)))), ?_⟩
  dsimp only [m_greater] at hm
  have er := hm
  exact q_ret (T := []) dm (ev_if (eb_test (K := K) (ev_op (od_gt (K := K)) (ev_call (ea_cons (ev_var ts h_one rfl) (ea_cons (ev_var ts h_other rfl) ea_nil))) (ev_int (K := K)))) (ev_var ts h_one rfl) (ev_var ts h_other rfl)) er (fun v H1 s1 hv => q v H1 (fr0.trans (Fr.same s1)).toSame ((tRat : Ty K Rat).sub (S := S) (H := H1) sub0 hv))
def m_spot_of (d_pair : (Int × Int)) : Option (Rat × Rat) :=
  (bd (bd (bd (bd (some d_pair) fun x => some x.1) fun x => bd (bd (some (1 : Int)) fun x => bd (some ()) fun y => some (x, y)) fun y => some (x, y)) fun a => ratio? a.1 a.2.1) fun x => bd (bd (bd (bd (some d_pair) fun x => some x.2) fun x => bd (bd (some (1 : Int)) fun x => bd (some ()) fun y => some (x, y)) fun y => some (x, y)) fun a => ratio? a.1 a.2.1) fun y => some (x, y))
abbrev sp_spot_of (K : PySem.W.Frag) : Sp := spF (K := K) (aCons (tT2 tInt tInt) aNil) (fun S => of (K := K) (tT2 tRat tRat) S) (fun a => m_spot_of a.1)
theorem ok_spot_of (ev : Env K mg) : FnOk P w K mg base CX0 3 ev.f_spot_of ev.d_spot_of p_spot_of (sp_spot_of K) := by
  refine ev.A_spot_of.F.ok sc_spot_of (fun vs H Q E h => ?_) (fun cdv A outer s H0 vs Q E hr h => ?_)
  · obtain ⟨S, ⟨d_pair, _⟩, y, _, ⟨v_pair, _, rfl, h_pair, rfl⟩, _⟩ := h
    rfl
  obtain ⟨S, ⟨d_pair, _⟩, y, dm, ⟨v_pair, _, rfl, h_pair, rfl⟩, hm, q⟩ := h
  have ts : Sub [] S := fun a m => by simp at m
  have fr0 := Fr.refl (T := []) H0
  have sub0 : Sub S S := fun a m => m
  refine ⟨_, (pss_one (ps_ret (pe_tup (pa_cons (pe_callS (ok_ratio ev) (hr.mono (by decide)) (by rfl) ev.A_ratio.m ev.A_ratio.F.kp ev.A_ratio.b (fun σ => passAt takes0 σ) (pa_cons (pe_ix ix_tup (pv 0) pe_int (fun _ _ => rfl)) (pa_cons pe_int pa_nil))) (pa_cons (pe_callS (ok_ratio ev) (hr.mono (by decide)) (by rfl) ev.A_ratio.m ev.A_ratio.F.kp ev.A_ratio.b (fun σ => passAt takes0 σ) (pa_cons (pe_ix ix_tup (pv 0) pe_int (fun _ _ => rfl)) (pa_cons pe_int pa_nil))) pa_nil))))), ?_⟩
  dsimp only [m_spot_of] at hm
  have er := hm
  exact q_ret (T := []) dm (ev_tup2 (ev_ratio (ea_cons (ev_ix20 (ev_var ts h_pair rfl)) (ea_cons (ev_int (K := K)) ea_nil))) (ev_ratio (ea_cons (ev_ix21 (ev_var ts h_pair rfl)) (ea_cons (ev_int (K := K)) ea_nil)))) er (fun v H1 s1 hv => q v H1 (fr0.trans (Fr.same s1)).toSame (((tT2 tRat tRat) : Ty K (Rat × Rat)).sub (S := S) (H := H1) sub0 hv))
def m_between (d_start : (Rat × Rat)) (d_end : (Rat × Rat)) (d_share : Rat) : Option (Rat × Rat) :=
  (bd (bd (bd (bd (some d_start) fun x => some x.1) fun x => bd (bd (bd (bd (some d_share) fun x => bd (bd (bd (bd (bd (some d_end) fun x => some x.1) fun x => bd (bd (bd (some d_start) fun x => some x.1) fun x => bd (some ()) fun y => some (x, y)) fun y => some (x, y)) fun a => m_minus a.1 a.2.1) fun x => bd (some ()) fun y => some (x, y)) fun y => some (x, y)) fun a => m_times a.1 a.2.1) fun x => bd (some ()) fun y => some (x, y)) fun y => some (x, y)) fun a => m_plus a.1 a.2.1) fun x => bd (bd (bd (bd (some d_start) fun x => some x.2) fun x => bd (bd (bd (bd (some d_share) fun x => bd (bd (bd (bd (bd (some d_end) fun x => some x.2) fun x => bd (bd (bd (some d_start) fun x => some x.2) fun x => bd (some ()) fun y => some (x, y)) fun y => some (x, y)) fun a => m_minus a.1 a.2.1) fun x => bd (some ()) fun y => some (x, y)) fun y => some (x, y)) fun a => m_times a.1 a.2.1) fun x => bd (some ()) fun y => some (x, y)) fun y => some (x, y)) fun a => m_plus a.1 a.2.1) fun y => some (x, y))
abbrev sp_between (K : PySem.W.Frag) : Sp := spF (K := K) (aCons (tT2 tRat tRat) (aCons (tT2 tRat tRat) (aCons tRat aNil))) (fun S => of (K := K) (tT2 tRat tRat) S) (fun a => m_between a.1 a.2.1 a.2.2.1)
theorem ok_between (ev : Env K mg) : FnOk P w K mg base CX0 4 ev.f_between ev.d_between p_between (sp_between K) := by
  refine ev.A_between.F.ok sc_between (fun vs H Q E h => ?_) (fun cdv A outer s H0 vs Q E hr h => ?_)
  · obtain ⟨S, ⟨d_start, d_end, d_share, _⟩, y, _, ⟨v_start, _, rfl, h_start, v_end, _, rfl, h_end, v_share, _, rfl, h_share, rfl⟩, _⟩ := h
    rfl
  obtain ⟨S, ⟨d_start, d_end, d_share, _⟩, y, dm, ⟨v_start, _, rfl, h_start, v_end, _, rfl, h_end, v_share, _, rfl, h_share, rfl⟩, hm, q⟩ := h
  have ts : Sub [] S := fun a m => by simp at m
  have fr0 := Fr.refl (T := []) H0
  have sub0 : Sub S S := fun a m => m
  refine ⟨_, (pss_one (ps_ret (pe_tup (pa_cons (pe_call (ok_plus ev) (hr.mono (by decide)) (by rfl) ev.A_plus.m ev.A_plus.F.kp ev.A_plus.b .nil pass0 (pa_cons (pe_ix ix_tup (pv 0) pe_int (fun _ _ => rfl)) (pa_cons (pe_call (ok_times ev) (hr.mono (by decide)) (by rfl) ev.A_times.m ev.A_times.F.kp ev.A_times.b .nil pass0 (pa_cons (pv 2) (pa_cons (pe_call (ok_minus ev) (hr.mono (by decide)) (by rfl) ev.A_minus.m ev.A_minus.F.kp ev.A_minus.b .nil pass0 (pa_cons (pe_ix ix_tup (pv 1) pe_int (fun _ _ => rfl)) (pa_cons (pe_ix ix_tup (pv 0) pe_int (fun _ _ => rfl)) pa_nil))) pa_nil))) pa_nil))) (pa_cons (pe_call (ok_plus ev) (hr.mono (by decide)) (by rfl) ev.A_plus.m ev.A_plus.F.kp ev.A_plus.b .nil pass0 (pa_cons (pe_ix ix_tup (pv 0) pe_int (fun _ _ => rfl)) (pa_cons (pe_call (ok_times ev) (hr.mono (by decide)) (by rfl) ev.A_times.m ev.A_times.F.kp ev.A_times.b .nil pass0 (pa_cons (pv 2) (pa_cons (pe_call (ok_minus ev) (hr.mono (by decide)) (by rfl) ev.A_minus.m ev.A_minus.F.kp ev.A_minus.b .nil pass0 (pa_cons (pe_ix ix_tup (pv 1) pe_int (fun _ _ => rfl)) (pa_cons (pe_ix ix_tup (pv 0) pe_int (fun _ _ => rfl)) pa_nil))) pa_nil))) pa_nil))) pa_nil))))), ?_⟩
  dsimp only [m_between] at hm
  have er := hm
  exact q_ret (T := []) dm (ev_tup2 (ev_call (ea_cons (ev_ix20 (ev_var ts h_start rfl)) (ea_cons (ev_call (ea_cons (ev_var ts h_share rfl) (ea_cons (ev_call (ea_cons (ev_ix20 (ev_var ts h_end rfl)) (ea_cons (ev_ix20 (ev_var ts h_start rfl)) ea_nil))) ea_nil))) ea_nil))) (ev_call (ea_cons (ev_ix21 (ev_var ts h_start rfl)) (ea_cons (ev_call (ea_cons (ev_var ts h_share rfl) (ea_cons (ev_call (ea_cons (ev_ix21 (ev_var ts h_end rfl)) (ea_cons (ev_ix21 (ev_var ts h_start rfl)) ea_nil))) ea_nil))) ea_nil)))) er (fun v H1 s1 hv => q v H1 (fr0.trans (Fr.same s1)).toSame (((tT2 tRat tRat) : Ty K (Rat × Rat)).sub (S := S) (H := H1) sub0 hv))
def m_narrowed (d_span : (Option (Rat × Rat))) (d_start : Rat) (d_end : Rat) (d_low : Rat) (d_high : Rat) : Option (Option (Rat × Rat)) :=
  (optM d_span (bd (some ()) fun _ => some none) fun span_1 => (bd (bd (bd (some d_end) fun x => bd (bd (some d_start) fun x => bd (some ()) fun y => some (x, y)) fun y => some (x, y)) fun a => m_minus a.1 a.2.1) fun way_2 => (bd (bd (some way_2) fun x => bd (some (0 : Rat)) fun y => some (decide (x = y))) fun c3 => if c3 then (bd (bd (bd (bd (bd (some d_low) fun x => bd (bd (some d_start) fun x => bd (some ()) fun y => some (x, y)) fun y => some (x, y)) fun a => m_order a.1 a.2.1) fun x => bd (some (0 : Int)) fun y => some (decide (x ≤ y))) fun x => if x then (bd (bd (bd (some d_start) fun x => bd (bd (some d_high) fun x => bd (some ()) fun y => some (x, y)) fun y => some (x, y)) fun a => m_order a.1 a.2.1) fun x => bd (some (0 : Int)) fun y => some (decide (x ≤ y))) else some false) fun x => if x then (bd (some span_1) fun x => some (some x)) else (bd (some ()) fun _ => some none)) else (bd (bd (bd (bd (bd (bd (some d_low) fun x => bd (bd (some d_start) fun x => bd (some ()) fun y => some (x, y)) fun y => some (x, y)) fun a => m_minus a.1 a.2.1) fun x => bd (bd (some way_2) fun x => bd (some ()) fun y => some (x, y)) fun y => some (x, y)) fun a => m_divided a.1 a.2.1) fun x => bd (bd (bd (bd (bd (bd (some d_high) fun x => bd (bd (some d_start) fun x => bd (some ()) fun y => some (x, y)) fun y => some (x, y)) fun a => m_minus a.1 a.2.1) fun x => bd (bd (some way_2) fun x => bd (some ()) fun y => some (x, y)) fun y => some (x, y)) fun a => m_divided a.1 a.2.1) fun x => bd (some []) fun y => some (x :: y)) fun y => some (x :: y)) fun shares_4 => (bd (bd (bd (bd (some span_1) fun x => some x.1) fun x => bd (bd (bd (bd (bd (some shares_4) fun x => bd (some (0 : Int)) fun y => atI x y) fun x => bd (bd (bd (some shares_4) fun x => bd (some (1 : Int)) fun y => atI x y) fun x => bd (some ()) fun y => some (x, y)) fun y => some (x, y)) fun a => m_lesser a.1 a.2.1) fun x => bd (some ()) fun y => some (x, y)) fun y => some (x, y)) fun a => m_greater a.1 a.2.1) fun first_5 => (bd (bd (bd (bd (some span_1) fun x => some x.2) fun x => bd (bd (bd (bd (bd (some shares_4) fun x => bd (some (0 : Int)) fun y => atI x y) fun x => bd (bd (bd (some shares_4) fun x => bd (some (1 : Int)) fun y => atI x y) fun x => bd (some ()) fun y => some (x, y)) fun y => some (x, y)) fun a => m_greater a.1 a.2.1) fun x => bd (some ()) fun y => some (x, y)) fun y => some (x, y)) fun a => m_lesser a.1 a.2.1) fun last_6 => (bd (bd (bd (bd (some first_5) fun x => bd (bd (some last_6) fun x => bd (some ()) fun y => some (x, y)) fun y => some (x, y)) fun a => m_order a.1 a.2.1) fun x => bd (some (0 : Int)) fun y => some (decide (x ≤ y))) fun x => if x then (bd (bd (some first_5) fun x => bd (some last_6) fun y => some (x, y)) fun x => some (some x)) else (bd (some ()) fun _ => some none))))))))
abbrev sp_narrowed (K : PySem.W.Frag) : Sp := spF (K := K) (aCons (tOpt (tT2 tRat tRat)) (aCons tRat (aCons tRat (aCons tRat (aCons tRat aNil))))) (fun S => of (K := K) (tOpt (tT2 tRat tRat)) S) (fun a => m_narrowed a.1 a.2.1 a.2.2.1 a.2.2.2.1 a.2.2.2.2.1)
theorem ok_narrowed (ev : Env K mg) : FnOk P w K mg base CX0 4 ev.f_narrowed ev.d_narrowed p_narrowed (sp_narrowed K) := by
  refine ev.A_narrowed.F.ok sc_narrowed (fun vs H Q E h => ?_) (fun cdv A outer s H0 vs Q E hr h => ?_)
  · obtain ⟨S, ⟨d_span, d_start, d_end, d_low, d_high, _⟩, y, _, ⟨v_span, _, rfl, h_span, v_start, _, rfl, h_start, v_end, _, rfl, h_end, v_low, _, rfl, h_low, v_high, _, rfl, h_high, rfl⟩, _⟩ := h
    rfl
  obtain ⟨S, ⟨d_span, d_start, d_end, d_low, d_high, _⟩, y, dm, ⟨v_span, _, rfl, h_span, v_start, _, rfl, h_start, v_end, _, rfl, h_end, v_low, _, rfl, h_low, v_high, _, rfl, h_high, rfl⟩, hm, q⟩ := h
  have ts : Sub [] S := fun a m => by simp at m
  have fr0 := Fr.refl (T := []) H0
  have sub0 : Sub S S := fun a m => m
  refine ⟨_, (pss_cons (ps_if (pt_cmpR op_isN (pv 0) pe_non (nomark _))
    (pss_one (ps_ret pe_non)) pss_nil)
    (pss_cons (ps_set (i := 5) sc_narrowed.nd rfl (Or.inl rfl) (pe_call (ok_minus ev) (hr.mono (by decide)) (by rfl) ev.A_minus.m ev.A_minus.F.kp ev.A_minus.b .nil pass0 (pa_cons (pv 2) (pa_cons (pv 1) pa_nil))))
    (pss_cons (ps_if (pt_cmpR (op_eqD hr.units) (pv 5) (pe_glob (v := .ref ev.a_NOUGHT) (by rfl) ev.c_NOUGHT rfl) (nomark _))
    (pss_one (ps_ret (pe_ifExp (PW.pt (pw_and (pt_cmpR op_le (pe_call (ok_order ev) (hr.mono (by decide)) (by rfl) ev.A_order.m ev.A_order.F.kp ev.A_order.b .nil pass0 (pa_cons (pv 3) (pa_cons (pv 1) pa_nil))) pe_int (nomark _)) (pw_and1 (pt_cmpR op_le (pe_call (ok_order ev) (hr.mono (by decide)) (by rfl) ev.A_order.m ev.A_order.F.kp ev.A_order.b .nil pass0 (pa_cons (pv 1) (pa_cons (pv 4) pa_nil))) pe_int (nomark _))))) (pv 0) pe_non))) pss_nil)
    (pss_cons (ps_set (i := 6) sc_narrowed.nd rfl (Or.inl rfl) (pe_lst (pa_cons (pe_call (ok_divided ev) (hr.mono (by decide)) (by rfl) ev.A_divided.m ev.A_divided.F.kp ev.A_divided.b .nil pass0 (pa_cons (pe_call (ok_minus ev) (hr.mono (by decide)) (by rfl) ev.A_minus.m ev.A_minus.F.kp ev.A_minus.b .nil pass0 (pa_cons (pv 3) (pa_cons (pv 1) pa_nil))) (pa_cons (pv 5) pa_nil))) (pa_cons (pe_call (ok_divided ev) (hr.mono (by decide)) (by rfl) ev.A_divided.m ev.A_divided.F.kp ev.A_divided.b .nil pass0 (pa_cons (pe_call (ok_minus ev) (hr.mono (by decide)) (by rfl) ev.A_minus.m ev.A_minus.F.kp ev.A_minus.b .nil pass0 (pa_cons (pv 4) (pa_cons (pv 1) pa_nil))) (pa_cons (pv 5) pa_nil))) pa_nil))))
    (pss_cons (ps_set (i := 7) sc_narrowed.nd rfl (Or.inl rfl) (pe_call (ok_greater ev) (hr.mono (by decide)) (by rfl) ev.A_greater.m ev.A_greater.F.kp ev.A_greater.b .nil pass0 (pa_cons (pe_ix ix_tup (pv 0) pe_int (fun _ _ => rfl)) (pa_cons (pe_call (ok_lesser ev) (hr.mono (by decide)) (by rfl) ev.A_lesser.m ev.A_lesser.F.kp ev.A_lesser.b .nil pass0 (pa_cons (pe_ix ix_list (pv 6) pe_int (fun _ _ => rfl)) (pa_cons (pe_ix ix_list (pv 6) pe_int (fun _ _ => rfl)) pa_nil))) pa_nil))))
    (pss_cons (ps_set (i := 8) sc_narrowed.nd rfl (Or.inl rfl) (pe_call (ok_lesser ev) (hr.mono (by decide)) (by rfl) ev.A_lesser.m ev.A_lesser.F.kp ev.A_lesser.b .nil pass0 (pa_cons (pe_ix ix_tup (pv 0) pe_int (fun _ _ => rfl)) (pa_cons (pe_call (ok_greater ev) (hr.mono (by decide)) (by rfl) ev.A_greater.m ev.A_greater.F.kp ev.A_greater.b .nil pass0 (pa_cons (pe_ix ix_list (pv 6) pe_int (fun _ _ => rfl)) (pa_cons (pe_ix ix_list (pv 6) pe_int (fun _ _ => rfl)) pa_nil))) pa_nil))))
    (pss_one (ps_ret (pe_ifExp (pt_cmpR op_le (pe_call (ok_order ev) (hr.mono (by decide)) (by rfl) ev.A_order.m ev.A_order.F.kp ev.A_order.b .nil pass0 (pa_cons (pv 7) (pa_cons (pv 8) pa_nil))) pe_int (nomark _)) (pe_tup (pa_cons (pv 7) (pa_cons (pv 8) pa_nil))) pe_non))))))))), ?_⟩
  dsimp only [m_narrowed] at hm
  rcases opt_cases hm with ⟨eo1, hm⟩ | ⟨span_1, eo1, hm⟩
  · skip
    refine q_if (T := []) (b := true) dm (eb_isN (a := ((tT2 tRat tRat) : Ty K (Rat × Rat))) ts h_span rfl) (by rw [eo1]; rfl) (fun hc H1 s1 => ?_) (fun hc H1 s1 => by cases hc)
    have fr0 := fr0.trans (Fr.same s1)
    have dm := dm.same s1
    have h_span := ((tOpt (tT2 tRat tRat)) : Ty K (Option (Rat × Rat))).mono (S := S) (Fr.same s1) h_span
    have h_start := (tRat : Ty K Rat).mono (S := S) (Fr.same s1) h_start
    have h_end := (tRat : Ty K Rat).mono (S := S) (Fr.same s1) h_end
    have h_low := (tRat : Ty K Rat).mono (S := S) (Fr.same s1) h_low
    have h_high := (tRat : Ty K Rat).mono (S := S) (Fr.same s1) h_high
    have er := hm
    exact q_ret (T := []) dm (ev_oN (a := ((tT2 tRat tRat) : Ty K (Rat × Rat))) (ev_none (K := K))) er (fun v H7 s7 hv => q v H7 (fr0.trans (Fr.same s7)).toSame (((tOpt (tT2 tRat tRat)) : Ty K (Option (Rat × Rat))).sub (S := S) (H := H7) sub0 hv))
  · skip
    refine q_if (T := []) (b := false) dm (eb_isN (a := ((tT2 tRat tRat) : Ty K (Rat × Rat))) ts h_span rfl) (by rw [eo1]; rfl) (fun hc H1 s1 => by cases hc) (fun hc H1 s1 => ?_)
    have fr0 := fr0.trans (Fr.same s1)
    have dm := dm.same s1
    have h_span := ((tOpt (tT2 tRat tRat)) : Ty K (Option (Rat × Rat))).mono (S := S) (Fr.same s1) h_span
    have h_start := (tRat : Ty K Rat).mono (S := S) (Fr.same s1) h_start
    have h_end := (tRat : Ty K Rat).mono (S := S) (Fr.same s1) h_end
    have h_low := (tRat : Ty K Rat).mono (S := S) (Fr.same s1) h_low
    have h_high := (tRat : Ty K Rat).mono (S := S) (Fr.same s1) h_high
    have h_span := opt_is (a := ((tT2 tRat tRat) : Ty K (Rat × Rat))) (S := S) h_span eo1
    refine q_next ?_
    obtain ⟨way_2, e2, hm⟩ := bd_some hm
    refine q_asg (T := []) dm (ev_call (ea_cons (ev_var ts h_end rfl) (ea_cons (ev_var ts h_start rfl) ea_nil))) e2 (fun v_way H2 s2 h_way => ?_)
    have fr0 := fr0.trans (Fr.same s2)
    have dm := dm.same s2
    have h_span := ((tT2 tRat tRat) : Ty K (Rat × Rat)).mono (S := S) (Fr.same s2) h_span
    have h_start := (tRat : Ty K Rat).mono (S := S) (Fr.same s2) h_start
    have h_end := (tRat : Ty K Rat).mono (S := S) (Fr.same s2) h_end
    have h_low := (tRat : Ty K Rat).mono (S := S) (Fr.same s2) h_low
    have h_high := (tRat : Ty K Rat).mono (S := S) (Fr.same s2) h_high
    have h_way : (tRat : Ty K Rat).rp S H2 v_way way_2 := h_way
    obtain ⟨c3, e3, hm⟩ := bd_some hm
    refine q_if (T := []) dm (eb_test (K := K) (ev_op (od_eqD (K := K) dRat (Nat.le_of_ble_eq_true rfl)) (ev_var ts h_way rfl) (ev_c (a := tRat) fun H => ⟨_, rfl, .inr (ev.q_NOUGHT _)⟩))) e3 (fun hc H3 s3 => ?_) (fun hc H3 s3 => ?_)
    · skip
      subst hc
      have hm := if_t hm
      have fr0 := fr0.trans (Fr.same s3)
      have dm := dm.same s3
      have h_span := ((tT2 tRat tRat) : Ty K (Rat × Rat)).mono (S := S) (Fr.same s3) h_span
      have h_start := (tRat : Ty K Rat).mono (S := S) (Fr.same s3) h_start
      have h_end := (tRat : Ty K Rat).mono (S := S) (Fr.same s3) h_end
      have h_low := (tRat : Ty K Rat).mono (S := S) (Fr.same s3) h_low
      have h_high := (tRat : Ty K Rat).mono (S := S) (Fr.same s3) h_high
      have h_way := (tRat : Ty K Rat).mono (S := S) (Fr.same s3) h_way
      have er := hm
      exact q_ret (T := []) dm (ev_if (eb_and (eb_test (K := K) (ev_op (od_le (K := K)) (ev_call (ea_cons (ev_var ts h_low rfl) (ea_cons (ev_var ts h_start rfl) ea_nil))) (ev_int (K := K)))) (eb_test (K := K) (ev_op (od_le (K := K)) (ev_call (ea_cons (ev_var ts h_start rfl) (ea_cons (ev_var ts h_high rfl) ea_nil))) (ev_int (K := K))))) (ev_oS (ev_var ts h_span rfl)) (ev_oN (a := ((tT2 tRat tRat) : Ty K (Rat × Rat))) (ev_none (K := K)))) er (fun v H8 s8 hv => q v H8 (fr0.trans (Fr.same s8)).toSame (((tOpt (tT2 tRat tRat)) : Ty K (Option (Rat × Rat))).sub (S := S) (H := H8) sub0 hv))
    subst hc
    have hm := if_f hm
    have fr0 := fr0.trans (Fr.same s3)
    have dm := dm.same s3
    have h_span := ((tT2 tRat tRat) : Ty K (Rat × Rat)).mono (S := S) (Fr.same s3) h_span
    have h_start := (tRat : Ty K Rat).mono (S := S) (Fr.same s3) h_start
    have h_end := (tRat : Ty K Rat).mono (S := S) (Fr.same s3) h_end
    have h_low := (tRat : Ty K Rat).mono (S := S) (Fr.same s3) h_low
    have h_high := (tRat : Ty K Rat).mono (S := S) (Fr.same s3) h_high
    have h_way := (tRat : Ty K Rat).mono (S := S) (Fr.same s3) h_way
    refine q_next ?_
    obtain ⟨shares_4, e4, hm⟩ := bd_some hm
    refine q_asg (T := []) dm (ev_new (ev_lst (el_cons (ev_call (ea_cons (ev_call (ea_cons (ev_var ts h_low rfl) (ea_cons (ev_var ts h_start rfl) ea_nil))) (ea_cons (ev_var ts h_way rfl) ea_nil))) (el_cons (ev_call (ea_cons (ev_call (ea_cons (ev_var ts h_high rfl) (ea_cons (ev_var ts h_start rfl) ea_nil))) (ea_cons (ev_var ts h_way rfl) ea_nil))) el_nil)) (by decide))) e4 (fun v_shares H4 s4 h_shares => ?_)
    have fr0 := fr0.trans (Fr.same s4)
    have dm := dm.same s4
    have h_span := ((tT2 tRat tRat) : Ty K (Rat × Rat)).mono (S := S) (Fr.same s4) h_span
    have h_start := (tRat : Ty K Rat).mono (S := S) (Fr.same s4) h_start
    have h_end := (tRat : Ty K Rat).mono (S := S) (Fr.same s4) h_end
    have h_low := (tRat : Ty K Rat).mono (S := S) (Fr.same s4) h_low
    have h_high := (tRat : Ty K Rat).mono (S := S) (Fr.same s4) h_high
    have h_way := (tRat : Ty K Rat).mono (S := S) (Fr.same s4) h_way
    have h_shares : ((tL tRat) : Ty K (List Rat)).rp S H4 v_shares shares_4 := h_shares
    obtain ⟨first_5, e5, hm⟩ := bd_some hm
    refine q_asg (T := []) dm (ev_call (ea_cons (ev_ix20 (ev_var ts h_span rfl)) (ea_cons (ev_call (ea_cons (ev_op od_ixL (ev_var ts h_shares rfl) (ev_int (K := K))) (ea_cons (ev_op od_ixL (ev_var ts h_shares rfl) (ev_int (K := K))) ea_nil))) ea_nil))) e5 (fun v_first H5 s5 h_first => ?_)
    have fr0 := fr0.trans (Fr.same s5)
    have dm := dm.same s5
    have h_span := ((tT2 tRat tRat) : Ty K (Rat × Rat)).mono (S := S) (Fr.same s5) h_span
    have h_start := (tRat : Ty K Rat).mono (S := S) (Fr.same s5) h_start
    have h_end := (tRat : Ty K Rat).mono (S := S) (Fr.same s5) h_end
    have h_low := (tRat : Ty K Rat).mono (S := S) (Fr.same s5) h_low
    have h_high := (tRat : Ty K Rat).mono (S := S) (Fr.same s5) h_high
    have h_way := (tRat : Ty K Rat).mono (S := S) (Fr.same s5) h_way
    have h_shares := ((tL tRat) : Ty K (List Rat)).mono (S := S) (Fr.same s5) h_shares
    have h_first : (tRat : Ty K Rat).rp S H5 v_first first_5 := h_first
    obtain ⟨last_6, e6, hm⟩ := bd_some hm
    refine q_asg (T := []) dm (ev_call (ea_cons (ev_ix21 (ev_var ts h_span rfl)) (ea_cons (ev_call (ea_cons (ev_op od_ixL (ev_var ts h_shares rfl) (ev_int (K := K))) (ea_cons (ev_op od_ixL (ev_var ts h_shares rfl) (ev_int (K := K))) ea_nil))) ea_nil))) e6 (fun v_last H6 s6 h_last => ?_)
    have fr0 := fr0.trans (Fr.same s6)
    have dm := dm.same s6
    have h_span := ((tT2 tRat tRat) : Ty K (Rat × Rat)).mono (S := S) (Fr.same s6) h_span
    have h_start := (tRat : Ty K Rat).mono (S := S) (Fr.same s6) h_start
    have h_end := (tRat : Ty K Rat).mono (S := S) (Fr.same s6) h_end
    have h_low := (tRat : Ty K Rat).mono (S := S) (Fr.same s6) h_low
    have h_high := (tRat : Ty K Rat).mono (S := S) (Fr.same s6) h_high
    have h_way := (tRat : Ty K Rat).mono (S := S) (Fr.same s6) h_way
    have h_shares := ((tL tRat) : Ty K (List Rat)).mono (S := S) (Fr.same s6) h_shares
    have h_first := (tRat : Ty K Rat).mono (S := S) (Fr.same s6) h_first
    have h_last : (tRat : Ty K Rat).rp S H6 v_last last_6 := h_last
    have er := hm
    exact q_ret (T := []) dm (ev_if (eb_test (K := K) (ev_op (od_le (K := K)) (ev_call (ea_cons (ev_var ts h_first rfl) (ea_cons (ev_var ts h_last rfl) ea_nil))) (ev_int (K := K)))) (ev_oS (ev_tup2 (ev_var ts h_first rfl) (ev_var ts h_last rfl))) (ev_oN (a := ((tT2 tRat tRat) : Ty K (Rat × Rat))) (ev_none (K := K)))) er (fun v H9 s9 hv => q v H9 (fr0.trans (Fr.same s9)).toSame (((tOpt (tT2 tRat tRat)) : Ty K (Option (Rat × Rat))).sub (S := S) (H := H9) sub0 hv))
def m_tile_box (d_key : (Int × Int)) (d_side : Int) : Option (Int × Int × Int × Int) :=
  (bd (some d_key) fun u_1 => (bd (bd (some u_1.1) fun x => bd (some d_side) fun y => mul? x y) fun x => bd (bd (some u_1.2) fun x => bd (some d_side) fun y => mul? x y) fun y => bd (bd (bd (some u_1.1) fun x => bd (some (1 : Int)) fun y => some (x + y)) fun x => bd (some d_side) fun y => mul? x y) fun z => bd (bd (bd (some u_1.2) fun x => bd (some (1 : Int)) fun y => some (x + y)) fun x => bd (some d_side) fun y => mul? x y) fun w => some (x, y, z, w)))
abbrev sp_tile_box (K : PySem.W.Frag) : Sp := spF (K := K) (aCons (tT2 tInt tInt) (aCons tInt aNil)) (fun S => of (K := K) (tT4 tInt tInt tInt tInt) S) (fun a => m_tile_box a.1 a.2.1)
theorem ok_tile_box (ev : Env K mg) : FnOk P w K mg base CX0 1 ev.f_tile_box ev.d_tile_box p_tile_box (sp_tile_box K) := by
  refine ev.A_tile_box.F.ok sc_tile_box (fun vs H Q E h => ?_) (fun cdv A outer s H0 vs Q E hr h => ?_)
  · obtain ⟨S, ⟨d_key, d_side, _⟩, y, _, ⟨v_key, _, rfl, h_key, v_side, _, rfl, h_side, rfl⟩, _⟩ := h
    rfl
  obtain ⟨S, ⟨d_key, d_side, _⟩, y, dm, ⟨v_key, _, rfl, h_key, v_side, _, rfl, h_side, rfl⟩, hm, q⟩ := h
  have ts : Sub [] S := fun a m => by simp at m
  have fr0 := Fr.refl (T := []) H0
  have sub0 : Sub S S := fun a m => m
  refine ⟨_, (pss_cons (ps_asg (pv 0) (pg_tup rfl (pgs_cons (pg_name (i := 2) sc_tile_box.nd rfl (Or.inl rfl)) (pgs_cons (pg_name (i := 3) sc_tile_box.nd rfl (Or.inl rfl)) pgs_nil))))
    (pss_one (ps_ret (pe_tup (pa_cons (pe_op op_mulW (pv 2) (pv 1)) (pa_cons (pe_op op_mulW (pv 3) (pv 1)) (pa_cons (pe_op op_mulW (pe_op op_add (pv 2) pe_int) (pv 1)) (pa_cons (pe_op op_mulW (pe_op op_add (pv 3) pe_int) (pv 1)) pa_nil)))))))), ?_⟩
  dsimp only [m_tile_box] at hm
  obtain ⟨u_1, e1, hm⟩ := bd_some hm
  refine q_unp2 (T := []) dm (ev_var ts h_key rfl) e1 (fun v_a v_b H1 s1 h_a h_b => ?_)
  have fr0 := fr0.trans (Fr.same s1)
  have dm := dm.same s1
  have h_key := ((tT2 tInt tInt) : Ty K (Int × Int)).mono (S := S) (Fr.same s1) h_key
  have h_side := (tInt : Ty K Int).mono (S := S) (Fr.same s1) h_side
  have er := hm
  exact q_ret (T := []) dm (ev_tup4 (ev_op (od_mul (K := K)) (ev_var ts h_a rfl) (ev_var ts h_side rfl)) (ev_op (od_mul (K := K)) (ev_var ts h_b rfl) (ev_var ts h_side rfl)) (ev_op (od_mul (K := K)) (ev_op (od_add (K := K)) (ev_var ts h_a rfl) (ev_int (K := K))) (ev_var ts h_side rfl)) (ev_op (od_mul (K := K)) (ev_op (od_add (K := K)) (ev_var ts h_b rfl) (ev_int (K := K))) (ev_var ts h_side rfl))) er (fun v H2 s2 hv => q v H2 (fr0.trans (Fr.same s2)).toSame (((tT4 tInt tInt tInt tInt) : Ty K (Int × Int × Int × Int)).sub (S := S) (H := H2) sub0 hv))
def m_cut (d_one : (Int × Int)) (d_other : (Int × Int)) (d_box : (Int × Int × Int × Int)) : Option (Option ((Rat × Rat) × (Rat × Rat))) :=
  (bd (some d_box) fun u_1 => (bd (bd (bd (some d_one) fun x => bd (some ()) fun y => some (x, y)) fun a => m_spot_of a.1) fun start_2 => (bd (bd (bd (some d_other) fun x => bd (some ()) fun y => some (x, y)) fun a => m_spot_of a.1) fun end_3 => (bd (bd (bd (bd (bd (some (0 : Rat)) fun x => bd (some (1 : Rat)) fun y => some (x, y)) fun x => some (some x)) fun x => bd (bd (bd (some start_2) fun x => some x.1) fun x => bd (bd (bd (some end_3) fun x => some x.1) fun x => bd (bd (bd (bd (some u_1.1) fun x => bd (some (1 : Int)) fun y => some (x, y)) p2r) fun x => bd (bd (bd (bd (some u_1.2.2.1) fun x => bd (some (1 : Int)) fun y => some (x, y)) p2r) fun x => bd (some ()) fun y => some (x, y)) fun y => some (x, y)) fun y => some (x, y)) fun y => some (x, y)) fun y => some (x, y)) fun a => m_narrowed a.1 a.2.1 a.2.2.1 a.2.2.2.1 a.2.2.2.2.1) fun span_4 => (bd (bd (bd (some span_4) fun x => bd (bd (bd (some start_2) fun x => some x.2) fun x => bd (bd (bd (some end_3) fun x => some x.2) fun x => bd (bd (bd (bd (some u_1.2.1) fun x => bd (some (1 : Int)) fun y => some (x, y)) p2r) fun x => bd (bd (bd (bd (some u_1.2.2.2) fun x => bd (some (1 : Int)) fun y => some (x, y)) p2r) fun x => bd (some ()) fun y => some (x, y)) fun y => some (x, y)) fun y => some (x, y)) fun y => some (x, y)) fun y => some (x, y)) fun a => m_narrowed a.1 a.2.1 a.2.2.1 a.2.2.2.1 a.2.2.2.2.1) fun span_5 => (optM span_5 (bd (some ()) fun _ => some none) fun span_6 => (bd (bd (bd (bd (some start_2) fun x => bd (bd (some end_3) fun x => bd (bd (bd (some span_6) fun x => some x.1) fun x => bd (some ()) fun y => some (x, y)) fun y => some (x, y)) fun y => some (x, y)) fun a => m_between a.1 a.2.1 a.2.2.1) fun x => bd (bd (bd (some start_2) fun x => bd (bd (some end_3) fun x => bd (bd (bd (some span_6) fun x => some x.2) fun x => bd (some ()) fun y => some (x, y)) fun y => some (x, y)) fun y => some (x, y)) fun a => m_between a.1 a.2.1 a.2.2.1) fun y => some (x, y)) fun x => some (some x))))))))
abbrev sp_cut (K : PySem.W.Frag) : Sp := spF (K := K) (aCons (tT2 tInt tInt) (aCons (tT2 tInt tInt) (aCons (tT4 tInt tInt tInt tInt) aNil))) (fun S => of (K := K) (tOpt (tT2 (tT2 tRat tRat) (tT2 tRat tRat))) S) (fun a => m_cut a.1 a.2.1 a.2.2.1)
theorem ok_cut (ev : Env K mg) : FnOk P w K mg base CX0 5 ev.f_cut ev.d_cut p_cut (sp_cut K) := by
  refine ev.A_cut.F.ok sc_cut (fun vs H Q E h => ?_) (fun cdv A outer s H0 vs Q E hr h => ?_)
  · obtain ⟨S, ⟨d_one, d_other, d_box, _⟩, y, _, ⟨v_one, _, rfl, h_one, v_other, _, rfl, h_other, v_box, _, rfl, h_box, rfl⟩, _⟩ := h
    rfl
  obtain ⟨S, ⟨d_one, d_other, d_box, _⟩, y, dm, ⟨v_one, _, rfl, h_one, v_other, _, rfl, h_other, v_box, _, rfl, h_box, rfl⟩, hm, q⟩ := h
  have ts : Sub [] S := fun a m => by simp at m
  have fr0 := Fr.refl (T := []) H0
  have sub0 : Sub S S := fun a m => m
  refine ⟨_, (pss_cons (ps_asg (pv 2) (pg_tup rfl (pgs_cons (pg_name (i := 3) sc_cut.nd rfl (Or.inl rfl)) (pgs_cons (pg_name (i := 4) sc_cut.nd rfl (Or.inl rfl)) (pgs_cons (pg_name (i := 5) sc_cut.nd rfl (Or.inl rfl)) (pgs_cons (pg_name (i := 6) sc_cut.nd rfl (Or.inl rfl)) pgs_nil))))))
    (pss_cons (ps_par (i := 7) (j := 8) (by rfl) sc_cut.nd rfl rfl (by decide) rfl rfl (pa_cons (pe_call (ok_spot_of ev) (hr.mono (by decide)) (by rfl) ev.A_spot_of.m ev.A_spot_of.F.kp ev.A_spot_of.b .nil pass0 (pa_cons (pv 0) pa_nil)) (pa_cons (pe_call (ok_spot_of ev) (hr.mono (by decide)) (by rfl) ev.A_spot_of.m ev.A_spot_of.F.kp ev.A_spot_of.b .nil pass0 (pa_cons (pv 1) pa_nil)) pa_nil)) (by rfl))
    (pss_cons (ps_set (i := 9) sc_cut.nd rfl (Or.inl rfl) (pe_call (ok_narrowed ev) (hr.mono (by decide)) (by rfl) ev.A_narrowed.m ev.A_narrowed.F.kp ev.A_narrowed.b .nil pass0 (pa_cons (pe_tup (pa_cons (pe_glob (v := .ref ev.a_NOUGHT) (by rfl) ev.c_NOUGHT rfl) (pa_cons (pe_glob (v := .ref ev.a_ONE) (by rfl) ev.c_ONE rfl) pa_nil))) (pa_cons (pe_ix ix_tup (pv 7) pe_int (fun _ _ => rfl)) (pa_cons (pe_ix ix_tup (pv 8) pe_int (fun _ _ => rfl)) (pa_cons (pe_tup (pa_cons (pv 3) (pa_cons pe_int pa_nil))) (pa_cons (pe_tup (pa_cons (pv 5) (pa_cons pe_int pa_nil))) pa_nil)))))))
    (pss_cons (ps_set (i := 9) sc_cut.nd rfl (Or.inl rfl) (pe_call (ok_narrowed ev) (hr.mono (by decide)) (by rfl) ev.A_narrowed.m ev.A_narrowed.F.kp ev.A_narrowed.b .nil pass0 (pa_cons (pv 9) (pa_cons (pe_ix ix_tup (pv 7) pe_int (fun _ _ => rfl)) (pa_cons (pe_ix ix_tup (pv 8) pe_int (fun _ _ => rfl)) (pa_cons (pe_tup (pa_cons (pv 4) (pa_cons pe_int pa_nil))) (pa_cons (pe_tup (pa_cons (pv 6) (pa_cons pe_int pa_nil))) pa_nil)))))))
    (pss_cons (ps_if (pt_cmpR op_isN (pv 9) pe_non (nomark _))
    (pss_one (ps_ret pe_non)) pss_nil)
    (pss_one (ps_ret (pe_tup (pa_cons (pe_call (ok_between ev) (hr.mono (by decide)) (by rfl) ev.A_between.m ev.A_between.F.kp ev.A_between.b .nil pass0 (pa_cons (pv 7) (pa_cons (pv 8) (pa_cons (pe_ix ix_tup (pv 9) pe_int (fun _ _ => rfl)) pa_nil)))) (pa_cons (pe_call (ok_between ev) (hr.mono (by decide)) (by rfl) ev.A_between.m ev.A_between.F.kp ev.A_between.b .nil pass0 (pa_cons (pv 7) (pa_cons (pv 8) (pa_cons (pe_ix ix_tup (pv 9) pe_int (fun _ _ => rfl)) pa_nil)))) pa_nil)))))))))), ?_⟩
  dsimp only [m_cut] at hm
  obtain ⟨u_1, e1, hm⟩ := bd_some hm
  refine q_unp4 (T := []) dm (ev_var ts h_box rfl) e1 (fun v_left v_low v_right v_top H1 s1 h_left h_low h_right h_top => ?_)
  have fr0 := fr0.trans (Fr.same s1)
  have dm := dm.same s1
  have h_one := ((tT2 tInt tInt) : Ty K (Int × Int)).mono (S := S) (Fr.same s1) h_one
  have h_other := ((tT2 tInt tInt) : Ty K (Int × Int)).mono (S := S) (Fr.same s1) h_other
  have h_box := ((tT4 tInt tInt tInt tInt) : Ty K (Int × Int × Int × Int)).mono (S := S) (Fr.same s1) h_box
  obtain ⟨start_2, ea3, hm⟩ := bd_some hm
  obtain ⟨end_3, eb3, hm⟩ := bd_some hm
  refine q_par (T := []) dm (ev_call (ea_cons (ev_var ts h_one rfl) ea_nil)) ea3 (ev_call (ea_cons (ev_var ts h_other rfl) ea_nil)) eb3 (fun v_start v_end H3 s3 h_start h_end => ?_)
  have fr0 := fr0.trans (Fr.same s3)
  have dm := dm.same s3
  have h_one := ((tT2 tInt tInt) : Ty K (Int × Int)).mono (S := S) (Fr.same s3) h_one
  have h_other := ((tT2 tInt tInt) : Ty K (Int × Int)).mono (S := S) (Fr.same s3) h_other
  have h_box := ((tT4 tInt tInt tInt tInt) : Ty K (Int × Int × Int × Int)).mono (S := S) (Fr.same s3) h_box
  have h_left := (tInt : Ty K Int).mono (S := S) (Fr.same s3) h_left
  have h_low := (tInt : Ty K Int).mono (S := S) (Fr.same s3) h_low
  have h_right := (tInt : Ty K Int).mono (S := S) (Fr.same s3) h_right
  have h_top := (tInt : Ty K Int).mono (S := S) (Fr.same s3) h_top
  obtain ⟨span_4, e4, hm⟩ := bd_some hm
  refine q_asg (T := []) dm (ev_call (ea_cons (ev_oS (ev_tup2 (ev_c (a := tRat) fun H => ⟨_, rfl, .inr (ev.q_NOUGHT _)⟩) (ev_c (a := tRat) fun H => ⟨_, rfl, .inr (ev.q_ONE _)⟩))) (ea_cons (ev_ix20 (ev_var ts h_start rfl)) (ea_cons (ev_ix20 (ev_var ts h_end rfl)) (ea_cons (ev_p2r (ev_tup2 (ev_var ts h_left rfl) (ev_int (K := K)))) (ea_cons (ev_p2r (ev_tup2 (ev_var ts h_right rfl) (ev_int (K := K)))) ea_nil)))))) e4 (fun v_span H4 s4 h_span => ?_)
  have fr0 := fr0.trans (Fr.same s4)
  have dm := dm.same s4
  have h_one := ((tT2 tInt tInt) : Ty K (Int × Int)).mono (S := S) (Fr.same s4) h_one
  have h_other := ((tT2 tInt tInt) : Ty K (Int × Int)).mono (S := S) (Fr.same s4) h_other
  have h_box := ((tT4 tInt tInt tInt tInt) : Ty K (Int × Int × Int × Int)).mono (S := S) (Fr.same s4) h_box
  have h_left := (tInt : Ty K Int).mono (S := S) (Fr.same s4) h_left
  have h_low := (tInt : Ty K Int).mono (S := S) (Fr.same s4) h_low
  have h_right := (tInt : Ty K Int).mono (S := S) (Fr.same s4) h_right
  have h_top := (tInt : Ty K Int).mono (S := S) (Fr.same s4) h_top
  have h_start := ((tT2 tRat tRat) : Ty K (Rat × Rat)).mono (S := S) (Fr.same s4) h_start
  have h_end := ((tT2 tRat tRat) : Ty K (Rat × Rat)).mono (S := S) (Fr.same s4) h_end
  have h_span : ((tOpt (tT2 tRat tRat)) : Ty K (Option (Rat × Rat))).rp S H4 v_span span_4 := h_span
  obtain ⟨span_5, e5, hm⟩ := bd_some hm
  refine q_asg (T := []) dm (ev_call (ea_cons (ev_var ts h_span rfl) (ea_cons (ev_ix21 (ev_var ts h_start rfl)) (ea_cons (ev_ix21 (ev_var ts h_end rfl)) (ea_cons (ev_p2r (ev_tup2 (ev_var ts h_low rfl) (ev_int (K := K)))) (ea_cons (ev_p2r (ev_tup2 (ev_var ts h_top rfl) (ev_int (K := K)))) ea_nil)))))) e5 (fun v_span H5 s5 h_span => ?_)
  have fr0 := fr0.trans (Fr.same s5)
  have dm := dm.same s5
  have h_one := ((tT2 tInt tInt) : Ty K (Int × Int)).mono (S := S) (Fr.same s5) h_one
  have h_other := ((tT2 tInt tInt) : Ty K (Int × Int)).mono (S := S) (Fr.same s5) h_other
  have h_box := ((tT4 tInt tInt tInt tInt) : Ty K (Int × Int × Int × Int)).mono (S := S) (Fr.same s5) h_box
  have h_left := (tInt : Ty K Int).mono (S := S) (Fr.same s5) h_left
  have h_low := (tInt : Ty K Int).mono (S := S) (Fr.same s5) h_low
  have h_right := (tInt : Ty K Int).mono (S := S) (Fr.same s5) h_right
  have h_top := (tInt : Ty K Int).mono (S := S) (Fr.same s5) h_top
  have h_start := ((tT2 tRat tRat) : Ty K (Rat × Rat)).mono (S := S) (Fr.same s5) h_start
  have h_end := ((tT2 tRat tRat) : Ty K (Rat × Rat)).mono (S := S) (Fr.same s5) h_end
  have h_span : ((tOpt (tT2 tRat tRat)) : Ty K (Option (Rat × Rat))).rp S H5 v_span span_5 := h_span
  rcases opt_cases hm with ⟨eo6, hm⟩ | ⟨span_6, eo6, hm⟩
  · skip
    refine q_if (T := []) (b := true) dm (eb_isN (a := ((tT2 tRat tRat) : Ty K (Rat × Rat))) ts h_span rfl) (by rw [eo6]; rfl) (fun hc H6 s6 => ?_) (fun hc H6 s6 => by cases hc)
    have fr0 := fr0.trans (Fr.same s6)
    have dm := dm.same s6
    have h_one := ((tT2 tInt tInt) : Ty K (Int × Int)).mono (S := S) (Fr.same s6) h_one
    have h_other := ((tT2 tInt tInt) : Ty K (Int × Int)).mono (S := S) (Fr.same s6) h_other
    have h_box := ((tT4 tInt tInt tInt tInt) : Ty K (Int × Int × Int × Int)).mono (S := S) (Fr.same s6) h_box
    have h_left := (tInt : Ty K Int).mono (S := S) (Fr.same s6) h_left
    have h_low := (tInt : Ty K Int).mono (S := S) (Fr.same s6) h_low
    have h_right := (tInt : Ty K Int).mono (S := S) (Fr.same s6) h_right
    have h_top := (tInt : Ty K Int).mono (S := S) (Fr.same s6) h_top
    have h_start := ((tT2 tRat tRat) : Ty K (Rat × Rat)).mono (S := S) (Fr.same s6) h_start
    have h_end := ((tT2 tRat tRat) : Ty K (Rat × Rat)).mono (S := S) (Fr.same s6) h_end
    have h_span := ((tOpt (tT2 tRat tRat)) : Ty K (Option (Rat × Rat))).mono (S := S) (Fr.same s6) h_span
    have er := hm
    exact q_ret (T := []) dm (ev_oN (a := ((tT2 (tT2 tRat tRat) (tT2 tRat tRat)) : Ty K ((Rat × Rat) × (Rat × Rat)))) (ev_none (K := K))) er (fun v H7 s7 hv => q v H7 (fr0.trans (Fr.same s7)).toSame (((tOpt (tT2 (tT2 tRat tRat) (tT2 tRat tRat))) : Ty K (Option ((Rat × Rat) × (Rat × Rat)))).sub (S := S) (H := H7) sub0 hv))
  · skip
    refine q_if (T := []) (b := false) dm (eb_isN (a := ((tT2 tRat tRat) : Ty K (Rat × Rat))) ts h_span rfl) (by rw [eo6]; rfl) (fun hc H6 s6 => by cases hc) (fun hc H6 s6 => ?_)
    have fr0 := fr0.trans (Fr.same s6)
    have dm := dm.same s6
    have h_one := ((tT2 tInt tInt) : Ty K (Int × Int)).mono (S := S) (Fr.same s6) h_one
    have h_other := ((tT2 tInt tInt) : Ty K (Int × Int)).mono (S := S) (Fr.same s6) h_other
    have h_box := ((tT4 tInt tInt tInt tInt) : Ty K (Int × Int × Int × Int)).mono (S := S) (Fr.same s6) h_box
    have h_left := (tInt : Ty K Int).mono (S := S) (Fr.same s6) h_left
    have h_low := (tInt : Ty K Int).mono (S := S) (Fr.same s6) h_low
    have h_right := (tInt : Ty K Int).mono (S := S) (Fr.same s6) h_right
    have h_top := (tInt : Ty K Int).mono (S := S) (Fr.same s6) h_top
    have h_start := ((tT2 tRat tRat) : Ty K (Rat × Rat)).mono (S := S) (Fr.same s6) h_start
    have h_end := ((tT2 tRat tRat) : Ty K (Rat × Rat)).mono (S := S) (Fr.same s6) h_end
    have h_span := ((tOpt (tT2 tRat tRat)) : Ty K (Option (Rat × Rat))).mono (S := S) (Fr.same s6) h_span
    have h_span := opt_is (a := ((tT2 tRat tRat) : Ty K (Rat × Rat))) (S := S) h_span eo6
    refine q_next ?_
    have er := hm
    exact q_ret (T := []) dm (ev_oS (ev_tup2 (ev_call (ea_cons (ev_var ts h_start rfl) (ea_cons (ev_var ts h_end rfl) (ea_cons (ev_ix20 (ev_var ts h_span rfl)) ea_nil)))) (ev_call (ea_cons (ev_var ts h_start rfl) (ea_cons (ev_var ts h_end rfl) (ea_cons (ev_ix21 (ev_var ts h_span rfl)) ea_nil)))))) er (fun v H8 s8 hv => q v H8 (fr0.trans (Fr.same s8)).toSame (((tOpt (tT2 (tT2 tRat tRat) (tT2 tRat tRat))) : Ty K (Option ((Rat × Rat) × (Rat × Rat)))).sub (S := S) (H := H8) sub0 hv))
end
end G

namespace G
open PySem L2 M
section
variable {P : Program} {w : World} {K : PySem.W.Frag} {mg : Str → Option Value} {base : Heap}

/-! ### the bag -/
def spBag (K : PySem.W.Frag) : Sp := fun vs H Q _ => ∃ (a : Addr) (ns : List Int), vs = [.ref a] ∧ SqL K H a (ns.map V.int) ∧ ns.length ≤ 63 ∧ ∀ b c H', Bag H' b c → H b = none → H c = none → Same H H' → Q (.ref b) H'
theorem ok_law_bag (ev : Env K mg) : FnOk P w K mg base CX0 1 ev.f_law_bag ev.d_law_bag p_law_bag (spBag K) := by
  refine ev.A_law_bag.F.ok sc_law_bag (fun vs H Q E h => ?_) (fun cdv A outer s H vs Q E hr h => ?_)
  · obtain ⟨a, ns, rfl, _⟩ := h
    rfl
  obtain ⟨a, ns, rfl, hS, hl, q⟩ := h
  refine ⟨_, (pss_one (ps_ret (pe_lst (pa_cons (pe_callTy call_list_of (by rfl) ev.B.list_ (by decide +kernel) (pa_cons (pe_slice sl_list (pv 0) po_none (po_some pe_int)) pa_nil)) (pa_cons pe_int (pa_cons pe_int pa_nil)))))), ?_⟩
  obtain ⟨ms, em, lm⟩ := cut_ints ns none (some 63)
  refine ⟨_, rfl, _, rfl, a, _, rfl, hS, fun d nd => ?_⟩
  have s1 : Same H (upd H d (.lst (cutV (ns.map V.int) none (some 63)))) := same_upd nd
  refine ⟨d, _, rfl, .inl (SqL.of upd_same), fun c nc => ?_⟩
  have s2 := s1.trans (same_upd (o := .lst (cutV (ns.map V.int) none (some 63))) nc)
  refine ⟨(by show 3 ≤ sizeLine; decide), fun b nb => ?_⟩
  have ne : b ≠ c := fun z => by
    rw [z, upd_same] at nb
    cases nb
  refine q b c _ ⟨ne, ms, 0, 11, upd_same, ?_, by omega, by decide, by decide, by decide⟩ (s2.free nb) (s1.free nc) (s2.trans (same_upd nb))
  rw [upd_ne ne.symm, upd_same, em]

/-! ### a draw -/
def Els (b c : Addr) (H H' : Hp) : Prop := ∀ p, p ≠ b → p ≠ c → H' p = H p
theorem Els.trans {b c : Addr} {H H' H'' : Hp} (h : Els b c H H') (h' : Els b c H' H'') : Els b c H H'' := fun p n m => (h' p n m).trans (h p n m)
theorem Els.kept {b c : Addr} {H H' : Hp} (h : Els b c H H') : Kept b c H H' := fun p _ e n m => (h p n m).trans e
theorem Els.tup {b c p : Addr} {H H' : Hp} {xs : List V} (h : Els b c H H') (hB : Bag H b c) (e : H p = some (.tup xs)) : H' p = some (.tup xs) := by
  obtain ⟨n1, n2⟩ := hB.tup e
  exact (h p n1 n2).trans e
def spDraw : Sp := fun vs H Q _ => ∃ (b c : Addr) (m : Int), vs = [.ref b, .int m] ∧ Bag H b c ∧ 0 < m ∧ m < 1073741824 ∧ ∀ (r : Int) (H' : Hp), 0 ≤ r → r < m → Bag H' b c → Els b c H H' → Q (.int r) H'
theorem ok_law_draw (ev : Env K mg) : FnOk P w K mg base CX0 1 ev.f_law_draw ev.d_law_draw p_law_draw spDraw := by
  refine ev.A_law_draw.F.ok sc_law_draw (fun vs H Q E h => ?_) (fun cdv A outer s H vs Q E hr h => ?_)
  · obtain ⟨b, c, m, rfl, _⟩ := h
    rfl
  obtain ⟨b, c, m, rfl, ⟨ne, ns, slot, seed, hb, hc, hn, h0, h1, h2⟩, m0, m1, q⟩ := h
  refine ⟨_, (pss_cons (ps_set (i := 2) sc_law_draw.nd rfl (Or.inl rfl) (pe_ix ix_list (pv 0) pe_int (fun _ _ => rfl)))
    (pss_cons (ps_set (i := 3) sc_law_draw.nd rfl (Or.inl rfl) (pe_ix ix_list (pv 0) pe_int (fun _ _ => rfl)))
    (pss_cons (ps_set (i := 4) sc_law_draw.nd rfl (Or.inl rfl) pe_int)
    (pss_cons (ps_if (pt_cmpR op_gt (pe_callB call_len_seq (by rfl) ev.B.len_ PySem.boot_len (pa_cons (pv 2) pa_nil)) pe_int (nomark _))
    (pss_one (ps_set (i := 4) sc_law_draw.nd rfl (Or.inl rfl) (pe_ix ix_list (pv 2) (pe_op op_mod (pv 3) (pe_callB call_len_seq (by rfl) ev.B.len_ PySem.boot_len (pa_cons (pv 2) pa_nil))) (fun _ _ => rfl)))) pss_nil)
    (pss_cons (ps_if (pt_cmpR op_lt (pv 4) pe_int (nomark _))
    (pss_one (ps_set (i := 4) sc_law_draw.nd rfl (Or.inl rfl) (pe_op op_sub pe_int (pv 4)))) pss_nil)
    (pss_cons (ps_if (pt_cmpR op_ge (pv 4) (pe_op op_pow pe_int pe_int) (nomark _))
    (pss_cons (ps_asg (pe_op op_fdiv (pv 4) (pv 1)) (pg_sub (pv 2) (pe_op op_mod (pv 3) (pe_callB call_len_seq (by rfl) ev.B.len_ PySem.boot_len (pa_cons (pv 2) pa_nil))) set_list))
    (pss_one (ps_ret (pe_op op_mod (pv 4) (pv 1))))) pss_nil)
    (pss_cons (ps_asg (pe_op op_add (pv 3) pe_int) (pg_sub (pv 0) pe_int set_list))
    (pss_cons (ps_set (i := 5) sc_law_draw.nd rfl (Or.inl rfl) (pe_ix ix_list (pv 0) pe_int (fun _ _ => rfl)))
    (pss_cons (ps_set (i := 5) sc_law_draw.nd rfl (Or.inl rfl) (pe_op op_add (pe_op op_mul (pe_op op_mod (pe_op op_mul (pv 5) (pv 5)) pe_int) pe_int) (pe_op op_mul (pv 5) pe_int)))
    (pss_cons (ps_asg (pe_op op_mod (pe_op op_add (pe_op op_add (pe_op op_add (pv 5) (pe_op op_mul (pv 4) pe_int)) (pe_op op_mul (pv 3) pe_int)) pe_int) pe_int) (pg_sub (pv 0) pe_int set_list))
    (pss_one (ps_ret (pe_op op_mod (pe_op op_fdiv (pe_op op_mod (pe_op op_mul (pe_ix ix_list (pv 0) pe_int (fun _ _ => rfl)) pe_int) pe_int) pe_int) (pv 1)))))))))))))), ?_⟩
  refine seq_asg ⟨_, rfl, b, _, _, _, rfl, rfl, SqL.of hb, atI_nat (j := 0) rfl, ?_⟩
  refine seq_asg ⟨_, rfl, b, _, _, _, rfl, rfl, SqL.of hb, atI_nat (j := 1) rfl, ?_⟩
  have hlm : (ns.map V.int).length = ns.length := List.length_map _
  have len0 : ns ≠ [] → (0 : Int) < (((ns.map V.int).length : Nat) : Int) := fun z => by
    rw [hlm]
    have := List.length_pos_iff.mpr z
    omega
  refine seq_c ?_
  refine seq_by (fun σ H' => H' = H ∧ ∃ cell : Int, σ = [some (.ref b), some (.int m), some (.ref c), some (.int slot), some (.int cell), none] ∧ (cell ≠ 0 → ns ≠ [])) ?_ (fun k => ?_)
  rotate_left
  · refine ⟨_, rfl, c, _, rfl, .inl (SqL.of hc), _, _, rfl, rfl, _, rfl, ?_⟩
    refine ite2 (fun z => ?_) (fun z => ?_)
    · have z' : (0 : Int) < (((ns.map V.int).length : Nat) : Int) := of_decide_eq_true z
      obtain ⟨v, hv⟩ := int_at (ns := ns) (i := slot % (((ns.map V.int).length : Nat) : Int)) (Int.emod_nonneg _ (by omega)) (by rw [← hlm]; exact Int.emod_lt_of_pos _ z')
      refine ⟨_, rfl, _, rfl, _, rfl, c, _, rfl, .inl (SqL.of hc), _, _, rfl, rfl, z', c, _, _, _, rfl, rfl, SqL.of hc, hv, ?_⟩
      refine k _ _ ⟨rfl, v, rfl, fun _ e => ?_⟩
      rw [hlm, e] at z'
      exact absurd z' (by decide)
    · exact k _ _ ⟨rfl, 0, rfl, fun e => absurd rfl e⟩
  rintro σ H' ⟨rfl, cell, rfl, hcell⟩
  refine seq_by (fun σ H2 => H2 = H' ∧ ∃ cell : Int, σ = [some (.ref b), some (.int m), some (.ref c), some (.int slot), some (.int cell), none] ∧ 0 ≤ cell ∧ (cell ≠ 0 → ns ≠ [])) ?_ (fun k => ?_)
  rotate_left
  · refine ⟨_, rfl, _, _, rfl, rfl, _, rfl, ?_⟩
    refine ite2 (fun z => ?_) (fun z => ?_)
    · have z' : cell < 0 := of_decide_eq_true z
      exact ⟨_, rfl, _, _, rfl, rfl, k _ _ ⟨rfl, 1 - cell, rfl, by omega, fun _ => hcell (by omega)⟩⟩
    · have z' : ¬ cell < 0 := fun e => z (decide_eq_true e)
      exact k _ _ ⟨rfl, cell, rfl, by omega, hcell⟩
  rintro σ H' ⟨rfl, cell, rfl, hc0, hcell⟩
  refine ⟨_, rfl, _, _, rfl, rfl, ⟨by decide, by decide, by decide⟩, _, _, rfl, rfl, _, rfl, ?_⟩
  refine ite2 (fun z => ?_) (fun z => ?_)
  · have z' : cell ≥ (10 : Int) ^ (18 : Int).toNat := of_decide_eq_true z
    have zz : cell ≠ 0 := fun e => by
      rw [e] at z'
      exact absurd z' (by decide)
    have z2 := len0 (hcell zz)
    have b0 := Int.emod_nonneg slot (show (((ns.map V.int).length : Nat) : Int) ≠ 0 by omega)
    have b1 := Int.emod_lt_of_pos slot z2
    refine ⟨_, rfl, _, rfl, _, _, rfl, rfl, ⟨m0, m1⟩, _, rfl, _, rfl, _, rfl, c, _, rfl, .inl (SqL.of hc), _, _, rfl, rfl, z2, c, _, _, _, rfl, rfl, hc, ix_at b0 b1, ?_⟩
    refine ⟨_, rfl, _, rfl, _, _, rfl, rfl, m0, ?_⟩
    refine q _ _ (Int.emod_nonneg _ (by omega)) (Int.emod_lt_of_pos _ m0) ⟨ne, ns.set (slot % (((ns.map V.int).length : Nat) : Int)).toNat (cell / m), slot, seed, ?_, ?_, ?_, h0, h1, h2⟩ (fun p n1 n2 => ?_)
    · rw [upd_ne ne]
      exact hb
    · rw [upd_same, set_ints]
    · rw [List.length_set]
      exact hn
    · rw [upd_ne n2]
  · refine next_u ?_
    refine seq_sub ⟨_, rfl, _, _, rfl, rfl, _, rfl, b, _, _, _, rfl, rfl, hb, rfl, ?_⟩
    refine seq_asg ⟨_, rfl, b, _, _, _, rfl, rfl, SqL.of upd_same, atI_nat (j := 2) rfl, ?_⟩
    refine seq_asg ⟨_, rfl, _, rfl, _, _, rfl, rfl, .inl ⟨by omega, by omega⟩, _, _, rfl, rfl, (show (0 : Int) < 2147483629 by decide), _, _, rfl, rfl, .inr ⟨by decide, by decide⟩, _, rfl, _, _, rfl, rfl, .inr ⟨by decide, by decide⟩, _, _, rfl, rfl, ?_⟩
    refine seq_sub ⟨_, rfl, _, rfl, _, _, rfl, rfl, .inr ⟨by decide, by decide⟩, _, _, rfl, rfl, _, rfl, _, _, rfl, rfl, .inr ⟨by decide, by decide⟩, _, _, rfl, rfl, _, _, rfl, rfl, _, _, rfl, rfl, (show (0 : Int) < 2147483647 by decide), _, rfl, b, _, _, _, rfl, rfl, upd_same, rfl, ?_⟩
    generalize hn2 : seed * seed % 2147483629 * 3 + seed * 48271 + cell * 9973 + slot * 31 + 13 = big
    have g0 := Int.emod_nonneg big (show (2147483647 : Int) ≠ 0 by decide)
    have g1 := Int.emod_lt_of_pos big (show (0 : Int) < 2147483647 by decide)
    refine ⟨_, rfl, b, _, _, _, rfl, rfl, SqL.of upd_same, atI_nat (j := 2) rfl, _, _, rfl, rfl, .inr ⟨by decide, by decide⟩, _, _, rfl, rfl, (show (0 : Int) < 2147483629 by decide), _, _, rfl, rfl, ⟨by decide, by decide⟩, _, rfl, _, _, rfl, rfl, m0, ?_⟩
    refine q _ _ (Int.emod_nonneg _ (by omega)) (Int.emod_lt_of_pos _ m0) ⟨ne, ns, slot + 1, big % 2147483647, ?_, ?_, hn, by omega, g0, g1⟩ (fun p n1 n2 => ?_)
    · rw [upd_same]
      all_goals rfl
    · rw [upd_ne ne.symm, upd_ne ne.symm]
      exact hc
    · rw [upd_ne n1, upd_ne n1]

/-! ### whole numbers, things alike -/
def spWhole : Sp := fun vs H Q _ => ∃ i : Int, vs = [.int i] ∧ Q (.bl true) H
theorem ok_law_whole (ev : Env K mg) : FnOk P w K mg base CX0 1 ev.f_law_whole ev.d_law_whole p_law_whole spWhole := by
  refine ev.A_law_whole.F.ok sc_law_whole (fun vs H Q E h => ?_) (fun cdv A outer s H vs Q E hr h => ?_)
  · obtain ⟨i, rfl, _⟩ := h
    rfl
  obtain ⟨i, rfl, q⟩ := h
  refine ⟨_, (pss_one (ps_ret (pe_and (pe_callB call_isi (by rfl) ev.B.isinstance_ (by decide +kernel) (pa_cons (pv 0) (pa_cons (pe_bltn (v := .ty "int") (by rfl) ev.B.int_ (by decide +kernel) rfl) pa_nil))) (pe_one (pe_not (pe_callB call_isi (by rfl) ev.B.isinstance_ (by decide +kernel) (pa_cons (pv 0) (pa_cons (pe_bltn (v := .ty "bool") (by rfl) ev.B.bool_ (by decide +kernel) rfl) pa_nil)))))))), ?_⟩
  refine ⟨_, rfl, _, _, _, _, true, rfl, .ty _, .base (.int i), kit_ty (by decide +kernel), true, rfl, ?_⟩
  refine iteT ?_
  exact ⟨_, rfl, _, _, _, _, false, rfl, .ty _, .base (.int i), kit_ty (by decide +kernel), false, rfl, q⟩

theorem lc_keys {d : Addr} {o : Obj} {kvs : List (Key × V)} {g : TG} {tt : TT} {te : TE} {vs : List Nat} {σ : St} {H1 : Hp} {D : Addr} {Qd : Hp → Prop} (Pv : Nat → Hp → Prop) (h0 : Pv 0 (upd H1 D (.lst []))) (hl : ∀ i H, i ≤ kvs.length → Pv i H → H d = some (.frz o (.dK kvs)))
    (hs : ∀ i k v H, kvs[i]? = some (k, v) → Pv i H → g (kV k) (wipe σ vs) H fun σ2 H2 => wipe σ2 vs = wipe σ vs ∧ tt σ2 H2 fun b H3 =>
      if b = true then te σ2 H3 fun y H4 => ∃ acc, H4 D = some (.lst acc) ∧ acc.length < sizeLine ∧ Pv (i + 1) (upd H4 D (.lst (acc ++ [y]))) else Pv (i + 1) H3) (hd : ∀ H, Pv kvs.length H → Qd H) :
    ∃ W : Nat → Nat → Hp → Prop, (∃ m, W 0 m (upd H1 D (.lst []))) ∧ ∀ i m H, W i m H →
      ((Itk d o kvs).stop i H ∧ Qd H) ∨ ((Itk d o kvs).go i H ∧ ∃ Nx : Hp → Prop, (∀ H', Nx H' → ∃ m', m' < m ∧ W (i + 1) m' H') ∧ ∀ x H', (Itk d o kvs).yld i H x H' → g x (wipe σ vs) H' fun σ2 H2 => wipe σ2 vs = wipe σ vs ∧ tt σ2 H2 fun b H3 =>
        if b = true then te σ2 H3 fun y H4 => ∃ acc, H4 D = some (.lst acc) ∧ acc.length < sizeLine ∧ Nx (upd H4 D (.lst (acc ++ [y]))) else Nx H3) := by
  refine ⟨fun i m H => m = kvs.length - i ∧ i ≤ kvs.length ∧ Pv i H, ⟨kvs.length, by simp, Nat.zero_le _, h0⟩, ?_⟩
  rintro i m H ⟨rfl, hi, p⟩
  have q := hl i H hi p
  by_cases hlt : i < kvs.length
  · refine .inr ⟨⟨q, hlt⟩, Pv (i + 1), fun H' p' => ⟨kvs.length - (i + 1), by omega, rfl, hlt, p'⟩, fun x H' y => ?_⟩
    obtain ⟨e, k, v, ek, ex⟩ := y
    subst e ex
    exact hs i k v _ ek p
  · have e : i = kvs.length := by omega
    subst e
    exact .inl ⟨⟨q, Nat.le_refl _⟩, hd H p⟩
/-- sorted(d): keys that are texts, or numbers -/
theorem call_srtK {X : Cx} (hc : X.calm = true) : CallR X (.builtin "sorted") (fun xs H Q => (∃ (a : Addr) (kvs : List (Key × V)) (ks : List Str), xs = [.ref a] ∧ Rd H a (.dK kvs) ∧ kvs.map (·.1) = ks.map Sum.inr ∧ ks.length < 64 ∧
      ∀ ys p, ys.Perm ks → PyProof.Rows.sortedS ys = true → H p = none → Q (.ref p) (upd H p (.lst (ys.map V.str)))) ∨
    ∃ (a : Addr) (kvs : List (Key × V)) (ks : List Int), xs = [.ref a] ∧ Rd H a (.dK kvs) ∧ kvs.map (·.1) = ks.map Sum.inl ∧ ks.length < 64 ∧
      ∀ (ys : List Int) (p : Addr), ys.Perm ks → ys.Pairwise (· ≤ ·) → H p = none → Q (.ref p) (upd H p (.lst (ys.map V.int)))) := by
  intro pins s σ H xs us Q I r h
  rcases h with h | h
  · exact call_sortedD hc pins s σ H xs us Q I r h
  · exact call_sortedDI hc pins s σ H xs us Q I r h
/-- the heaps from H on: what was to be read there is to be read there -/
def Up (H H' : Hp) : Prop := ∀ a u, Rd H a u → Rd H' a u
theorem up_same {H H' : Hp} (s : Same H H') : Up H H' := fun a u h => by
  rcases h with h | ⟨o, h⟩
  · exact .inl (s _ _ h)
  · exact .inr ⟨o, s _ _ h⟩
theorem Up.trans {H H' H'' : Hp} (h : Up H H') (h' : Up H' H'') : Up H H'' := fun a u r => h' a u (h a u r)
theorem up_lock {H : Hp} {d : Addr} {u : HO} {od : Obj} (h : H d = some u) (nf : ∀ o v, u ≠ .frz o v) : Up H (upd H d (.frz od u)) := fun a v r => by
  by_cases e : a = d
  · subst e
    rcases r with r | ⟨o, r⟩
    · rw [h] at r
      cases r
      exact .inr ⟨od, upd_same⟩
    · rw [h] at r
      exact absurd (Option.some.inj r) (nf _ _)
  · rcases r with r | ⟨o, r⟩
    · exact .inl (by rw [upd_ne e]; exact r)
    · exact .inr ⟨o, by rw [upd_ne e]; exact r⟩
theorem tyT {K : PySem.W.Frag} {H : Hp} {a : Addr} {xs : List V} (h : SqT K H a xs) : TyX K H (.ref a) (.type "tuple") := by
  rcases h with (h | ⟨o, h⟩) | ⟨o, _, _, h, hc, _⟩
  · exact .base (.tup h)
  · exact .fTuple h
  · exact .kTuple h hc
theorem tyL {K : PySem.W.Frag} {H : Hp} {a : Addr} {xs : List V} (h : SqL K H a xs) : TyX K H (.ref a) (.type "list") := by
  rcases h with (h | ⟨o, h⟩) | ⟨o, _, _, h, hc, _⟩
  · exact .base (.lst h)
  · exact .base (.frz h)
  · exact .kList h hc
theorem sqT_up {K : PySem.W.Frag} {H H' : Hp} {a : Addr} {xs : List V} (u : Up H H') (h : SqT K H a xs) : SqT K H' a xs := by
  rcases h with h | h
  · exact .inl (u _ _ h)
  · exact .inr h
theorem sqL_up {K : PySem.W.Frag} {H H' : Hp} {a : Addr} {xs : List V} (u : Up H H') (h : SqL K H a xs) : SqL K H' a xs := by
  rcases h with h | h
  · exact .inl (u _ _ h)
  · exact .inr h
theorem tyD {K : PySem.W.Frag} {H : Hp} {a : Addr} {xs : List (Key × V)} (h : Rd H a (.dK xs)) : TyX K H (.ref a) (.type "dict") := by
  rcases h with h | ⟨o, h⟩
  · exact .base (.dK h)
  · exact .fDict h
def flat1 : V → Bool
  | .non => true
  | .bl _ => true
  | .int _ => true
  | .str _ => true
  | _ => false
/-- alike, without dicts -/
def SmT (K : PySem.W.Frag) (H : Hp) : Nat → V → V → Prop
  | 0, x, y => flat1 x = true ∧ x = y
  | n + 1, x, y => (flat1 x = true ∧ x = y) ∨
    (∃ a b xs ys, x = .ref a ∧ y = .ref b ∧ SqT K H a xs ∧ SqT K H b ys ∧ xs.length = ys.length ∧ xs.length ≤ 1000 ∧ ∀ (i : Nat) u v, xs[i]? = some u → ys[i]? = some v → SmT K H n u v) ∨
    (∃ a b xs ys, x = .ref a ∧ y = .ref b ∧ SqL K H a xs ∧ SqL K H b ys ∧ xs.length = ys.length ∧ xs.length ≤ 1000 ∧ ∀ (i : Nat) u v, xs[i]? = some u → ys[i]? = some v → SmT K H n u v)
/-- keys that sorted takes -/
def KOk (ks : List Key) : Prop := (∃ l : List Int, ks = l.map Sum.inl) ∨ ∃ l : List Str, ks = l.map Sum.inr ∧ ∀ z ∈ l, PyData.strOk z = true
def Sm (K : PySem.W.Frag) (H : Hp) : Nat → V → V → Prop
  | 0, x, y => flat1 x = true ∧ x = y
  | n + 1, x, y => (flat1 x = true ∧ x = y) ∨
    (∃ a b xs ys, x = .ref a ∧ y = .ref b ∧ SqT K H a xs ∧ SqT K H b ys ∧ xs.length = ys.length ∧ xs.length ≤ 1000 ∧ ∀ (i : Nat) u v, xs[i]? = some u → ys[i]? = some v → Sm K H n u v) ∨
    (∃ a b xs ys, x = .ref a ∧ y = .ref b ∧ SqL K H a xs ∧ SqL K H b ys ∧ xs.length = ys.length ∧ xs.length ≤ 1000 ∧ ∀ (i : Nat) u v, xs[i]? = some u → ys[i]? = some v → Sm K H n u v) ∨
    (∃ a b ks ls, x = .ref a ∧ y = .ref b ∧ H a = some (.dK ks) ∧ H b = some (.dK ls) ∧ (ks.map (·.1)).Perm (ls.map (·.1)) ∧ (ls.map (·.1)).Nodup ∧ ls.length < 64 ∧ KOk (ls.map (·.1)) ∧ KOk (ks.map (·.1)) ∧ ∀ k u v, valV ks k = some u → valV ls k = some v → SmT K H n u v)
theorem SmT.up {K : PySem.W.Frag} {H H' : Hp} (s : Up H H') : ∀ {n : Nat} {x y : V}, SmT K H n x y → SmT K H' n x y
  | 0, _, _, h => h
  | n + 1, x, y, h => by
    rcases h with h | ⟨a, b, xs, ys, h1, h2, h3, h4, h5, h6, h7⟩ | ⟨a, b, xs, ys, h1, h2, h3, h4, h5, h6, h7⟩
    · exact .inl h
    · exact .inr (.inl ⟨a, b, xs, ys, h1, h2, sqT_up s h3, sqT_up s h4, h5, h6, fun i u v e e' => (h7 i u v e e').up s⟩)
    · exact .inr (.inr ⟨a, b, xs, ys, h1, h2, sqL_up s h3, sqL_up s h4, h5, h6, fun i u v e e' => (h7 i u v e e').up s⟩)
theorem SmT.sm {K : PySem.W.Frag} {H : Hp} : ∀ {n : Nat} {x y : V}, SmT K H n x y → Sm K H n x y
  | 0, _, _, h => h
  | n + 1, x, y, h => by
    rcases h with h | ⟨a, b, xs, ys, h1, h2, h3, h4, h5, h6, h7⟩ | ⟨a, b, xs, ys, h1, h2, h3, h4, h5, h6, h7⟩
    · exact .inl h
    · exact .inr (.inl ⟨a, b, xs, ys, h1, h2, h3, h4, h5, h6, fun i u v e e' => (h7 i u v e e').sm⟩)
    · exact .inr (.inr (.inl ⟨a, b, xs, ys, h1, h2, h3, h4, h5, h6, fun i u v e e' => (h7 i u v e e').sm⟩))
theorem Sm.same {K : PySem.W.Frag} {H H' : Hp} (s : Same H H') : ∀ {n : Nat} {x y : V}, Sm K H n x y → Sm K H' n x y
  | 0, _, _, h => h
  | n + 1, x, y, h => by
    rcases h with h | ⟨a, b, xs, ys, h1, h2, h3, h4, h5, h6, h7⟩ | ⟨a, b, xs, ys, h1, h2, h3, h4, h5, h6, h7⟩ | ⟨a, b, ks, ls, h1, h2, h3, h4, h5, h6, h7, h8, h8', h9⟩
    · exact .inl h
    · exact .inr (.inl ⟨a, b, xs, ys, h1, h2, sqT_up (up_same s) h3, sqT_up (up_same s) h4, h5, h6, fun i u v e e' => (h7 i u v e e').same s⟩)
    · exact .inr (.inr (.inl ⟨a, b, xs, ys, h1, h2, sqL_up (up_same s) h3, sqL_up (up_same s) h4, h5, h6, fun i u v e e' => (h7 i u v e e').same s⟩))
    · exact .inr (.inr (.inr ⟨a, b, ks, ls, h1, h2, s _ _ h3, s _ _ h4, h5, h6, h7, h8, h8', fun k u v e e' => (h9 k u v e e').up (up_same s)⟩))
theorem SmT.flat {K : PySem.W.Frag} {H : Hp} {x : V} (h : flat1 x = true) : ∀ n, SmT K H n x x
  | 0 => ⟨h, rfl⟩
  | _ + 1 => .inl ⟨h, rfl⟩
theorem Sm.flat {K : PySem.W.Frag} {H : Hp} {x : V} (h : flat1 x = true) (n : Nat) : Sm K H n x x := (SmT.flat h n).sm
theorem SmT.tup {K : PySem.W.Frag} {H : Hp} {a b : Addr} {xs ys : List V} {n : Nat} (ha : SqT K H a xs) (hb : SqT K H b ys) (hl : xs.length = ys.length) (h1 : xs.length ≤ 1000) (hf : ∀ (i : Nat) u v, xs[i]? = some u → ys[i]? = some v → SmT K H n u v) : SmT K H (n + 1) (.ref a) (.ref b) :=
  .inr (.inl ⟨a, b, xs, ys, rfl, rfl, ha, hb, hl, h1, hf⟩)
theorem SmT.tup2 {K : PySem.W.Frag} {H : Hp} {a b : Addr} {x y x' y' : V} {n : Nat} (ha : SqT K H a [x, y]) (hb : SqT K H b [x', y']) (hx : SmT K H n x x') (hy : SmT K H n y y') : SmT K H (n + 1) (.ref a) (.ref b) :=
  SmT.tup ha hb rfl (by show 2 ≤ 1000; decide) fun i u v e e' => by
    match i, e, e' with
    | 0, e, e' => cases e; cases e'; exact hx
    | 1, e, e' => cases e; cases e'; exact hy
    | _ + 2, e, _ => cases e
theorem kA {K : PySem.W.Frag} {t : String} (h1 : kitB t "bool" = some false) (h2 : kitB t "str" = some false) : PySem.W.kitAny K (.type t) [.type "bool", .type "str"] = some false :=
  kitAny_cons (kit_ty h1) (fun _ => kitAny_cons (kit_ty h2) (fun _ => rfl) (fun z => nomatch z)) (fun z => nomatch z)
theorem kBool {K : PySem.W.Frag} : PySem.W.kitAny K (.type "bool") [.type "bool", .type "str"] = some true :=
  kitAny_cons (b := true) (kit_ty (by decide +kernel)) (fun z => nomatch z) (fun _ => rfl)
theorem kStr {K : PySem.W.Frag} : PySem.W.kitAny K (.type "str") [.type "bool", .type "str"] = some true :=
  kitAny_cons (b := false) (kit_ty (by decide +kernel)) (fun _ => kitAny_cons (b := true) (kit_ty (by decide +kernel)) (fun z => nomatch z) (fun _ => rfl)) (fun z => nomatch z)
theorem prBS : Paired ClsV [V.ty "bool", V.ty "str"] [.type "bool", .type "str"] := .cons (.ty _) (.cons (.ty _) .nil)
theorem dpS {K : PySem.W.Frag} {H : Hp} : ∀ l : List Str, DpAll K H (l.map V.str) (l.map PyData.str)
  | [] => .nil
  | z :: r => .cons (.str z) (dpS r)
theorem dpI {K : PySem.W.Frag} {H : Hp} : ∀ l : List Int, DpAll K H (l.map V.int) (l.map PyData.int)
  | [] => .nil
  | z :: r => .cons (.int z) (dpI r)
theorem shS {l : List Str} (h : ∀ z ∈ l, PyData.strOk z = true) : SeqAt.shaped (.list (l.map PyData.str)) = true := by
  unfold SeqAt.shaped
  rw [Bool.and_eq_true]
  refine ⟨?_, decide_eq_true ?_⟩
  · show PyData.canLayAll0 (l.map PyData.str) = true
    refine lay_all fun d hd => ?_
    obtain ⟨z, hz, rfl⟩ := List.mem_map.mp hd
    exact h z hz
  · have := depth_all (ds := l.map PyData.str) (n := 2) fun d hd => by
      obtain ⟨z, hz, rfl⟩ := List.mem_map.mp hd
      show PyData.depth (.str z) ≤ 2
      unfold PyData.depth
      omega
    unfold PyData.depth
    omega
theorem shI (l : List Int) : SeqAt.shaped (.list (l.map PyData.int)) = true := by
  unfold SeqAt.shaped
  rw [Bool.and_eq_true]
  refine ⟨?_, decide_eq_true ?_⟩
  · show PyData.canLayAll0 (l.map PyData.int) = true
    refine lay_all fun d hd => ?_
    obtain ⟨z, hz, rfl⟩ := List.mem_map.mp hd
    rfl
  · have := depth_all (ds := l.map PyData.int) (n := 2) fun d hd => by
      obtain ⟨z, hz, rfl⟩ := List.mem_map.mp hd
      show PyData.depth (.int z) ≤ 2
      unfold PyData.depth
      omega
    unfold PyData.depth
    omega
theorem perm_inl {a b : List Int} (h : (a.map (Sum.inl : Int → Key)).Perm (b.map Sum.inl)) : a.Perm b := by
  have e : ∀ l : List Int, (l.map (Sum.inl : Int → Key)).filterMap Sum.getLeft? = l := fun l => by
    induction l with
    | nil => rfl
    | cons x r ih =>
      rw [List.map_cons, List.filterMap_cons]
      simp [ih]
  have q := h.filterMap Sum.getLeft?
  rw [e, e] at q
  exact q
theorem perm_inr {a b : List Str} (h : (a.map (Sum.inr : Str → Key)).Perm (b.map Sum.inr)) : a.Perm b := by
  have e : ∀ l : List Str, (l.map (Sum.inr : Str → Key)).filterMap Sum.getRight? = l := fun l => by
    induction l with
    | nil => rfl
    | cons x r ih =>
      rw [List.map_cons, List.filterMap_cons]
      simp [ih]
  have q := h.filterMap Sum.getRight?
  rw [e, e] at q
  exact q
def spSame (K : PySem.W.Frag) : Nat → Sp
  | 0 => fun _ _ _ _ => False
  | n + 1 => fun vs H Q _ => ∃ x y : V, vs = [x, y] ∧ Sm K H n x y ∧ ∀ H', Same H H' → Q (.bl true) H'
theorem ok_same1 {n : Nat} (ev : Env K mg) (GS : FnOk P w K mg base CX0 (n + 1) ev.f_law_same ev.d_law_same p_law_same (spSame K n)) : FnOk P w K mg base CX0 (n + 2) ev.f_law_same ev.d_law_same p_law_same (spSame K (n + 1)) := by
  refine ev.A_law_same.F.ok sc_law_same (fun vs H Q E h => ?_) (fun cdv A outer s H vs Q E hr h => ?_)
  · obtain ⟨x, y, rfl, _⟩ := h
    rfl
  obtain ⟨x, y, rfl, hS, q⟩ := h
  have hr1 : Room 1 _ := hr.mono (by omega)
  have hu := hu_of hr
  refine ⟨_, (pss_cons (ps_if (PW.pt (pw_or (pt_cmpR op_isN (pv 1) pe_non (nomark _)) (pw_or1 (pt_val (pe_callB call_isiT (by rfl) ev.B.isinstance_ (by decide +kernel) (pa_cons (pv 1) (pa_cons (pe_tup (pa_cons (pe_bltn (v := .ty "bool") (by rfl) ev.B.bool_ (by decide +kernel) rfl) (pa_cons (pe_bltn (v := .ty "str") (by rfl) ev.B.str_ (by decide +kernel) rfl) pa_nil))) pa_nil)))))))
    (pss_cons (ps_if (pt_cmpR op_isN (pv 1) pe_non (nomark _))
    (pss_one (ps_ret (pe_cmpR op_isN (pv 0) pe_non (nomark _)))) pss_nil)
    (pss_one (ps_ret (pe_and (pe_callB call_isiT (by rfl) ev.B.isinstance_ (by decide +kernel) (pa_cons (pv 0) (pa_cons (pe_tup (pa_cons (pe_bltn (v := .ty "bool") (by rfl) ev.B.bool_ (by decide +kernel) rfl) (pa_cons (pe_bltn (v := .ty "str") (by rfl) ev.B.str_ (by decide +kernel) rfl) pa_nil))) pa_nil))) (pe_one (pe_cmpR op_eq (pv 0) (pv 1) (nomark _))))))) pss_nil)
    (pss_cons (ps_if (pt_val (pe_callB call_isi (by rfl) ev.B.isinstance_ (by decide +kernel) (pa_cons (pv 1) (pa_cons (pe_bltn (v := .ty "int") (by rfl) ev.B.int_ (by decide +kernel) rfl) pa_nil))))
    (pss_one (ps_ret (pe_and (pe_call (ok_law_whole ev) hr1 (by rfl) ev.A_law_whole.m ev.A_law_whole.F.kp ev.A_law_whole.b .nil pass0 (pa_cons (pv 0) pa_nil)) (pe_one (pe_cmpR op_eq (pv 0) (pv 1) (nomark _)))))) pss_nil)
    (pss_cons (ps_if (pt_val (pe_callB call_isi (by rfl) ev.B.isinstance_ (by decide +kernel) (pa_cons (pv 1) (pa_cons (pe_bltn (v := .ty "dict") (by rfl) ev.B.dict_ (by decide +kernel) rfl) pa_nil))))
    (pss_cons (ps_if (PW.pt (pw_or (pt_not (pt_val (pe_callB call_isi (by rfl) ev.B.isinstance_ (by decide +kernel) (pa_cons (pv 0) (pa_cons (pe_bltn (v := .ty "dict") (by rfl) ev.B.dict_ (by decide +kernel) rfl) pa_nil))))) (pw_or1 (pt_cmpR (op_neD hr.units) (pe_callB (call_srtK rfl) (by rfl) ev.B.sorted_ (by decide +kernel) (pa_cons (pv 0) pa_nil)) (pe_callB (call_srtK rfl) (by rfl) ev.B.sorted_ (by decide +kernel) (pa_cons (pv 1) pa_nil)) (nomark _)))))
    (pss_one (ps_ret pe_bl)) pss_nil)
    (pss_one (ps_ret (pe_callB (cr_all rfl) (by rfl) ev.B.all_ (by decide +kernel) (pa_cons (pe_lock (pe_lc (own := [("_law_name", 2)]) (g := gName 2) (tt := tYes) (by rfl) sc_law_same.nd (pi_keys (pv 1)) (blkOk_by (own := [("_law_name", 2)]) (N := n_law_same) (sc := defScope s_law_same) (by decide +kernel)) (fun _ _ _ _ _ => pg_name (i := 2) sc_law_same.nd rfl (Or.inl rfl)) (fun _ _ _ _ _ => pts_nil) (fun _ _ _ _ _ => (pe_call GS hr (by rfl) ev.A_law_same.m ev.A_law_same.F.kp ev.A_law_same.b .nil pass0 (pa_cons (pe_dget hu (pv 0) (pv 2) (fun _ _ => rfl)) (pa_cons (pe_dget hu (pv 1) (pv 2) (fun _ _ => rfl)) pa_nil)))))) pa_nil))))) pss_nil)
    (pss_cons (ps_if (pt_cmpR op_ne (pe_callB call_isi (by rfl) ev.B.isinstance_ (by decide +kernel) (pa_cons (pv 1) (pa_cons (pe_bltn (v := .ty "tuple") (by rfl) ev.B.tuple_ (by decide +kernel) rfl) pa_nil))) (pe_callB call_isi (by rfl) ev.B.isinstance_ (by decide +kernel) (pa_cons (pv 0) (pa_cons (pe_bltn (v := .ty "tuple") (by rfl) ev.B.tuple_ (by decide +kernel) rfl) pa_nil))) (nomark _))
    (pss_one (ps_ret pe_bl)) pss_nil)
    (pss_cons (ps_if (PW.pt (pw_or (pt_cmpR op_ne (pe_callB call_isi (by rfl) ev.B.isinstance_ (by decide +kernel) (pa_cons (pv 1) (pa_cons (pe_bltn (v := .ty "list") (by rfl) ev.B.list_ (by decide +kernel) rfl) pa_nil))) (pe_callB call_isi (by rfl) ev.B.isinstance_ (by decide +kernel) (pa_cons (pv 0) (pa_cons (pe_bltn (v := .ty "list") (by rfl) ev.B.list_ (by decide +kernel) rfl) pa_nil))) (nomark _)) (pw_or1 (pt_cmpR op_ne (pe_callB call_len_seq (by rfl) ev.B.len_ PySem.boot_len (pa_cons (pv 0) pa_nil)) (pe_callB call_len_seq (by rfl) ev.B.len_ PySem.boot_len (pa_cons (pv 1) pa_nil)) (nomark _)))))
    (pss_one (ps_ret pe_bl)) pss_nil)
    (pss_one (ps_ret (pe_callB (cr_all rfl) (by rfl) ev.B.all_ (by decide +kernel) (pa_cons (pe_lc (own := [("_law_k", 3)]) (g := gName 3) (tt := tYes) (by rfl) sc_law_same.nd (pi_range1 rfl ev.B.range_ (pa_cons (pe_callB call_len_seq (by rfl) ev.B.len_ PySem.boot_len (pa_cons (pv 1) pa_nil)) pa_nil)) (blkOk_by (own := [("_law_k", 3)]) (N := n_law_same) (sc := defScope s_law_same) (by decide +kernel)) (fun _ _ _ _ _ => pg_name (i := 3) sc_law_same.nd rfl (Or.inl rfl)) (fun _ _ _ _ _ => pts_nil) (fun _ _ _ _ _ => (pe_call GS hr (by rfl) ev.A_law_same.m ev.A_law_same.F.kp ev.A_law_same.b .nil pass0 (pa_cons (pe_ix (show IxR _ (rIx K) from ix_seq) (pv 0) (pv 3) (fun _ _ => rfl)) (pa_cons (pe_ix (show IxR _ (rIx K) from ix_seq) (pv 1) (pv 3) (fun _ _ => rfl)) pa_nil))))) pa_nil))))))))), ?_⟩
  by_cases hf : flat1 x = true ∧ x = y
  · obtain ⟨hf, rfl⟩ := hf
    cases x with
    | non =>
      refine ⟨_, rfl, rfl, _, rfl, iteT (iteT ?_)⟩
      refine ⟨_, rfl, rfl, _, rfl, iteT ?_⟩
      exact ⟨_, rfl, rfl, q H fun _ _ e => e⟩
    | bl b =>
      refine ⟨_, rfl, rfl, _, rfl, iteF ⟨_, rfl, two, fun tp htp => ⟨_, tp, _, _, _, true, rfl, upd_same, prBS, .base (.bl b), kBool, true, rfl, iteT ?_⟩⟩⟩
      refine ⟨_, rfl, rfl, _, rfl, iteF ?_⟩
      refine ⟨_, rfl, two, fun tq htq => ⟨_, tq, _, _, _, true, rfl, upd_same, prBS, .base (.bl b), kBool, true, rfl, iteT ?_⟩⟩
      refine ⟨_, rfl, _, rfl, rfl, ?_⟩
      rw [decide_eq_true rfl]
      exact q _ ((same_upd htp).trans (same_upd htq))
    | int i =>
      refine ⟨_, rfl, rfl, _, rfl, iteF ⟨_, rfl, two, fun tp htp => ⟨_, tp, _, _, _, false, rfl, upd_same, prBS, .base (.int i), kA (by decide +kernel) (by decide +kernel), false, rfl, iteF ?_⟩⟩⟩
      refine ⟨_, rfl, _, _, _, _, true, rfl, .ty _, .base (.int i), kit_ty (by decide +kernel), true, rfl, iteT ?_⟩
      refine ⟨_, rfl, i, rfl, true, rfl, iteT ?_⟩
      refine ⟨_, rfl, _, rfl, rfl, ?_⟩
      rw [decide_eq_true rfl]
      exact q _ (same_upd htp)
    | str z =>
      refine ⟨_, rfl, rfl, _, rfl, iteF ⟨_, rfl, two, fun tp htp => ⟨_, tp, _, _, _, true, rfl, upd_same, prBS, .base (.str z), kStr, true, rfl, iteT ?_⟩⟩⟩
      refine ⟨_, rfl, rfl, _, rfl, iteF ?_⟩
      refine ⟨_, rfl, two, fun tq htq => ⟨_, tq, _, _, _, true, rfl, upd_same, prBS, .base (.str z), kStr, true, rfl, iteT ?_⟩⟩
      refine ⟨_, rfl, _, rfl, rfl, ?_⟩
      rw [decide_eq_true rfl]
      exact q _ ((same_upd htp).trans (same_upd htq))
    | _ => cases hf
  · cases n with
    | zero => exact absurd hS hf
    | succ m =>
      rcases hS with hS | ⟨a, b, xs, ys, rfl, rfl, ha, hb, hl, h1000, he⟩ | ⟨a, b, xs, ys, rfl, rfl, ha, hb, hl, h1000, he⟩ | ⟨a, b, ks, ls, rfl, rfl, ha, hb, hpm, hnd, h64, ok1, ok2, he⟩
      · exact absurd hS hf
      · refine ⟨_, rfl, rfl, _, rfl, iteF ⟨_, rfl, two, fun tp htp => ⟨_, tp, _, _, _, false, rfl, upd_same, prBS, tyT (xs := ys) ?_, kA (by decide +kernel) (by decide +kernel), false, rfl, iteF ?_⟩⟩⟩
        · exact sqT_up (up_same (same_upd htp)) hb
        have s1 : Same H (upd H tp (.tup [V.ty "bool", V.ty "str"])) := same_upd htp
        generalize upd H tp (.tup [V.ty "bool", V.ty "str"]) = H1 at s1
        have ha' := sqT_up (up_same s1) ha
        have hb' := sqT_up (up_same s1) hb
        refine ⟨_, rfl, _, _, _, _, false, rfl, .ty _, tyT hb', kit_ty (by decide +kernel), false, rfl, iteF ?_⟩
        refine ⟨_, rfl, _, _, _, _, false, rfl, .ty _, tyT hb', kit_ty (by decide +kernel), false, rfl, iteF ?_⟩
        refine ⟨_, rfl, _, _, _, _, true, rfl, .ty _, tyT hb', kit_ty (by decide +kernel), _, rfl, _, _, _, _, true, rfl, .ty _, tyT ha', kit_ty (by decide +kernel), rfl, _, rfl, iteF ?_⟩
        refine ⟨_, rfl, _, _, _, _, false, rfl, .ty _, tyT hb', kit_ty (by decide +kernel), _, rfl, _, _, _, _, false, rfl, .ty _, tyT ha', kit_ty (by decide +kernel), rfl, _, rfl, iteF ?_⟩
        refine ⟨_, rfl, a, _, rfl, .inr ha', _, rfl, b, _, rfl, .inr hb', rfl, _, rfl, ?_⟩
        refine iteNS (by rw [hl]) ?_
        refine ⟨_, rfl, b, _, rfl, .inr hb', _, rfl, by omega, by omega, fun D hD => ?_⟩
        refine lc_range (lo := 0) (n := ys.length) (fun i H2 => Same H1 H2 ∧ H2 D = some (.lst ((List.replicate i true).map V.bl))) ⟨same_upd hD, upd_same⟩ ?_ ?_
        · rintro i H2 hi ⟨s2, hD2⟩
          have e1 : atI xs (0 + (i : Int)) = some xs[i] := by
            rw [Int.zero_add]
            exact atI_nat (List.getElem?_eq_getElem (by omega))
          have e2 : atI ys (0 + (i : Int)) = some ys[i] := by
            rw [Int.zero_add]
            exact atI_nat (List.getElem?_eq_getElem hi)
          refine ⟨rfl, yes_ ?_⟩
          refine ⟨_, rfl, _, rfl, .inr <| .inl ⟨a, xs, _, _, rfl, rfl, sqT_up (up_same s2) ha', e1, ?_⟩⟩
          refine ⟨_, rfl, _, rfl, .inr <| .inl ⟨b, ys, _, _, rfl, rfl, sqT_up (up_same s2) hb', e2, ?_⟩⟩
          refine ⟨_, _, rfl, (he i _ _ (List.getElem?_eq_getElem (by omega)) (List.getElem?_eq_getElem hi)).same (s1.trans s2), fun H3 s3 => ?_⟩
          refine ⟨_, s3 _ _ hD2, ?_, fun p o e => ?_, ?_⟩
          · rw [List.length_map, List.length_replicate]
            exact small1000 (by omega)
          · have np : p ≠ D := ne_of_none e hD
            rw [upd_ne np]
            exact s3 _ _ (s2 _ _ e)
          · rw [upd_same, List.replicate_succ', List.map_append]
            rfl
        · rintro H2 ⟨s2, hD2⟩
          refine ⟨D, _, rfl, SqL.of hD2, ?_⟩
          rw [show (List.replicate ys.length true).all id = true by simp]
          exact q H2 (s1.trans s2)
      · refine ⟨_, rfl, rfl, _, rfl, iteF ⟨_, rfl, two, fun tp htp => ⟨_, tp, _, _, _, false, rfl, upd_same, prBS, tyL (xs := ys) ?_, kA (by decide +kernel) (by decide +kernel), false, rfl, iteF ?_⟩⟩⟩
        · exact sqL_up (up_same (same_upd htp)) hb
        have s1 : Same H (upd H tp (.tup [V.ty "bool", V.ty "str"])) := same_upd htp
        generalize upd H tp (.tup [V.ty "bool", V.ty "str"]) = H1 at s1
        have ha' := sqL_up (up_same s1) ha
        have hb' := sqL_up (up_same s1) hb
        refine ⟨_, rfl, _, _, _, _, false, rfl, .ty _, tyL hb', kit_ty (by decide +kernel), false, rfl, iteF ?_⟩
        refine ⟨_, rfl, _, _, _, _, false, rfl, .ty _, tyL hb', kit_ty (by decide +kernel), false, rfl, iteF ?_⟩
        refine ⟨_, rfl, _, _, _, _, false, rfl, .ty _, tyL hb', kit_ty (by decide +kernel), _, rfl, _, _, _, _, false, rfl, .ty _, tyL ha', kit_ty (by decide +kernel), rfl, _, rfl, iteF ?_⟩
        refine ⟨_, rfl, _, _, _, _, true, rfl, .ty _, tyL hb', kit_ty (by decide +kernel), _, rfl, _, _, _, _, true, rfl, .ty _, tyL ha', kit_ty (by decide +kernel), rfl, _, rfl, iteF ?_⟩
        refine ⟨_, rfl, a, _, rfl, .inl ha', _, rfl, b, _, rfl, .inl hb', rfl, _, rfl, ?_⟩
        refine iteNS (by rw [hl]) ?_
        refine ⟨_, rfl, b, _, rfl, .inl hb', _, rfl, by omega, by omega, fun D hD => ?_⟩
        refine lc_range (lo := 0) (n := ys.length) (fun i H2 => Same H1 H2 ∧ H2 D = some (.lst ((List.replicate i true).map V.bl))) ⟨same_upd hD, upd_same⟩ ?_ ?_
        · rintro i H2 hi ⟨s2, hD2⟩
          have e1 : atI xs (0 + (i : Int)) = some xs[i] := by
            rw [Int.zero_add]
            exact atI_nat (List.getElem?_eq_getElem (by omega))
          have e2 : atI ys (0 + (i : Int)) = some ys[i] := by
            rw [Int.zero_add]
            exact atI_nat (List.getElem?_eq_getElem hi)
          refine ⟨rfl, yes_ ?_⟩
          refine ⟨_, rfl, _, rfl, .inl ⟨a, xs, _, _, rfl, rfl, sqL_up (up_same s2) ha', e1, ?_⟩⟩
          refine ⟨_, rfl, _, rfl, .inl ⟨b, ys, _, _, rfl, rfl, sqL_up (up_same s2) hb', e2, ?_⟩⟩
          refine ⟨_, _, rfl, (he i _ _ (List.getElem?_eq_getElem (by omega)) (List.getElem?_eq_getElem hi)).same (s1.trans s2), fun H3 s3 => ?_⟩
          refine ⟨_, s3 _ _ hD2, ?_, fun p o e => ?_, ?_⟩
          · rw [List.length_map, List.length_replicate]
            exact small1000 (by omega)
          · have np : p ≠ D := ne_of_none e hD
            rw [upd_ne np]
            exact s3 _ _ (s2 _ _ e)
          · rw [upd_same, List.replicate_succ', List.map_append]
            rfl
        · rintro H2 ⟨s2, hD2⟩
          refine ⟨D, _, rfl, SqL.of hD2, ?_⟩
          rw [show (List.replicate ys.length true).all id = true by simp]
          exact q H2 (s1.trans s2)
      · have nb : ∀ o v, HO.dK ls ≠ .frz o v := fun o v z => nomatch z
        refine ⟨_, rfl, rfl, _, rfl, iteF ⟨_, rfl, two, fun tp htp => ⟨_, tp, _, _, _, false, rfl, upd_same, prBS, tyD (xs := ls) ?_, kA (by decide +kernel) (by decide +kernel), false, rfl, iteF ?_⟩⟩⟩
        · exact up_same (same_upd htp) _ _ (.inl hb)
        have s1 : Same H (upd H tp (.tup [V.ty "bool", V.ty "str"])) := same_upd htp
        generalize upd H tp (.tup [V.ty "bool", V.ty "str"]) = H1 at s1
        have ha' := s1 _ _ ha
        have hb' := s1 _ _ hb
        refine ⟨_, rfl, _, _, _, _, false, rfl, .ty _, tyD (.inl hb'), kit_ty (by decide +kernel), false, rfl, iteF ?_⟩
        refine ⟨_, rfl, _, _, _, _, true, rfl, .ty _, tyD (.inl hb'), kit_ty (by decide +kernel), true, rfl, iteT ?_⟩
        refine seq_by (fun σ H2 => σ = [some (.ref a), some (.ref b), none, none] ∧ Same H1 H2) ?_ (fun k => ?_)
        rotate_left
        · refine ⟨_, rfl, _, _, _, _, true, rfl, .ty _, tyD (.inl ha'), kit_ty (by decide +kernel), true, rfl, iteF ?_⟩
          have lk : ks.length = ls.length := by
            have := hpm.length_eq
            rw [List.length_map, List.length_map] at this
            exact this
          rcases ok1 with ⟨li, eli⟩ | ⟨lt, elt, lok⟩
          · obtain ⟨ki, eki⟩ : ∃ l : List Int, ks.map (·.1) = l.map Sum.inl := by
              rcases ok2 with ⟨l, e⟩ | ⟨l, e, _⟩
              · exact ⟨l, e⟩
              · cases l with
                | nil => exact ⟨[], e⟩
                | cons z r =>
                  rw [e, eli] at hpm
                  have := hpm.mem_iff.mp (List.mem_cons_self (a := (Sum.inr z : Key)) (l := r.map Sum.inr))
                  obtain ⟨i, _, hi⟩ := List.mem_map.mp this
                  cases hi
            have pki : ki.Perm li := by
              rw [eki, eli] at hpm
              exact perm_inl hpm
            refine ⟨_, rfl, .inr ⟨a, ks, ki, rfl, .inl ha', eki, ?_, fun ys p pm pw np => ?_⟩⟩
            · have := congrArg List.length eki
              rw [List.length_map, List.length_map] at this
              omega
            have s2 : Same H1 (upd H1 p (.lst (ys.map V.int))) := same_upd np
            refine ⟨_, rfl, .inr ⟨b, ls, li, rfl, .inl (s2 _ _ hb'), eli, ?_, fun zs p2 pm2 pw2 np2 => ?_⟩⟩
            · have := congrArg List.length eli
              rw [List.length_map, List.length_map] at this
              omega
            have e : ys = zs := srtI_same (pm.trans (pki.trans pm2.symm)) pw pw2
            subst e
            refine ⟨_, _, .lst (SqL.of (same_upd np2 _ _ upd_same)) (dpI ys), .lst (SqL.of upd_same) (dpI ys), shI ys, shI ys, _, rfl, ?_⟩
            rw [PySem.SeqAt.eqv_refl _ (SeqAt.canLay_of_shaped (shI ys))]
            exact iteF (k _ _ ⟨rfl, s2.trans (same_upd np2)⟩)
          · obtain ⟨kt, ekt, kok⟩ : ∃ l : List Str, ks.map (·.1) = l.map Sum.inr ∧ ∀ z ∈ l, PyData.strOk z = true := by
              rcases ok2 with ⟨l, e⟩ | h
              · cases l with
                | nil => exact ⟨[], e, (fun z hz => nomatch hz)⟩
                | cons z r =>
                  rw [e, elt] at hpm
                  have := hpm.mem_iff.mp (List.mem_cons_self (a := (Sum.inl z : Key)) (l := r.map Sum.inl))
                  obtain ⟨i, _, hi⟩ := List.mem_map.mp this
                  cases hi
              · exact h
            have pki : kt.Perm lt := by
              rw [ekt, elt] at hpm
              exact perm_inr hpm
            refine ⟨_, rfl, .inl ⟨a, ks, kt, rfl, .inl ha', ekt, ?_, fun ys p pm pw np => ?_⟩⟩
            · have := congrArg List.length ekt
              rw [List.length_map, List.length_map] at this
              omega
            have s2 : Same H1 (upd H1 p (.lst (ys.map V.str))) := same_upd np
            refine ⟨_, rfl, .inl ⟨b, ls, lt, rfl, .inl (s2 _ _ hb'), elt, ?_, fun zs p2 pm2 pw2 np2 => ?_⟩⟩
            · have := congrArg List.length elt
              rw [List.length_map, List.length_map] at this
              omega
            have e : ys = zs := srt_same (pm.trans (pki.trans pm2.symm)) pw pw2
            subst e
            have yok : ∀ z ∈ ys, PyData.strOk z = true := fun z hz => kok z (pm.mem_iff.mp hz)
            refine ⟨_, _, .lst (SqL.of (same_upd np2 _ _ upd_same)) (dpS ys), .lst (SqL.of upd_same) (dpS ys), shS yok, shS yok, _, rfl, ?_⟩
            rw [PySem.SeqAt.eqv_refl _ (SeqAt.canLay_of_shaped (shS yok))]
            exact iteF (k _ _ ⟨rfl, s2.trans (same_upd np2)⟩)
        rintro σ H2 ⟨rfl, s2⟩
        have hb2 := s2 _ _ hb'
        refine ⟨b, .dK ls, hb2, trivial, fun od => ?_⟩
        refine ⟨_, rfl, b, od, rfl, .inl ⟨ls, upd_same, fun D hD => ?_⟩⟩
        have nbD : D ≠ b := fun z => by
          rw [z, upd_same] at hD
          cases hD
        have ul : Up H (upd H2 b (.frz od (.dK ls))) := (up_same (s1.trans s2)).trans (up_lock hb2 nb)
        refine lc_keys (fun i H3 => Same (upd H2 b (.frz od (.dK ls))) H3 ∧ H3 D = some (.lst ((List.replicate i true).map V.bl))) ⟨same_upd hD, upd_same⟩ (fun i H3 _ h => h.1 _ _ upd_same) ?_ ?_
        · rintro i k v H3 hi ⟨s3, hD3⟩
          have u3 : Up H H3 := ul.trans (up_same s3)
          have evl : valV ls k = some v := val_nodup hnd (k, v) (List.mem_of_getElem? hi)
          obtain ⟨u, eu⟩ : ∃ u, valV ks k = some u := by
            have mk : k ∈ ks.map (·.1) := hpm.mem_iff.mpr (List.mem_map.mpr ⟨(k, v), List.mem_of_getElem? hi, rfl⟩)
            obtain ⟨p, hp, rfl⟩ := List.mem_map.mp mk
            exact ⟨_, val_nodup (hpm.nodup_iff.mpr hnd) p hp⟩
          refine ⟨rfl, yes_ ?_⟩
          refine ⟨_, rfl, _, rfl, a, u, rfl, .inl ⟨ks, k, u3 _ _ (.inl ha), rfl, eu.symm⟩, ?_⟩
          refine ⟨_, rfl, _, rfl, b, v, rfl, .inl ⟨ls, k, u3 _ _ (.inl hb), rfl, evl.symm⟩, ?_⟩
          refine ⟨_, _, rfl, ((he k u v eu evl).up u3).sm, fun H4 s4 => ?_⟩
          refine ⟨_, s4 _ _ hD3, ?_, fun p o e => ?_, ?_⟩
          · rw [List.length_map, List.length_replicate]
            have := (List.getElem?_eq_some_iff.mp hi).1
            exact small1000 (by omega)
          · have np : p ≠ D := ne_of_none e hD
            rw [upd_ne np]
            exact s4 _ _ (s3 _ _ e)
          · rw [upd_same, List.replicate_succ', List.map_append]
            rfl
        · rintro H3 ⟨s3, hD3⟩
          refine ⟨s3 _ _ upd_same, D, _, rfl, SqL.of (by rw [upd_ne nbD]; exact hD3), ?_⟩
          rw [show (List.replicate ls.length true).all id = true by simp]
          refine q _ fun p o e => ?_
          by_cases z : p = b
          · rw [z, upd_same, ← hb, ← z, e]
          · rw [upd_ne z]
            exact s3 _ _ (by rw [upd_ne z]; exact s2 _ _ (s1 _ _ e))
theorem same_none {f : Addr} {fd : FuncData} : FnOk P w K mg base CX0 1 f fd p_law_same (spSame K 0) :=
  ⟨fun _ _ _ _ h => h.elim, fun _ _ _ _ _ _ _ _ _ _ _ _ _ h => h.elim⟩
theorem ok_same (ev : Env K mg) : ∀ n, FnOk P w K mg base CX0 (n + 1) ev.f_law_same ev.d_law_same p_law_same (spSame K n)
  | 0 => same_none
  | n + 1 => ok_same1 ev (ok_same ev n)

/-! ### one of several -/
def spAnyK (K : PySem.W.Frag) : Sp := fun vs H Q _ => ∃ (b c l : Addr) (xs : List V), vs = [.ref b, .ref l] ∧ Bag H b c ∧ nL K [b, c] H l xs ∧ xs ≠ [] ∧ xs.length ≤ 1000 ∧ ∀ (v : V) (H' : Hp), v ∈ xs → Bag H' b c → Els b c H H' → Q v H'
theorem ok_law_any (ev : Env K mg) : FnOk P w K mg base CX0 2 ev.f_law_any ev.d_law_any p_law_any (spAnyK K) := by
  refine ev.A_law_any.F.ok sc_law_any (fun vs H Q E h => ?_) (fun cdv A outer s H vs Q E hr h => ?_)
  · obtain ⟨b, c, l, xs, rfl, _⟩ := h
    rfl
  obtain ⟨b, c, l, xs, rfl, hB, hl, hx, h1000, q⟩ := h
  refine ⟨_, (pss_one (ps_ret (pe_ix ix_list (pv 1) (pe_call (ok_law_draw ev) (hr.mono (by decide)) (by rfl) ev.A_law_draw.m ev.A_law_draw.F.kp ev.A_law_draw.b .nil pass0 (pa_cons (pv 0) (pa_cons (pe_callB call_len_seq (by rfl) ev.B.len_ PySem.boot_len (pa_cons (pv 1) pa_nil)) pa_nil))) (fun _ _ => rfl)))), ?_⟩
  have l0 := List.length_pos_iff.mpr hx
  refine ⟨_, rfl, _, rfl, _, rfl, l, _, rfl, .inl hl.sq, b, c, _, rfl, hB, by omega, by omega, fun r H' r0 r1 hB' ex => ?_⟩
  have hl' := hl.mono (show Fr [b, c] H H' from fun p o e n => by
    simp only [List.mem_cons, List.not_mem_nil, or_false, not_or] at n
    exact (ex p n.1 n.2).trans e)
  obtain ⟨v, hv, e⟩ := at_mem (xs := xs) r0 r1
  exact ⟨l, _, _, _, rfl, rfl, hl'.sq, e, q _ _ hv hB' ex⟩

/-! ### the law's own ratio -/
def spRat : Sp := fun vs H Q _ => ∃ o u : Int, vs = [.int o, .int u] ∧ u.natAbs < 2 ^ 9000 ∧ u ≠ 0 ∧ ∀ p, H p = none → Q (.ref p) (upd H p (.tup [.int (rN o u), .int (rD o u)]))
theorem ok_law_rat (ev : Env K mg) : FnOk P w K mg base CX0 1 ev.f_law_rat ev.d_law_rat p_law_rat spRat := by
  refine ev.A_law_rat.F.ok sc_law_rat (fun vs H Q E h => ?_) (fun cdv A outer s H vs Q E hr h => ?_)
  · obtain ⟨o, u, rfl, _⟩ := h
    rfl
  obtain ⟨o, u, rfl, hb, hu0, q⟩ := h
  refine ⟨_, (pss_cons (ps_par (i := 2) (j := 3) (by rfl) sc_law_rat.nd rfl rfl (by decide) rfl rfl (pa_cons (pe_callB call_abs (by rfl) ev.B.abs_ (by decide +kernel) (pa_cons (pv 0) pa_nil)) (pa_cons (pe_callB call_abs (by rfl) ev.B.abs_ (by decide +kernel) (pa_cons (pv 1) pa_nil)) pa_nil)) (by rfl))
    (pss_cons (ps_while PassesOwn.never (pt_cmpR op_gt (pv 3) pe_int (nomark _))
    (pss_one (ps_par (i := 2) (j := 3) (by rfl) sc_law_rat.nd rfl rfl (by decide) rfl rfl (pa_cons (pv 3) (pa_cons (pe_op op_modN (pv 2) (pv 3)) pa_nil)) (by rfl))))
    (pss_cons (ps_if (pt_cmpR op_lt (pv 1) pe_int (nomark _))
    (pss_one (ps_set (i := 2) sc_law_rat.nd rfl (Or.inl rfl) (pe_op op_sub pe_int (pv 2)))) pss_nil)
    (pss_one (ps_ret (pe_tup (pa_cons (pe_op op_fdivZ (pv 0) (pv 2)) (pa_cons (pe_op op_fdivZ (pv 1) (pv 2)) pa_nil)))))))), ?_⟩
  refine ⟨_, rfl, _, rfl, _, rfl, _, rfl, _, _, rfl, ?_⟩
  rw [abs_if, abs_if]
  refine ⟨fun m σ H' => H' = H ∧ ∃ x y : Int, σ = [some (.int o), some (.int u), some (.int x), some (.int y)] ∧ 0 ≤ x ∧ 0 ≤ y ∧ m = y.natAbs ∧ Int.gcd x y = Int.gcd o u, ⟨_, rfl, o.natAbs, u.natAbs, rfl, by omega, by omega, rfl, ?_⟩, ?_⟩
  · unfold Int.gcd
    rw [Int.natAbs_natCast, Int.natAbs_natCast]
  rintro m σ H' ⟨rfl, x, y, rfl, x0, y0, rfl, e⟩
  refine ⟨_, rfl, _, _, rfl, rfl, _, rfl, ?_⟩
  refine ite2 (fun c => ?_) (fun c => ?_)
  · have hy : 0 < y := of_decide_eq_true c
    refine ⟨fun σ' H2 => H2 = H' ∧ σ' = [some (.int o), some (.int u), some (.int y), some (.int (x.fmod y))], ?_, ?_⟩
    · rintro σ' H2 ⟨rfl, rfl⟩
      exact ⟨_, fmod_abs_lt x (by omega), rfl, y, _, rfl, y0, Int.fmod_nonneg_of_pos x hy, rfl, (gcd_fmod x y).trans e⟩
    · exact ⟨_, rfl, _, rfl, _, rfl, _, _, rfl, rfl, (by show y ≠ 0; omega), _, _, rfl, rfl, rfl⟩
  · have hy : y = 0 := by
      have : ¬ 0 < y := fun z => c (decide_eq_true z)
      omega
    subst hy
    rw [Int.gcd_zero_right] at e
    have ex : x = ((Int.gcd o u : Nat) : Int) := by omega
    subst ex
    refine nx_u ?_
    refine seq_by (fun σ H2 => H2 = H' ∧ ∃ y, σ = [some (.int o), some (.int u), some (.int (cOf o u)), y]) ?_ (fun k => ?_)
    rotate_left
    · refine ⟨_, rfl, _, _, rfl, rfl, _, rfl, ?_⟩
      refine ite2 (fun z => ?_) (fun z => ?_)
      · have z' : u < 0 := of_decide_eq_true z
        refine ⟨_, rfl, _, _, rfl, rfl, k _ _ ⟨rfl, some (.int 0), ?_⟩⟩
        unfold cOf
        rw [if_pos z', ← Int.zero_sub]
        all_goals rfl
      · have z' : ¬ u < 0 := fun e => z (decide_eq_true e)
        refine k _ _ ⟨rfl, some (.int 0), ?_⟩
        unfold cOf
        rw [if_neg z']
        all_goals rfl
    rintro σ H' ⟨rfl, y, rfl⟩
    exact ⟨_, rfl, _, rfl, _, _, rfl, rfl, cOf_ok hu0 hb _, _, rfl, _, rfl, _, _, rfl, rfl, cOf_ok hu0 hb _, (by show 2 ≤ sizeLine; decide), fun p hp => q p hp⟩

theorem ev_law_rat {S T : AS} {σ : St} {H : Hp} {E : XK} {ta : TA} {r : Option (Int × Int × Unit)} (h : EvA S T ta σ H (K := K) (aCons tInt (aCons tInt aNil)) r) :
    Ev S T (tCall spRat [] E ta) σ H (of (K := K) tRat S) (bd r fun a => ratio? a.1 a.2.1) := by
  intro z e H1 f1 d Q q
  obtain ⟨x, ex, e⟩ := bd_some e
  unfold ratio? at e
  split at e
  · rename_i hc
    cases e
    refine h x ex H1 f1 d _ fun vs H2 s2 hv => ?_
    obtain ⟨v, _, rfl, h1, w, _, rfl, h2, rfl⟩ := hv
    cases h1
    cases h2
    refine ⟨x.1, x.2.1, rfl, hc.2, hc.1, fun p hp => q _ _ (s2.trans (same_new hp)) ⟨p, rfl, .inl ⟨.inl ?_, (d.same s2).not_mem hp⟩⟩⟩
    rw [upd_same, (rat_rND hc.1).1, (rat_rND hc.1).2]
  · cases e
theorem ew_law_rat {b c : Addr} {S : AS} {σ : St} {H : Hp} {E : XK} {ta : TA} {w : Wp (Int × Int × Unit)} (h : EvWA b c S ta σ H (K := K) (aCons tInt (aCons tInt aNil)) w) :
    EvW b c S (tCall spRat [] E ta) σ H (of (K := K) tRat S) (unW (fun a => ratio? a.1 a.2.1) w) := fun ts P hP H1 f d hB Q q => by
  refine h ts _ hP H1 f d hB _ fun vs H2 x ⟨z, e, hz⟩ f2 d2 hB2 hv => ?_
  dsimp only [ratio?] at e
  split at e
  · rename_i hc
    cases e
    obtain ⟨v, _, rfl, h1, w, _, rfl, h2, rfl⟩ := hv
    cases h1
    cases h2
    refine ⟨x.1, x.2.1, rfl, hc.2, hc.1, fun p hp => q _ _ _ hz (f2.trans (Fr.same (same_new hp))) (d2.same (same_new hp)) (hB2.same (same_new hp)) ⟨p, rfl, .inl ⟨.inl ?_, d2.not_mem hp⟩⟩⟩
    rw [upd_same, (rat_rND hc.1).1, (rat_rND hc.1).2]
  · cases e

/-! ### draws, mirrored -/
theorem els_fr {b c : Addr} {H H' : Hp} (ex : Els b c H H') : Fr [b, c] H H' := fun p o e n => by
  simp only [List.mem_cons, List.not_mem_nil, or_false, not_or] at n
  exact (ex p n.1 n.2).trans e
def drawW (n : Int) : Wp Int := fun P => 0 < n ∧ n < 1073741824 ∧ ∀ r, 0 ≤ r → r < n → P r
def sameW {α : Type} (wa wb : Wp α) : Wp Bool := fun P => wa fun x => wb fun y => x = y ∧ P true
def anyW {α : Type} (xs : List α) : Wp α := fun P => xs ≠ [] ∧ xs.length ≤ 1000 ∧ ∀ x ∈ xs, P x
section
variable {α : Type} {a : Ty K α} {b c : Addr} {S : AS} {σ : St} {H : Hp} {te : TE} {E : XK} {i : Nat}
theorem ew_draw {w : Wp Int} (hi : σ[i]? = some (some (.ref b))) (h : EvW b c S te σ H (of (K := K) tInt S) w) : EvW b c S (tCall spDraw [] E (tCons (tVar i) (tCons te tNil))) σ H (of (K := K) tInt S) (callBW drawW w) := fun ts P hP H1 f d hB Q q => by
  refine ⟨_, hi, h ts _ hP H1 f d hB _ fun v H2 n ⟨n0, n1, hn⟩ f2 d2 hB2 hv => ?_⟩
  cases hv
  exact ⟨b, c, n, rfl, hB2, n0, n1, fun r H' r0 r1 hB' ex => q _ H' r (hn r r0 r1) (f2.trans (els_fr ex)) (dom_fr d2 (els_fr ex) hB') hB' rfl⟩
theorem all2_mem {F : V → α → Prop} : ∀ {vs : List V} {xs : List α} {v : V}, All2 F vs xs → v ∈ vs → ∃ x ∈ xs, F v x
  | _, _, v, .nil, h => by simp at h
  | _, _, v, .cons h r, m => by
    rcases List.mem_cons.mp m with rfl | m
    · exact ⟨_, List.mem_cons_self .., h⟩
    · obtain ⟨x, hx, hv⟩ := all2_mem r m
      exact ⟨x, List.mem_cons_of_mem _ hx, hv⟩
theorem ew_any {w : Wp (List α)} (hi : σ[i]? = some (some (.ref b))) (h : EvW b c S te σ H (of (tL a) S) w) : EvW b c S (tCall (spAnyK K) [] E (tCons (tVar i) (tCons te tNil))) σ H (of a S) (callBW anyW w) := fun ts P hP H1 f d hB Q q => by
  refine ⟨_, hi, h ts _ hP H1 f d hB _ fun v H2 xs ⟨x0, x1, hx⟩ f2 d2 hB2 hv => ?_⟩
  obtain ⟨p, vs, rfl, hp, ha⟩ := hv
  refine ⟨b, c, p, vs, rfl, hB2, hp.sub ts, fun z => x0 (List.length_eq_zero_iff.mp (by rw [← ha.len, z]; rfl)), by rw [ha.len]; exact x1, fun v H' hv hB' ex => ?_⟩
  obtain ⟨x, mx, rx⟩ := all2_mem ha hv
  exact q _ H' x (hx x mx) (f2.trans (els_fr ex)) (dom_fr d2 (els_fr ex) hB') hB' (a.mono ((els_fr ex).sub ts) rx)
theorem ew_anyO {p : Addr} {xs : List α} {j : Nat} (hi : σ[i]? = some (some (.ref b))) (o : Own a S H p xs) (nt : p ∉ [b, c]) (hj : σ[j]? = some (some (.ref p))) : EvW b c S (tCall (spAnyK K) [] E (tCons (tVar i) (tCons (tVar j) tNil))) σ H (of a S) (anyW xs) := fun ts P ⟨x0, x1, hx⟩ H1 f d hB Q q => by
  obtain ⟨vs, hv, ha⟩ := o.fr f ts nt
  refine ⟨_, hi, _, hj, b, c, p, vs, rfl, hB, .inl ⟨.inl hv, nt⟩, fun z => x0 (List.length_eq_zero_iff.mp (by rw [← ha.len, z]; rfl)), by rw [ha.len]; exact x1, fun v H' hv hB' ex => ?_⟩
  obtain ⟨x, mx, rx⟩ := all2_mem ha hv
  exact q _ H' x (hx x mx) (els_fr ex) (dom_fr d (els_fr ex) hB') hB' (a.mono ((els_fr ex).sub ts) rx)
end
/-! ### things that the law finds the same -/
def SmOf {α : Type} (a : Ty K α) (k : Nat) : Prop := ∀ {S H v w x}, a.rp S H v x → a.rp S H w x → ∀ n, k ≤ n → SmT K H n v w
theorem sm_int : SmOf (K := K) tInt 0 := fun h1 h2 n _ => by cases h1; cases h2; exact SmT.flat rfl n
theorem sm_bool : SmOf (K := K) tBool 0 := fun h1 h2 n _ => by cases h1; cases h2; exact SmT.flat rfl n
theorem sm_none : SmOf (K := K) tNone 0 := fun h1 h2 n _ => by cases h1; cases h2; exact SmT.flat rfl n
theorem sm_str : SmOf (K := K) tStr 0 := fun h1 h2 n _ => by rw [h1.1, h2.1]; exact SmT.flat rfl n
theorem sm_rat : SmOf (K := K) tRat 1 := fun ⟨p, e, h⟩ ⟨p', e', h'⟩ n hn => by
  subst e; subst e'
  obtain ⟨m, rfl⟩ : ∃ m, n = m + 1 := ⟨n - 1, by omega⟩
  exact SmT.tup2 h.sq h'.sq (SmT.flat rfl m) (SmT.flat rfl m)
theorem sm_opt {α : Type} {a : Ty K α} {k : Nat} (h : SmOf a k) : SmOf (tOpt a) k := fun {S H v w x} h1 h2 n hn => by
  cases x with
  | none => rw [show v = _ from h1, show w = _ from h2]; exact SmT.flat rfl n
  | some y => exact h h1.2 h2.2 n hn
theorem sm_t2 {α β : Type} {a : Ty K α} {b : Ty K β} {k l : Nat} (h : SmOf a k) (h' : SmOf b l) : SmOf (tT2 a b) (1 + max k l) := fun ⟨p, u, w, e, hp, h1, h2⟩ ⟨p', u', w', e', hp', h1', h2'⟩ n hn => by
  subst e; subst e'
  obtain ⟨m, rfl⟩ : ∃ m, n = m + 1 := ⟨n - 1, by omega⟩
  exact SmT.tup2 hp.sq hp'.sq (h h1 h1' m (by omega)) (h' h2 h2' m (by omega))
theorem sm_t4 {α β γ δ : Type} {a : Ty K α} {b : Ty K β} {c : Ty K γ} {d : Ty K δ} {k l i j : Nat} (ha : SmOf a k) (hb : SmOf b l) (hc : SmOf c i) (hd : SmOf d j) : SmOf (tT4 a b c d) (1 + max (max k l) (max i j)) := fun ⟨p, u1, u2, u3, u4, e, hp, h1, h2, h3, h4⟩ ⟨p', w1, w2, w3, w4, e', hp', g1, g2, g3, g4⟩ n hn => by
  subst e; subst e'
  obtain ⟨m, rfl⟩ : ∃ m, n = m + 1 := ⟨n - 1, by omega⟩
  refine SmT.tup hp.sq hp'.sq rfl (by show 4 ≤ 1000; decide) fun i x y ex ey => ?_
  match i, ex, ey with
  | 0, ex, ey => cases ex; cases ey; exact ha h1 g1 m (by omega)
  | 1, ex, ey => cases ex; cases ey; exact hb h2 g2 m (by omega)
  | 2, ex, ey => cases ex; cases ey; exact hc h3 g3 m (by omega)
  | 3, ex, ey => cases ex; cases ey; exact hd h4 g4 m (by omega)
theorem ew_same {α : Type} {a : Ty K α} {n : Nat} {b c : Addr} {S : AS} {σ : St} {H : Hp} {ta tb : TE} {E : XK} {wa wb : Wp α} (hs : SmOf a n) (ha : EvW b c S ta σ H (of a S) wa) (hb : EvW b c S tb σ H (of a S) wb) :
    EvW b c S (tCall (spSame K (n + 1)) [] E (tCons ta (tCons tb tNil))) σ H (of (K := K) tBool S) (sameW wa wb) := fun ts P hP H1 f d hB Q q => by
  refine ha ts _ hP H1 f d hB _ fun v H2 x hx f2 d2 hB2 hv => hb ts _ hx H2 (f.trans f2) d2 hB2 _ fun w H3 y ⟨e, hy⟩ f3 d3 hB3 hw => ?_
  subst e
  exact ⟨_, _, rfl, (hs (a.mono (f3.sub ts) hv) hw n (Nat.le_refl _)).sm, fun H' s => q _ H' true hy ((f2.trans f3).trans (Fr.same s)) (d3.same s) (hB3.same s) rfl⟩

end
end G

namespace G
open PySem L2 M
section
variable {P : Program} {w : World} {K : PySem.W.Frag} {mg : Str → Option Value} {base : Heap}

def m_law_sum (d_law_one : Rat) (d_law_two : Rat) : Option Rat :=
  (bd (bd (bd (bd (bd (some d_law_one) fun x => some x.num) fun x => bd (bd (some d_law_two) fun x => some (x.den : Int)) fun y => mul? x y) fun x => bd (bd (bd (some d_law_two) fun x => some x.num) fun x => bd (bd (some d_law_one) fun x => some (x.den : Int)) fun y => mul? x y) fun y => some (x + y)) fun x => bd (bd (bd (bd (some d_law_one) fun x => some (x.den : Int)) fun x => bd (bd (some d_law_two) fun x => some (x.den : Int)) fun y => mul? x y) fun x => bd (some ()) fun y => some (x, y)) fun y => some (x, y)) fun a => ratio? a.1 a.2.1)
abbrev sp_law_sum (K : PySem.W.Frag) : Sp := spF (K := K) (aCons tRat (aCons tRat aNil)) (fun S => of (K := K) tRat S) (fun a => m_law_sum a.1 a.2.1)
theorem ok_law_sum (ev : Env K mg) : FnOk P w K mg base CX0 2 ev.f_law_sum ev.d_law_sum p_law_sum (sp_law_sum K) := by
  refine ev.A_law_sum.F.ok sc_law_sum (fun vs H Q E h => ?_) (fun cdv A outer s H0 vs Q E hr h => ?_)
  · obtain ⟨S, ⟨d_law_one, d_law_two, _⟩, y, _, ⟨v_law_one, _, rfl, h_law_one, v_law_two, _, rfl, h_law_two, rfl⟩, _⟩ := h
    rfl
  obtain ⟨S, ⟨d_law_one, d_law_two, _⟩, y, dm, ⟨v_law_one, _, rfl, h_law_one, v_law_two, _, rfl, h_law_two, rfl⟩, hm, q⟩ := h
  have ts : Sub [] S := fun a m => by simp at m
  have fr0 := Fr.refl (T := []) H0
  have sub0 : Sub S S := fun a m => m
  refine ⟨_, (pss_one (ps_ret (pe_call (ok_law_rat ev) (hr.mono (by decide)) (by rfl) ev.A_law_rat.m ev.A_law_rat.F.kp ev.A_law_rat.b .nil pass0 (pa_cons (pe_op op_add (pe_op op_mulW (pe_ix ix_tup (pv 0) pe_int (fun _ _ => rfl)) (pe_ix ix_tup (pv 1) pe_int (fun _ _ => rfl))) (pe_op op_mulW (pe_ix ix_tup (pv 1) pe_int (fun _ _ => rfl)) (pe_ix ix_tup (pv 0) pe_int (fun _ _ => rfl)))) (pa_cons (pe_op op_mulW (pe_ix ix_tup (pv 0) pe_int (fun _ _ => rfl)) (pe_ix ix_tup (pv 1) pe_int (fun _ _ => rfl))) pa_nil))))), ?_⟩
  dsimp only [m_law_sum] at hm
  have er := hm
  exact q_ret (T := []) dm (ev_law_rat (ea_cons (ev_op (od_add (K := K)) (ev_op (od_mul (K := K)) (ev_ixR0 (ev_var ts h_law_one rfl)) (ev_ixR1 (ev_var ts h_law_two rfl))) (ev_op (od_mul (K := K)) (ev_ixR0 (ev_var ts h_law_two rfl)) (ev_ixR1 (ev_var ts h_law_one rfl)))) (ea_cons (ev_op (od_mul (K := K)) (ev_ixR1 (ev_var ts h_law_one rfl)) (ev_ixR1 (ev_var ts h_law_two rfl))) ea_nil))) er (fun v H1 s1 hv => q v H1 (fr0.trans (Fr.same s1)).toSame ((tRat : Ty K Rat).sub (S := S) (H := H1) sub0 hv))
def m_law_dif (d_law_one : Rat) (d_law_two : Rat) : Option Rat :=
  (bd (bd (bd (bd (bd (some d_law_one) fun x => some x.num) fun x => bd (bd (some d_law_two) fun x => some (x.den : Int)) fun y => mul? x y) fun x => bd (bd (bd (some d_law_two) fun x => some x.num) fun x => bd (bd (some d_law_one) fun x => some (x.den : Int)) fun y => mul? x y) fun y => some (x - y)) fun x => bd (bd (bd (bd (some d_law_one) fun x => some (x.den : Int)) fun x => bd (bd (some d_law_two) fun x => some (x.den : Int)) fun y => mul? x y) fun x => bd (some ()) fun y => some (x, y)) fun y => some (x, y)) fun a => ratio? a.1 a.2.1)
abbrev sp_law_dif (K : PySem.W.Frag) : Sp := spF (K := K) (aCons tRat (aCons tRat aNil)) (fun S => of (K := K) tRat S) (fun a => m_law_dif a.1 a.2.1)
theorem ok_law_dif (ev : Env K mg) : FnOk P w K mg base CX0 2 ev.f_law_dif ev.d_law_dif p_law_dif (sp_law_dif K) := by
  refine ev.A_law_dif.F.ok sc_law_dif (fun vs H Q E h => ?_) (fun cdv A outer s H0 vs Q E hr h => ?_)
  · obtain ⟨S, ⟨d_law_one, d_law_two, _⟩, y, _, ⟨v_law_one, _, rfl, h_law_one, v_law_two, _, rfl, h_law_two, rfl⟩, _⟩ := h
    rfl
  obtain ⟨S, ⟨d_law_one, d_law_two, _⟩, y, dm, ⟨v_law_one, _, rfl, h_law_one, v_law_two, _, rfl, h_law_two, rfl⟩, hm, q⟩ := h
  have ts : Sub [] S := fun a m => by simp at m
  have fr0 := Fr.refl (T := []) H0
  have sub0 : Sub S S := fun a m => m
  refine ⟨_, (pss_one (ps_ret (pe_call (ok_law_rat ev) (hr.mono (by decide)) (by rfl) ev.A_law_rat.m ev.A_law_rat.F.kp ev.A_law_rat.b .nil pass0 (pa_cons (pe_op op_sub (pe_op op_mulW (pe_ix ix_tup (pv 0) pe_int (fun _ _ => rfl)) (pe_ix ix_tup (pv 1) pe_int (fun _ _ => rfl))) (pe_op op_mulW (pe_ix ix_tup (pv 1) pe_int (fun _ _ => rfl)) (pe_ix ix_tup (pv 0) pe_int (fun _ _ => rfl)))) (pa_cons (pe_op op_mulW (pe_ix ix_tup (pv 0) pe_int (fun _ _ => rfl)) (pe_ix ix_tup (pv 1) pe_int (fun _ _ => rfl))) pa_nil))))), ?_⟩
  dsimp only [m_law_dif] at hm
  have er := hm
  exact q_ret (T := []) dm (ev_law_rat (ea_cons (ev_op (od_sub (K := K)) (ev_op (od_mul (K := K)) (ev_ixR0 (ev_var ts h_law_one rfl)) (ev_ixR1 (ev_var ts h_law_two rfl))) (ev_op (od_mul (K := K)) (ev_ixR0 (ev_var ts h_law_two rfl)) (ev_ixR1 (ev_var ts h_law_one rfl)))) (ea_cons (ev_op (od_mul (K := K)) (ev_ixR1 (ev_var ts h_law_one rfl)) (ev_ixR1 (ev_var ts h_law_two rfl))) ea_nil))) er (fun v H1 s1 hv => q v H1 (fr0.trans (Fr.same s1)).toSame ((tRat : Ty K Rat).sub (S := S) (H := H1) sub0 hv))
def m_law_prod (d_law_one : Rat) (d_law_two : Rat) : Option Rat :=
  (bd (bd (bd (bd (some d_law_one) fun x => some x.num) fun x => bd (bd (some d_law_two) fun x => some x.num) fun y => mul? x y) fun x => bd (bd (bd (bd (some d_law_one) fun x => some (x.den : Int)) fun x => bd (bd (some d_law_two) fun x => some (x.den : Int)) fun y => mul? x y) fun x => bd (some ()) fun y => some (x, y)) fun y => some (x, y)) fun a => ratio? a.1 a.2.1)
abbrev sp_law_prod (K : PySem.W.Frag) : Sp := spF (K := K) (aCons tRat (aCons tRat aNil)) (fun S => of (K := K) tRat S) (fun a => m_law_prod a.1 a.2.1)
theorem ok_law_prod (ev : Env K mg) : FnOk P w K mg base CX0 2 ev.f_law_prod ev.d_law_prod p_law_prod (sp_law_prod K) := by
  refine ev.A_law_prod.F.ok sc_law_prod (fun vs H Q E h => ?_) (fun cdv A outer s H0 vs Q E hr h => ?_)
  · obtain ⟨S, ⟨d_law_one, d_law_two, _⟩, y, _, ⟨v_law_one, _, rfl, h_law_one, v_law_two, _, rfl, h_law_two, rfl⟩, _⟩ := h
    rfl
  obtain ⟨S, ⟨d_law_one, d_law_two, _⟩, y, dm, ⟨v_law_one, _, rfl, h_law_one, v_law_two, _, rfl, h_law_two, rfl⟩, hm, q⟩ := h
  have ts : Sub [] S := fun a m => by simp at m
  have fr0 := Fr.refl (T := []) H0
  have sub0 : Sub S S := fun a m => m
  refine ⟨_, (pss_one (ps_ret (pe_call (ok_law_rat ev) (hr.mono (by decide)) (by rfl) ev.A_law_rat.m ev.A_law_rat.F.kp ev.A_law_rat.b .nil pass0 (pa_cons (pe_op op_mulW (pe_ix ix_tup (pv 0) pe_int (fun _ _ => rfl)) (pe_ix ix_tup (pv 1) pe_int (fun _ _ => rfl))) (pa_cons (pe_op op_mulW (pe_ix ix_tup (pv 0) pe_int (fun _ _ => rfl)) (pe_ix ix_tup (pv 1) pe_int (fun _ _ => rfl))) pa_nil))))), ?_⟩
  dsimp only [m_law_prod] at hm
  have er := hm
  exact q_ret (T := []) dm (ev_law_rat (ea_cons (ev_op (od_mul (K := K)) (ev_ixR0 (ev_var ts h_law_one rfl)) (ev_ixR0 (ev_var ts h_law_two rfl))) (ea_cons (ev_op (od_mul (K := K)) (ev_ixR1 (ev_var ts h_law_one rfl)) (ev_ixR1 (ev_var ts h_law_two rfl))) ea_nil))) er (fun v H1 s1 hv => q v H1 (fr0.trans (Fr.same s1)).toSame ((tRat : Ty K Rat).sub (S := S) (H := H1) sub0 hv))
def m_law_quo (d_law_one : Rat) (d_law_two : Rat) : Option Rat :=
  (bd (bd (bd (bd (some d_law_one) fun x => some x.num) fun x => bd (bd (some d_law_two) fun x => some (x.den : Int)) fun y => mul? x y) fun x => bd (bd (bd (bd (some d_law_one) fun x => some (x.den : Int)) fun x => bd (bd (some d_law_two) fun x => some x.num) fun y => mul? x y) fun x => bd (some ()) fun y => some (x, y)) fun y => some (x, y)) fun a => ratio? a.1 a.2.1)
abbrev sp_law_quo (K : PySem.W.Frag) : Sp := spF (K := K) (aCons tRat (aCons tRat aNil)) (fun S => of (K := K) tRat S) (fun a => m_law_quo a.1 a.2.1)
theorem ok_law_quo (ev : Env K mg) : FnOk P w K mg base CX0 2 ev.f_law_quo ev.d_law_quo p_law_quo (sp_law_quo K) := by
  refine ev.A_law_quo.F.ok sc_law_quo (fun vs H Q E h => ?_) (fun cdv A outer s H0 vs Q E hr h => ?_)
  · obtain ⟨S, ⟨d_law_one, d_law_two, _⟩, y, _, ⟨v_law_one, _, rfl, h_law_one, v_law_two, _, rfl, h_law_two, rfl⟩, _⟩ := h
    rfl
  obtain ⟨S, ⟨d_law_one, d_law_two, _⟩, y, dm, ⟨v_law_one, _, rfl, h_law_one, v_law_two, _, rfl, h_law_two, rfl⟩, hm, q⟩ := h
  have ts : Sub [] S := fun a m => by simp at m
  have fr0 := Fr.refl (T := []) H0
  have sub0 : Sub S S := fun a m => m
  refine ⟨_, (pss_one (ps_ret (pe_call (ok_law_rat ev) (hr.mono (by decide)) (by rfl) ev.A_law_rat.m ev.A_law_rat.F.kp ev.A_law_rat.b .nil pass0 (pa_cons (pe_op op_mulW (pe_ix ix_tup (pv 0) pe_int (fun _ _ => rfl)) (pe_ix ix_tup (pv 1) pe_int (fun _ _ => rfl))) (pa_cons (pe_op op_mulW (pe_ix ix_tup (pv 0) pe_int (fun _ _ => rfl)) (pe_ix ix_tup (pv 1) pe_int (fun _ _ => rfl))) pa_nil))))), ?_⟩
  dsimp only [m_law_quo] at hm
  have er := hm
  exact q_ret (T := []) dm (ev_law_rat (ea_cons (ev_op (od_mul (K := K)) (ev_ixR0 (ev_var ts h_law_one rfl)) (ev_ixR1 (ev_var ts h_law_two rfl))) (ea_cons (ev_op (od_mul (K := K)) (ev_ixR1 (ev_var ts h_law_one rfl)) (ev_ixR0 (ev_var ts h_law_two rfl))) ea_nil))) er (fun v H1 s1 hv => q v H1 (fr0.trans (Fr.same s1)).toSame ((tRat : Ty K Rat).sub (S := S) (H := H1) sub0 hv))
def m_law_comp (d_law_one : Rat) (d_law_two : Rat) : Option Int :=
  (bd (bd (bd (some d_law_one) fun x => some x.num) fun x => bd (bd (some d_law_two) fun x => some (x.den : Int)) fun y => mul? x y) fun x => bd (bd (bd (some d_law_two) fun x => some x.num) fun x => bd (bd (some d_law_one) fun x => some (x.den : Int)) fun y => mul? x y) fun y => some (x - y))
abbrev sp_law_comp (K : PySem.W.Frag) : Sp := spF (K := K) (aCons tRat (aCons tRat aNil)) (fun S => of (K := K) tInt S) (fun a => m_law_comp a.1 a.2.1)
theorem ok_law_comp (ev : Env K mg) : FnOk P w K mg base CX0 1 ev.f_law_comp ev.d_law_comp p_law_comp (sp_law_comp K) := by
  refine ev.A_law_comp.F.ok sc_law_comp (fun vs H Q E h => ?_) (fun cdv A outer s H0 vs Q E hr h => ?_)
  · obtain ⟨S, ⟨d_law_one, d_law_two, _⟩, y, _, ⟨v_law_one, _, rfl, h_law_one, v_law_two, _, rfl, h_law_two, rfl⟩, _⟩ := h
    rfl
  obtain ⟨S, ⟨d_law_one, d_law_two, _⟩, y, dm, ⟨v_law_one, _, rfl, h_law_one, v_law_two, _, rfl, h_law_two, rfl⟩, hm, q⟩ := h
  have ts : Sub [] S := fun a m => by simp at m
  have fr0 := Fr.refl (T := []) H0
  have sub0 : Sub S S := fun a m => m
  refine ⟨_, (pss_one (ps_ret (pe_op op_sub (pe_op op_mulW (pe_ix ix_tup (pv 0) pe_int (fun _ _ => rfl)) (pe_ix ix_tup (pv 1) pe_int (fun _ _ => rfl))) (pe_op op_mulW (pe_ix ix_tup (pv 1) pe_int (fun _ _ => rfl)) (pe_ix ix_tup (pv 0) pe_int (fun _ _ => rfl)))))), ?_⟩
  dsimp only [m_law_comp] at hm
  have er := hm
  exact q_ret (T := []) dm (ev_op (od_sub (K := K)) (ev_op (od_mul (K := K)) (ev_ixR0 (ev_var ts h_law_one rfl)) (ev_ixR1 (ev_var ts h_law_two rfl))) (ev_op (od_mul (K := K)) (ev_ixR0 (ev_var ts h_law_two rfl)) (ev_ixR1 (ev_var ts h_law_one rfl)))) er (fun v H1 s1 hv => q v H1 (fr0.trans (Fr.same s1)).toSame ((tInt : Ty K Int).sub (S := S) (H := H1) sub0 hv))
def m_law_on (d_law_one : (Rat × Rat)) (d_law_two : (Rat × Rat)) (d_law_part : Rat) : Option (Rat × Rat) :=
  (bd (bd (bd (bd (some d_law_one) fun x => some x.1) fun x => bd (bd (bd (bd (some d_law_part) fun x => bd (bd (bd (bd (bd (some d_law_two) fun x => some x.1) fun x => bd (bd (bd (some d_law_one) fun x => some x.1) fun x => bd (some ()) fun y => some (x, y)) fun y => some (x, y)) fun a => m_law_dif a.1 a.2.1) fun x => bd (some ()) fun y => some (x, y)) fun y => some (x, y)) fun a => m_law_prod a.1 a.2.1) fun x => bd (some ()) fun y => some (x, y)) fun y => some (x, y)) fun a => m_law_sum a.1 a.2.1) fun law_x_1 => (bd (some law_x_1) fun x => bd (bd (bd (bd (some d_law_one) fun x => some x.2) fun x => bd (bd (bd (bd (some d_law_part) fun x => bd (bd (bd (bd (bd (some d_law_two) fun x => some x.2) fun x => bd (bd (bd (some d_law_one) fun x => some x.2) fun x => bd (some ()) fun y => some (x, y)) fun y => some (x, y)) fun a => m_law_dif a.1 a.2.1) fun x => bd (some ()) fun y => some (x, y)) fun y => some (x, y)) fun a => m_law_prod a.1 a.2.1) fun x => bd (some ()) fun y => some (x, y)) fun y => some (x, y)) fun a => m_law_sum a.1 a.2.1) fun y => some (x, y)))
abbrev sp_law_on (K : PySem.W.Frag) : Sp := spF (K := K) (aCons (tT2 tRat tRat) (aCons (tT2 tRat tRat) (aCons tRat aNil))) (fun S => of (K := K) (tT2 tRat tRat) S) (fun a => m_law_on a.1 a.2.1 a.2.2.1)
theorem ok_law_on (ev : Env K mg) : FnOk P w K mg base CX0 3 ev.f_law_on ev.d_law_on p_law_on (sp_law_on K) := by
  refine ev.A_law_on.F.ok sc_law_on (fun vs H Q E h => ?_) (fun cdv A outer s H0 vs Q E hr h => ?_)
  · obtain ⟨S, ⟨d_law_one, d_law_two, d_law_part, _⟩, y, _, ⟨v_law_one, _, rfl, h_law_one, v_law_two, _, rfl, h_law_two, v_law_part, _, rfl, h_law_part, rfl⟩, _⟩ := h
    rfl
  obtain ⟨S, ⟨d_law_one, d_law_two, d_law_part, _⟩, y, dm, ⟨v_law_one, _, rfl, h_law_one, v_law_two, _, rfl, h_law_two, v_law_part, _, rfl, h_law_part, rfl⟩, hm, q⟩ := h
  have ts : Sub [] S := fun a m => by simp at m
  have fr0 := Fr.refl (T := []) H0
  have sub0 : Sub S S := fun a m => m
  refine ⟨_, (pss_cons (ps_set (i := 3) sc_law_on.nd rfl (Or.inl rfl) (pe_call (ok_law_sum ev) (hr.mono (by decide)) (by rfl) ev.A_law_sum.m ev.A_law_sum.F.kp ev.A_law_sum.b .nil pass0 (pa_cons (pe_ix ix_tup (pv 0) pe_int (fun _ _ => rfl)) (pa_cons (pe_call (ok_law_prod ev) (hr.mono (by decide)) (by rfl) ev.A_law_prod.m ev.A_law_prod.F.kp ev.A_law_prod.b .nil pass0 (pa_cons (pv 2) (pa_cons (pe_call (ok_law_dif ev) (hr.mono (by decide)) (by rfl) ev.A_law_dif.m ev.A_law_dif.F.kp ev.A_law_dif.b .nil pass0 (pa_cons (pe_ix ix_tup (pv 1) pe_int (fun _ _ => rfl)) (pa_cons (pe_ix ix_tup (pv 0) pe_int (fun _ _ => rfl)) pa_nil))) pa_nil))) pa_nil))))
    (pss_one (ps_ret (pe_tup (pa_cons (pv 3) (pa_cons (pe_call (ok_law_sum ev) (hr.mono (by decide)) (by rfl) ev.A_law_sum.m ev.A_law_sum.F.kp ev.A_law_sum.b .nil pass0 (pa_cons (pe_ix ix_tup (pv 0) pe_int (fun _ _ => rfl)) (pa_cons (pe_call (ok_law_prod ev) (hr.mono (by decide)) (by rfl) ev.A_law_prod.m ev.A_law_prod.F.kp ev.A_law_prod.b .nil pass0 (pa_cons (pv 2) (pa_cons (pe_call (ok_law_dif ev) (hr.mono (by decide)) (by rfl) ev.A_law_dif.m ev.A_law_dif.F.kp ev.A_law_dif.b .nil pass0 (pa_cons (pe_ix ix_tup (pv 1) pe_int (fun _ _ => rfl)) (pa_cons (pe_ix ix_tup (pv 0) pe_int (fun _ _ => rfl)) pa_nil))) pa_nil))) pa_nil))) pa_nil)))))), ?_⟩
  dsimp only [m_law_on] at hm
  obtain ⟨law_x_1, e1, hm⟩ := bd_some hm
  refine q_asg (T := []) dm (ev_call (ea_cons (ev_ix20 (ev_var ts h_law_one rfl)) (ea_cons (ev_call (ea_cons (ev_var ts h_law_part rfl) (ea_cons (ev_call (ea_cons (ev_ix20 (ev_var ts h_law_two rfl)) (ea_cons (ev_ix20 (ev_var ts h_law_one rfl)) ea_nil))) ea_nil))) ea_nil))) e1 (fun v_law_x H1 s1 h_law_x => ?_)
  have fr0 := fr0.trans (Fr.same s1)
  have dm := dm.same s1
  have h_law_one := ((tT2 tRat tRat) : Ty K (Rat × Rat)).mono (S := S) (Fr.same s1) h_law_one
  have h_law_two := ((tT2 tRat tRat) : Ty K (Rat × Rat)).mono (S := S) (Fr.same s1) h_law_two
  have h_law_part := (tRat : Ty K Rat).mono (S := S) (Fr.same s1) h_law_part
  have h_law_x : (tRat : Ty K Rat).rp S H1 v_law_x law_x_1 := h_law_x
  have er := hm
  exact q_ret (T := []) dm (ev_tup2 (ev_var ts h_law_x rfl) (ev_call (ea_cons (ev_ix21 (ev_var ts h_law_one rfl)) (ea_cons (ev_call (ea_cons (ev_var ts h_law_part rfl) (ea_cons (ev_call (ea_cons (ev_ix21 (ev_var ts h_law_two rfl)) (ea_cons (ev_ix21 (ev_var ts h_law_one rfl)) ea_nil))) ea_nil))) ea_nil)))) er (fun v H2 s2 hv => q v H2 (fr0.trans (Fr.same s2)).toSame (((tT2 tRat tRat) : Ty K (Rat × Rat)).sub (S := S) (H := H2) sub0 hv))
def m_law_span (d_law_bits : (Option (Rat × Rat))) (d_law_start : Rat) (d_law_far : Rat) (d_law_low : Rat) (d_law_high : Rat) : Option (Option (Rat × Rat)) :=
  (optM d_law_bits (bd (some ()) fun _ => some none) fun law_bits_1 => (bd (bd (bd (some d_law_far) fun x => some x.num) fun x => bd (some (0 : Int)) fun y => some (decide (x = y))) fun c2 => if c2 then (bd (bd (bd (bd (bd (some d_law_low) fun x => bd (bd (some d_law_start) fun x => bd (some ()) fun y => some (x, y)) fun y => some (x, y)) fun a => m_law_comp a.1 a.2.1) fun x => bd (some (0 : Int)) fun y => some (decide (x ≤ y))) fun x => if x then (bd (bd (bd (some d_law_start) fun x => bd (bd (some d_law_high) fun x => bd (some ()) fun y => some (x, y)) fun y => some (x, y)) fun a => m_law_comp a.1 a.2.1) fun x => bd (some (0 : Int)) fun y => some (decide (x ≤ y))) else some false) fun law_good_3 => (bd (some law_good_3) fun x => if x then (bd (some law_bits_1) fun x => some (some x)) else (bd (some ()) fun _ => some none))) else (bd (bd (bd (bd (bd (bd (some d_law_low) fun x => bd (bd (some d_law_start) fun x => bd (some ()) fun y => some (x, y)) fun y => some (x, y)) fun a => m_law_dif a.1 a.2.1) fun x => bd (bd (some d_law_far) fun x => bd (some ()) fun y => some (x, y)) fun y => some (x, y)) fun a => m_law_quo a.1 a.2.1) fun x => bd (bd (bd (bd (bd (bd (some d_law_high) fun x => bd (bd (some d_law_start) fun x => bd (some ()) fun y => some (x, y)) fun y => some (x, y)) fun a => m_law_dif a.1 a.2.1) fun x => bd (bd (some d_law_far) fun x => bd (some ()) fun y => some (x, y)) fun y => some (x, y)) fun a => m_law_quo a.1 a.2.1) fun x => bd (some []) fun y => some (x :: y)) fun y => some (x :: y)) fun law_ends_4 => (bd (bd (bd (some d_law_far) fun x => some x.num) fun x => bd (some (0 : Int)) fun y => some (decide (x < y))) fun c5 => (bd (if c5 then (bd (bd (some law_ends_4) fun x => some x.reverse) fun law_ends_6 => some law_ends_6) else some law_ends_4) fun j7 => (bd (bd (bd (bd (bd (bd (some law_bits_1) fun x => some x.1) fun x => bd (bd (bd (some j7) fun x => bd (some (0 : Int)) fun y => atI x y) fun x => bd (some ()) fun y => some (x, y)) fun y => some (x, y)) fun a => m_law_comp a.1 a.2.1) fun x => bd (some (0 : Int)) fun y => some (decide (x < y))) fun x => if x then (bd (some j7) fun x => bd (some (0 : Int)) fun y => atI x y) else (bd (some law_bits_1) fun x => some x.1)) fun law_first_8 => (bd (bd (bd (bd (bd (bd (some j7) fun x => bd (some (1 : Int)) fun y => atI x y) fun x => bd (bd (bd (some law_bits_1) fun x => some x.2) fun x => bd (some ()) fun y => some (x, y)) fun y => some (x, y)) fun a => m_law_comp a.1 a.2.1) fun x => bd (some (0 : Int)) fun y => some (decide (x < y))) fun x => if x then (bd (some j7) fun x => bd (some (1 : Int)) fun y => atI x y) else (bd (some law_bits_1) fun x => some x.2)) fun law_last_9 => (bd (bd (bd (bd (some law_first_8) fun x => bd (bd (some law_last_9) fun x => bd (some ()) fun y => some (x, y)) fun y => some (x, y)) fun a => m_law_comp a.1 a.2.1) fun x => bd (some (0 : Int)) fun y => some (decide (x ≤ y))) fun x => if x then (bd (bd (some law_first_8) fun x => bd (some law_last_9) fun y => some (x, y)) fun x => some (some x)) else (bd (some ()) fun _ => some none)))))))))
abbrev sp_law_span (K : PySem.W.Frag) : Sp := spF (K := K) (aCons (tOpt (tT2 tRat tRat)) (aCons tRat (aCons tRat (aCons tRat (aCons tRat aNil))))) (fun S => of (K := K) (tOpt (tT2 tRat tRat)) S) (fun a => m_law_span a.1 a.2.1 a.2.2.1 a.2.2.2.1 a.2.2.2.2.1)
theorem ok_law_span (ev : Env K mg) : FnOk P w K mg base CX0 3 ev.f_law_span ev.d_law_span p_law_span (sp_law_span K) := by
  refine ev.A_law_span.F.ok sc_law_span (fun vs H Q E h => ?_) (fun cdv A outer s H0 vs Q E hr h => ?_)
  · obtain ⟨S, ⟨d_law_bits, d_law_start, d_law_far, d_law_low, d_law_high, _⟩, y, _, ⟨v_law_bits, _, rfl, h_law_bits, v_law_start, _, rfl, h_law_start, v_law_far, _, rfl, h_law_far, v_law_low, _, rfl, h_law_low, v_law_high, _, rfl, h_law_high, rfl⟩, _⟩ := h
    rfl
  obtain ⟨S, ⟨d_law_bits, d_law_start, d_law_far, d_law_low, d_law_high, _⟩, y, dm, ⟨v_law_bits, _, rfl, h_law_bits, v_law_start, _, rfl, h_law_start, v_law_far, _, rfl, h_law_far, v_law_low, _, rfl, h_law_low, v_law_high, _, rfl, h_law_high, rfl⟩, hm, q⟩ := h
  have ts : Sub [] S := fun a m => by simp at m
  have fr0 := Fr.refl (T := []) H0
  have sub0 : Sub S S := fun a m => m
  refine ⟨_, (pss_cons (ps_if (pt_cmpR op_isN (pv 0) pe_non (nomark _))
    (pss_one (ps_ret pe_non)) pss_nil)
    (pss_cons (ps_if (pt_cmpR op_eq (pe_ix ix_tup (pv 2) pe_int (fun _ _ => rfl)) pe_int (nomark _))
    (pss_cons (ps_set (i := 5) sc_law_span.nd rfl (Or.inl rfl) (pe_and (pe_cmpR op_le (pe_call (ok_law_comp ev) (hr.mono (by decide)) (by rfl) ev.A_law_comp.m ev.A_law_comp.F.kp ev.A_law_comp.b .nil pass0 (pa_cons (pv 3) (pa_cons (pv 1) pa_nil))) pe_int (nomark _)) (pe_one (pe_cmpR op_le (pe_call (ok_law_comp ev) (hr.mono (by decide)) (by rfl) ev.A_law_comp.m ev.A_law_comp.F.kp ev.A_law_comp.b .nil pass0 (pa_cons (pv 1) (pa_cons (pv 4) pa_nil))) pe_int (nomark _)))))
    (pss_one (ps_ret (pe_ifExp (pt_val (pv 5)) (pv 0) pe_non)))) pss_nil)
    (pss_cons (ps_set (i := 6) sc_law_span.nd rfl (Or.inl rfl) (pe_lst (pa_cons (pe_call (ok_law_quo ev) (hr.mono (by decide)) (by rfl) ev.A_law_quo.m ev.A_law_quo.F.kp ev.A_law_quo.b .nil pass0 (pa_cons (pe_call (ok_law_dif ev) (hr.mono (by decide)) (by rfl) ev.A_law_dif.m ev.A_law_dif.F.kp ev.A_law_dif.b .nil pass0 (pa_cons (pv 3) (pa_cons (pv 1) pa_nil))) (pa_cons (pv 2) pa_nil))) (pa_cons (pe_call (ok_law_quo ev) (hr.mono (by decide)) (by rfl) ev.A_law_quo.m ev.A_law_quo.F.kp ev.A_law_quo.b .nil pass0 (pa_cons (pe_call (ok_law_dif ev) (hr.mono (by decide)) (by rfl) ev.A_law_dif.m ev.A_law_dif.F.kp ev.A_law_dif.b .nil pass0 (pa_cons (pv 4) (pa_cons (pv 1) pa_nil))) (pa_cons (pv 2) pa_nil))) pa_nil))))
    (pss_cons (ps_if (pt_cmpR op_lt (pe_ix ix_tup (pv 2) pe_int (fun _ _ => rfl)) pe_int (nomark _))
    (pss_one (ps_set (i := 6) sc_law_span.nd rfl (Or.inl rfl) (pe_revL (pv 6)))) pss_nil)
    (pss_cons (ps_set (i := 7) sc_law_span.nd rfl (Or.inl rfl) (pe_ifExp (pt_cmpR op_lt (pe_call (ok_law_comp ev) (hr.mono (by decide)) (by rfl) ev.A_law_comp.m ev.A_law_comp.F.kp ev.A_law_comp.b .nil pass0 (pa_cons (pe_ix ix_tup (pv 0) pe_int (fun _ _ => rfl)) (pa_cons (pe_ix ix_list (pv 6) pe_int (fun _ _ => rfl)) pa_nil))) pe_int (nomark _)) (pe_ix ix_list (pv 6) pe_int (fun _ _ => rfl)) (pe_ix ix_tup (pv 0) pe_int (fun _ _ => rfl))))
    (pss_cons (ps_set (i := 8) sc_law_span.nd rfl (Or.inl rfl) (pe_ifExp (pt_cmpR op_lt (pe_call (ok_law_comp ev) (hr.mono (by decide)) (by rfl) ev.A_law_comp.m ev.A_law_comp.F.kp ev.A_law_comp.b .nil pass0 (pa_cons (pe_ix ix_list (pv 6) pe_int (fun _ _ => rfl)) (pa_cons (pe_ix ix_tup (pv 0) pe_int (fun _ _ => rfl)) pa_nil))) pe_int (nomark _)) (pe_ix ix_list (pv 6) pe_int (fun _ _ => rfl)) (pe_ix ix_tup (pv 0) pe_int (fun _ _ => rfl))))
    (pss_one (ps_ret (pe_ifExp (pt_cmpR op_le (pe_call (ok_law_comp ev) (hr.mono (by decide)) (by rfl) ev.A_law_comp.m ev.A_law_comp.F.kp ev.A_law_comp.b .nil pass0 (pa_cons (pv 7) (pa_cons (pv 8) pa_nil))) pe_int (nomark _)) (pe_tup (pa_cons (pv 7) (pa_cons (pv 8) pa_nil))) pe_non))))))))), ?_⟩
  dsimp only [m_law_span] at hm
  rcases opt_cases hm with ⟨eo1, hm⟩ | ⟨law_bits_1, eo1, hm⟩
  · skip
    refine q_if (T := []) (b := true) dm (eb_isN (a := ((tT2 tRat tRat) : Ty K (Rat × Rat))) ts h_law_bits rfl) (by rw [eo1]; rfl) (fun hc H1 s1 => ?_) (fun hc H1 s1 => by cases hc)
    have fr0 := fr0.trans (Fr.same s1)
    have dm := dm.same s1
    have h_law_bits := ((tOpt (tT2 tRat tRat)) : Ty K (Option (Rat × Rat))).mono (S := S) (Fr.same s1) h_law_bits
    have h_law_start := (tRat : Ty K Rat).mono (S := S) (Fr.same s1) h_law_start
    have h_law_far := (tRat : Ty K Rat).mono (S := S) (Fr.same s1) h_law_far
    have h_law_low := (tRat : Ty K Rat).mono (S := S) (Fr.same s1) h_law_low
    have h_law_high := (tRat : Ty K Rat).mono (S := S) (Fr.same s1) h_law_high
    have er := hm
    exact q_ret (T := []) dm (ev_oN (a := ((tT2 tRat tRat) : Ty K (Rat × Rat))) (ev_none (K := K))) er (fun v H10 s10 hv => q v H10 (fr0.trans (Fr.same s10)).toSame (((tOpt (tT2 tRat tRat)) : Ty K (Option (Rat × Rat))).sub (S := S) (H := H10) sub0 hv))
  · skip
    refine q_if (T := []) (b := false) dm (eb_isN (a := ((tT2 tRat tRat) : Ty K (Rat × Rat))) ts h_law_bits rfl) (by rw [eo1]; rfl) (fun hc H1 s1 => by cases hc) (fun hc H1 s1 => ?_)
    have fr0 := fr0.trans (Fr.same s1)
    have dm := dm.same s1
    have h_law_bits := ((tOpt (tT2 tRat tRat)) : Ty K (Option (Rat × Rat))).mono (S := S) (Fr.same s1) h_law_bits
    have h_law_start := (tRat : Ty K Rat).mono (S := S) (Fr.same s1) h_law_start
    have h_law_far := (tRat : Ty K Rat).mono (S := S) (Fr.same s1) h_law_far
    have h_law_low := (tRat : Ty K Rat).mono (S := S) (Fr.same s1) h_law_low
    have h_law_high := (tRat : Ty K Rat).mono (S := S) (Fr.same s1) h_law_high
    have h_law_bits := opt_is (a := ((tT2 tRat tRat) : Ty K (Rat × Rat))) (S := S) h_law_bits eo1
    refine q_next ?_
    obtain ⟨c2, e2, hm⟩ := bd_some hm
    refine q_if (T := []) dm (eb_test (K := K) (ev_op (od_eqI (K := K)) (ev_ixR0 (ev_var ts h_law_far rfl)) (ev_int (K := K)))) e2 (fun hc H2 s2 => ?_) (fun hc H2 s2 => ?_)
    · skip
      subst hc
      have hm := if_t hm
      have fr0 := fr0.trans (Fr.same s2)
      have dm := dm.same s2
      have h_law_bits := ((tT2 tRat tRat) : Ty K (Rat × Rat)).mono (S := S) (Fr.same s2) h_law_bits
      have h_law_start := (tRat : Ty K Rat).mono (S := S) (Fr.same s2) h_law_start
      have h_law_far := (tRat : Ty K Rat).mono (S := S) (Fr.same s2) h_law_far
      have h_law_low := (tRat : Ty K Rat).mono (S := S) (Fr.same s2) h_law_low
      have h_law_high := (tRat : Ty K Rat).mono (S := S) (Fr.same s2) h_law_high
      obtain ⟨law_good_3, e3, hm⟩ := bd_some hm
      refine q_asg (T := []) dm (ev_and (ev_op (od_le (K := K)) (ev_call (ea_cons (ev_var ts h_law_low rfl) (ea_cons (ev_var ts h_law_start rfl) ea_nil))) (ev_int (K := K))) (ev_op (od_le (K := K)) (ev_call (ea_cons (ev_var ts h_law_start rfl) (ea_cons (ev_var ts h_law_high rfl) ea_nil))) (ev_int (K := K)))) e3 (fun v_law_good H3 s3 h_law_good => ?_)
      have fr0 := fr0.trans (Fr.same s3)
      have dm := dm.same s3
      have h_law_bits := ((tT2 tRat tRat) : Ty K (Rat × Rat)).mono (S := S) (Fr.same s3) h_law_bits
      have h_law_start := (tRat : Ty K Rat).mono (S := S) (Fr.same s3) h_law_start
      have h_law_far := (tRat : Ty K Rat).mono (S := S) (Fr.same s3) h_law_far
      have h_law_low := (tRat : Ty K Rat).mono (S := S) (Fr.same s3) h_law_low
      have h_law_high := (tRat : Ty K Rat).mono (S := S) (Fr.same s3) h_law_high
      have h_law_good : (tBool : Ty K Bool).rp S H3 v_law_good law_good_3 := h_law_good
      have er := hm
      exact q_ret (T := []) dm (ev_if (eb_B (K := K) (ev_var ts h_law_good rfl)) (ev_oS (ev_var ts h_law_bits rfl)) (ev_oN (a := ((tT2 tRat tRat) : Ty K (Rat × Rat))) (ev_none (K := K)))) er (fun v H11 s11 hv => q v H11 (fr0.trans (Fr.same s11)).toSame (((tOpt (tT2 tRat tRat)) : Ty K (Option (Rat × Rat))).sub (S := S) (H := H11) sub0 hv))
    subst hc
    have hm := if_f hm
    have fr0 := fr0.trans (Fr.same s2)
    have dm := dm.same s2
    have h_law_bits := ((tT2 tRat tRat) : Ty K (Rat × Rat)).mono (S := S) (Fr.same s2) h_law_bits
    have h_law_start := (tRat : Ty K Rat).mono (S := S) (Fr.same s2) h_law_start
    have h_law_far := (tRat : Ty K Rat).mono (S := S) (Fr.same s2) h_law_far
    have h_law_low := (tRat : Ty K Rat).mono (S := S) (Fr.same s2) h_law_low
    have h_law_high := (tRat : Ty K Rat).mono (S := S) (Fr.same s2) h_law_high
    refine q_next ?_
    obtain ⟨law_ends_4, e4, hm⟩ := bd_some hm
    refine q_asg (T := []) dm (ev_new (ev_lst (el_cons (ev_call (ea_cons (ev_call (ea_cons (ev_var ts h_law_low rfl) (ea_cons (ev_var ts h_law_start rfl) ea_nil))) (ea_cons (ev_var ts h_law_far rfl) ea_nil))) (el_cons (ev_call (ea_cons (ev_call (ea_cons (ev_var ts h_law_high rfl) (ea_cons (ev_var ts h_law_start rfl) ea_nil))) (ea_cons (ev_var ts h_law_far rfl) ea_nil))) el_nil)) (by decide))) e4 (fun v_law_ends H4 s4 h_law_ends => ?_)
    have fr0 := fr0.trans (Fr.same s4)
    have dm := dm.same s4
    have h_law_bits := ((tT2 tRat tRat) : Ty K (Rat × Rat)).mono (S := S) (Fr.same s4) h_law_bits
    have h_law_start := (tRat : Ty K Rat).mono (S := S) (Fr.same s4) h_law_start
    have h_law_far := (tRat : Ty K Rat).mono (S := S) (Fr.same s4) h_law_far
    have h_law_low := (tRat : Ty K Rat).mono (S := S) (Fr.same s4) h_law_low
    have h_law_high := (tRat : Ty K Rat).mono (S := S) (Fr.same s4) h_law_high
    have h_law_ends : ((tL tRat) : Ty K (List Rat)).rp S H4 v_law_ends law_ends_4 := h_law_ends
    obtain ⟨c5, e5, hm⟩ := bd_some hm
    obtain ⟨j7, ej5, hm⟩ := bd_some hm
    refine seq_by (fun σ' H' => ∃ v_law_bits : V, ∃ v_law_start : V, ∃ v_law_far : V, ∃ v_law_low : V, ∃ v_law_high : V, ∃ v_law_ends : V, ∃ f_5 : Option V, ∃ f_7 : Option V, ∃ f_8 : Option V, σ' = [some v_law_bits, some v_law_start, some v_law_far, some v_law_low, some v_law_high, f_5, some v_law_ends, f_7, f_8] ∧ Fr [] H0 H' ∧ Dom S H' ∧ ((tT2 tRat tRat) : Ty K (Rat × Rat)).rp S H' v_law_bits law_bits_1 ∧ (tRat : Ty K Rat).rp S H' v_law_start d_law_start ∧ (tRat : Ty K Rat).rp S H' v_law_far d_law_far ∧ (tRat : Ty K Rat).rp S H' v_law_low d_law_low ∧ (tRat : Ty K Rat).rp S H' v_law_high d_law_high ∧ ((tL tRat) : Ty K (List Rat)).rp S H' v_law_ends j7) (fun σ' H' hI => ?_) (fun rest => ?_)
    · skip
      obtain ⟨v_law_bits, v_law_start, v_law_far, v_law_low, v_law_high, v_law_ends, f_5, f_7, f_8, rfl, fr0, dm, h_law_bits, h_law_start, h_law_far, h_law_low, h_law_high, h_law_ends⟩ := hI
      obtain ⟨law_first_8, e8, hm⟩ := bd_some hm
      refine q_asg (T := []) dm (ev_if (eb_test (K := K) (ev_op (od_lt (K := K)) (ev_call (ea_cons (ev_ix20 (ev_var ts h_law_bits rfl)) (ea_cons (ev_op od_ixL (ev_var ts h_law_ends rfl) (ev_int (K := K))) ea_nil))) (ev_int (K := K)))) (ev_op od_ixL (ev_var ts h_law_ends rfl) (ev_int (K := K))) (ev_ix20 (ev_var ts h_law_bits rfl))) e8 (fun v_law_first H8 s8 h_law_first => ?_)
      have fr0 := fr0.trans (Fr.same s8)
      have dm := dm.same s8
      have h_law_bits := ((tT2 tRat tRat) : Ty K (Rat × Rat)).mono (S := S) (Fr.same s8) h_law_bits
      have h_law_start := (tRat : Ty K Rat).mono (S := S) (Fr.same s8) h_law_start
      have h_law_far := (tRat : Ty K Rat).mono (S := S) (Fr.same s8) h_law_far
      have h_law_low := (tRat : Ty K Rat).mono (S := S) (Fr.same s8) h_law_low
      have h_law_high := (tRat : Ty K Rat).mono (S := S) (Fr.same s8) h_law_high
      have h_law_ends := ((tL tRat) : Ty K (List Rat)).mono (S := S) (Fr.same s8) h_law_ends
      have h_law_first : (tRat : Ty K Rat).rp S H8 v_law_first law_first_8 := h_law_first
      obtain ⟨law_last_9, e9, hm⟩ := bd_some hm
      refine q_asg (T := []) dm (ev_if (eb_test (K := K) (ev_op (od_lt (K := K)) (ev_call (ea_cons (ev_op od_ixL (ev_var ts h_law_ends rfl) (ev_int (K := K))) (ea_cons (ev_ix21 (ev_var ts h_law_bits rfl)) ea_nil))) (ev_int (K := K)))) (ev_op od_ixL (ev_var ts h_law_ends rfl) (ev_int (K := K))) (ev_ix21 (ev_var ts h_law_bits rfl))) e9 (fun v_law_last H9 s9 h_law_last => ?_)
      have fr0 := fr0.trans (Fr.same s9)
      have dm := dm.same s9
      have h_law_bits := ((tT2 tRat tRat) : Ty K (Rat × Rat)).mono (S := S) (Fr.same s9) h_law_bits
      have h_law_start := (tRat : Ty K Rat).mono (S := S) (Fr.same s9) h_law_start
      have h_law_far := (tRat : Ty K Rat).mono (S := S) (Fr.same s9) h_law_far
      have h_law_low := (tRat : Ty K Rat).mono (S := S) (Fr.same s9) h_law_low
      have h_law_high := (tRat : Ty K Rat).mono (S := S) (Fr.same s9) h_law_high
      have h_law_ends := ((tL tRat) : Ty K (List Rat)).mono (S := S) (Fr.same s9) h_law_ends
      have h_law_first := (tRat : Ty K Rat).mono (S := S) (Fr.same s9) h_law_first
      have h_law_last : (tRat : Ty K Rat).rp S H9 v_law_last law_last_9 := h_law_last
      have er := hm
      exact q_ret (T := []) dm (ev_if (eb_test (K := K) (ev_op (od_le (K := K)) (ev_call (ea_cons (ev_var ts h_law_first rfl) (ea_cons (ev_var ts h_law_last rfl) ea_nil))) (ev_int (K := K)))) (ev_oS (ev_tup2 (ev_var ts h_law_first rfl) (ev_var ts h_law_last rfl))) (ev_oN (a := ((tT2 tRat tRat) : Ty K (Rat × Rat))) (ev_none (K := K)))) er (fun v H12 s12 hv => q v H12 (fr0.trans (Fr.same s12)).toSame (((tOpt (tT2 tRat tRat)) : Ty K (Option (Rat × Rat))).sub (S := S) (H := H12) sub0 hv))
    have hm := ej5
    refine l_if (T := []) dm (eb_test (K := K) (ev_op (od_lt (K := K)) (ev_ixR0 (ev_var ts h_law_far rfl)) (ev_int (K := K)))) e5 (fun hc H5 s5 => ?_) (fun hc H5 s5 => ?_)
    · skip
      subst hc
      have hm := if_t hm
      have fr0 := fr0.trans (Fr.same s5)
      have dm := dm.same s5
      have h_law_bits := ((tT2 tRat tRat) : Ty K (Rat × Rat)).mono (S := S) (Fr.same s5) h_law_bits
      have h_law_start := (tRat : Ty K Rat).mono (S := S) (Fr.same s5) h_law_start
      have h_law_far := (tRat : Ty K Rat).mono (S := S) (Fr.same s5) h_law_far
      have h_law_low := (tRat : Ty K Rat).mono (S := S) (Fr.same s5) h_law_low
      have h_law_high := (tRat : Ty K Rat).mono (S := S) (Fr.same s5) h_law_high
      have h_law_ends := ((tL tRat) : Ty K (List Rat)).mono (S := S) (Fr.same s5) h_law_ends
      obtain ⟨law_ends_6, e6, hm⟩ := bd_some hm
      refine l_asg (T := []) dm (ev_new (ev_revL (ev_var ts h_law_ends rfl))) e6 (fun v_law_ends H6 s6 h_law_ends => ?_)
      have fr0 := fr0.trans (Fr.same s6)
      have dm := dm.same s6
      have h_law_bits := ((tT2 tRat tRat) : Ty K (Rat × Rat)).mono (S := S) (Fr.same s6) h_law_bits
      have h_law_start := (tRat : Ty K Rat).mono (S := S) (Fr.same s6) h_law_start
      have h_law_far := (tRat : Ty K Rat).mono (S := S) (Fr.same s6) h_law_far
      have h_law_low := (tRat : Ty K Rat).mono (S := S) (Fr.same s6) h_law_low
      have h_law_high := (tRat : Ty K Rat).mono (S := S) (Fr.same s6) h_law_high
      have h_law_ends : ((tL tRat) : Ty K (List Rat)).rp S H6 v_law_ends law_ends_6 := h_law_ends
      cases hm
      exact rest _ _ ⟨v_law_bits, v_law_start, v_law_far, v_law_low, v_law_high, v_law_ends, _, _, _, rfl, fr0, dm, h_law_bits, h_law_start, h_law_far, h_law_low, h_law_high, h_law_ends⟩
    · skip
      subst hc
      have hm := if_f hm
      have fr0 := fr0.trans (Fr.same s5)
      have dm := dm.same s5
      have h_law_bits := ((tT2 tRat tRat) : Ty K (Rat × Rat)).mono (S := S) (Fr.same s5) h_law_bits
      have h_law_start := (tRat : Ty K Rat).mono (S := S) (Fr.same s5) h_law_start
      have h_law_far := (tRat : Ty K Rat).mono (S := S) (Fr.same s5) h_law_far
      have h_law_low := (tRat : Ty K Rat).mono (S := S) (Fr.same s5) h_law_low
      have h_law_high := (tRat : Ty K Rat).mono (S := S) (Fr.same s5) h_law_high
      have h_law_ends := ((tL tRat) : Ty K (List Rat)).mono (S := S) (Fr.same s5) h_law_ends
      cases hm
      exact rest _ _ ⟨v_law_bits, v_law_start, v_law_far, v_law_low, v_law_high, v_law_ends, _, _, _, rfl, fr0, dm, h_law_bits, h_law_start, h_law_far, h_law_low, h_law_high, h_law_ends⟩
def m_law_clip (d_law_one : (Rat × Rat)) (d_law_two : (Rat × Rat)) (d_law_low : (Rat × Rat)) (d_law_high : (Rat × Rat)) : Option (Option (Rat × Rat)) :=
  (bd (bd (bd (bd (bd (some (0 : Int)) fun x => bd (some (1 : Int)) fun y => some (x, y)) p2r) fun x => bd (bd (bd (some (1 : Int)) fun x => bd (some (1 : Int)) fun y => some (x, y)) p2r) fun y => some (x, y)) fun x => some (some x)) fun law_bits_1 => (bd (some (2 : Int)) fun n4 => if rngP n4 then (bd (loopC (ρ := (Option (Rat × Rat))) (fun s_2 law_k_2 => (bd (bd (bd (some s_2) fun x => bd (bd (bd (some d_law_one) fun x => bd (some law_k_2) fun y => at2 x y) fun x => bd (bd (bd (bd (bd (some d_law_two) fun x => bd (some law_k_2) fun y => at2 x y) fun x => bd (bd (bd (some d_law_one) fun x => bd (some law_k_2) fun y => at2 x y) fun x => bd (some ()) fun y => some (x, y)) fun y => some (x, y)) fun a => m_law_dif a.1 a.2.1) fun x => bd (bd (bd (some d_law_low) fun x => bd (some law_k_2) fun y => at2 x y) fun x => bd (bd (bd (some d_law_high) fun x => bd (some law_k_2) fun y => at2 x y) fun x => bd (some ()) fun y => some (x, y)) fun y => some (x, y)) fun y => some (x, y)) fun y => some (x, y)) fun y => some (x, y)) fun a => m_law_span a.1 a.2.1 a.2.2.1 a.2.2.2.1 a.2.2.2.2.1) fun law_bits_3 => some (Ct.go law_bits_3))) (rngL 0 n4.toNat) law_bits_1) fun r_2 => match r_2 with | .ret y => some y | .go t_2 => (some t_2)) else none))
abbrev sp_law_clip (K : PySem.W.Frag) : Sp := spF (K := K) (aCons (tT2 tRat tRat) (aCons (tT2 tRat tRat) (aCons (tT2 tRat tRat) (aCons (tT2 tRat tRat) aNil)))) (fun S => of (K := K) (tOpt (tT2 tRat tRat)) S) (fun a => m_law_clip a.1 a.2.1 a.2.2.1 a.2.2.2.1)
theorem ok_law_clip (ev : Env K mg) : FnOk P w K mg base CX0 4 ev.f_law_clip ev.d_law_clip p_law_clip (sp_law_clip K) := by
  refine ev.A_law_clip.F.ok sc_law_clip (fun vs H Q E h => ?_) (fun cdv A outer s H0 vs Q E hr h => ?_)
  · obtain ⟨S, ⟨d_law_one, d_law_two, d_law_low, d_law_high, _⟩, y, _, ⟨v_law_one, _, rfl, h_law_one, v_law_two, _, rfl, h_law_two, v_law_low, _, rfl, h_law_low, v_law_high, _, rfl, h_law_high, rfl⟩, _⟩ := h
    rfl
  obtain ⟨S, ⟨d_law_one, d_law_two, d_law_low, d_law_high, _⟩, y, dm, ⟨v_law_one, _, rfl, h_law_one, v_law_two, _, rfl, h_law_two, v_law_low, _, rfl, h_law_low, v_law_high, _, rfl, h_law_high, rfl⟩, hm, q⟩ := h
  have ts : Sub [] S := fun a m => by simp at m
  have fr0 := Fr.refl (T := []) H0
  have sub0 : Sub S S := fun a m => m
  refine ⟨_, (pss_cons (ps_set (i := 4) sc_law_clip.nd rfl (Or.inl rfl) (pe_tup (pa_cons (pe_tup (pa_cons pe_int (pa_cons pe_int pa_nil))) (pa_cons (pe_tup (pa_cons pe_int (pa_cons pe_int pa_nil))) pa_nil))))
    (pss_cons (ps_for PassesOwn.never rfl (pi_range1 rfl ev.B.range_ (pa_cons pe_int pa_nil)) (pg_name (i := 5) sc_law_clip.nd rfl (Or.inl rfl))
    (pss_one (ps_set (i := 4) sc_law_clip.nd rfl (Or.inl rfl) (pe_call (ok_law_span ev) (hr.mono (by decide)) (by rfl) ev.A_law_span.m ev.A_law_span.F.kp ev.A_law_span.b .nil pass0 (pa_cons (pv 4) (pa_cons (pe_ix ix_tup (pv 0) (pv 5) (fun _ _ => rfl)) (pa_cons (pe_call (ok_law_dif ev) (hr.mono (by decide)) (by rfl) ev.A_law_dif.m ev.A_law_dif.F.kp ev.A_law_dif.b .nil pass0 (pa_cons (pe_ix ix_tup (pv 1) (pv 5) (fun _ _ => rfl)) (pa_cons (pe_ix ix_tup (pv 0) (pv 5) (fun _ _ => rfl)) pa_nil))) (pa_cons (pe_ix ix_tup (pv 2) (pv 5) (fun _ _ => rfl)) (pa_cons (pe_ix ix_tup (pv 3) (pv 5) (fun _ _ => rfl)) pa_nil)))))))))
    (pss_one (ps_ret (pv 4))))), ?_⟩
  dsimp only [m_law_clip] at hm
  obtain ⟨law_bits_1, e1, hm⟩ := bd_some hm
  refine q_asg (T := []) dm (ev_oS (ev_tup2 (ev_p2r (ev_tup2 (ev_int (K := K)) (ev_int (K := K)))) (ev_p2r (ev_tup2 (ev_int (K := K)) (ev_int (K := K)))))) e1 (fun v_law_bits H1 s1 h_law_bits => ?_)
  have fr0 := fr0.trans (Fr.same s1)
  have dm := dm.same s1
  have h_law_one := ((tT2 tRat tRat) : Ty K (Rat × Rat)).mono (S := S) (Fr.same s1) h_law_one
  have h_law_two := ((tT2 tRat tRat) : Ty K (Rat × Rat)).mono (S := S) (Fr.same s1) h_law_two
  have h_law_low := ((tT2 tRat tRat) : Ty K (Rat × Rat)).mono (S := S) (Fr.same s1) h_law_low
  have h_law_high := ((tT2 tRat tRat) : Ty K (Rat × Rat)).mono (S := S) (Fr.same s1) h_law_high
  have h_law_bits : ((tOpt (tT2 tRat tRat)) : Ty K (Option (Rat × Rat))).rp S H1 v_law_bits law_bits_1 := h_law_bits
  obtain ⟨n4, e_n4, hm⟩ := bd_some hm
  obtain ⟨g2, hm⟩ := if_and hm
  obtain ⟨r_2, el2, hm2⟩ := bd_some hm
  have HLfix := True.intro
  refine q_for_r1 (T := []) dm (ev_int (K := K)) e_n4 g2 el2 (fun s_2 σ' H' => ∃ v_law_one : V, ∃ v_law_two : V, ∃ v_law_low : V, ∃ v_law_high : V, ∃ v_law_bits : V, ∃ f_5 : Option V, σ' = [some v_law_one, some v_law_two, some v_law_low, some v_law_high, some v_law_bits, f_5] ∧ Fr [] H0 H' ∧ Dom S H' ∧ ((tT2 tRat tRat) : Ty K (Rat × Rat)).rp S H' v_law_one d_law_one ∧ ((tT2 tRat tRat) : Ty K (Rat × Rat)).rp S H' v_law_two d_law_two ∧ ((tT2 tRat tRat) : Ty K (Rat × Rat)).rp S H' v_law_low d_law_low ∧ ((tT2 tRat tRat) : Ty K (Rat × Rat)).rp S H' v_law_high d_law_high ∧ ((tOpt (tT2 tRat tRat)) : Ty K (Option (Rat × Rat))).rp S H' v_law_bits s_2) (fun H2 s2 => ?_) (fun s_2 law_k_2 cr2  σ' H' hI hlo hhi hm hret2 => ?_) (fun t_2 σ' H' er hI => ?_)
  · skip
    have fr0 := fr0.trans (Fr.same s2)
    have dm := dm.same s2
    have h_law_one := ((tT2 tRat tRat) : Ty K (Rat × Rat)).mono (S := S) (Fr.same s2) h_law_one
    have h_law_two := ((tT2 tRat tRat) : Ty K (Rat × Rat)).mono (S := S) (Fr.same s2) h_law_two
    have h_law_low := ((tT2 tRat tRat) : Ty K (Rat × Rat)).mono (S := S) (Fr.same s2) h_law_low
    have h_law_high := ((tT2 tRat tRat) : Ty K (Rat × Rat)).mono (S := S) (Fr.same s2) h_law_high
    have h_law_bits := ((tOpt (tT2 tRat tRat)) : Ty K (Option (Rat × Rat))).mono (S := S) (Fr.same s2) h_law_bits
    exact ⟨v_law_one, v_law_two, v_law_low, v_law_high, v_law_bits, _, rfl, fr0, dm, h_law_one, h_law_two, h_law_low, h_law_high, h_law_bits⟩
  · skip
    obtain ⟨v_law_one, v_law_two, v_law_low, v_law_high, v_law_bits, f_5, rfl, fr0, dm, h_law_one, h_law_two, h_law_low, h_law_high, h_law_bits⟩ := hI
    have h_law_k : tInt.rp (K := K) S H' (.int law_k_2) law_k_2 := rfl
    let HL := H'
    have frl : Fr S HL H' := Fr.refl (T := S) H'
    obtain ⟨law_bits_3, e3, hm⟩ := bd_some hm
    refine l_asg (T := []) dm (ev_call (ea_cons (ev_var ts h_law_bits rfl) (ea_cons (ev_op od_ix2 (ev_var ts h_law_one rfl) (ev_var ts h_law_k rfl)) (ea_cons (ev_call (ea_cons (ev_op od_ix2 (ev_var ts h_law_two rfl) (ev_var ts h_law_k rfl)) (ea_cons (ev_op od_ix2 (ev_var ts h_law_one rfl) (ev_var ts h_law_k rfl)) ea_nil))) (ea_cons (ev_op od_ix2 (ev_var ts h_law_low rfl) (ev_var ts h_law_k rfl)) (ea_cons (ev_op od_ix2 (ev_var ts h_law_high rfl) (ev_var ts h_law_k rfl)) ea_nil)))))) e3 (fun v_law_bits H3 s3 h_law_bits => ?_)
    have fr0 := fr0.trans (Fr.same s3)
    have dm := dm.same s3
    have frl := frl.trans (Fr.same s3)
    have h_law_one := ((tT2 tRat tRat) : Ty K (Rat × Rat)).mono (S := S) (Fr.same s3) h_law_one
    have h_law_two := ((tT2 tRat tRat) : Ty K (Rat × Rat)).mono (S := S) (Fr.same s3) h_law_two
    have h_law_low := ((tT2 tRat tRat) : Ty K (Rat × Rat)).mono (S := S) (Fr.same s3) h_law_low
    have h_law_high := ((tT2 tRat tRat) : Ty K (Rat × Rat)).mono (S := S) (Fr.same s3) h_law_high
    have h_law_k := (tInt : Ty K Int).mono (S := S) (Fr.same s3) h_law_k
    have h_law_bits : ((tOpt (tT2 tRat tRat)) : Ty K (Option (Rat × Rat))).rp S H3 v_law_bits law_bits_3 := h_law_bits
    cases hm
    exact ⟨_, rfl, frl, ⟨v_law_one, v_law_two, v_law_low, v_law_high, v_law_bits, _, rfl, fr0, dm, h_law_one, h_law_two, h_law_low, h_law_high, h_law_bits⟩⟩
  subst er
  have hm := hm2
  obtain ⟨v_law_one, v_law_two, v_law_low, v_law_high, v_law_bits, f_5, rfl, fr0, dm, h_law_one, h_law_two, h_law_low, h_law_high, h_law_bits⟩ := hI
  have er := hm
  exact q_ret (T := []) dm (ev_var ts h_law_bits rfl) er (fun v H5 s5 hv => q v H5 (fr0.trans (Fr.same s5)).toSame (((tOpt (tT2 tRat tRat)) : Ty K (Option (Rat × Rat))).sub (S := S) (H := H5) sub0 hv))
end
end G

namespace G
open PySem L2 M
section
variable {P : Program} {w : World} {K : PySem.W.Frag} {mg : Str → Option Value} {base : Heap}

def m_law (P : Bool → Prop) : Prop :=
  (lf (some true) fun law_good_1 => ((lf (some (6 : Int))) fun n23 => if rngP n23 then (loopW (fun s_2 law_turn_2 K2 => ((callBW anyW (lf (bd (some (4 : Int)) fun x => bd (bd (some (20 : Int)) fun x => bd (bd (some (120 : Int)) fun x => bd (some []) fun y => some (x :: y)) fun y => some (x :: y)) fun y => some (x :: y)))) fun law_reach_3 => ((tup2W (opW (fun x y => some (x - y)) (callBW drawW (lf (bd (bd (some (2 : Int)) fun x => bd (some law_reach_3) fun y => mul? x y) fun x => bd (some (1 : Int)) fun y => some (x + y)))) (lf (some law_reach_3))) (opW (fun x y => some (x - y)) (callBW drawW (lf (bd (bd (some (2 : Int)) fun x => bd (some law_reach_3) fun y => mul? x y) fun x => bd (some (1 : Int)) fun y => some (x + y)))) (lf (some law_reach_3)))) fun law_one_4 => ((tup2W (opW (fun x y => some (x - y)) (callBW drawW (lf (bd (bd (some (2 : Int)) fun x => bd (some law_reach_3) fun y => mul? x y) fun x => bd (some (1 : Int)) fun y => some (x + y)))) (lf (some law_reach_3))) (opW (fun x y => some (x - y)) (callBW drawW (lf (bd (bd (some (2 : Int)) fun x => bd (some law_reach_3) fun y => mul? x y) fun x => bd (some (1 : Int)) fun y => some (x + y)))) (lf (some law_reach_3)))) fun law_two_5 => ((callBW anyW (lf (bd (some law_two_5) fun x => bd (bd (some law_two_5) fun x => bd (bd (bd (bd (some law_one_4) fun x => some x.1) fun x => bd (bd (some law_two_5) fun x => some x.2) fun y => some (x, y)) fun x => bd (bd (bd (bd (some law_two_5) fun x => some x.1) fun x => bd (bd (some law_one_4) fun x => some x.2) fun y => some (x, y)) fun x => bd (bd (some law_one_4) fun x => bd (some []) fun y => some (x :: y)) fun y => some (x :: y)) fun y => some (x :: y)) fun y => some (x :: y)) fun y => some (x :: y)))) fun law_two_6 => ((tup2W (opW (fun x y => some (x - y)) (callBW drawW (lf (bd (bd (some (2 : Int)) fun x => bd (some law_reach_3) fun y => mul? x y) fun x => bd (some (1 : Int)) fun y => some (x + y)))) (lf (some law_reach_3))) (opW (fun x y => some (x - y)) (callBW drawW (lf (bd (bd (some (2 : Int)) fun x => bd (some law_reach_3) fun y => mul? x y) fun x => bd (some (1 : Int)) fun y => some (x + y)))) (lf (some law_reach_3)))) fun law_low_7 => ((callBW anyW (lf (bd (some law_low_7) fun x => bd (bd (some law_low_7) fun x => bd (bd (some law_one_4) fun x => bd (bd (some law_two_6) fun x => bd (bd (bd (bd (some law_one_4) fun x => some x.1) fun x => bd (bd (some law_two_6) fun x => some x.2) fun y => some (x, y)) fun x => bd (some []) fun y => some (x :: y)) fun y => some (x :: y)) fun y => some (x :: y)) fun y => some (x :: y)) fun y => some (x :: y)))) fun law_low_8 => ((tup2W (opW (fun x y => some (x + y)) (lf (bd (some law_low_8) fun x => some x.1)) (callBW drawW (lf (bd (some law_reach_3) fun x => bd (some (1 : Int)) fun y => some (x + y))))) (opW (fun x y => some (x + y)) (lf (bd (some law_low_8) fun x => some x.2)) (callBW drawW (lf (bd (some law_reach_3) fun x => bd (some (1 : Int)) fun y => some (x + y)))))) fun law_high_9 => (lf (bd (bd (some law_one_4) fun x => bd (bd (some law_two_6) fun x => bd (bd (some law_low_8) fun x => bd (bd (some law_high_9) fun x => bd (some []) fun y => some (x :: y)) fun y => some (x :: y)) fun y => some (x :: y)) fun y => some (x :: y)) fun xs => mapL? (fun law_pair_10 => (bd (bd (bd (bd (some law_pair_10) fun x => some x.1) fun x => bd (some (1 : Int)) fun y => some (x, y)) p2r) fun x => bd (bd (bd (bd (some law_pair_10) fun x => some x.2) fun x => bd (some (1 : Int)) fun y => some (x, y)) p2r) fun y => some (x, y))) xs) fun law_spots_11 => (lf (bd (bd (bd (some law_spots_11) fun x => bd (some (0 : Int)) fun y => atI x y) fun x => bd (bd (bd (some law_spots_11) fun x => bd (some (1 : Int)) fun y => atI x y) fun x => bd (bd (bd (some law_spots_11) fun x => bd (some (2 : Int)) fun y => atI x y) fun x => bd (bd (bd (some law_spots_11) fun x => bd (some (3 : Int)) fun y => atI x y) fun x => bd (some ()) fun y => some (x, y)) fun y => some (x, y)) fun y => some (x, y)) fun y => some (x, y)) fun a => m_law_clip a.1 a.2.1 a.2.2.1 a.2.2.2.1) fun law_bits_12 => (lf (bd (some ()) fun _ => some none) fun law_due_13 => (jn (fun J14 => (optM law_bits_12 (J14 law_due_13) fun law_bits_14 => (lf (bd (bd (bd (bd (bd (some law_spots_11) fun x => bd (some (0 : Int)) fun y => atI x y) fun x => bd (bd (bd (some law_spots_11) fun x => bd (some (1 : Int)) fun y => atI x y) fun x => bd (bd (bd (some law_bits_14) fun x => some x.1) fun x => bd (some ()) fun y => some (x, y)) fun y => some (x, y)) fun y => some (x, y)) fun a => m_law_on a.1 a.2.1 a.2.2.1) fun x => bd (bd (bd (bd (some law_spots_11) fun x => bd (some (0 : Int)) fun y => atI x y) fun x => bd (bd (bd (some law_spots_11) fun x => bd (some (1 : Int)) fun y => atI x y) fun x => bd (bd (bd (some law_bits_14) fun x => some x.2) fun x => bd (some ()) fun y => some (x, y)) fun y => some (x, y)) fun y => some (x, y)) fun a => m_law_on a.1 a.2.1 a.2.2.1) fun y => some (x, y)) fun x => some (some x)) fun law_due_15 => J14 law_due_15))) fun j16 => (lf (bd (bd (some law_one_4) fun x => bd (bd (some law_two_6) fun x => bd (bd (bd (bd (some law_low_8) fun x => some x.1) fun x => bd (bd (some law_low_8) fun x => some x.2) fun y => bd (bd (some law_high_9) fun x => some x.1) fun z => bd (bd (some law_high_9) fun x => some x.2) fun w => some (x, y, z, w)) fun x => bd (some ()) fun y => some (x, y)) fun y => some (x, y)) fun y => some (x, y)) fun a => m_cut a.1 a.2.1 a.2.2.1) fun law_found_17 => ((andW (lf (some s_2)) (sameW (lf (some law_found_17)) (lf (some j16)))) fun law_good_18 => ((tup2W (opW (fun x y => some (x - y)) (callBW drawW (lf (some (31 : Int)))) (lf (some (15 : Int)))) (opW (fun x y => some (x - y)) (callBW drawW (lf (some (31 : Int)))) (lf (some (15 : Int))))) fun law_ab_19 => ((opW (fun x y => some (x + y)) (lf (some (8 : Int))) (callBW drawW (lf (some (57 : Int))))) fun law_wide_20 => (lf (bd (bd (bd (some law_ab_19) fun x => some x.1) fun x => bd (some law_wide_20) fun y => mul? x y) fun x => bd (bd (bd (some law_ab_19) fun x => some x.2) fun x => bd (some law_wide_20) fun y => mul? x y) fun y => bd (bd (bd (bd (some law_ab_19) fun x => some x.1) fun x => bd (some law_wide_20) fun y => mul? x y) fun x => bd (some law_wide_20) fun y => some (x + y)) fun z => bd (bd (bd (bd (some law_ab_19) fun x => some x.2) fun x => bd (some law_wide_20) fun y => mul? x y) fun x => bd (some law_wide_20) fun y => some (x + y)) fun w => some (x, y, z, w)) fun law_box_21 => ((andW (lf (some law_good_18)) (sameW (lf (bd (bd (some law_ab_19) fun x => bd (bd (some law_wide_20) fun x => bd (some ()) fun y => some (x, y)) fun y => some (x, y)) fun a => m_tile_box a.1 a.2.1)) (lf (some law_box_21)))) fun law_good_22 => K2 (Ct.go law_good_22))))))))))))))))))) (rngL 0 n23.toNat) law_good_1 fun r_2 => match r_2 with | .ret y => P y | .go t_2 => (lf (some t_2) P)) else False))
end
end G

namespace G
open PySem L2 M
/-! ### ratios of bounded size -/
structure Bq (n : Nat) (q : Rat) : Prop where
  o : q.num.natAbs < 2 ^ n
  u : q.den < 2 ^ n
theorem pow_le {a b : Nat} (h : a ≤ b) : (2 : Nat) ^ a ≤ 2 ^ b := Nat.pow_le_pow_right (by decide) h
theorem Bq.le {a b : Nat} {q : Rat} (h : Bq a q) (l : a ≤ b) : Bq b q := ⟨Nat.lt_of_lt_of_le h.o (pow_le l), Nat.lt_of_lt_of_le h.u (pow_le l)⟩
theorem den_ne (q : Rat) : (q.den : Int) ≠ 0 := by have := q.den_nz; omega
theorem den_pos (q : Rat) : (0 : Int) < q.den := by have := q.den_nz; omega
theorem bq_divInt {n : Nat} {o u : Int} (h : u ≠ 0) (ho : o.natAbs < 2 ^ n) (hu : u.natAbs < 2 ^ n) : Bq n (Rat.divInt o u) := by
  have e := rat_rND (o := o) h
  refine ⟨?_, ?_⟩
  · rw [e.1]; exact Nat.lt_of_le_of_lt (rN_le h) ho
  · have := rD_le (o := o) h
    have := rD_pos (o := o) h
    omega
theorem nat_mul_lt {x y : Int} {n m : Nat} (hx : x.natAbs < 2 ^ n) (hy : y.natAbs < 2 ^ m) : (x * y).natAbs < 2 ^ (n + m) := wide_lt hx hy
theorem den_nat (q : Rat) : ((q.den : Int)).natAbs = q.den := by omega
theorem den_lt {n : Nat} {q : Rat} (h : Bq n q) : ((q.den : Int)).natAbs < 2 ^ n := by rw [den_nat]; exact h.u
theorem den_mul_ne (q r : Rat) : (q.den : Int) * (r.den : Int) ≠ 0 := Int.mul_ne_zero (den_ne q) (den_ne r)
theorem add_divInt (q r : Rat) : Rat.divInt (q.num * r.den + r.num * q.den) (q.den * r.den) = q + r := by
  have h := Rat.divInt_add_divInt q.num r.num (den_ne q) (den_ne r)
  rw [Rat.num_divInt_den, Rat.num_divInt_den] at h
  exact h.symm
theorem sub_divInt (q r : Rat) : Rat.divInt (q.num * r.den - r.num * q.den) (q.den * r.den) = q - r := by
  have h := add_divInt q (-r)
  rw [Rat.neg_num, Rat.neg_den] at h
  rw [Rat.sub_eq_add_neg, ← h]
  congr 1
  rw [Int.neg_mul, Int.sub_eq_add_neg]
theorem mul_divInt (q r : Rat) : Rat.divInt (q.num * r.num) (q.den * r.den) = q * r := by
  have h := Rat.divInt_mul_divInt q.num r.num (d₁ := q.den) (d₂ := r.den)
  rw [Rat.num_divInt_den, Rat.num_divInt_den] at h
  exact h.symm
theorem div_divInt (q r : Rat) : Rat.divInt (q.num * r.den) (q.den * r.num) = q / r := by
  rw [Rat.div_def, Rat.inv_def]
  have h := Rat.divInt_mul_divInt q.num (r.den : Int) (d₁ := q.den) (d₂ := r.num)
  rw [Rat.num_divInt_den] at h
  exact h.symm
theorem Bq.add {n m : Nat} {q r : Rat} (h : Bq n q) (h' : Bq m r) : Bq (n + m + 1) (q + r) := by
  rw [← add_divInt]
  have h1 := nat_mul_lt h.o (den_lt h')
  have h2 := nat_mul_lt h'.o (den_lt h)
  have h3 := nat_mul_lt (den_lt h) (den_lt h')
  rw [Nat.add_comm m n] at h2
  refine bq_divInt (den_mul_ne q r) ?_ ?_
  · rw [Nat.pow_succ]; omega
  · rw [Nat.pow_succ]; omega
theorem Bq.sub {n m : Nat} {q r : Rat} (h : Bq n q) (h' : Bq m r) : Bq (n + m + 1) (q - r) := by
  rw [← sub_divInt]
  have h1 := nat_mul_lt h.o (den_lt h')
  have h2 := nat_mul_lt h'.o (den_lt h)
  have h3 := nat_mul_lt (den_lt h) (den_lt h')
  rw [Nat.add_comm m n] at h2
  refine bq_divInt (den_mul_ne q r) ?_ ?_
  · rw [Nat.pow_succ]; omega
  · rw [Nat.pow_succ]; omega
theorem Bq.mul {n m : Nat} {q r : Rat} (h : Bq n q) (h' : Bq m r) : Bq (n + m) (q * r) := by
  rw [← mul_divInt]
  exact bq_divInt (den_mul_ne q r) (nat_mul_lt h.o h'.o) (nat_mul_lt (den_lt h) (den_lt h'))
theorem Bq.div {n m : Nat} {q r : Rat} (h : Bq n q) (h' : Bq m r) (hr : r ≠ 0) : Bq (n + m) (q / r) := by
  rw [← div_divInt]
  have hn : r.num ≠ 0 := by rw [Ne, Rat.num_eq_zero]; exact hr
  exact bq_divInt (Int.mul_ne_zero (den_ne q) hn) (nat_mul_lt h.o (den_lt h')) (nat_mul_lt (den_lt h) h'.o)
theorem mul?_eq {x y : Int} (hx : x.natAbs < 2 ^ 4000) (hy : y.natAbs < 2 ^ 4000) : mul? x y = some (x * y) := by
  unfold mul? mulP
  have := wide_mul hx hy (by decide) (by decide) (by decide)
  rw [if_pos]
  exact decide_eq_true this
theorem ratio?_eq {o u : Int} (h : u ≠ 0) (hu : u.natAbs < 2 ^ 9000) : ratio? o u = some (Rat.divInt o u) := by
  unfold ratio?
  rw [if_pos ⟨h, hu⟩]
theorem lt9 {x y : Int} (hx : x.natAbs < 2 ^ 4000) (hy : y.natAbs < 2 ^ 4000) : (x * y).natAbs < 2 ^ 9000 := Nat.lt_of_lt_of_le (nat_mul_lt hx hy) (pow_le (by decide))
abbrev Bo (q : Rat) := Bq 4000 q
theorem m_plus_eq {q r : Rat} (h : Bo q) (h' : Bo r) : m_plus q r = some (q + r) := by
  simp only [m_plus, bd, Option.bind_some, mul?_eq h.o (den_lt h'), mul?_eq h'.o (den_lt h), mul?_eq (den_lt h) (den_lt h')]
  rw [ratio?_eq (den_mul_ne q r) (lt9 (den_lt h) (den_lt h')), add_divInt]
theorem m_minus_eq {q r : Rat} (h : Bo q) (h' : Bo r) : m_minus q r = some (q - r) := by
  simp only [m_minus, bd, Option.bind_some, mul?_eq h.o (den_lt h'), mul?_eq h'.o (den_lt h), mul?_eq (den_lt h) (den_lt h')]
  rw [ratio?_eq (den_mul_ne q r) (lt9 (den_lt h) (den_lt h')), sub_divInt]
theorem m_times_eq {q r : Rat} (h : Bo q) (h' : Bo r) : m_times q r = some (q * r) := by
  simp only [m_times, bd, Option.bind_some, mul?_eq h.o h'.o, mul?_eq (den_lt h) (den_lt h')]
  rw [ratio?_eq (den_mul_ne q r) (lt9 (den_lt h) (den_lt h')), mul_divInt]
theorem m_divided_eq {q r : Rat} (h : Bo q) (h' : Bo r) (hr : r ≠ 0) : m_divided q r = some (q / r) := by
  have hn : r.num ≠ 0 := by rw [Ne, Rat.num_eq_zero]; exact hr
  simp only [m_divided, bd, Option.bind_some, mul?_eq h.o (den_lt h'), mul?_eq (den_lt h) h'.o]
  rw [ratio?_eq (Int.mul_ne_zero (den_ne q) hn) (lt9 (den_lt h) h'.o), div_divInt]
theorem m_law_sum_eq {q r : Rat} (h : Bo q) (h' : Bo r) : m_law_sum q r = some (q + r) := m_plus_eq h h'
theorem m_law_dif_eq {q r : Rat} (h : Bo q) (h' : Bo r) : m_law_dif q r = some (q - r) := m_minus_eq h h'
theorem m_law_prod_eq {q r : Rat} (h : Bo q) (h' : Bo r) : m_law_prod q r = some (q * r) := m_times_eq h h'
theorem m_law_quo_eq {q r : Rat} (h : Bo q) (h' : Bo r) (hr : r ≠ 0) : m_law_quo q r = some (q / r) := m_divided_eq h h' hr
def ordI (q r : Rat) : Int := if q < r then -1 else if r < q then 1 else 0
theorem gap_lt (q r : Rat) : q.num * r.den - r.num * q.den < 0 ↔ q < r := by rw [Rat.lt_iff]; omega
theorem gap_gt (q r : Rat) : 0 < q.num * r.den - r.num * q.den ↔ r < q := by rw [Rat.lt_iff]; omega
theorem m_order_eq {q r : Rat} (h : Bo q) (h' : Bo r) : m_order q r = some (ordI q r) := by
  simp only [m_order, bd, Option.bind_some, mul?_eq h.o (den_lt h'), mul?_eq h'.o (den_lt h), gap_lt, gap_gt, ordI]
  by_cases c : q < r
  · simp [c]
  · by_cases c' : r < q <;> simp [c, c']
theorem ord_lt (q r : Rat) : ordI q r < 0 ↔ q < r := by
  unfold ordI
  by_cases c : q < r
  · simp [c]
  · by_cases c' : r < q <;> simp [c, c']
theorem ord_gt (q r : Rat) : 0 < ordI q r ↔ r < q := by
  unfold ordI
  by_cases c : q < r
  · have : ¬ r < q := by grind
    simp [c, this]
  · by_cases c' : r < q <;> simp [c, c']
def absR (q : Rat) : Rat := if q < 0 then -q else q
theorem Bq.neg {n : Nat} {q : Rat} (h : Bq n q) : Bq n (-q) := ⟨by rw [Rat.neg_num, Int.natAbs_neg]; exact h.o, by rw [Rat.neg_den]; exact h.u⟩
theorem Bq.abs {n : Nat} {q : Rat} (h : Bq n q) : Bq n (absR q) := by
  unfold absR
  split
  · exact h.neg
  · exact h
theorem abs_pair (q : Rat) : ((q.num.natAbs : Nat) : Int) = (absR q).num ∧ (q.den : Int) = ((absR q).den : Int) := by
  unfold absR
  split
  · rename_i h
    have : q.num < 0 := by rw [Rat.lt_iff] at h; simpa using h
    rw [Rat.neg_num, Rat.neg_den]
    omega
  · rename_i h
    have : ¬ q.num < 0 := by rw [Rat.lt_iff] at h; simpa using h
    omega
theorem p2r_abs (q : Rat) : p2r (((q.num.natAbs : Nat) : Int), (q.den : Int)) = some (absR q) := by
  rw [(abs_pair q).1, (abs_pair q).2, p2r_rat]
theorem m_law_comp_eq {q r : Rat} (h : Bo q) (h' : Bo r) : m_law_comp q r = some (q.num * r.den - r.num * q.den) := by
  simp only [m_law_comp, bd, Option.bind_some, mul?_eq h.o (den_lt h'), mul?_eq h'.o (den_lt h)]
theorem m_lesser_eq {q r : Rat} (h : Bo q) (h' : Bo r) : m_lesser q r = some (if q < r then q else r) := by
  simp only [m_lesser, bd, Option.bind_some, m_order_eq h h', ord_lt]
  by_cases c : q < r <;> simp [c]
theorem m_greater_eq {q r : Rat} (h : Bo q) (h' : Bo r) : m_greater q r = some (if r < q then q else r) := by
  simp only [m_greater, bd, Option.bind_some, m_order_eq h h', ord_gt]
  by_cases c : r < q <;> simp [c]
end G

namespace G
open PySem L2 M
abbrev Spt := Rat × Rat
structure Bs (n : Nat) (s : Spt) : Prop where
  x : Bq n s.1
  y : Bq n s.2
theorem Bs.le {a b : Nat} {s : Spt} (h : Bs a s) (l : a ≤ b) : Bs b s := ⟨h.x.le l, h.y.le l⟩
theorem p2r_int (t : Int) : p2r (t, 1) = some (t : Rat) := by
  have h := p2r_rat (t : Rat)
  simpa using h
theorem bq_int {t : Int} {n : Nat} (hn : 0 < n) (h : t.natAbs < 2 ^ n) : Bq n (t : Rat) := ⟨by simpa using h, by
  show 1 < 2 ^ n
  exact Nat.one_lt_two_pow (by omega)⟩
theorem mapO_all {α β : Type} {f : α → Option β} {g : α → β} : ∀ {xs : List α}, (∀ x ∈ xs, f x = some (g x)) → mapO f xs = some (xs.map g)
  | [], _ => rfl
  | x :: r, h => by
    simp only [mapO, bd, h x (List.mem_cons_self ..), Option.bind_some, mapO_all (fun y hy => h y (List.mem_cons_of_mem _ hy)), List.map_cons]
theorem loopW_ix {α δ ρ : Type} {f : δ → α → Wp (Ct ρ δ)} {P : Ct ρ δ → Prop} (J : Nat → δ → Prop) : ∀ (xs : List α) (i : Nat) (s : δ), J i s →
    (∀ (k : Nat) (s : δ) (x : α) (C : Ct ρ δ → Prop), i ≤ k → k < i + xs.length → J k s → x ∈ xs → (∀ s', J (k + 1) s' → C (.go s')) → f s x C) → (∀ s, J (i + xs.length) s → P (.go s)) → loopW f xs s P
  | [], i, s, h, _, e => e s h
  | x :: r, i, s, h, st, e => by
    unfold loopW
    refine st i s x _ (Nat.le_refl _) (by simp) h (List.mem_cons_self ..) fun s' h' => ?_
    show loopW f r s' P
    refine loopW_ix J r (i + 1) s' h' (fun k s x C h1 h2 hJ hx hC => st k s x C (by omega) (by simp at h2 ⊢; omega) hJ (List.mem_cons_of_mem _ hx) hC) fun s hs => e s ?_
    rw [List.length_cons, show i + (r.length + 1) = i + 1 + r.length by omega]
    exact hs
theorem loopW_all {α δ ρ : Type} {f : δ → α → Wp (Ct ρ δ)} {P : Ct ρ δ → Prop} (J : δ → Prop) (xs : List α) (s : δ) (h : J s) (st : ∀ (s : δ) (x : α) (C : Ct ρ δ → Prop), J s → x ∈ xs → (∀ s', J s' → C (.go s')) → f s x C) (e : ∀ s, J s → P (.go s)) : loopW f xs s P :=
  loopW_ix (fun _ => J) xs 0 s h (fun _ s x C _ _ hJ hx hC => st s x C hJ hx hC) (fun s hs => e s hs)
theorem rng_mem {lo x : Int} {n : Nat} (h : x ∈ rngL lo n) : lo ≤ x ∧ x < lo + n := by
  unfold rngL at h
  obtain ⟨i, hi, rfl⟩ := List.mem_map.mp h
  have := List.mem_range.mp hi
  omega
theorem rng_len (lo : Int) (n : Nat) : (rngL lo n).length = n := by simp [rngL]
theorem rngP_of {n : Int} (h : -1000000 ≤ n ∧ n ≤ 1000000) : rngP n = true := by
  unfold rngP
  exact decide_eq_true ⟨by omega, by omega⟩
theorem jn_of {δ : Type} {f : (δ → Prop) → Prop} {k : δ → Prop} (Gd : δ → Prop) (h1 : ∀ K : δ → Prop, (∀ j, Gd j → K j) → f K) (h2 : ∀ j, Gd j → k j) : jn f k := h1 k h2

def mn (q r : Rat) : Rat := if q < r then q else r
def mx (q r : Rat) : Rat := if r < q then q else r
theorem mn_b {n : Nat} {q r : Rat} (h : Bq n q) (h' : Bq n r) : Bq n (mn q r) := by unfold mn; split <;> assumption
theorem mx_b {n : Nat} {q r : Rat} (h : Bq n q) (h' : Bq n r) : Bq n (mx q r) := by unfold mx; split <;> assumption
/-- of a span of shares the part in which a number that goes from s to e is one from lo to hi -/
def narR (o : Option Spt) (s e lo hi : Rat) : Option Spt := match o with
  | none => none
  | some sp => if e - s = 0 then (if lo ≤ s ∧ s ≤ hi then some sp else none) else
    if mx sp.1 (mn ((lo - s) / (e - s)) ((hi - s) / (e - s))) ≤ mn sp.2 (mx ((lo - s) / (e - s)) ((hi - s) / (e - s))) then
      some (mx sp.1 (mn ((lo - s) / (e - s)) ((hi - s) / (e - s))), mn sp.2 (mx ((lo - s) / (e - s)) ((hi - s) / (e - s)))) else none
theorem ord_le (q r : Rat) : ordI q r ≤ 0 ↔ q ≤ r := by
  have := ord_gt q r
  constructor
  · intro h; have : ¬ r < q := fun z => by have := (ord_gt q r).mpr z; omega
    grind
  · intro h
    rcases Int.lt_or_le 0 (ordI q r) with z | z
    · have := (ord_gt q r).mp z; grind
    · exact z
theorem gap_le (q r : Rat) : q.num * r.den - r.num * q.den ≤ 0 ↔ q ≤ r := by rw [Rat.le_iff]; omega
def OkS (o : Option Spt) : Prop := ∀ sp, o = some sp → Bs 500 sp
theorem narR_ok {o : Option Spt} {s e lo hi : Rat} (ho : OkS o) (hs : Bq 100 s) (he : Bq 100 e) (hl : Bq 100 lo) (hh : Bq 100 hi) : OkS (narR o s e lo hi) := by
  intro sp h
  cases o with
  | none => cases h
  | some q =>
    have hq := ho q rfl
    unfold narR at h
    dsimp only at h
    split at h
    · split at h
      · cases h; exact hq
      · cases h
    · rename_i c
      have a1 := ((hl.sub hs).div (he.sub hs) c).le (show _ ≤ 500 by decide)
      have a2 := ((hh.sub hs).div (he.sub hs) c).le (show _ ≤ 500 by decide)
      split at h
      · cases h
        exact ⟨mx_b hq.x (mn_b a1 a2), mn_b hq.y (mx_b a1 a2)⟩
      · cases h
theorem narrowed_eq {o : Option Spt} {s e lo hi : Rat} (ho : OkS o) (hs : Bq 100 s) (he : Bq 100 e) (hl : Bq 100 lo) (hh : Bq 100 hi) : m_narrowed o s e lo hi = some (narR o s e lo hi) := by
  cases o with
  | none => rfl
  | some q =>
    have hq := ho q rfl
    have ws := hs.le (show 100 ≤ 4000 by decide)
    have we := he.le (show 100 ≤ 4000 by decide)
    have wl := hl.le (show 100 ≤ 4000 by decide)
    have wh := hh.le (show 100 ≤ 4000 by decide)
    simp only [m_narrowed, optM, bd, Option.bind_some, m_minus_eq we ws, m_order_eq wl ws, m_order_eq ws wh, ord_le, narR]
    by_cases c : e - s = 0
    · simp only [c, decide_true, if_true]
      by_cases c1 : lo ≤ s
      · by_cases c2 : s ≤ hi <;> simp [c1, c2]
      · simp [c1]
    · have a1 := ((hl.sub hs).div (he.sub hs) c).le (show _ ≤ 500 by decide)
      have a2 := ((hh.sub hs).div (he.sub hs) c).le (show _ ≤ 500 by decide)
      have w0 : ∀ (A B : Rat), atI [A, B] 0 = some A := fun _ _ => rfl
      have w1 : ∀ (A B : Rat), atI [A, B] 1 = some B := fun _ _ => rfl
      have l5 : 500 ≤ 4000 := by decide
      simp only [c, decide_false, if_false, Bool.false_eq_true, m_minus_eq wl ws, m_minus_eq wh ws, Option.bind_some, m_divided_eq ((hl.sub hs).le (show _ ≤ 4000 by decide)) ((he.sub hs).le (show _ ≤ 4000 by decide)) c, m_divided_eq ((hh.sub hs).le (show _ ≤ 4000 by decide)) ((he.sub hs).le (show _ ≤ 4000 by decide)) c, w0, w1,
        m_lesser_eq (a1.le l5) (a2.le l5), m_greater_eq (a1.le l5) (a2.le l5)]
      rw [show (if (lo - s) / (e - s) < (hi - s) / (e - s) then (lo - s) / (e - s) else (hi - s) / (e - s)) = mn ((lo - s) / (e - s)) ((hi - s) / (e - s)) from rfl, show (if (hi - s) / (e - s) < (lo - s) / (e - s) then (lo - s) / (e - s) else (hi - s) / (e - s)) = mx ((lo - s) / (e - s)) ((hi - s) / (e - s)) from rfl]
      have b1 := mn_b a1 a2
      have b2 := mx_b a1 a2
      have f1 : ∀ A B : Rat, (if B < A then A else B) = mx A B := fun _ _ => rfl
      have f2 : ∀ A B : Rat, (if A < B then A else B) = mn A B := fun _ _ => rfl
      simp only [m_greater_eq (hq.x.le l5) (b1.le l5), m_lesser_eq (hq.y.le l5) (b2.le l5), Option.bind_some, f1, f2, m_order_eq ((mx_b hq.x b1).le l5) ((mn_b hq.y b2).le l5), ord_le]
      by_cases c3 : mx q.1 (mn ((lo - s) / (e - s)) ((hi - s) / (e - s))) ≤ mn q.2 (mx ((lo - s) / (e - s)) ((hi - s) / (e - s))) <;> simp [c3]
theorem div_le {a b f : Rat} (h : a ≤ b) (hf : 0 < f) : a / f ≤ b / f := by
  rcases (Rat.le_total : a / f ≤ b / f ∨ b / f ≤ a / f) with z | z
  · exact z
  · have := Rat.mul_le_mul_of_nonneg_right z (Rat.le_of_lt hf)
    have e1 : a / f * f = a := by grind
    have e2 : b / f * f = b := by grind
    rw [e1, e2] at this
    have : a = b := Rat.le_antisymm h this
    rw [this]
    exact Rat.le_refl
theorem div_ge {a b f : Rat} (h : a ≤ b) (hf : f < 0) : b / f ≤ a / f := by
  have := div_le h (show 0 < -f by grind)
  have e1 : a / -f = -(a / f) := by grind
  have e2 : b / -f = -(b / f) := by grind
  grind
theorem num_neg (q : Rat) : q.num < 0 ↔ q < 0 := by rw [Rat.lt_iff]; simp
theorem num_zero (q : Rat) : q.num = 0 ↔ q = 0 := Rat.num_eq_zero
theorem span_eq {o : Option Spt} {s e lo hi : Rat} (ho : OkS o) (hs : Bq 100 s) (he : Bq 100 e) (hl : Bq 100 lo) (hh : Bq 100 hi) (hlh : lo ≤ hi) : m_law_span o s (e - s) lo hi = some (narR o s e lo hi) := by
  cases o with
  | none => rfl
  | some q =>
    have hq := ho q rfl
    have ws := hs.le (show 100 ≤ 4000 by decide)
    have we := he.le (show 100 ≤ 4000 by decide)
    have wl := hl.le (show 100 ≤ 4000 by decide)
    have wh := hh.le (show 100 ≤ 4000 by decide)
    simp only [m_law_span, optM, bd, Option.bind_some, num_zero, m_law_comp_eq wl ws, m_law_comp_eq ws wh, gap_le, narR]
    by_cases c : e - s = 0
    · simp only [c, decide_true, if_true]
      by_cases c1 : lo ≤ s
      · by_cases c2 : s ≤ hi <;> simp [c1, c2]
      · simp [c1]
    · have a1 := ((hl.sub hs).div (he.sub hs) c).le (show _ ≤ 500 by decide)
      have a2 := ((hh.sub hs).div (he.sub hs) c).le (show _ ≤ 500 by decide)
      have w0 : ∀ (A B : Rat), atI [A, B] 0 = some A := fun _ _ => rfl
      have w1 : ∀ (A B : Rat), atI [A, B] 1 = some B := fun _ _ => rfl
      have l5 : 500 ≤ 4000 := by decide
      simp only [c, decide_false, if_false, Bool.false_eq_true, m_law_dif_eq wl ws, m_law_dif_eq wh ws, Option.bind_some, m_law_quo_eq ((hl.sub hs).le (show _ ≤ 4000 by decide)) ((he.sub hs).le (show _ ≤ 4000 by decide)) c, m_law_quo_eq ((hh.sub hs).le (show _ ≤ 4000 by decide)) ((he.sub hs).le (show _ ≤ 4000 by decide)) c, num_neg]
      by_cases d : e - s < 0
      · have le := div_ge (show lo - s ≤ hi - s by grind) d
        simp only [d, decide_true, if_true, Option.bind_some, List.reverse_cons, List.reverse_nil, List.nil_append, List.cons_append, w0, w1]
        generalize (lo - s) / (e - s) = A at a1 le
        generalize (hi - s) / (e - s) = B at a2 le
        simp only [m_law_comp_eq (hq.x.le l5) (a2.le l5), m_law_comp_eq (a1.le l5) (hq.y.le l5), gap_lt, Option.bind_some]
        have e1 : mx q.1 (mn A B) = if q.1 < B then B else q.1 := by unfold mx mn; grind
        have e2 : mn q.2 (mx A B) = if A < q.2 then A else q.2 := by unfold mx mn; grind
        rw [e1, e2]
        by_cases c1 : q.1 < B <;> by_cases c2 : A < q.2 <;> simp only [c1, c2, decide_true, decide_false, if_true, if_false, Bool.false_eq_true, Option.bind_some, m_law_comp_eq (a2.le l5) (a1.le l5), m_law_comp_eq (a2.le l5) (hq.y.le l5), m_law_comp_eq (hq.x.le l5) (a1.le l5), m_law_comp_eq (hq.x.le l5) (hq.y.le l5), gap_le] <;> (first | (split <;> simp_all) | skip)
      · have d' : 0 < e - s := by grind
        have le := div_le (show lo - s ≤ hi - s by grind) d'
        simp only [d, decide_false, if_false, Bool.false_eq_true, Option.bind_some, w0, w1]
        generalize (lo - s) / (e - s) = A at a1 le
        generalize (hi - s) / (e - s) = B at a2 le
        simp only [m_law_comp_eq (hq.x.le l5) (a1.le l5), m_law_comp_eq (a2.le l5) (hq.y.le l5), gap_lt, Option.bind_some]
        have e1 : mx q.1 (mn A B) = if q.1 < A then A else q.1 := by unfold mx mn; grind
        have e2 : mn q.2 (mx A B) = if B < q.2 then B else q.2 := by unfold mx mn; grind
        rw [e1, e2]
        by_cases c1 : q.1 < A <;> by_cases c2 : B < q.2 <;> simp only [c1, c2, decide_true, decide_false, if_true, if_false, Bool.false_eq_true, Option.bind_some, m_law_comp_eq (a1.le l5) (a2.le l5), m_law_comp_eq (a1.le l5) (hq.y.le l5), m_law_comp_eq (hq.x.le l5) (a2.le l5), m_law_comp_eq (hq.x.le l5) (hq.y.le l5), gap_le] <;> (first | (split <;> simp_all) | skip)
end G

namespace G
open PySem L2 M
def onR (s e : Spt) (t : Rat) : Spt := (s.1 + t * (e.1 - s.1), s.2 + t * (e.2 - s.2))
theorem law_on_eq {s e : Spt} {t : Rat} (hs : Bs 100 s) (he : Bs 100 e) (ht : Bq 500 t) : m_law_on s e t = some (onR s e t) := by
  have x1 := he.x.sub hs.x
  have y1 := he.y.sub hs.y
  have x2 := ht.mul x1
  have y2 := ht.mul y1
  simp only [m_law_on, bd, Option.bind_some, m_law_dif_eq (he.x.le (by decide)) (hs.x.le (by decide)), m_law_dif_eq (he.y.le (by decide)) (hs.y.le (by decide)), m_law_prod_eq (ht.le (by decide)) (x1.le (by decide)), m_law_prod_eq (ht.le (by decide)) (y1.le (by decide)), m_law_sum_eq (hs.x.le (by decide)) (x2.le (by decide)), m_law_sum_eq (hs.y.le (by decide)) (y2.le (by decide)), onR]
theorem between_eq {s e : Spt} {t : Rat} (hs : Bs 100 s) (he : Bs 100 e) (ht : Bq 500 t) : m_between s e t = some (onR s e t) := by
  have x1 := he.x.sub hs.x
  have y1 := he.y.sub hs.y
  have x2 := ht.mul x1
  have y2 := ht.mul y1
  simp only [m_between, bd, Option.bind_some, m_minus_eq (he.x.le (by decide)) (hs.x.le (by decide)), m_minus_eq (he.y.le (by decide)) (hs.y.le (by decide)), m_times_eq (ht.le (by decide)) (x1.le (by decide)), m_times_eq (ht.le (by decide)) (y1.le (by decide)), m_plus_eq (hs.x.le (by decide)) (x2.le (by decide)), m_plus_eq (hs.y.le (by decide)) (y2.le (by decide)), onR]
theorem divInt_one (t : Int) : Rat.divInt t 1 = (t : Rat) := by
  have h := Rat.num_divInt_den (t : Rat)
  simpa using h
def spI (p : Int × Int) : Spt := ((p.1 : Rat), (p.2 : Rat))
theorem spot_of_eq (p : Int × Int) : m_spot_of p = some (spI p) := by
  have h : (1 : Int).natAbs < 2 ^ 9000 := Nat.lt_of_lt_of_le (show 1 < 2 ^ 1 by decide) (pow_le (by decide))
  simp only [m_spot_of, bd, Option.bind_some, ratio?_eq (show (1 : Int) ≠ 0 by decide) h, divInt_one, spI]
theorem spI_b {p : Int × Int} (h1 : p.1.natAbs ≤ 1000) (h2 : p.2.natAbs ≤ 1000) : Bs 100 (spI p) :=
  ⟨bq_int (by decide) (Nat.lt_of_le_of_lt h1 (by decide)), bq_int (by decide) (Nat.lt_of_le_of_lt h2 (by decide))⟩
def clipR (s e lo hi : Spt) : Option Spt := narR (narR (some (0, 1)) s.1 e.1 lo.1 hi.1) s.2 e.2 lo.2 hi.2
theorem ok01 : OkS (some ((0 : Rat), (1 : Rat))) := fun sp h => by
  cases h
  exact ⟨⟨by show 0 < _; exact Nat.two_pow_pos _, by show 1 < 2 ^ 500; exact Nat.one_lt_two_pow (by decide)⟩, ⟨by show 1 < 2 ^ 500; exact Nat.one_lt_two_pow (by decide), by show 1 < 2 ^ 500; exact Nat.one_lt_two_pow (by decide)⟩⟩
theorem clip_ok {s e lo hi : Spt} (hs : Bs 100 s) (he : Bs 100 e) (hl : Bs 100 lo) (hh : Bs 100 hi) : OkS (clipR s e lo hi) := narR_ok (narR_ok ok01 hs.x he.x hl.x hh.x) hs.y he.y hl.y hh.y
theorem clip_eq {s e lo hi : Spt} (hs : Bs 100 s) (he : Bs 100 e) (hl : Bs 100 lo) (hh : Bs 100 hi) (lx : lo.1 ≤ hi.1) (ly : lo.2 ≤ hi.2) : m_law_clip s e lo hi = some (clipR s e lo hi) := by
  have z0 : p2r (0, 1) = some (0 : Rat) := by decide +kernel
  have z1 : p2r (1, 1) = some (1 : Rat) := by decide +kernel
  have r2 : rngL 0 (2 : Int).toNat = [0, 1] := by decide
  have A : ∀ s : Spt, at2 s 0 = some s.1 := fun _ => rfl
  have B : ∀ s : Spt, at2 s 1 = some s.2 := fun _ => rfl
  simp only [m_law_clip, bd, Option.bind_some, z0, z1, rngP_of (show -1000000 ≤ (2 : Int) ∧ (2 : Int) ≤ 1000000 by decide), if_true, r2, loopC, A, B, m_law_dif_eq (he.x.le (show 100 ≤ 4000 by decide)) (hs.x.le (show 100 ≤ 4000 by decide)), m_law_dif_eq (he.y.le (show 100 ≤ 4000 by decide)) (hs.y.le (show 100 ≤ 4000 by decide)), span_eq ok01 hs.x he.x hl.x hh.x lx, span_eq (narR_ok ok01 hs.x he.x hl.x hh.x) hs.y he.y hl.y hh.y ly, clipR]
def dueR (s e lo hi : Spt) : Option (Spt × Spt) := (clipR s e lo hi).map fun q => (onR s e q.1, onR s e q.2)
theorem cut_eq {p q lo hi : Int × Int} (hs : Bs 100 (spI p)) (he : Bs 100 (spI q)) (hl : Bs 100 (spI lo)) (hh : Bs 100 (spI hi)) : m_cut p q (lo.1, lo.2, hi.1, hi.2) = some (dueR (spI p) (spI q) (spI lo) (spI hi)) := by
  have ok := clip_ok hs he hl hh
  have n1 := narrowed_eq ok01 hs.x he.x hl.x hh.x
  have n2 := narrowed_eq (narR_ok ok01 hs.x he.x hl.x hh.x) hs.y he.y hl.y hh.y
  simp only [m_cut, bd, Option.bind_some, spot_of_eq, p2r_int]
  rw [show ((lo.1 : Int) : Rat) = (spI lo).1 from rfl, show ((lo.2 : Int) : Rat) = (spI lo).2 from rfl, show ((hi.1 : Int) : Rat) = (spI hi).1 from rfl, show ((hi.2 : Int) : Rat) = (spI hi).2 from rfl, n1, Option.bind_some, n2, Option.bind_some]
  unfold dueR
  rw [show narR (narR (some (0, 1)) (spI p).1 (spI q).1 (spI lo).1 (spI hi).1) (spI p).2 (spI q).2 (spI lo).2 (spI hi).2 = clipR (spI p) (spI q) (spI lo) (spI hi) from rfl]
  cases c : clipR (spI p) (spI q) (spI lo) (spI hi) with
  | none => rfl
  | some w =>
    have hw := ok w c
    simp only [optM, between_eq hs he hw.x, between_eq hs he hw.y, Option.bind_some, Option.map_some]
theorem small4 {x : Int} (h : x.natAbs ≤ 1000000) : x.natAbs < 2 ^ 4000 := Nat.lt_of_le_of_lt h (Nat.lt_of_lt_of_le (show 1000000 < 2 ^ 20 by decide) (pow_le (by decide)))
theorem int_le {a b : Int} (h : a ≤ b) : (a : Rat) ≤ (b : Rat) := by
  rw [Rat.le_iff]
  simpa using h
/-- a drawn pair within reach -/
theorem pair_sp {reach : Int} (h0 : 0 ≤ reach) (h1 : reach ≤ 120) {P : Int × Int → Prop} (h : ∀ p : Int × Int, p.1.natAbs ≤ 120 → p.2.natAbs ≤ 120 → P p) :
    tup2W (opW (fun x y => some (x - y)) (callBW drawW (lf (bd (bd (some (2 : Int)) fun x => bd (some reach) fun y => mul? x y) fun x => bd (some (1 : Int)) fun y => some (x + y)))) (lf (some reach))) (opW (fun x y => some (x - y)) (callBW drawW (lf (bd (bd (some (2 : Int)) fun x => bd (some reach) fun y => mul? x y) fun x => bd (some (1 : Int)) fun y => some (x + y)))) (lf (some reach))) P := by
  simp only [tup2W, opW, callBW, bd, Option.bind_some, mul?_eq (small4 (show (2 : Int).natAbs ≤ 1000000 by decide)) (small4 (show reach.natAbs ≤ 1000000 by omega)), lf_some, drawW]
  exact ⟨by omega, by omega, fun r r0 r1 => ⟨by omega, by omega, fun q q0 q1 => h _ (by show (r - reach).natAbs ≤ 120; omega) (by show (q - reach).natAbs ≤ 120; omega)⟩⟩
theorem law_math : m_law (fun z => z = true) := by
  unfold m_law
  rw [lf_some, lf_some, if_pos (rngP_of (by decide))]
  refine loopW_all (fun s => s = true) _ true rfl (fun s x C hs _ hC => ?_) (fun s hs => ⟨_, rfl, hs⟩)
  subst hs
  refine (show callBW anyW _ _ from ?_)
  unfold callBW
  simp only [bd, Option.bind_some]
  rw [lf_some]
  refine ⟨by simp, by decide, fun reach hr => ?_⟩
  have hr' : 0 ≤ reach ∧ reach ≤ 120 := by
    simp only [List.mem_cons, List.not_mem_nil, or_false] at hr
    omega
  refine pair_sp hr'.1 hr'.2 fun one o1 o2 => pair_sp hr'.1 hr'.2 fun two t1 t2 => ?_
  rw [lf_some]
  refine ⟨by simp, by show 5 ≤ 1000; decide, fun two' ht => ?_⟩
  have hb : two'.1.natAbs ≤ 120 ∧ two'.2.natAbs ≤ 120 := by
    simp only [List.mem_cons, List.not_mem_nil, or_false] at ht
    rcases ht with rfl | rfl | rfl | rfl | rfl <;> exact ⟨by assumption, by assumption⟩
  refine pair_sp hr'.1 hr'.2 fun low l1 l2 => ?_
  rw [lf_some]
  refine ⟨by simp, by show 5 ≤ 1000; decide, fun low' hl => ?_⟩
  have hlb : low'.1.natAbs ≤ 120 ∧ low'.2.natAbs ≤ 120 := by
    simp only [List.mem_cons, List.not_mem_nil, or_false] at hl
    rcases hl with rfl | rfl | rfl | rfl | rfl <;> exact ⟨by first | assumption | exact hb.1, by first | assumption | exact hb.2⟩
  simp only [tup2W, opW, callBW, lf_some, drawW]
  refine ⟨by omega, by omega, fun r r0 r1 => ⟨by omega, by omega, fun q q0 q1 => ?_⟩⟩
  generalize hh : (low'.1 + r, low'.2 + q) = high
  have e1 : high.1 = low'.1 + r := by rw [← hh]
  have e2 : high.2 = low'.2 + q := by rw [← hh]
  have bs := spI_b (p := one) (by omega) (by omega)
  have be := spI_b (p := two') (by omega) (by omega)
  have bl := spI_b (p := low') (by omega) (by omega)
  have bh := spI_b (p := high) (by omega) (by omega)
  have mp : mapL? (fun p : Int × Int => ((p2r (p.1, 1)).bind fun x => (p2r (p.2, 1)).bind fun y => some (x, y))) [one, two', low', high] = some [spI one, spI two', spI low', spI high] := by
    unfold mapL?
    rw [if_pos (by show 4 < 100000; decide), mapO_all (g := spI) fun p _ => by rw [p2r_int, p2r_int]; rfl]
    rfl
  have a0 : atI [spI one, spI two', spI low', spI high] 0 = some (spI one) := rfl
  have a1 : atI [spI one, spI two', spI low', spI high] 1 = some (spI two') := rfl
  have a2 : atI [spI one, spI two', spI low', spI high] 2 = some (spI low') := rfl
  have a3 : atI [spI one, spI two', spI low', spI high] 3 = some (spI high) := rfl
  have ce := clip_eq bs be bl bh (int_le (by omega)) (int_le (by omega))
  simp only [mp, lf_some, a0, a1, a2, a3, Option.bind_some, ce]
  refine jn_of (fun d => d = dueR (spI one) (spI two') (spI low') (spI high)) (fun J hJ => ?_) (fun d hd => ?_)
  · unfold dueR at hJ
    cases c : clipR (spI one) (spI two') (spI low') (spI high) with
    | none => rw [c] at hJ; exact hJ _ rfl
    | some w =>
      have hw := clip_ok bs be bl bh w c
      rw [c] at hJ
      simp only [optM, law_on_eq bs be hw.x, law_on_eq bs be hw.y, Option.bind_some, lf_some]
      exact hJ _ rfl
  · subst hd
    simp only [cut_eq bs be bl bh, lf_some, andW, sameW, if_true, opW, callBW, drawW, tup2W]
    refine ⟨trivial, by decide, by decide, fun i i0 i1 => ⟨by decide, by decide, fun j j0 j1 => ⟨by decide, by decide, fun w w0 w1 => ?_⟩⟩⟩
    have m1 := fun x : Int => fun h : x.natAbs ≤ 1000000 => mul?_eq (small4 h) (small4 (show (8 + w).natAbs ≤ 1000000 by omega))
    simp only [m_tile_box, bd, Option.bind_some, m1 (i - 15) (by omega), m1 (j - 15) (by omega), m1 (i - 15 + 1) (by omega), m1 (j - 15 + 1) (by omega), lf_some]
    refine ⟨?_, hC true rfl⟩
    have g : ∀ a b : Int, (a + 1) * b = a * b + b := fun a b => by rw [Int.add_mul, Int.one_mul]
    rw [g, g]
end G

namespace G
open PySem L2 M
section
variable {P : Program} {w : World} {K : PySem.W.Frag} {mg : Str → Option Value} {base : Heap}

def spLaw (K : PySem.W.Frag) : Sp := fun vs H Q _ => ∃ (a : Addr) (ns : List Int), vs = [.ref a] ∧ SqL K H a (ns.map V.int) ∧ ns.length ≤ 63 ∧ ∀ H', Q (.bl true) H'
theorem ok_law (ev : Env K mg) : FnOk P w K mg base CX0 7 ev.f_law ev.d_law p_law (spLaw K) := by
  refine ev.A_law.F.ok sc_law (fun vs H Q E h => ?_) (fun cdv A outer s Hs vs Q E hr h => ?_)
  · obtain ⟨a, ns, rfl, _⟩ := h
    rfl
  obtain ⟨a0, ns, rfl, hS, hl, qq⟩ := h
  have hm := law_math
  refine ⟨_, (pss_cons (ps_set (i := 1) sc_law.nd rfl (Or.inl rfl) (pe_call (ok_law_bag ev) (hr.mono (by decide)) (by rfl) ev.A_law_bag.m ev.A_law_bag.F.kp ev.A_law_bag.b .nil pass0 (pa_cons (pv 0) pa_nil)))
    (pss_cons (ps_set (i := 2) sc_law.nd rfl (Or.inl rfl) pe_bl)
    (pss_cons (ps_for PassesOwn.never rfl (pi_range1 rfl ev.B.range_ (pa_cons pe_int pa_nil)) (pg_name (i := 3) sc_law.nd rfl (Or.inl rfl))
    (pss_cons (ps_set (i := 4) sc_law.nd rfl (Or.inl rfl) (pe_call (ok_law_any ev) (hr.mono (by decide)) (by rfl) ev.A_law_any.m ev.A_law_any.F.kp ev.A_law_any.b .nil pass0 (pa_cons (pv 1) (pa_cons (pe_lst (pa_cons pe_int (pa_cons pe_int (pa_cons pe_int pa_nil)))) pa_nil))))
    (pss_cons (ps_set (i := 5) sc_law.nd rfl (Or.inl rfl) (pe_tup (pa_cons (pe_op op_sub (pe_call (ok_law_draw ev) (hr.mono (by decide)) (by rfl) ev.A_law_draw.m ev.A_law_draw.F.kp ev.A_law_draw.b .nil pass0 (pa_cons (pv 1) (pa_cons (pe_op op_add (pe_op op_mulW pe_int (pv 4)) pe_int) pa_nil))) (pv 4)) (pa_cons (pe_op op_sub (pe_call (ok_law_draw ev) (hr.mono (by decide)) (by rfl) ev.A_law_draw.m ev.A_law_draw.F.kp ev.A_law_draw.b .nil pass0 (pa_cons (pv 1) (pa_cons (pe_op op_add (pe_op op_mulW pe_int (pv 4)) pe_int) pa_nil))) (pv 4)) pa_nil))))
    (pss_cons (ps_set (i := 6) sc_law.nd rfl (Or.inl rfl) (pe_tup (pa_cons (pe_op op_sub (pe_call (ok_law_draw ev) (hr.mono (by decide)) (by rfl) ev.A_law_draw.m ev.A_law_draw.F.kp ev.A_law_draw.b .nil pass0 (pa_cons (pv 1) (pa_cons (pe_op op_add (pe_op op_mulW pe_int (pv 4)) pe_int) pa_nil))) (pv 4)) (pa_cons (pe_op op_sub (pe_call (ok_law_draw ev) (hr.mono (by decide)) (by rfl) ev.A_law_draw.m ev.A_law_draw.F.kp ev.A_law_draw.b .nil pass0 (pa_cons (pv 1) (pa_cons (pe_op op_add (pe_op op_mulW pe_int (pv 4)) pe_int) pa_nil))) (pv 4)) pa_nil))))
    (pss_cons (ps_set (i := 6) sc_law.nd rfl (Or.inl rfl) (pe_call (ok_law_any ev) (hr.mono (by decide)) (by rfl) ev.A_law_any.m ev.A_law_any.F.kp ev.A_law_any.b .nil pass0 (pa_cons (pv 1) (pa_cons (pe_lst (pa_cons (pv 6) (pa_cons (pv 6) (pa_cons (pe_tup (pa_cons (pe_ix ix_tup (pv 5) pe_int (fun _ _ => rfl)) (pa_cons (pe_ix ix_tup (pv 6) pe_int (fun _ _ => rfl)) pa_nil))) (pa_cons (pe_tup (pa_cons (pe_ix ix_tup (pv 6) pe_int (fun _ _ => rfl)) (pa_cons (pe_ix ix_tup (pv 5) pe_int (fun _ _ => rfl)) pa_nil))) (pa_cons (pv 5) pa_nil)))))) pa_nil))))
    (pss_cons (ps_set (i := 7) sc_law.nd rfl (Or.inl rfl) (pe_tup (pa_cons (pe_op op_sub (pe_call (ok_law_draw ev) (hr.mono (by decide)) (by rfl) ev.A_law_draw.m ev.A_law_draw.F.kp ev.A_law_draw.b .nil pass0 (pa_cons (pv 1) (pa_cons (pe_op op_add (pe_op op_mulW pe_int (pv 4)) pe_int) pa_nil))) (pv 4)) (pa_cons (pe_op op_sub (pe_call (ok_law_draw ev) (hr.mono (by decide)) (by rfl) ev.A_law_draw.m ev.A_law_draw.F.kp ev.A_law_draw.b .nil pass0 (pa_cons (pv 1) (pa_cons (pe_op op_add (pe_op op_mulW pe_int (pv 4)) pe_int) pa_nil))) (pv 4)) pa_nil))))
    (pss_cons (ps_set (i := 7) sc_law.nd rfl (Or.inl rfl) (pe_call (ok_law_any ev) (hr.mono (by decide)) (by rfl) ev.A_law_any.m ev.A_law_any.F.kp ev.A_law_any.b .nil pass0 (pa_cons (pv 1) (pa_cons (pe_lst (pa_cons (pv 7) (pa_cons (pv 7) (pa_cons (pv 5) (pa_cons (pv 6) (pa_cons (pe_tup (pa_cons (pe_ix ix_tup (pv 5) pe_int (fun _ _ => rfl)) (pa_cons (pe_ix ix_tup (pv 6) pe_int (fun _ _ => rfl)) pa_nil))) pa_nil)))))) pa_nil))))
    (pss_cons (ps_set (i := 8) sc_law.nd rfl (Or.inl rfl) (pe_tup (pa_cons (pe_op op_add (pe_ix ix_tup (pv 7) pe_int (fun _ _ => rfl)) (pe_call (ok_law_draw ev) (hr.mono (by decide)) (by rfl) ev.A_law_draw.m ev.A_law_draw.F.kp ev.A_law_draw.b .nil pass0 (pa_cons (pv 1) (pa_cons (pe_op op_add (pv 4) pe_int) pa_nil)))) (pa_cons (pe_op op_add (pe_ix ix_tup (pv 7) pe_int (fun _ _ => rfl)) (pe_call (ok_law_draw ev) (hr.mono (by decide)) (by rfl) ev.A_law_draw.m ev.A_law_draw.F.kp ev.A_law_draw.b .nil pass0 (pa_cons (pv 1) (pa_cons (pe_op op_add (pv 4) pe_int) pa_nil)))) pa_nil))))
    (pss_cons (ps_setLc (i := 9) (own := [("_law_pair", 16)]) (g := gName 16) (tt := tYes) (by rfl) sc_law.nd rfl rfl (sw_true rfl rfl rfl (by decide +kernel)) (pi_list (pe_lst (pa_cons (pv 5) (pa_cons (pv 6) (pa_cons (pv 7) (pa_cons (pv 8) pa_nil)))))) (blkOk_by (own := [("_law_pair", 16)]) (N := n_law) (sc := defScope s_law) (by decide +kernel)) (fun _ _ _ _ _ => pg_name (i := 16) sc_law.nd rfl (Or.inl rfl)) (fun _ _ _ _ _ => pts_nil) (fun _ _ _ _ _ => (pe_tup (pa_cons (pe_tup (pa_cons (pe_ix (show IxR _ (rIxT K) from ix_tup) (pv 16) pe_int (fun _ _ => rfl)) (pa_cons pe_int pa_nil))) (pa_cons (pe_tup (pa_cons (pe_ix (show IxR _ (rIxT K) from ix_tup) (pv 16) pe_int (fun _ _ => rfl)) (pa_cons pe_int pa_nil))) pa_nil)))))
    (pss_cons (ps_set (i := 10) sc_law.nd rfl (Or.inl rfl) (pe_call (ok_law_clip ev) (hr.mono (by decide)) (by rfl) ev.A_law_clip.m ev.A_law_clip.F.kp ev.A_law_clip.b .nil pass0 (pa_cons (pe_ix ix_list (pv 9) pe_int (fun _ _ => rfl)) (pa_cons (pe_ix ix_list (pv 9) pe_int (fun _ _ => rfl)) (pa_cons (pe_ix ix_list (pv 9) pe_int (fun _ _ => rfl)) (pa_cons (pe_ix ix_list (pv 9) pe_int (fun _ _ => rfl)) pa_nil))))))
    (pss_cons (ps_set (i := 11) sc_law.nd rfl (Or.inl rfl) pe_non)
    (pss_cons (ps_if (pt_cmpR op_notN (pv 10) pe_non (nomark _))
    (pss_one (ps_set (i := 11) sc_law.nd rfl (Or.inl rfl) (pe_tup (pa_cons (pe_call (ok_law_on ev) (hr.mono (by decide)) (by rfl) ev.A_law_on.m ev.A_law_on.F.kp ev.A_law_on.b .nil pass0 (pa_cons (pe_ix ix_list (pv 9) pe_int (fun _ _ => rfl)) (pa_cons (pe_ix ix_list (pv 9) pe_int (fun _ _ => rfl)) (pa_cons (pe_ix ix_tup (pv 10) pe_int (fun _ _ => rfl)) pa_nil)))) (pa_cons (pe_call (ok_law_on ev) (hr.mono (by decide)) (by rfl) ev.A_law_on.m ev.A_law_on.F.kp ev.A_law_on.b .nil pass0 (pa_cons (pe_ix ix_list (pv 9) pe_int (fun _ _ => rfl)) (pa_cons (pe_ix ix_list (pv 9) pe_int (fun _ _ => rfl)) (pa_cons (pe_ix ix_tup (pv 10) pe_int (fun _ _ => rfl)) pa_nil)))) pa_nil))))) pss_nil)
    (pss_cons (ps_set (i := 12) sc_law.nd rfl (Or.inl rfl) (pe_call (ok_cut ev) (hr.mono (by decide)) (by rfl) ev.A_cut.m ev.A_cut.F.kp ev.A_cut.b .nil pass0 (pa_cons (pv 5) (pa_cons (pv 6) (pa_cons (pe_tup (pa_cons (pe_ix ix_tup (pv 7) pe_int (fun _ _ => rfl)) (pa_cons (pe_ix ix_tup (pv 7) pe_int (fun _ _ => rfl)) (pa_cons (pe_ix ix_tup (pv 8) pe_int (fun _ _ => rfl)) (pa_cons (pe_ix ix_tup (pv 8) pe_int (fun _ _ => rfl)) pa_nil))))) pa_nil)))))
    (pss_cons (ps_set (i := 2) sc_law.nd rfl (Or.inl rfl) (pe_and (pv 2) (pe_one (pe_call (ok_same ev 4) (hr.mono (by decide)) (by rfl) ev.A_law_same.m ev.A_law_same.F.kp ev.A_law_same.b .nil pass0 (pa_cons (pv 12) (pa_cons (pv 11) pa_nil))))))
    (pss_cons (ps_set (i := 13) sc_law.nd rfl (Or.inl rfl) (pe_tup (pa_cons (pe_op op_sub (pe_call (ok_law_draw ev) (hr.mono (by decide)) (by rfl) ev.A_law_draw.m ev.A_law_draw.F.kp ev.A_law_draw.b .nil pass0 (pa_cons (pv 1) (pa_cons pe_int pa_nil))) pe_int) (pa_cons (pe_op op_sub (pe_call (ok_law_draw ev) (hr.mono (by decide)) (by rfl) ev.A_law_draw.m ev.A_law_draw.F.kp ev.A_law_draw.b .nil pass0 (pa_cons (pv 1) (pa_cons pe_int pa_nil))) pe_int) pa_nil))))
    (pss_cons (ps_set (i := 14) sc_law.nd rfl (Or.inl rfl) (pe_op op_add pe_int (pe_call (ok_law_draw ev) (hr.mono (by decide)) (by rfl) ev.A_law_draw.m ev.A_law_draw.F.kp ev.A_law_draw.b .nil pass0 (pa_cons (pv 1) (pa_cons pe_int pa_nil)))))
    (pss_cons (ps_set (i := 15) sc_law.nd rfl (Or.inl rfl) (pe_tup (pa_cons (pe_op op_mulW (pe_ix ix_tup (pv 13) pe_int (fun _ _ => rfl)) (pv 14)) (pa_cons (pe_op op_mulW (pe_ix ix_tup (pv 13) pe_int (fun _ _ => rfl)) (pv 14)) (pa_cons (pe_op op_add (pe_op op_mulW (pe_ix ix_tup (pv 13) pe_int (fun _ _ => rfl)) (pv 14)) (pv 14)) (pa_cons (pe_op op_add (pe_op op_mulW (pe_ix ix_tup (pv 13) pe_int (fun _ _ => rfl)) (pv 14)) (pv 14)) pa_nil))))))
    (pss_one (ps_set (i := 2) sc_law.nd rfl (Or.inl rfl) (pe_and (pv 2) (pe_one (pe_call (ok_same ev 2) (hr.mono (by decide)) (by rfl) ev.A_law_same.m ev.A_law_same.F.kp ev.A_law_same.b .nil pass0 (pa_cons (pe_call (ok_tile_box ev) (hr.mono (by decide)) (by rfl) ev.A_tile_box.m ev.A_tile_box.F.kp ev.A_tile_box.b .nil pass0 (pa_cons (pv 13) (pa_cons (pv 14) pa_nil))) (pa_cons (pv 15) pa_nil))))))))))))))))))))))))
    (pss_one (ps_ret (pv 2)))))), ?_⟩
  refine seq_asg ⟨_, rfl, a0, ns, rfl, hS, hl, fun b c H0 hB nb nc sm => ?_⟩
  have dm := hB.dom
  have ts : Sub [b, c] [b, c] := fun a m => m
  have sub0 : Sub [b, c] [b, c] := fun a m => m
  have fr0 := Fr.refl (T := [b, c]) H0
  have q : ∀ (u : V) (H' : Hp) (z : Bool), z = true → Fr [b, c] H0 H' → Bag H' b c → (of (K := K) tBool [b, c]).r H0 H' u z → Q u H' := fun u H' z hz _ _ hu => by
    subst hz
    cases hu
    exact qq H'
  dsimp only [m_law] at hm
  obtain ⟨law_good_1, e1, hm⟩ := hm
  refine q_asg (T := [b, c]) dm (ev_bool (K := K)) e1 (fun v_law_good H1 s1 h_law_good => ?_)
  have fr0 := fr0.trans (Fr.same s1)
  have dm := dm.same s1
  have hB := hB.same s1
  have h_law_good : (tBool : Ty K Bool).rp [b, c] H1 v_law_good law_good_1 := h_law_good
  have HLfix := True.intro
  refine qw_for_r1 dm hB ts (ew_pure (ev_int (K := K))) hm (fun s_2 σ' H' => ∃ v_law_good : V, ∃ f_3 : Option V, ∃ f_4 : Option V, ∃ f_5 : Option V, ∃ f_6 : Option V, ∃ f_7 : Option V, ∃ f_8 : Option V, ∃ f_9 : Option V, ∃ f_10 : Option V, ∃ f_11 : Option V, ∃ f_12 : Option V, ∃ f_13 : Option V, ∃ f_14 : Option V, ∃ f_15 : Option V, ∃ f_16 : Option V, σ' = [some (.ref a0), some (.ref b), some v_law_good, f_3, f_4, f_5, f_6, f_7, f_8, f_9, f_10, f_11, f_12, f_13, f_14, f_15, f_16] ∧ Fr [b, c] H0 H' ∧ Dom [b, c] H' ∧ Bag H' b c ∧ (tBool : Ty K Bool).rp [b, c] H' v_law_good s_2) (fun H2 fr2 dm2 hB2 => ?_) (fun n23 s_2 law_turn_2 C2  σ' H' hI hlo hhi hm hret2 => ?_) (fun n23 t_2 σ' H' hm hI => ?_)
  · skip
    have fr0 := fr0.trans fr2
    have h_law_good := (tBool : Ty K Bool).mono (S := [b, c]) (fr2.sub ts) h_law_good
    have dm := dm2
    have hB := hB2
    exact ⟨v_law_good, _, _, _, _, _, _, _, _, _, _, _, _, _, _, rfl, fr0, dm, hB, h_law_good⟩
  · skip
    obtain ⟨v_law_good, f_3, f_4, f_5, f_6, f_7, f_8, f_9, f_10, f_11, f_12, f_13, f_14, f_15, f_16, rfl, fr0, dm, hB, h_law_good⟩ := hI
    have h_law_turn : tInt.rp (K := K) [b, c] H' (.int law_turn_2) law_turn_2 := rfl
    let HL := H'
    have frl : Fr [b, c] HL H' := Fr.refl (T := [b, c]) H'
    refine qw_asg dm hB ts (ew_any rfl (ew_pure (ev_new (ev_lst (el_cons (ev_int (K := K)) (el_cons (ev_int (K := K)) (el_cons (ev_int (K := K)) el_nil))) (by decide))))) hm (fun v_law_reach H3 law_reach_3 hm fr3 dm3 hB3 h_law_reach => ?_)
    have fr0 := fr0.trans fr3
    have frl := frl.trans (fr3.sub ts)
    have h_law_good := (tBool : Ty K Bool).mono (S := [b, c]) (fr3.sub ts) h_law_good
    have h_law_turn := (tInt : Ty K Int).mono (S := [b, c]) (fr3.sub ts) h_law_turn
    have dm := dm3
    have hB := hB3
    have h_law_reach : (tInt : Ty K Int).rp [b, c] H3 v_law_reach law_reach_3 := h_law_reach
    refine qw_asg dm hB ts (ew_tup2 (ew_op (od_sub (K := K)) (ew_draw (K := K) rfl (ew_pure (ev_op (od_add (K := K)) (ev_op (od_mul (K := K)) (ev_int (K := K)) (ev_var ts h_law_reach rfl)) (ev_int (K := K))))) (ew_pure (ev_var ts h_law_reach rfl))) (ew_op (od_sub (K := K)) (ew_draw (K := K) rfl (ew_pure (ev_op (od_add (K := K)) (ev_op (od_mul (K := K)) (ev_int (K := K)) (ev_var ts h_law_reach rfl)) (ev_int (K := K))))) (ew_pure (ev_var ts h_law_reach rfl)))) hm (fun v_law_one H4 law_one_4 hm fr4 dm4 hB4 h_law_one => ?_)
    have fr0 := fr0.trans fr4
    have frl := frl.trans (fr4.sub ts)
    have h_law_good := (tBool : Ty K Bool).mono (S := [b, c]) (fr4.sub ts) h_law_good
    have h_law_turn := (tInt : Ty K Int).mono (S := [b, c]) (fr4.sub ts) h_law_turn
    have h_law_reach := (tInt : Ty K Int).mono (S := [b, c]) (fr4.sub ts) h_law_reach
    have dm := dm4
    have hB := hB4
    have h_law_one : ((tT2 tInt tInt) : Ty K (Int × Int)).rp [b, c] H4 v_law_one law_one_4 := h_law_one
    refine qw_asg dm hB ts (ew_tup2 (ew_op (od_sub (K := K)) (ew_draw (K := K) rfl (ew_pure (ev_op (od_add (K := K)) (ev_op (od_mul (K := K)) (ev_int (K := K)) (ev_var ts h_law_reach rfl)) (ev_int (K := K))))) (ew_pure (ev_var ts h_law_reach rfl))) (ew_op (od_sub (K := K)) (ew_draw (K := K) rfl (ew_pure (ev_op (od_add (K := K)) (ev_op (od_mul (K := K)) (ev_int (K := K)) (ev_var ts h_law_reach rfl)) (ev_int (K := K))))) (ew_pure (ev_var ts h_law_reach rfl)))) hm (fun v_law_two H5 law_two_5 hm fr5 dm5 hB5 h_law_two => ?_)
    have fr0 := fr0.trans fr5
    have frl := frl.trans (fr5.sub ts)
    have h_law_good := (tBool : Ty K Bool).mono (S := [b, c]) (fr5.sub ts) h_law_good
    have h_law_turn := (tInt : Ty K Int).mono (S := [b, c]) (fr5.sub ts) h_law_turn
    have h_law_reach := (tInt : Ty K Int).mono (S := [b, c]) (fr5.sub ts) h_law_reach
    have h_law_one := ((tT2 tInt tInt) : Ty K (Int × Int)).mono (S := [b, c]) (fr5.sub ts) h_law_one
    have dm := dm5
    have hB := hB5
    have h_law_two : ((tT2 tInt tInt) : Ty K (Int × Int)).rp [b, c] H5 v_law_two law_two_5 := h_law_two
    refine qw_asg dm hB ts (ew_any rfl (ew_pure (ev_new (ev_lst (el_cons (ev_var ts h_law_two rfl) (el_cons (ev_var ts h_law_two rfl) (el_cons (ev_tup2 (ev_ix20 (ev_var ts h_law_one rfl)) (ev_ix21 (ev_var ts h_law_two rfl))) (el_cons (ev_tup2 (ev_ix20 (ev_var ts h_law_two rfl)) (ev_ix21 (ev_var ts h_law_one rfl))) (el_cons (ev_var ts h_law_one rfl) el_nil))))) (by decide))))) hm (fun v_law_two H6 law_two_6 hm fr6 dm6 hB6 h_law_two => ?_)
    have fr0 := fr0.trans fr6
    have frl := frl.trans (fr6.sub ts)
    have h_law_good := (tBool : Ty K Bool).mono (S := [b, c]) (fr6.sub ts) h_law_good
    have h_law_turn := (tInt : Ty K Int).mono (S := [b, c]) (fr6.sub ts) h_law_turn
    have h_law_reach := (tInt : Ty K Int).mono (S := [b, c]) (fr6.sub ts) h_law_reach
    have h_law_one := ((tT2 tInt tInt) : Ty K (Int × Int)).mono (S := [b, c]) (fr6.sub ts) h_law_one
    have dm := dm6
    have hB := hB6
    have h_law_two : ((tT2 tInt tInt) : Ty K (Int × Int)).rp [b, c] H6 v_law_two law_two_6 := h_law_two
    refine qw_asg dm hB ts (ew_tup2 (ew_op (od_sub (K := K)) (ew_draw (K := K) rfl (ew_pure (ev_op (od_add (K := K)) (ev_op (od_mul (K := K)) (ev_int (K := K)) (ev_var ts h_law_reach rfl)) (ev_int (K := K))))) (ew_pure (ev_var ts h_law_reach rfl))) (ew_op (od_sub (K := K)) (ew_draw (K := K) rfl (ew_pure (ev_op (od_add (K := K)) (ev_op (od_mul (K := K)) (ev_int (K := K)) (ev_var ts h_law_reach rfl)) (ev_int (K := K))))) (ew_pure (ev_var ts h_law_reach rfl)))) hm (fun v_law_low H7 law_low_7 hm fr7 dm7 hB7 h_law_low => ?_)
    have fr0 := fr0.trans fr7
    have frl := frl.trans (fr7.sub ts)
    have h_law_good := (tBool : Ty K Bool).mono (S := [b, c]) (fr7.sub ts) h_law_good
    have h_law_turn := (tInt : Ty K Int).mono (S := [b, c]) (fr7.sub ts) h_law_turn
    have h_law_reach := (tInt : Ty K Int).mono (S := [b, c]) (fr7.sub ts) h_law_reach
    have h_law_one := ((tT2 tInt tInt) : Ty K (Int × Int)).mono (S := [b, c]) (fr7.sub ts) h_law_one
    have h_law_two := ((tT2 tInt tInt) : Ty K (Int × Int)).mono (S := [b, c]) (fr7.sub ts) h_law_two
    have dm := dm7
    have hB := hB7
    have h_law_low : ((tT2 tInt tInt) : Ty K (Int × Int)).rp [b, c] H7 v_law_low law_low_7 := h_law_low
    refine qw_asg dm hB ts (ew_any rfl (ew_pure (ev_new (ev_lst (el_cons (ev_var ts h_law_low rfl) (el_cons (ev_var ts h_law_low rfl) (el_cons (ev_var ts h_law_one rfl) (el_cons (ev_var ts h_law_two rfl) (el_cons (ev_tup2 (ev_ix20 (ev_var ts h_law_one rfl)) (ev_ix21 (ev_var ts h_law_two rfl))) el_nil))))) (by decide))))) hm (fun v_law_low H8 law_low_8 hm fr8 dm8 hB8 h_law_low => ?_)
    have fr0 := fr0.trans fr8
    have frl := frl.trans (fr8.sub ts)
    have h_law_good := (tBool : Ty K Bool).mono (S := [b, c]) (fr8.sub ts) h_law_good
    have h_law_turn := (tInt : Ty K Int).mono (S := [b, c]) (fr8.sub ts) h_law_turn
    have h_law_reach := (tInt : Ty K Int).mono (S := [b, c]) (fr8.sub ts) h_law_reach
    have h_law_one := ((tT2 tInt tInt) : Ty K (Int × Int)).mono (S := [b, c]) (fr8.sub ts) h_law_one
    have h_law_two := ((tT2 tInt tInt) : Ty K (Int × Int)).mono (S := [b, c]) (fr8.sub ts) h_law_two
    have dm := dm8
    have hB := hB8
    have h_law_low : ((tT2 tInt tInt) : Ty K (Int × Int)).rp [b, c] H8 v_law_low law_low_8 := h_law_low
    refine qw_asg dm hB ts (ew_tup2 (ew_op (od_add (K := K)) (ew_pure (ev_ix20 (ev_var ts h_law_low rfl))) (ew_draw (K := K) rfl (ew_pure (ev_op (od_add (K := K)) (ev_var ts h_law_reach rfl) (ev_int (K := K)))))) (ew_op (od_add (K := K)) (ew_pure (ev_ix21 (ev_var ts h_law_low rfl))) (ew_draw (K := K) rfl (ew_pure (ev_op (od_add (K := K)) (ev_var ts h_law_reach rfl) (ev_int (K := K))))))) hm (fun v_law_high H9 law_high_9 hm fr9 dm9 hB9 h_law_high => ?_)
    have fr0 := fr0.trans fr9
    have frl := frl.trans (fr9.sub ts)
    have h_law_good := (tBool : Ty K Bool).mono (S := [b, c]) (fr9.sub ts) h_law_good
    have h_law_turn := (tInt : Ty K Int).mono (S := [b, c]) (fr9.sub ts) h_law_turn
    have h_law_reach := (tInt : Ty K Int).mono (S := [b, c]) (fr9.sub ts) h_law_reach
    have h_law_one := ((tT2 tInt tInt) : Ty K (Int × Int)).mono (S := [b, c]) (fr9.sub ts) h_law_one
    have h_law_two := ((tT2 tInt tInt) : Ty K (Int × Int)).mono (S := [b, c]) (fr9.sub ts) h_law_two
    have h_law_low := ((tT2 tInt tInt) : Ty K (Int × Int)).mono (S := [b, c]) (fr9.sub ts) h_law_low
    have dm := dm9
    have hB := hB9
    have h_law_high : ((tT2 tInt tInt) : Ty K (Int × Int)).rp [b, c] H9 v_law_high law_high_9 := h_law_high
    obtain ⟨law_spots_11, e11, hm⟩ := hm
    refine q_asg (T := [b, c]) dm (ev_new (ev_lc (ev_new (ev_lst (el_cons (ev_var ts h_law_one rfl) (el_cons (ev_var ts h_law_two rfl) (el_cons (ev_var ts h_law_low rfl) (el_cons (ev_var ts h_law_high rfl) el_nil)))) (by decide))) (fun v => by rfl) (fun law_pair_10 v_law_pair H2' H' p' fr' nD' sm' h_law_pair => by have h_law_good := (tBool : Ty K Bool).mono (Fr.same sm') ((tBool : Ty K Bool).ext (S := [b, c]) nD' ((tBool : Ty K Bool).mono (Fr.sub ts fr') h_law_good)); have h_law_turn := (tInt : Ty K Int).mono (Fr.same sm') ((tInt : Ty K Int).ext (S := [b, c]) nD' ((tInt : Ty K Int).mono (Fr.sub ts fr') h_law_turn)); have h_law_reach := (tInt : Ty K Int).mono (Fr.same sm') ((tInt : Ty K Int).ext (S := [b, c]) nD' ((tInt : Ty K Int).mono (Fr.sub ts fr') h_law_reach)); have h_law_one := ((tT2 tInt tInt) : Ty K (Int × Int)).mono (Fr.same sm') (((tT2 tInt tInt) : Ty K (Int × Int)).ext (S := [b, c]) nD' (((tT2 tInt tInt) : Ty K (Int × Int)).mono (Fr.sub ts fr') h_law_one)); have h_law_two := ((tT2 tInt tInt) : Ty K (Int × Int)).mono (Fr.same sm') (((tT2 tInt tInt) : Ty K (Int × Int)).ext (S := [b, c]) nD' (((tT2 tInt tInt) : Ty K (Int × Int)).mono (Fr.sub ts fr') h_law_two)); have h_law_low := ((tT2 tInt tInt) : Ty K (Int × Int)).mono (Fr.same sm') (((tT2 tInt tInt) : Ty K (Int × Int)).ext (S := [b, c]) nD' (((tT2 tInt tInt) : Ty K (Int × Int)).mono (Fr.sub ts fr') h_law_low)); have h_law_high := ((tT2 tInt tInt) : Ty K (Int × Int)).mono (Fr.same sm') (((tT2 tInt tInt) : Ty K (Int × Int)).ext (S := [b, c]) nD' (((tT2 tInt tInt) : Ty K (Int × Int)).mono (Fr.sub ts fr') h_law_high)); have ts := sub_cons (p := p') ts; exact (ev_tup2 (ev_p2r (ev_tup2 (ev_ix20 (ev_var ts h_law_pair rfl)) (ev_int (K := K)))) (ev_p2r (ev_tup2 (ev_ix21 (ev_var ts h_law_pair rfl)) (ev_int (K := K)))))))) e11 (fun v_law_spots H11 s11 h_law_spots => ?_)
    have fr0 := fr0.trans (Fr.same s11)
    have dm := dm.same s11
    have frl := frl.trans (Fr.same s11)
    have h_law_good := (tBool : Ty K Bool).mono (S := [b, c]) (Fr.same s11) h_law_good
    have h_law_turn := (tInt : Ty K Int).mono (S := [b, c]) (Fr.same s11) h_law_turn
    have h_law_reach := (tInt : Ty K Int).mono (S := [b, c]) (Fr.same s11) h_law_reach
    have h_law_one := ((tT2 tInt tInt) : Ty K (Int × Int)).mono (S := [b, c]) (Fr.same s11) h_law_one
    have h_law_two := ((tT2 tInt tInt) : Ty K (Int × Int)).mono (S := [b, c]) (Fr.same s11) h_law_two
    have h_law_low := ((tT2 tInt tInt) : Ty K (Int × Int)).mono (S := [b, c]) (Fr.same s11) h_law_low
    have h_law_high := ((tT2 tInt tInt) : Ty K (Int × Int)).mono (S := [b, c]) (Fr.same s11) h_law_high
    have hB := hB.same s11
    have h_law_spots : ((tL (tT2 tRat tRat)) : Ty K (List (Rat × Rat))).rp [b, c] H11 v_law_spots law_spots_11 := h_law_spots
    obtain ⟨law_bits_12, e12, hm⟩ := hm
    refine q_asg (T := [b, c]) dm (ev_call (ea_cons (ev_op od_ixL (ev_var ts h_law_spots rfl) (ev_int (K := K))) (ea_cons (ev_op od_ixL (ev_var ts h_law_spots rfl) (ev_int (K := K))) (ea_cons (ev_op od_ixL (ev_var ts h_law_spots rfl) (ev_int (K := K))) (ea_cons (ev_op od_ixL (ev_var ts h_law_spots rfl) (ev_int (K := K))) ea_nil))))) e12 (fun v_law_bits H12 s12 h_law_bits => ?_)
    have fr0 := fr0.trans (Fr.same s12)
    have dm := dm.same s12
    have frl := frl.trans (Fr.same s12)
    have h_law_good := (tBool : Ty K Bool).mono (S := [b, c]) (Fr.same s12) h_law_good
    have h_law_turn := (tInt : Ty K Int).mono (S := [b, c]) (Fr.same s12) h_law_turn
    have h_law_reach := (tInt : Ty K Int).mono (S := [b, c]) (Fr.same s12) h_law_reach
    have h_law_one := ((tT2 tInt tInt) : Ty K (Int × Int)).mono (S := [b, c]) (Fr.same s12) h_law_one
    have h_law_two := ((tT2 tInt tInt) : Ty K (Int × Int)).mono (S := [b, c]) (Fr.same s12) h_law_two
    have h_law_low := ((tT2 tInt tInt) : Ty K (Int × Int)).mono (S := [b, c]) (Fr.same s12) h_law_low
    have h_law_high := ((tT2 tInt tInt) : Ty K (Int × Int)).mono (S := [b, c]) (Fr.same s12) h_law_high
    have h_law_spots := ((tL (tT2 tRat tRat)) : Ty K (List (Rat × Rat))).mono (S := [b, c]) (Fr.same s12) h_law_spots
    have hB := hB.same s12
    have h_law_bits : ((tOpt (tT2 tRat tRat)) : Ty K (Option (Rat × Rat))).rp [b, c] H12 v_law_bits law_bits_12 := h_law_bits
    obtain ⟨law_due_13, e13, hm⟩ := hm
    refine q_asg (T := [b, c]) dm (ev_oN (a := ((tT2 (tT2 tRat tRat) (tT2 tRat tRat)) : Ty K ((Rat × Rat) × (Rat × Rat)))) (ev_none (K := K))) e13 (fun v_law_due H13 s13 h_law_due => ?_)
    have fr0 := fr0.trans (Fr.same s13)
    have dm := dm.same s13
    have frl := frl.trans (Fr.same s13)
    have h_law_good := (tBool : Ty K Bool).mono (S := [b, c]) (Fr.same s13) h_law_good
    have h_law_turn := (tInt : Ty K Int).mono (S := [b, c]) (Fr.same s13) h_law_turn
    have h_law_reach := (tInt : Ty K Int).mono (S := [b, c]) (Fr.same s13) h_law_reach
    have h_law_one := ((tT2 tInt tInt) : Ty K (Int × Int)).mono (S := [b, c]) (Fr.same s13) h_law_one
    have h_law_two := ((tT2 tInt tInt) : Ty K (Int × Int)).mono (S := [b, c]) (Fr.same s13) h_law_two
    have h_law_low := ((tT2 tInt tInt) : Ty K (Int × Int)).mono (S := [b, c]) (Fr.same s13) h_law_low
    have h_law_high := ((tT2 tInt tInt) : Ty K (Int × Int)).mono (S := [b, c]) (Fr.same s13) h_law_high
    have h_law_spots := ((tL (tT2 tRat tRat)) : Ty K (List (Rat × Rat))).mono (S := [b, c]) (Fr.same s13) h_law_spots
    have h_law_bits := ((tOpt (tT2 tRat tRat)) : Ty K (Option (Rat × Rat))).mono (S := [b, c]) (Fr.same s13) h_law_bits
    have hB := hB.same s13
    have h_law_due : ((tOpt (tT2 (tT2 tRat tRat) (tT2 tRat tRat))) : Ty K (Option ((Rat × Rat) × (Rat × Rat)))).rp [b, c] H13 v_law_due law_due_13 := h_law_due
    obtain ⟨J14, hK14, hm⟩ := jn_open hm
    refine seq_by (fun σ' H' => ∃ j16, J14 j16 ∧ Fr [b, c] HL H' ∧ ∃ v_law_good : V, ∃ v_law_reach : V, ∃ v_law_one : V, ∃ v_law_two : V, ∃ v_law_low : V, ∃ v_law_high : V, ∃ v_law_spots : V, ∃ v_law_bits : V, ∃ v_law_due : V, ∃ f_12 : Option V, ∃ f_13 : Option V, ∃ f_14 : Option V, ∃ f_15 : Option V, ∃ f_16 : Option V, σ' = [some (.ref a0), some (.ref b), some v_law_good, some (V.int law_turn_2), some v_law_reach, some v_law_one, some v_law_two, some v_law_low, some v_law_high, some v_law_spots, some v_law_bits, some v_law_due, f_12, f_13, f_14, f_15, f_16] ∧ Fr [b, c] H0 H' ∧ Dom [b, c] H' ∧ Bag H' b c ∧ (tBool : Ty K Bool).rp [b, c] H' v_law_good s_2 ∧ (tInt : Ty K Int).rp [b, c] H' (V.int law_turn_2) law_turn_2 ∧ (tInt : Ty K Int).rp [b, c] H' v_law_reach law_reach_3 ∧ ((tT2 tInt tInt) : Ty K (Int × Int)).rp [b, c] H' v_law_one law_one_4 ∧ ((tT2 tInt tInt) : Ty K (Int × Int)).rp [b, c] H' v_law_two law_two_6 ∧ ((tT2 tInt tInt) : Ty K (Int × Int)).rp [b, c] H' v_law_low law_low_8 ∧ ((tT2 tInt tInt) : Ty K (Int × Int)).rp [b, c] H' v_law_high law_high_9 ∧ ((tL (tT2 tRat tRat)) : Ty K (List (Rat × Rat))).rp [b, c] H' v_law_spots law_spots_11 ∧ ((tOpt (tT2 tRat tRat)) : Ty K (Option (Rat × Rat))).rp [b, c] H' v_law_bits law_bits_12 ∧ ((tOpt (tT2 (tT2 tRat tRat) (tT2 tRat tRat))) : Ty K (Option ((Rat × Rat) × (Rat × Rat)))).rp [b, c] H' v_law_due j16) (fun σ' H' hI => ?_) (fun rest14 => ?_)
    · skip
      obtain ⟨j16, hj, ⟨frl, v_law_good, v_law_reach, v_law_one, v_law_two, v_law_low, v_law_high, v_law_spots, v_law_bits, v_law_due, f_12, f_13, f_14, f_15, f_16, rfl, fr0, dm, hB, h_law_good, h_law_turn, h_law_reach, h_law_one, h_law_two, h_law_low, h_law_high, h_law_spots, h_law_bits, h_law_due⟩⟩ := hI
      have hm := hK14 j16 hj
      obtain ⟨law_found_17, e17, hm⟩ := hm
      refine q_asg (T := [b, c]) dm (ev_call (ea_cons (ev_var ts h_law_one rfl) (ea_cons (ev_var ts h_law_two rfl) (ea_cons (ev_tup4 (ev_ix20 (ev_var ts h_law_low rfl)) (ev_ix21 (ev_var ts h_law_low rfl)) (ev_ix20 (ev_var ts h_law_high rfl)) (ev_ix21 (ev_var ts h_law_high rfl))) ea_nil)))) e17 (fun v_law_found H17 s17 h_law_found => ?_)
      have fr0 := fr0.trans (Fr.same s17)
      have dm := dm.same s17
      have frl := frl.trans (Fr.same s17)
      have h_law_good := (tBool : Ty K Bool).mono (S := [b, c]) (Fr.same s17) h_law_good
      have h_law_turn := (tInt : Ty K Int).mono (S := [b, c]) (Fr.same s17) h_law_turn
      have h_law_reach := (tInt : Ty K Int).mono (S := [b, c]) (Fr.same s17) h_law_reach
      have h_law_one := ((tT2 tInt tInt) : Ty K (Int × Int)).mono (S := [b, c]) (Fr.same s17) h_law_one
      have h_law_two := ((tT2 tInt tInt) : Ty K (Int × Int)).mono (S := [b, c]) (Fr.same s17) h_law_two
      have h_law_low := ((tT2 tInt tInt) : Ty K (Int × Int)).mono (S := [b, c]) (Fr.same s17) h_law_low
      have h_law_high := ((tT2 tInt tInt) : Ty K (Int × Int)).mono (S := [b, c]) (Fr.same s17) h_law_high
      have h_law_spots := ((tL (tT2 tRat tRat)) : Ty K (List (Rat × Rat))).mono (S := [b, c]) (Fr.same s17) h_law_spots
      have h_law_bits := ((tOpt (tT2 tRat tRat)) : Ty K (Option (Rat × Rat))).mono (S := [b, c]) (Fr.same s17) h_law_bits
      have h_law_due := ((tOpt (tT2 (tT2 tRat tRat) (tT2 tRat tRat))) : Ty K (Option ((Rat × Rat) × (Rat × Rat)))).mono (S := [b, c]) (Fr.same s17) h_law_due
      have hB := hB.same s17
      have h_law_found : ((tOpt (tT2 (tT2 tRat tRat) (tT2 tRat tRat))) : Ty K (Option ((Rat × Rat) × (Rat × Rat)))).rp [b, c] H17 v_law_found law_found_17 := h_law_found
      refine qw_asg dm hB ts (ew_and (ew_pure (ev_var ts h_law_good rfl)) (ew_same (sm_opt (sm_t2 (sm_t2 sm_rat sm_rat) (sm_t2 sm_rat sm_rat))) (ew_pure (ev_var ts h_law_found rfl)) (ew_pure (ev_var ts h_law_due rfl)))) hm (fun v_law_good H18 law_good_18 hm fr18 dm18 hB18 h_law_good => ?_)
      have fr0 := fr0.trans fr18
      have frl := frl.trans (fr18.sub ts)
      have h_law_turn := (tInt : Ty K Int).mono (S := [b, c]) (fr18.sub ts) h_law_turn
      have h_law_reach := (tInt : Ty K Int).mono (S := [b, c]) (fr18.sub ts) h_law_reach
      have h_law_one := ((tT2 tInt tInt) : Ty K (Int × Int)).mono (S := [b, c]) (fr18.sub ts) h_law_one
      have h_law_two := ((tT2 tInt tInt) : Ty K (Int × Int)).mono (S := [b, c]) (fr18.sub ts) h_law_two
      have h_law_low := ((tT2 tInt tInt) : Ty K (Int × Int)).mono (S := [b, c]) (fr18.sub ts) h_law_low
      have h_law_high := ((tT2 tInt tInt) : Ty K (Int × Int)).mono (S := [b, c]) (fr18.sub ts) h_law_high
      have h_law_spots := ((tL (tT2 tRat tRat)) : Ty K (List (Rat × Rat))).mono (S := [b, c]) (fr18.sub ts) h_law_spots
      have h_law_bits := ((tOpt (tT2 tRat tRat)) : Ty K (Option (Rat × Rat))).mono (S := [b, c]) (fr18.sub ts) h_law_bits
      have h_law_due := ((tOpt (tT2 (tT2 tRat tRat) (tT2 tRat tRat))) : Ty K (Option ((Rat × Rat) × (Rat × Rat)))).mono (S := [b, c]) (fr18.sub ts) h_law_due
      have h_law_found := ((tOpt (tT2 (tT2 tRat tRat) (tT2 tRat tRat))) : Ty K (Option ((Rat × Rat) × (Rat × Rat)))).mono (S := [b, c]) (fr18.sub ts) h_law_found
      have dm := dm18
      have hB := hB18
      have h_law_good : (tBool : Ty K Bool).rp [b, c] H18 v_law_good law_good_18 := h_law_good
      refine qw_asg dm hB ts (ew_tup2 (ew_op (od_sub (K := K)) (ew_draw (K := K) rfl (ew_pure (ev_int (K := K)))) (ew_pure (ev_int (K := K)))) (ew_op (od_sub (K := K)) (ew_draw (K := K) rfl (ew_pure (ev_int (K := K)))) (ew_pure (ev_int (K := K))))) hm (fun v_law_ab H19 law_ab_19 hm fr19 dm19 hB19 h_law_ab => ?_)
      have fr0 := fr0.trans fr19
      have frl := frl.trans (fr19.sub ts)
      have h_law_turn := (tInt : Ty K Int).mono (S := [b, c]) (fr19.sub ts) h_law_turn
      have h_law_reach := (tInt : Ty K Int).mono (S := [b, c]) (fr19.sub ts) h_law_reach
      have h_law_one := ((tT2 tInt tInt) : Ty K (Int × Int)).mono (S := [b, c]) (fr19.sub ts) h_law_one
      have h_law_two := ((tT2 tInt tInt) : Ty K (Int × Int)).mono (S := [b, c]) (fr19.sub ts) h_law_two
      have h_law_low := ((tT2 tInt tInt) : Ty K (Int × Int)).mono (S := [b, c]) (fr19.sub ts) h_law_low
      have h_law_high := ((tT2 tInt tInt) : Ty K (Int × Int)).mono (S := [b, c]) (fr19.sub ts) h_law_high
      have h_law_spots := ((tL (tT2 tRat tRat)) : Ty K (List (Rat × Rat))).mono (S := [b, c]) (fr19.sub ts) h_law_spots
      have h_law_bits := ((tOpt (tT2 tRat tRat)) : Ty K (Option (Rat × Rat))).mono (S := [b, c]) (fr19.sub ts) h_law_bits
      have h_law_due := ((tOpt (tT2 (tT2 tRat tRat) (tT2 tRat tRat))) : Ty K (Option ((Rat × Rat) × (Rat × Rat)))).mono (S := [b, c]) (fr19.sub ts) h_law_due
      have h_law_found := ((tOpt (tT2 (tT2 tRat tRat) (tT2 tRat tRat))) : Ty K (Option ((Rat × Rat) × (Rat × Rat)))).mono (S := [b, c]) (fr19.sub ts) h_law_found
      have h_law_good := (tBool : Ty K Bool).mono (S := [b, c]) (fr19.sub ts) h_law_good
      have dm := dm19
      have hB := hB19
      have h_law_ab : ((tT2 tInt tInt) : Ty K (Int × Int)).rp [b, c] H19 v_law_ab law_ab_19 := h_law_ab
      refine qw_asg dm hB ts (ew_op (od_add (K := K)) (ew_pure (ev_int (K := K))) (ew_draw (K := K) rfl (ew_pure (ev_int (K := K))))) hm (fun v_law_wide H20 law_wide_20 hm fr20 dm20 hB20 h_law_wide => ?_)
      have fr0 := fr0.trans fr20
      have frl := frl.trans (fr20.sub ts)
      have h_law_turn := (tInt : Ty K Int).mono (S := [b, c]) (fr20.sub ts) h_law_turn
      have h_law_reach := (tInt : Ty K Int).mono (S := [b, c]) (fr20.sub ts) h_law_reach
      have h_law_one := ((tT2 tInt tInt) : Ty K (Int × Int)).mono (S := [b, c]) (fr20.sub ts) h_law_one
      have h_law_two := ((tT2 tInt tInt) : Ty K (Int × Int)).mono (S := [b, c]) (fr20.sub ts) h_law_two
      have h_law_low := ((tT2 tInt tInt) : Ty K (Int × Int)).mono (S := [b, c]) (fr20.sub ts) h_law_low
      have h_law_high := ((tT2 tInt tInt) : Ty K (Int × Int)).mono (S := [b, c]) (fr20.sub ts) h_law_high
      have h_law_spots := ((tL (tT2 tRat tRat)) : Ty K (List (Rat × Rat))).mono (S := [b, c]) (fr20.sub ts) h_law_spots
      have h_law_bits := ((tOpt (tT2 tRat tRat)) : Ty K (Option (Rat × Rat))).mono (S := [b, c]) (fr20.sub ts) h_law_bits
      have h_law_due := ((tOpt (tT2 (tT2 tRat tRat) (tT2 tRat tRat))) : Ty K (Option ((Rat × Rat) × (Rat × Rat)))).mono (S := [b, c]) (fr20.sub ts) h_law_due
      have h_law_found := ((tOpt (tT2 (tT2 tRat tRat) (tT2 tRat tRat))) : Ty K (Option ((Rat × Rat) × (Rat × Rat)))).mono (S := [b, c]) (fr20.sub ts) h_law_found
      have h_law_good := (tBool : Ty K Bool).mono (S := [b, c]) (fr20.sub ts) h_law_good
      have h_law_ab := ((tT2 tInt tInt) : Ty K (Int × Int)).mono (S := [b, c]) (fr20.sub ts) h_law_ab
      have dm := dm20
      have hB := hB20
      have h_law_wide : (tInt : Ty K Int).rp [b, c] H20 v_law_wide law_wide_20 := h_law_wide
      obtain ⟨law_box_21, e21, hm⟩ := hm
      refine q_asg (T := [b, c]) dm (ev_tup4 (ev_op (od_mul (K := K)) (ev_ix20 (ev_var ts h_law_ab rfl)) (ev_var ts h_law_wide rfl)) (ev_op (od_mul (K := K)) (ev_ix21 (ev_var ts h_law_ab rfl)) (ev_var ts h_law_wide rfl)) (ev_op (od_add (K := K)) (ev_op (od_mul (K := K)) (ev_ix20 (ev_var ts h_law_ab rfl)) (ev_var ts h_law_wide rfl)) (ev_var ts h_law_wide rfl)) (ev_op (od_add (K := K)) (ev_op (od_mul (K := K)) (ev_ix21 (ev_var ts h_law_ab rfl)) (ev_var ts h_law_wide rfl)) (ev_var ts h_law_wide rfl))) e21 (fun v_law_box H21 s21 h_law_box => ?_)
      have fr0 := fr0.trans (Fr.same s21)
      have dm := dm.same s21
      have frl := frl.trans (Fr.same s21)
      have h_law_turn := (tInt : Ty K Int).mono (S := [b, c]) (Fr.same s21) h_law_turn
      have h_law_reach := (tInt : Ty K Int).mono (S := [b, c]) (Fr.same s21) h_law_reach
      have h_law_one := ((tT2 tInt tInt) : Ty K (Int × Int)).mono (S := [b, c]) (Fr.same s21) h_law_one
      have h_law_two := ((tT2 tInt tInt) : Ty K (Int × Int)).mono (S := [b, c]) (Fr.same s21) h_law_two
      have h_law_low := ((tT2 tInt tInt) : Ty K (Int × Int)).mono (S := [b, c]) (Fr.same s21) h_law_low
      have h_law_high := ((tT2 tInt tInt) : Ty K (Int × Int)).mono (S := [b, c]) (Fr.same s21) h_law_high
      have h_law_spots := ((tL (tT2 tRat tRat)) : Ty K (List (Rat × Rat))).mono (S := [b, c]) (Fr.same s21) h_law_spots
      have h_law_bits := ((tOpt (tT2 tRat tRat)) : Ty K (Option (Rat × Rat))).mono (S := [b, c]) (Fr.same s21) h_law_bits
      have h_law_due := ((tOpt (tT2 (tT2 tRat tRat) (tT2 tRat tRat))) : Ty K (Option ((Rat × Rat) × (Rat × Rat)))).mono (S := [b, c]) (Fr.same s21) h_law_due
      have h_law_found := ((tOpt (tT2 (tT2 tRat tRat) (tT2 tRat tRat))) : Ty K (Option ((Rat × Rat) × (Rat × Rat)))).mono (S := [b, c]) (Fr.same s21) h_law_found
      have h_law_good := (tBool : Ty K Bool).mono (S := [b, c]) (Fr.same s21) h_law_good
      have h_law_ab := ((tT2 tInt tInt) : Ty K (Int × Int)).mono (S := [b, c]) (Fr.same s21) h_law_ab
      have h_law_wide := (tInt : Ty K Int).mono (S := [b, c]) (Fr.same s21) h_law_wide
      have hB := hB.same s21
      have h_law_box : ((tT4 tInt tInt tInt tInt) : Ty K (Int × Int × Int × Int)).rp [b, c] H21 v_law_box law_box_21 := h_law_box
      refine lw_asg dm hB ts (ew_and (ew_pure (ev_var ts h_law_good rfl)) (ew_same (sm_t4 sm_int sm_int sm_int sm_int) (ew_pure (ev_call (ea_cons (ev_var ts h_law_ab rfl) (ea_cons (ev_var ts h_law_wide rfl) ea_nil)))) (ew_pure (ev_var ts h_law_box rfl)))) hm (fun v_law_good H22 law_good_22 hm fr22 dm22 hB22 h_law_good => ?_)
      have fr0 := fr0.trans fr22
      have frl := frl.trans (fr22.sub ts)
      have h_law_turn := (tInt : Ty K Int).mono (S := [b, c]) (fr22.sub ts) h_law_turn
      have h_law_reach := (tInt : Ty K Int).mono (S := [b, c]) (fr22.sub ts) h_law_reach
      have h_law_one := ((tT2 tInt tInt) : Ty K (Int × Int)).mono (S := [b, c]) (fr22.sub ts) h_law_one
      have h_law_two := ((tT2 tInt tInt) : Ty K (Int × Int)).mono (S := [b, c]) (fr22.sub ts) h_law_two
      have h_law_low := ((tT2 tInt tInt) : Ty K (Int × Int)).mono (S := [b, c]) (fr22.sub ts) h_law_low
      have h_law_high := ((tT2 tInt tInt) : Ty K (Int × Int)).mono (S := [b, c]) (fr22.sub ts) h_law_high
      have h_law_spots := ((tL (tT2 tRat tRat)) : Ty K (List (Rat × Rat))).mono (S := [b, c]) (fr22.sub ts) h_law_spots
      have h_law_bits := ((tOpt (tT2 tRat tRat)) : Ty K (Option (Rat × Rat))).mono (S := [b, c]) (fr22.sub ts) h_law_bits
      have h_law_due := ((tOpt (tT2 (tT2 tRat tRat) (tT2 tRat tRat))) : Ty K (Option ((Rat × Rat) × (Rat × Rat)))).mono (S := [b, c]) (fr22.sub ts) h_law_due
      have h_law_found := ((tOpt (tT2 (tT2 tRat tRat) (tT2 tRat tRat))) : Ty K (Option ((Rat × Rat) × (Rat × Rat)))).mono (S := [b, c]) (fr22.sub ts) h_law_found
      have h_law_ab := ((tT2 tInt tInt) : Ty K (Int × Int)).mono (S := [b, c]) (fr22.sub ts) h_law_ab
      have h_law_wide := (tInt : Ty K Int).mono (S := [b, c]) (fr22.sub ts) h_law_wide
      have h_law_box := ((tT4 tInt tInt tInt tInt) : Ty K (Int × Int × Int × Int)).mono (S := [b, c]) (fr22.sub ts) h_law_box
      have dm := dm22
      have hB := hB22
      have h_law_good : (tBool : Ty K Bool).rp [b, c] H22 v_law_good law_good_22 := h_law_good
      exact ⟨_, hm, frl, ⟨v_law_good, _, _, _, _, _, _, _, _, _, _, _, _, _, _, rfl, fr0, dm, hB, h_law_good⟩⟩
    rcases optp_cases hm with ⟨eo14, hm⟩ | ⟨law_bits_14, eo14, hm⟩
    · skip
      refine l_if (T := [b, c]) (b := false) dm (eb_notN (a := ((tT2 tRat tRat) : Ty K (Rat × Rat))) ts h_law_bits rfl) (by rw [eo14]; rfl) (fun hc H14 s14 => by cases hc) (fun hc H14 s14 => ?_)
      have fr0 := fr0.trans (Fr.same s14)
      have dm := dm.same s14
      have frl := frl.trans (Fr.same s14)
      have h_law_good := (tBool : Ty K Bool).mono (S := [b, c]) (Fr.same s14) h_law_good
      have h_law_turn := (tInt : Ty K Int).mono (S := [b, c]) (Fr.same s14) h_law_turn
      have h_law_reach := (tInt : Ty K Int).mono (S := [b, c]) (Fr.same s14) h_law_reach
      have h_law_one := ((tT2 tInt tInt) : Ty K (Int × Int)).mono (S := [b, c]) (Fr.same s14) h_law_one
      have h_law_two := ((tT2 tInt tInt) : Ty K (Int × Int)).mono (S := [b, c]) (Fr.same s14) h_law_two
      have h_law_low := ((tT2 tInt tInt) : Ty K (Int × Int)).mono (S := [b, c]) (Fr.same s14) h_law_low
      have h_law_high := ((tT2 tInt tInt) : Ty K (Int × Int)).mono (S := [b, c]) (Fr.same s14) h_law_high
      have h_law_spots := ((tL (tT2 tRat tRat)) : Ty K (List (Rat × Rat))).mono (S := [b, c]) (Fr.same s14) h_law_spots
      have h_law_bits := ((tOpt (tT2 tRat tRat)) : Ty K (Option (Rat × Rat))).mono (S := [b, c]) (Fr.same s14) h_law_bits
      have h_law_due := ((tOpt (tT2 (tT2 tRat tRat) (tT2 tRat tRat))) : Ty K (Option ((Rat × Rat) × (Rat × Rat)))).mono (S := [b, c]) (Fr.same s14) h_law_due
      have hB := hB.same s14
      exact rest14 _ _ ⟨_, hm, ⟨frl, v_law_good, v_law_reach, v_law_one, v_law_two, v_law_low, v_law_high, v_law_spots, v_law_bits, v_law_due, _, _, _, _, _, rfl, fr0, dm, hB, h_law_good, h_law_turn, h_law_reach, h_law_one, h_law_two, h_law_low, h_law_high, h_law_spots, h_law_bits, h_law_due⟩⟩
    · skip
      refine l_if (T := [b, c]) (b := true) dm (eb_notN (a := ((tT2 tRat tRat) : Ty K (Rat × Rat))) ts h_law_bits rfl) (by rw [eo14]; rfl) (fun hc H14 s14 => ?_) (fun hc H14 s14 => by cases hc)
      have fr0 := fr0.trans (Fr.same s14)
      have dm := dm.same s14
      have frl := frl.trans (Fr.same s14)
      have h_law_good := (tBool : Ty K Bool).mono (S := [b, c]) (Fr.same s14) h_law_good
      have h_law_turn := (tInt : Ty K Int).mono (S := [b, c]) (Fr.same s14) h_law_turn
      have h_law_reach := (tInt : Ty K Int).mono (S := [b, c]) (Fr.same s14) h_law_reach
      have h_law_one := ((tT2 tInt tInt) : Ty K (Int × Int)).mono (S := [b, c]) (Fr.same s14) h_law_one
      have h_law_two := ((tT2 tInt tInt) : Ty K (Int × Int)).mono (S := [b, c]) (Fr.same s14) h_law_two
      have h_law_low := ((tT2 tInt tInt) : Ty K (Int × Int)).mono (S := [b, c]) (Fr.same s14) h_law_low
      have h_law_high := ((tT2 tInt tInt) : Ty K (Int × Int)).mono (S := [b, c]) (Fr.same s14) h_law_high
      have h_law_spots := ((tL (tT2 tRat tRat)) : Ty K (List (Rat × Rat))).mono (S := [b, c]) (Fr.same s14) h_law_spots
      have h_law_bits := ((tOpt (tT2 tRat tRat)) : Ty K (Option (Rat × Rat))).mono (S := [b, c]) (Fr.same s14) h_law_bits
      have h_law_due := ((tOpt (tT2 (tT2 tRat tRat) (tT2 tRat tRat))) : Ty K (Option ((Rat × Rat) × (Rat × Rat)))).mono (S := [b, c]) (Fr.same s14) h_law_due
      have hB := hB.same s14
      have h_law_bits := opt_is (a := ((tT2 tRat tRat) : Ty K (Rat × Rat))) (S := [b, c]) h_law_bits eo14
      obtain ⟨law_due_15, e15, hm⟩ := hm
      refine l_asg (T := [b, c]) dm (ev_oS (ev_tup2 (ev_call (ea_cons (ev_op od_ixL (ev_var ts h_law_spots rfl) (ev_int (K := K))) (ea_cons (ev_op od_ixL (ev_var ts h_law_spots rfl) (ev_int (K := K))) (ea_cons (ev_ix20 (ev_var ts h_law_bits rfl)) ea_nil)))) (ev_call (ea_cons (ev_op od_ixL (ev_var ts h_law_spots rfl) (ev_int (K := K))) (ea_cons (ev_op od_ixL (ev_var ts h_law_spots rfl) (ev_int (K := K))) (ea_cons (ev_ix21 (ev_var ts h_law_bits rfl)) ea_nil)))))) e15 (fun v_law_due H15 s15 h_law_due => ?_)
      have fr0 := fr0.trans (Fr.same s15)
      have dm := dm.same s15
      have frl := frl.trans (Fr.same s15)
      have h_law_good := (tBool : Ty K Bool).mono (S := [b, c]) (Fr.same s15) h_law_good
      have h_law_turn := (tInt : Ty K Int).mono (S := [b, c]) (Fr.same s15) h_law_turn
      have h_law_reach := (tInt : Ty K Int).mono (S := [b, c]) (Fr.same s15) h_law_reach
      have h_law_one := ((tT2 tInt tInt) : Ty K (Int × Int)).mono (S := [b, c]) (Fr.same s15) h_law_one
      have h_law_two := ((tT2 tInt tInt) : Ty K (Int × Int)).mono (S := [b, c]) (Fr.same s15) h_law_two
      have h_law_low := ((tT2 tInt tInt) : Ty K (Int × Int)).mono (S := [b, c]) (Fr.same s15) h_law_low
      have h_law_high := ((tT2 tInt tInt) : Ty K (Int × Int)).mono (S := [b, c]) (Fr.same s15) h_law_high
      have h_law_spots := ((tL (tT2 tRat tRat)) : Ty K (List (Rat × Rat))).mono (S := [b, c]) (Fr.same s15) h_law_spots
      have h_law_bits := ((tT2 tRat tRat) : Ty K (Rat × Rat)).mono (S := [b, c]) (Fr.same s15) h_law_bits
      have hB := hB.same s15
      have h_law_due : ((tOpt (tT2 (tT2 tRat tRat) (tT2 tRat tRat))) : Ty K (Option ((Rat × Rat) × (Rat × Rat)))).rp [b, c] H15 v_law_due law_due_15 := h_law_due
      have h_law_bits := opt_back (a := ((tT2 tRat tRat) : Ty K (Rat × Rat))) (S := [b, c]) h_law_bits eo14
      exact rest14 _ _ ⟨_, hm, ⟨frl, v_law_good, v_law_reach, v_law_one, v_law_two, v_law_low, v_law_high, v_law_spots, v_law_bits, v_law_due, _, _, _, _, _, rfl, fr0, dm, hB, h_law_good, h_law_turn, h_law_reach, h_law_one, h_law_two, h_law_low, h_law_high, h_law_spots, h_law_bits, h_law_due⟩⟩
  obtain ⟨v_law_good, f_3, f_4, f_5, f_6, f_7, f_8, f_9, f_10, f_11, f_12, f_13, f_14, f_15, f_16, rfl, fr0, dm, hB, h_law_good⟩ := hI
  obtain ⟨z, er, hm⟩ := hm
  exact q_ret (T := [b, c]) dm (ev_var ts h_law_good rfl) er (fun v H24 s24 hv => q v H24 _ hm (fr0.trans (Fr.same s24)) (hB.same s24) ((tBool : Ty K Bool).sub (S := [b, c]) (H := H24) sub0 hv))
end
end G

namespace G
open PySem L2 M
structure Put (K : PySem.W.Frag) (name : String) (st : Stmt) (f : Addr) : Prop where
  a : PySem.W.nsIn K mainGlobals (Str.ofString name) = some (some (.ref f))
  l : ∃ (oc : Value) (od : Option Addr) (kV dc pm : Value) (an : Option Addr) (cd ct : Value) (sl : Array (Option Value)), K.lookup f = some ⟨oc, od, .func (PySem.W.fnOf (Str.ofString name) (Str.ofString name) (defArgs st) (defBody st) (defScope st) .none kV dc pm an cd ct), sl⟩ ∧ PySem.W.codeIn K cd (Str.ofString name) = true
  k : PySem.W.keepIn K (.ref f) = true
theorem put_mk {K : PySem.W.Frag} {name : String} {st : Stmt} {f : Addr} {oc : Value} {od : Option Addr} {kV dc pm : Value} {an : Option Addr} {cd ct : Value} {sl : Array (Option Value)} (a : PySem.W.nsIn K mainGlobals (Str.ofString name) = some (some (.ref f)))
    (l : K.lookup f = some ⟨oc, od, .func (PySem.W.fnOf (Str.ofString name) (Str.ofString name) (defArgs st) (defBody st) (defScope st) .none kV dc pm an cd ct), sl⟩) (c : PySem.W.codeIn K cd (Str.ofString name) = true) (k : PySem.W.keepIn K (.ref f) = true) : Put K name st f :=
  ⟨a, ⟨oc, od, kV, dc, pm, an, cd, ct, sl, l, c⟩, k⟩
structure PutM (K : PySem.W.Frag) (C : Addr) (name qual : String) (st : Stmt) (f : Addr) : Prop where
  me : Meth K C (Str.ofString name) f
  l : ∃ (oc : Value) (od : Option Addr) (kV dc pm : Value) (an : Option Addr) (cd ct : Value) (sl : Array (Option Value)), K.lookup f = some ⟨oc, od, .func (PySem.W.fnOf (Str.ofString name) (Str.ofString qual) (defArgs st) (defBody st) (defScope st) .none kV dc pm an cd ct), sl⟩ ∧ PySem.W.codeIn K cd (Str.ofString qual) = true
theorem putM_mk {K : PySem.W.Frag} {C : Addr} {name qual : String} {st : Stmt} {f : Addr} {oc : Value} {od : Option Addr} {kV dc pm : Value} {an : Option Addr} {cd ct : Value} {sl : Array (Option Value)} (a : PySem.W.findIn K (.ref C) (Str.ofString name) = some (some (.ref f))) (i : PySem.W.isFn K (.ref f) = true)
    (l : K.lookup f = some ⟨oc, od, .func (PySem.W.fnOf (Str.ofString name) (Str.ofString qual) (defArgs st) (defBody st) (defScope st) .none kV dc pm an cd ct), sl⟩) (c : PySem.W.codeIn K cd (Str.ofString qual) = true) (k : PySem.W.keepIn K (.ref f) = true) : PutM K C name qual st f :=
  ⟨⟨a, i, k⟩, ⟨oc, od, kV, dc, pm, an, cd, ct, sl, l, c⟩⟩
theorem all_mk {l : PySem.W.OpenLaw} {w : World} {K : PySem.W.Frag} {h : Heap} {mg : Str → Option Value} {fa f_greatest_common f_ratio f_plus f_minus f_times f_divided f_order f_lesser f_greater f_spot_of f_between f_narrowed f_tile_box f_cut f_law_bag f_law_draw f_law_whole f_law_same f_law_any f_law_rat f_law_sum f_law_dif f_law_prod f_law_quo f_law_comp f_law_on f_law_span f_law_clip f_law C_NoRatio a_NOUGHT a_ONE : Addr}  {t00 t01 : Tok} {ddNOUGHT : Option Addr} {nNOUGHT : Nat} {slNOUGHT : Array (Option Value)} {t10 t11 : Tok} {ddONE : Option Addr} {nONE : Nat} {slONE : Array (Option Value)} (X : K.In h) (G : h.Ns mainGlobals mg) (hfa : mg "law" = some (.ref fa))
    (p_greatest_common : Put K "greatest_common" s_greatest_common f_greatest_common)
    (p_ratio : Put K "ratio" s_ratio f_ratio)
    (p_plus : Put K "plus" s_plus f_plus)
    (p_minus : Put K "minus" s_minus f_minus)
    (p_times : Put K "times" s_times f_times)
    (p_divided : Put K "divided" s_divided f_divided)
    (p_order : Put K "order" s_order f_order)
    (p_lesser : Put K "lesser" s_lesser f_lesser)
    (p_greater : Put K "greater" s_greater f_greater)
    (p_spot_of : Put K "spot_of" s_spot_of f_spot_of)
    (p_between : Put K "between" s_between f_between)
    (p_narrowed : Put K "narrowed" s_narrowed f_narrowed)
    (p_tile_box : Put K "tile_box" s_tile_box f_tile_box)
    (p_cut : Put K "cut" s_cut f_cut)
    (p_law_bag : Put K "_law_bag" s_law_bag f_law_bag)
    (p_law_draw : Put K "_law_draw" s_law_draw f_law_draw)
    (p_law_whole : Put K "_law_whole" s_law_whole f_law_whole)
    (p_law_same : Put K "_law_same" s_law_same f_law_same)
    (p_law_any : Put K "_law_any" s_law_any f_law_any)
    (p_law_rat : Put K "_law_rat" s_law_rat f_law_rat)
    (p_law_sum : Put K "_law_sum" s_law_sum f_law_sum)
    (p_law_dif : Put K "_law_dif" s_law_dif f_law_dif)
    (p_law_prod : Put K "_law_prod" s_law_prod f_law_prod)
    (p_law_quo : Put K "_law_quo" s_law_quo f_law_quo)
    (p_law_comp : Put K "_law_comp" s_law_comp f_law_comp)
    (p_law_on : Put K "_law_on" s_law_on f_law_on)
    (p_law_span : Put K "_law_span" s_law_span f_law_span)
    (p_law_clip : Put K "_law_clip" s_law_clip f_law_clip)
    (p_law : Put K "law" s_law f_law)
    (aC : PySem.W.nsIn K mainGlobals "NoRatio" = some (some (.ref C_NoRatio)))
    (x : PySem.W.excIn K C_NoRatio [.type "ZeroDivisionError", .type "ArithmeticError", .type "Exception", .type "BaseException", .type "object"] "ZeroDivisionError.__new__" = true)
    (k : PySem.W.keepIn K (.ref C_NoRatio) = true)
    (b : PySem.W.subIn K (.ref C_NoRatio) (.type "BaseException") = some true)
    (t : PySem.W.typeIn K (.ref C_NoRatio) = some (.type "type"))
    (e4 : PySem.W.hasDictIn K C_NoRatio = true)
    (sc : PySem.W.subIn K (.ref C_NoRatio) (.ref C_NoRatio) = some true)
    (cNOUGHT : PySem.W.nsIn K mainGlobals "NOUGHT" = some (some (.ref a_NOUGHT)))
    (lNOUGHT : K.lookup a_NOUGHT = some ⟨.type "tuple", ddNOUGHT, .seq #[.int 0 t00, .int 1 t01] nNOUGHT, slNOUGHT⟩)
    (cONE : PySem.W.nsIn K mainGlobals "ONE" = some (some (.ref a_ONE)))
    (lONE : K.lookup a_ONE = some ⟨.type "tuple", ddONE, .seq #[.int 1 t10, .int 1 t11] nONE, slONE⟩)
    (z_len : PySem.W.nsIn K mainGlobals "len" = some none)
    (z_list : PySem.W.nsIn K mainGlobals "list" = some none)
    (z_abs : PySem.W.nsIn K mainGlobals "abs" = some none)
    (z_isinstance : PySem.W.nsIn K mainGlobals "isinstance" = some none)
    (z_int : PySem.W.nsIn K mainGlobals "int" = some none)
    (z_bool : PySem.W.nsIn K mainGlobals "bool" = some none)
    (z_str : PySem.W.nsIn K mainGlobals "str" = some none)
    (z_dict : PySem.W.nsIn K mainGlobals "dict" = some none)
    (z_tuple : PySem.W.nsIn K mainGlobals "tuple" = some none)
    (z_all : PySem.W.nsIn K mainGlobals "all" = some none)
    (z_range : PySem.W.nsIn K mainGlobals "range" = some none)
    (z_sorted : PySem.W.nsIn K mainGlobals "sorted" = some none) :
    ∃ fd : FuncData, (∀ (s : Shared) (v : Value), BindsTo s fd ⟨[v], []⟩ [("_law_script", v)]) ∧ ∀ base : Heap, K.In base → base.Ns mainGlobals mg → FnOk l.prog w K mg base CX0 7 fa fd ["_law_script"] (spLaw K) := by
  have e := hfa.symm.trans (PySem.W.mg_of X G p_law.a)
  cases e
  obtain ⟨a_greatest_common, ⟨oc_greatest_common, od_greatest_common, kV_greatest_common, dc_greatest_common, pm_greatest_common, an_greatest_common, cd_greatest_common, ct_greatest_common, sl_greatest_common, l_greatest_common, c_greatest_common⟩, k_greatest_common⟩ := p_greatest_common
  have F_greatest_common := fun_mk (st := s_greatest_common) l_greatest_common c_greatest_common k_greatest_common
  have b_greatest_common := F_greatest_common.binds (ps := p_greatest_common) fun _ _ _ _ _ _ us hl => match us, hl with | [_, _], _ => rfl
  obtain ⟨a_ratio, ⟨oc_ratio, od_ratio, kV_ratio, dc_ratio, pm_ratio, an_ratio, cd_ratio, ct_ratio, sl_ratio, l_ratio, c_ratio⟩, k_ratio⟩ := p_ratio
  have F_ratio := fun_mk (st := s_ratio) l_ratio c_ratio k_ratio
  have b_ratio := F_ratio.binds (ps := p_ratio) fun _ _ _ _ _ _ us hl => match us, hl with | [_, _], _ => rfl
  obtain ⟨a_plus, ⟨oc_plus, od_plus, kV_plus, dc_plus, pm_plus, an_plus, cd_plus, ct_plus, sl_plus, l_plus, c_plus⟩, k_plus⟩ := p_plus
  have F_plus := fun_mk (st := s_plus) l_plus c_plus k_plus
  have b_plus := F_plus.binds (ps := p_plus) fun _ _ _ _ _ _ us hl => match us, hl with | [_, _], _ => rfl
  obtain ⟨a_minus, ⟨oc_minus, od_minus, kV_minus, dc_minus, pm_minus, an_minus, cd_minus, ct_minus, sl_minus, l_minus, c_minus⟩, k_minus⟩ := p_minus
  have F_minus := fun_mk (st := s_minus) l_minus c_minus k_minus
  have b_minus := F_minus.binds (ps := p_minus) fun _ _ _ _ _ _ us hl => match us, hl with | [_, _], _ => rfl
  obtain ⟨a_times, ⟨oc_times, od_times, kV_times, dc_times, pm_times, an_times, cd_times, ct_times, sl_times, l_times, c_times⟩, k_times⟩ := p_times
  have F_times := fun_mk (st := s_times) l_times c_times k_times
  have b_times := F_times.binds (ps := p_times) fun _ _ _ _ _ _ us hl => match us, hl with | [_, _], _ => rfl
  obtain ⟨a_divided, ⟨oc_divided, od_divided, kV_divided, dc_divided, pm_divided, an_divided, cd_divided, ct_divided, sl_divided, l_divided, c_divided⟩, k_divided⟩ := p_divided
  have F_divided := fun_mk (st := s_divided) l_divided c_divided k_divided
  have b_divided := F_divided.binds (ps := p_divided) fun _ _ _ _ _ _ us hl => match us, hl with | [_, _], _ => rfl
  obtain ⟨a_order, ⟨oc_order, od_order, kV_order, dc_order, pm_order, an_order, cd_order, ct_order, sl_order, l_order, c_order⟩, k_order⟩ := p_order
  have F_order := fun_mk (st := s_order) l_order c_order k_order
  have b_order := F_order.binds (ps := p_order) fun _ _ _ _ _ _ us hl => match us, hl with | [_, _], _ => rfl
  obtain ⟨a_lesser, ⟨oc_lesser, od_lesser, kV_lesser, dc_lesser, pm_lesser, an_lesser, cd_lesser, ct_lesser, sl_lesser, l_lesser, c_lesser⟩, k_lesser⟩ := p_lesser
  have F_lesser := fun_mk (st := s_lesser) l_lesser c_lesser k_lesser
  have b_lesser := F_lesser.binds (ps := p_lesser) fun _ _ _ _ _ _ us hl => match us, hl with | [_, _], _ => rfl
  obtain ⟨a_greater, ⟨oc_greater, od_greater, kV_greater, dc_greater, pm_greater, an_greater, cd_greater, ct_greater, sl_greater, l_greater, c_greater⟩, k_greater⟩ := p_greater
  have F_greater := fun_mk (st := s_greater) l_greater c_greater k_greater
  have b_greater := F_greater.binds (ps := p_greater) fun _ _ _ _ _ _ us hl => match us, hl with | [_, _], _ => rfl
  obtain ⟨a_spot_of, ⟨oc_spot_of, od_spot_of, kV_spot_of, dc_spot_of, pm_spot_of, an_spot_of, cd_spot_of, ct_spot_of, sl_spot_of, l_spot_of, c_spot_of⟩, k_spot_of⟩ := p_spot_of
  have F_spot_of := fun_mk (st := s_spot_of) l_spot_of c_spot_of k_spot_of
  have b_spot_of := F_spot_of.binds (ps := p_spot_of) fun _ _ _ _ _ _ us hl => match us, hl with | [_], _ => rfl
  obtain ⟨a_between, ⟨oc_between, od_between, kV_between, dc_between, pm_between, an_between, cd_between, ct_between, sl_between, l_between, c_between⟩, k_between⟩ := p_between
  have F_between := fun_mk (st := s_between) l_between c_between k_between
  have b_between := F_between.binds (ps := p_between) fun _ _ _ _ _ _ us hl => match us, hl with | [_, _, _], _ => rfl
  obtain ⟨a_narrowed, ⟨oc_narrowed, od_narrowed, kV_narrowed, dc_narrowed, pm_narrowed, an_narrowed, cd_narrowed, ct_narrowed, sl_narrowed, l_narrowed, c_narrowed⟩, k_narrowed⟩ := p_narrowed
  have F_narrowed := fun_mk (st := s_narrowed) l_narrowed c_narrowed k_narrowed
  have b_narrowed := F_narrowed.binds (ps := p_narrowed) fun _ _ _ _ _ _ us hl => match us, hl with | [_, _, _, _, _], _ => rfl
  obtain ⟨a_tile_box, ⟨oc_tile_box, od_tile_box, kV_tile_box, dc_tile_box, pm_tile_box, an_tile_box, cd_tile_box, ct_tile_box, sl_tile_box, l_tile_box, c_tile_box⟩, k_tile_box⟩ := p_tile_box
  have F_tile_box := fun_mk (st := s_tile_box) l_tile_box c_tile_box k_tile_box
  have b_tile_box := F_tile_box.binds (ps := p_tile_box) fun _ _ _ _ _ _ us hl => match us, hl with | [_, _], _ => rfl
  obtain ⟨a_cut, ⟨oc_cut, od_cut, kV_cut, dc_cut, pm_cut, an_cut, cd_cut, ct_cut, sl_cut, l_cut, c_cut⟩, k_cut⟩ := p_cut
  have F_cut := fun_mk (st := s_cut) l_cut c_cut k_cut
  have b_cut := F_cut.binds (ps := p_cut) fun _ _ _ _ _ _ us hl => match us, hl with | [_, _, _], _ => rfl
  obtain ⟨a_law_bag, ⟨oc_law_bag, od_law_bag, kV_law_bag, dc_law_bag, pm_law_bag, an_law_bag, cd_law_bag, ct_law_bag, sl_law_bag, l_law_bag, c_law_bag⟩, k_law_bag⟩ := p_law_bag
  have F_law_bag := fun_mk (st := s_law_bag) l_law_bag c_law_bag k_law_bag
  have b_law_bag := F_law_bag.binds (ps := p_law_bag) fun _ _ _ _ _ _ us hl => match us, hl with | [_], _ => rfl
  obtain ⟨a_law_draw, ⟨oc_law_draw, od_law_draw, kV_law_draw, dc_law_draw, pm_law_draw, an_law_draw, cd_law_draw, ct_law_draw, sl_law_draw, l_law_draw, c_law_draw⟩, k_law_draw⟩ := p_law_draw
  have F_law_draw := fun_mk (st := s_law_draw) l_law_draw c_law_draw k_law_draw
  have b_law_draw := F_law_draw.binds (ps := p_law_draw) fun _ _ _ _ _ _ us hl => match us, hl with | [_, _], _ => rfl
  obtain ⟨a_law_whole, ⟨oc_law_whole, od_law_whole, kV_law_whole, dc_law_whole, pm_law_whole, an_law_whole, cd_law_whole, ct_law_whole, sl_law_whole, l_law_whole, c_law_whole⟩, k_law_whole⟩ := p_law_whole
  have F_law_whole := fun_mk (st := s_law_whole) l_law_whole c_law_whole k_law_whole
  have b_law_whole := F_law_whole.binds (ps := p_law_whole) fun _ _ _ _ _ _ us hl => match us, hl with | [_], _ => rfl
  obtain ⟨a_law_same, ⟨oc_law_same, od_law_same, kV_law_same, dc_law_same, pm_law_same, an_law_same, cd_law_same, ct_law_same, sl_law_same, l_law_same, c_law_same⟩, k_law_same⟩ := p_law_same
  have F_law_same := fun_mk (st := s_law_same) l_law_same c_law_same k_law_same
  have b_law_same := F_law_same.binds (ps := p_law_same) fun _ _ _ _ _ _ us hl => match us, hl with | [_, _], _ => rfl
  obtain ⟨a_law_any, ⟨oc_law_any, od_law_any, kV_law_any, dc_law_any, pm_law_any, an_law_any, cd_law_any, ct_law_any, sl_law_any, l_law_any, c_law_any⟩, k_law_any⟩ := p_law_any
  have F_law_any := fun_mk (st := s_law_any) l_law_any c_law_any k_law_any
  have b_law_any := F_law_any.binds (ps := p_law_any) fun _ _ _ _ _ _ us hl => match us, hl with | [_, _], _ => rfl
  obtain ⟨a_law_rat, ⟨oc_law_rat, od_law_rat, kV_law_rat, dc_law_rat, pm_law_rat, an_law_rat, cd_law_rat, ct_law_rat, sl_law_rat, l_law_rat, c_law_rat⟩, k_law_rat⟩ := p_law_rat
  have F_law_rat := fun_mk (st := s_law_rat) l_law_rat c_law_rat k_law_rat
  have b_law_rat := F_law_rat.binds (ps := p_law_rat) fun _ _ _ _ _ _ us hl => match us, hl with | [_, _], _ => rfl
  obtain ⟨a_law_sum, ⟨oc_law_sum, od_law_sum, kV_law_sum, dc_law_sum, pm_law_sum, an_law_sum, cd_law_sum, ct_law_sum, sl_law_sum, l_law_sum, c_law_sum⟩, k_law_sum⟩ := p_law_sum
  have F_law_sum := fun_mk (st := s_law_sum) l_law_sum c_law_sum k_law_sum
  have b_law_sum := F_law_sum.binds (ps := p_law_sum) fun _ _ _ _ _ _ us hl => match us, hl with | [_, _], _ => rfl
  obtain ⟨a_law_dif, ⟨oc_law_dif, od_law_dif, kV_law_dif, dc_law_dif, pm_law_dif, an_law_dif, cd_law_dif, ct_law_dif, sl_law_dif, l_law_dif, c_law_dif⟩, k_law_dif⟩ := p_law_dif
  have F_law_dif := fun_mk (st := s_law_dif) l_law_dif c_law_dif k_law_dif
  have b_law_dif := F_law_dif.binds (ps := p_law_dif) fun _ _ _ _ _ _ us hl => match us, hl with | [_, _], _ => rfl
  obtain ⟨a_law_prod, ⟨oc_law_prod, od_law_prod, kV_law_prod, dc_law_prod, pm_law_prod, an_law_prod, cd_law_prod, ct_law_prod, sl_law_prod, l_law_prod, c_law_prod⟩, k_law_prod⟩ := p_law_prod
  have F_law_prod := fun_mk (st := s_law_prod) l_law_prod c_law_prod k_law_prod
  have b_law_prod := F_law_prod.binds (ps := p_law_prod) fun _ _ _ _ _ _ us hl => match us, hl with | [_, _], _ => rfl
  obtain ⟨a_law_quo, ⟨oc_law_quo, od_law_quo, kV_law_quo, dc_law_quo, pm_law_quo, an_law_quo, cd_law_quo, ct_law_quo, sl_law_quo, l_law_quo, c_law_quo⟩, k_law_quo⟩ := p_law_quo
  have F_law_quo := fun_mk (st := s_law_quo) l_law_quo c_law_quo k_law_quo
  have b_law_quo := F_law_quo.binds (ps := p_law_quo) fun _ _ _ _ _ _ us hl => match us, hl with | [_, _], _ => rfl
  obtain ⟨a_law_comp, ⟨oc_law_comp, od_law_comp, kV_law_comp, dc_law_comp, pm_law_comp, an_law_comp, cd_law_comp, ct_law_comp, sl_law_comp, l_law_comp, c_law_comp⟩, k_law_comp⟩ := p_law_comp
  have F_law_comp := fun_mk (st := s_law_comp) l_law_comp c_law_comp k_law_comp
  have b_law_comp := F_law_comp.binds (ps := p_law_comp) fun _ _ _ _ _ _ us hl => match us, hl with | [_, _], _ => rfl
  obtain ⟨a_law_on, ⟨oc_law_on, od_law_on, kV_law_on, dc_law_on, pm_law_on, an_law_on, cd_law_on, ct_law_on, sl_law_on, l_law_on, c_law_on⟩, k_law_on⟩ := p_law_on
  have F_law_on := fun_mk (st := s_law_on) l_law_on c_law_on k_law_on
  have b_law_on := F_law_on.binds (ps := p_law_on) fun _ _ _ _ _ _ us hl => match us, hl with | [_, _, _], _ => rfl
  obtain ⟨a_law_span, ⟨oc_law_span, od_law_span, kV_law_span, dc_law_span, pm_law_span, an_law_span, cd_law_span, ct_law_span, sl_law_span, l_law_span, c_law_span⟩, k_law_span⟩ := p_law_span
  have F_law_span := fun_mk (st := s_law_span) l_law_span c_law_span k_law_span
  have b_law_span := F_law_span.binds (ps := p_law_span) fun _ _ _ _ _ _ us hl => match us, hl with | [_, _, _, _, _], _ => rfl
  obtain ⟨a_law_clip, ⟨oc_law_clip, od_law_clip, kV_law_clip, dc_law_clip, pm_law_clip, an_law_clip, cd_law_clip, ct_law_clip, sl_law_clip, l_law_clip, c_law_clip⟩, k_law_clip⟩ := p_law_clip
  have F_law_clip := fun_mk (st := s_law_clip) l_law_clip c_law_clip k_law_clip
  have b_law_clip := F_law_clip.binds (ps := p_law_clip) fun _ _ _ _ _ _ us hl => match us, hl with | [_, _, _, _], _ => rfl
  obtain ⟨a_law, ⟨oc_law, od_law, kV_law, dc_law, pm_law, an_law, cd_law, ct_law, sl_law, l_law, c_law⟩, k_law⟩ := p_law
  have F_law := fun_mk (st := s_law) l_law c_law k_law
  have b_law := F_law.binds (ps := p_law) fun _ _ _ _ _ _ us hl => match us, hl with | [_], _ => rfl
  have B : Bt mg := ⟨PySem.W.mg_none_of X G z_len, PySem.W.mg_none_of X G z_list, PySem.W.mg_none_of X G z_abs, PySem.W.mg_none_of X G z_isinstance, PySem.W.mg_none_of X G z_int, PySem.W.mg_none_of X G z_bool, PySem.W.mg_none_of X G z_str, PySem.W.mg_none_of X G z_dict, PySem.W.mg_none_of X G z_tuple, PySem.W.mg_none_of X G z_all, PySem.W.mg_none_of X G z_range, PySem.W.mg_none_of X G z_sorted⟩
  have XN : NoR K mg C_NoRatio := ⟨PySem.W.mg_of X G aC, x, k, b, t, PySem.W.exm_ref b e4 t sc⟩
  have qNOUGHT : ∀ H, SqT K H a_NOUGHT [.int 0, .int 1] := fun H => .inr ⟨_, _, _, lNOUGHT, rfl, rfl, (by show 2 ≤ sizeLine; decide), (.cons ⟨_, rfl⟩ (.cons ⟨_, rfl⟩ .nil))⟩
  have qONE : ∀ H, SqT K H a_ONE [.int 1, .int 1] := fun H => .inr ⟨_, _, _, lONE, rfl, rfl, (by show 2 ≤ sizeLine; decide), (.cons ⟨_, rfl⟩ (.cons ⟨_, rfl⟩ .nil))⟩
  let ev : Env K mg := { f_greatest_common := f_greatest_common, d_greatest_common := _, A_greatest_common := ⟨F_greatest_common, b_greatest_common, PySem.W.mg_of X G a_greatest_common⟩, f_ratio := f_ratio, d_ratio := _, A_ratio := ⟨F_ratio, b_ratio, PySem.W.mg_of X G a_ratio⟩, f_plus := f_plus, d_plus := _, A_plus := ⟨F_plus, b_plus, PySem.W.mg_of X G a_plus⟩, f_minus := f_minus, d_minus := _, A_minus := ⟨F_minus, b_minus, PySem.W.mg_of X G a_minus⟩, f_times := f_times, d_times := _, A_times := ⟨F_times, b_times, PySem.W.mg_of X G a_times⟩, f_divided := f_divided, d_divided := _, A_divided := ⟨F_divided, b_divided, PySem.W.mg_of X G a_divided⟩, f_order := f_order, d_order := _, A_order := ⟨F_order, b_order, PySem.W.mg_of X G a_order⟩, f_lesser := f_lesser, d_lesser := _, A_lesser := ⟨F_lesser, b_lesser, PySem.W.mg_of X G a_lesser⟩, f_greater := f_greater, d_greater := _, A_greater := ⟨F_greater, b_greater, PySem.W.mg_of X G a_greater⟩, f_spot_of := f_spot_of, d_spot_of := _, A_spot_of := ⟨F_spot_of, b_spot_of, PySem.W.mg_of X G a_spot_of⟩, f_between := f_between, d_between := _, A_between := ⟨F_between, b_between, PySem.W.mg_of X G a_between⟩, f_narrowed := f_narrowed, d_narrowed := _, A_narrowed := ⟨F_narrowed, b_narrowed, PySem.W.mg_of X G a_narrowed⟩, f_tile_box := f_tile_box, d_tile_box := _, A_tile_box := ⟨F_tile_box, b_tile_box, PySem.W.mg_of X G a_tile_box⟩, f_cut := f_cut, d_cut := _, A_cut := ⟨F_cut, b_cut, PySem.W.mg_of X G a_cut⟩, f_law_bag := f_law_bag, d_law_bag := _, A_law_bag := ⟨F_law_bag, b_law_bag, PySem.W.mg_of X G a_law_bag⟩, f_law_draw := f_law_draw, d_law_draw := _, A_law_draw := ⟨F_law_draw, b_law_draw, PySem.W.mg_of X G a_law_draw⟩, f_law_whole := f_law_whole, d_law_whole := _, A_law_whole := ⟨F_law_whole, b_law_whole, PySem.W.mg_of X G a_law_whole⟩, f_law_same := f_law_same, d_law_same := _, A_law_same := ⟨F_law_same, b_law_same, PySem.W.mg_of X G a_law_same⟩, f_law_any := f_law_any, d_law_any := _, A_law_any := ⟨F_law_any, b_law_any, PySem.W.mg_of X G a_law_any⟩, f_law_rat := f_law_rat, d_law_rat := _, A_law_rat := ⟨F_law_rat, b_law_rat, PySem.W.mg_of X G a_law_rat⟩, f_law_sum := f_law_sum, d_law_sum := _, A_law_sum := ⟨F_law_sum, b_law_sum, PySem.W.mg_of X G a_law_sum⟩, f_law_dif := f_law_dif, d_law_dif := _, A_law_dif := ⟨F_law_dif, b_law_dif, PySem.W.mg_of X G a_law_dif⟩, f_law_prod := f_law_prod, d_law_prod := _, A_law_prod := ⟨F_law_prod, b_law_prod, PySem.W.mg_of X G a_law_prod⟩, f_law_quo := f_law_quo, d_law_quo := _, A_law_quo := ⟨F_law_quo, b_law_quo, PySem.W.mg_of X G a_law_quo⟩, f_law_comp := f_law_comp, d_law_comp := _, A_law_comp := ⟨F_law_comp, b_law_comp, PySem.W.mg_of X G a_law_comp⟩, f_law_on := f_law_on, d_law_on := _, A_law_on := ⟨F_law_on, b_law_on, PySem.W.mg_of X G a_law_on⟩, f_law_span := f_law_span, d_law_span := _, A_law_span := ⟨F_law_span, b_law_span, PySem.W.mg_of X G a_law_span⟩, f_law_clip := f_law_clip, d_law_clip := _, A_law_clip := ⟨F_law_clip, b_law_clip, PySem.W.mg_of X G a_law_clip⟩, f_law := fa, d_law := _, A_law := ⟨F_law, b_law, PySem.W.mg_of X G a_law⟩, B := B, C_NoRatio := C_NoRatio, X_NoRatio := XN, a_NOUGHT := a_NOUGHT, c_NOUGHT := PySem.W.mg_of X G cNOUGHT, q_NOUGHT := qNOUGHT, a_ONE := a_ONE, c_ONE := PySem.W.mg_of X G cONE, q_ONE := qONE }
  exact ⟨_, fun s v => .of_eq rfl, fun base _ _ => ok_law ev⟩
end G
open PySem PySem.W PyProof.Rows
set_option maxHeartbeats 0 in
theorem PySem.Challenge.cw_gromatic_k24_pieces_cut_by_boxes_holds : PySem.Challenge.rw_gromatic_k24_pieces_cut_by_boxes.Holds := by
  w_on; o_law; k_head; (case hw => w_witness2)
  k_fill
  refine L2.walk_of (l := PySem.Challenge.rw_gromatic_k24_pieces_cut_by_boxes) (n := 63) (k := 7) (x := "_law_script") (CX := fun _ => L2.CX0) (sp := fun w => G.spLaw _) rfl (by decide) rfl ⟨rfl, by decide, by decide⟩ (fun w h Y => PySem.W.kIn_of Y) ?F (fun _ _ a ns hl _ hS => ⟨a, ns, rfl, hS, hl, fun _ => rfl⟩) (fun _ _ _ _ _ h => h)
  case F =>
    intro w mg fa h KX GN hmg
    refine' G.all_mk KX GN hmg (G.put_mk ?a_greatest_common ?l_greatest_common ?c_greatest_common ?k_greatest_common) (G.put_mk ?a_ratio ?l_ratio ?c_ratio ?k_ratio) (G.put_mk ?a_plus ?l_plus ?c_plus ?k_plus) (G.put_mk ?a_minus ?l_minus ?c_minus ?k_minus) (G.put_mk ?a_times ?l_times ?c_times ?k_times) (G.put_mk ?a_divided ?l_divided ?c_divided ?k_divided) (G.put_mk ?a_order ?l_order ?c_order ?k_order) (G.put_mk ?a_lesser ?l_lesser ?c_lesser ?k_lesser) (G.put_mk ?a_greater ?l_greater ?c_greater ?k_greater) (G.put_mk ?a_spot_of ?l_spot_of ?c_spot_of ?k_spot_of) (G.put_mk ?a_between ?l_between ?c_between ?k_between) (G.put_mk ?a_narrowed ?l_narrowed ?c_narrowed ?k_narrowed) (G.put_mk ?a_tile_box ?l_tile_box ?c_tile_box ?k_tile_box) (G.put_mk ?a_cut ?l_cut ?c_cut ?k_cut) (G.put_mk ?a_law_bag ?l_law_bag ?c_law_bag ?k_law_bag) (G.put_mk ?a_law_draw ?l_law_draw ?c_law_draw ?k_law_draw) (G.put_mk ?a_law_whole ?l_law_whole ?c_law_whole ?k_law_whole) (G.put_mk ?a_law_same ?l_law_same ?c_law_same ?k_law_same) (G.put_mk ?a_law_any ?l_law_any ?c_law_any ?k_law_any) (G.put_mk ?a_law_rat ?l_law_rat ?c_law_rat ?k_law_rat) (G.put_mk ?a_law_sum ?l_law_sum ?c_law_sum ?k_law_sum) (G.put_mk ?a_law_dif ?l_law_dif ?c_law_dif ?k_law_dif) (G.put_mk ?a_law_prod ?l_law_prod ?c_law_prod ?k_law_prod) (G.put_mk ?a_law_quo ?l_law_quo ?c_law_quo ?k_law_quo) (G.put_mk ?a_law_comp ?l_law_comp ?c_law_comp ?k_law_comp) (G.put_mk ?a_law_on ?l_law_on ?c_law_on ?k_law_on) (G.put_mk ?a_law_span ?l_law_span ?c_law_span ?k_law_span) (G.put_mk ?a_law_clip ?l_law_clip ?c_law_clip ?k_law_clip) (G.put_mk ?a_law ?l_law ?c_law ?k_law) ?aC ?x ?k ?b ?t ?e4 ?sc ?cNOUGHT ?lNOUGHT ?cONE ?lONE ?z_len ?z_list ?z_abs ?z_isinstance ?z_int ?z_bool ?z_str ?z_dict ?z_tuple ?z_all ?z_range ?z_sorted
    (case aC => k_is)
    (case x => k_exc)
    (case k => k_is)
    (case b => k_is)
    (case t => k_is)
    (case e4 => k_is)
    (case sc => first | rfl | k_is)
    (case cNOUGHT => k_is)
    (case lNOUGHT => k_is)
    (case cONE => k_is)
    (case lONE => k_is)
    (case a_greatest_common => k_is)
    (case l_greatest_common => k_is)
    (case c_greatest_common => k_is)
    (case k_greatest_common => k_is)
    (case a_ratio => k_is)
    (case l_ratio => k_is)
    (case c_ratio => k_is)
    (case k_ratio => k_is)
    (case a_plus => k_is)
    (case l_plus => k_is)
    (case c_plus => k_is)
    (case k_plus => k_is)
    (case a_minus => k_is)
    (case l_minus => k_is)
    (case c_minus => k_is)
    (case k_minus => k_is)
    (case a_times => k_is)
    (case l_times => k_is)
    (case c_times => k_is)
    (case k_times => k_is)
    (case a_divided => k_is)
    (case l_divided => k_is)
    (case c_divided => k_is)
    (case k_divided => k_is)
    (case a_order => k_is)
    (case l_order => k_is)
    (case c_order => k_is)
    (case k_order => k_is)
    (case a_lesser => k_is)
    (case l_lesser => k_is)
    (case c_lesser => k_is)
    (case k_lesser => k_is)
    (case a_greater => k_is)
    (case l_greater => k_is)
    (case c_greater => k_is)
    (case k_greater => k_is)
    (case a_spot_of => k_is)
    (case l_spot_of => k_is)
    (case c_spot_of => k_is)
    (case k_spot_of => k_is)
    (case a_between => k_is)
    (case l_between => k_is)
    (case c_between => k_is)
    (case k_between => k_is)
    (case a_narrowed => k_is)
    (case l_narrowed => k_is)
    (case c_narrowed => k_is)
    (case k_narrowed => k_is)
    (case a_tile_box => k_is)
    (case l_tile_box => k_is)
    (case c_tile_box => k_is)
    (case k_tile_box => k_is)
    (case a_cut => k_is)
    (case l_cut => k_is)
    (case c_cut => k_is)
    (case k_cut => k_is)
    (case a_law_bag => k_is)
    (case l_law_bag => k_is)
    (case c_law_bag => k_is)
    (case k_law_bag => k_is)
    (case a_law_draw => k_is)
    (case l_law_draw => k_is)
    (case c_law_draw => k_is)
    (case k_law_draw => k_is)
    (case a_law_whole => k_is)
    (case l_law_whole => k_is)
    (case c_law_whole => k_is)
    (case k_law_whole => k_is)
    (case a_law_same => k_is)
    (case l_law_same => k_is)
    (case c_law_same => k_is)
    (case k_law_same => k_is)
    (case a_law_any => k_is)
    (case l_law_any => k_is)
    (case c_law_any => k_is)
    (case k_law_any => k_is)
    (case a_law_rat => k_is)
    (case l_law_rat => k_is)
    (case c_law_rat => k_is)
    (case k_law_rat => k_is)
    (case a_law_sum => k_is)
    (case l_law_sum => k_is)
    (case c_law_sum => k_is)
    (case k_law_sum => k_is)
    (case a_law_dif => k_is)
    (case l_law_dif => k_is)
    (case c_law_dif => k_is)
    (case k_law_dif => k_is)
    (case a_law_prod => k_is)
    (case l_law_prod => k_is)
    (case c_law_prod => k_is)
    (case k_law_prod => k_is)
    (case a_law_quo => k_is)
    (case l_law_quo => k_is)
    (case c_law_quo => k_is)
    (case k_law_quo => k_is)
    (case a_law_comp => k_is)
    (case l_law_comp => k_is)
    (case c_law_comp => k_is)
    (case k_law_comp => k_is)
    (case a_law_on => k_is)
    (case l_law_on => k_is)
    (case c_law_on => k_is)
    (case k_law_on => k_is)
    (case a_law_span => k_is)
    (case l_law_span => k_is)
    (case c_law_span => k_is)
    (case k_law_span => k_is)
    (case a_law_clip => k_is)
    (case l_law_clip => k_is)
    (case c_law_clip => k_is)
    (case k_law_clip => k_is)
    (case a_law => k_is)
    (case l_law => k_is)
    (case c_law => k_is)
    (case k_law => k_is)
    (case z_len => k_is)
    (case z_list => k_is)
    (case z_abs => k_is)
    (case z_isinstance => k_is)
    (case z_int => k_is)
    (case z_bool => k_is)
    (case z_str => k_is)
    (case z_dict => k_is)
    (case z_tuple => k_is)
    (case z_all => k_is)
    (case z_range => k_is)
    (case z_sorted => k_is)

