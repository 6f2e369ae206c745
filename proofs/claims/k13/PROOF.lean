import PyProof.Rows.All
import Wide.All
import OpenK.AllK
import Wide.FinOn
import HandS.ForMost
import HandS.ForExc
import HandS.Wide
import HandS.IsInst
import HandS.ExcIs
import HandS.More
import HandS.DictComp
import HandS.SortInts
import HandS.Style
import HandS.Defaults
import HandS.Deep
import HandS.TryOnly
import KE.DataMinMax
import KE.SortData
import HandS.Iter
import KE.KExcSuper
import KE.OsGo
import HandS.ForSpec
import HandS.HeadWalk
import HandS.SlotsOwn
import KE.KCallOwn
import HandS.OwnEq
import HandS.FStr
import HandS.Text
import KE.KxIndex
import HandS.ExcOwn
import HandS.ExcField
import PySem.Challenge.RW_gromatic_k13_lines_of_lands
import PyProof.StrLawsRepr
import KE.KExcLine
import HandS.HeadEnd
set_option Elab.async false
set_option linter.all false
set_option maxRecDepth 100000
set_option maxHeartbeats 8000000
namespace M
open PySem L2

/-! ### heaps: what is owned may change -/
abbrev AS := List Addr
def Fr (T : AS) (H H' : Hp) : Prop := ∀ a o, H a = some o → a ∉ T → H' a = some o
theorem Fr.refl {T : AS} (H : Hp) : Fr T H H := fun _ _ e _ => e
theorem Fr.trans {T : AS} {H H1 H2 : Hp} (a : Fr T H H1) (b : Fr T H1 H2) : Fr T H H2 := fun p o e n => b p o (a p o e n) n
theorem Fr.same {T : AS} {H H' : Hp} (s : Same H H') : Fr T H H' := fun p o e _ => s p o e
theorem Fr.sub {T T' : AS} {H H' : Hp} (h : ∀ a ∈ T, a ∈ T') (f : Fr T H H') : Fr T' H H' := fun p o e n => f p o e fun m => n (h p m)
theorem Fr.toSame {H H' : Hp} (f : Fr [] H H') : Same H H' := fun p o e => f p o e (by simp)
def Dom (S : AS) (H : Hp) : Prop := ∀ a ∈ S, H a ≠ none
theorem Dom.same {S : AS} {H H' : Hp} (d : Dom S H) (s : Same H H') : Dom S H' := fun a m e => by
  cases q : H a with
  | none => exact d a m q
  | some o => rw [s a o q] at e; cases e
theorem Dom.nil {H : Hp} : Dom [] H := fun a m => by simp at m
theorem Dom.not_mem {S : AS} {H : Hp} {p : Addr} (d : Dom S H) (h : H p = none) : p ∉ S := fun m => d p m h
theorem Dom.cons {S : AS} {H : Hp} {p : Addr} {o : HO} (d : Dom S H) (h : H p = some o) : Dom (p :: S) H := fun a m => by
  rcases List.mem_cons.mp m with rfl | m
  · rw [h]; intro z; cases z
  · exact d a m
theorem same_new {H : Hp} {p : Addr} {o : HO} (h : H p = none) : Same H (upd H p o) := fun b x e => by
  rw [upd_ne (ne_of_none e h)]
  exact e
theorem fr_upd {T : AS} {H : Hp} {p : Addr} {o : HO} (h : p ∈ T) : Fr T H (upd H p o) := fun b x e n => by
  rw [upd_ne (fun z => n (by rw [z]; exact h))]
  exact e
theorem Dom.upd {S : AS} {H : Hp} {p : Addr} {o : HO} (d : Dom S H) : Dom S (upd H p o) := fun a m => by
  by_cases e : a = p
  · subst e; rw [upd_same]; intro z; cases z
  · rw [upd_ne e]; exact d a m

/-! ### pairs of lists -/
abbrev All2 {α β : Type} := @Paired α β
theorem All2.imp {α β : Type} {F G : α → β → Prop} (h : ∀ a b, F a b → G a b) : ∀ {xs : List α} {ys : List β}, All2 F xs ys → All2 G xs ys
  | _, _, .nil => .nil
  | _, _, .cons a r => .cons (h _ _ a) (All2.imp h r)
theorem All2.len {α β : Type} {F : α → β → Prop} : ∀ {xs : List α} {ys : List β}, All2 F xs ys → xs.length = ys.length
  | _, _, .nil => rfl
  | _, _, .cons _ r => by simp [All2.len r]
theorem All2.get {α β : Type} {F : α → β → Prop} : ∀ {xs : List α} {ys : List β} (i : Nat) {y : β}, All2 F xs ys → ys[i]? = some y → ∃ x, xs[i]? = some x ∧ F x y
  | _, _, i, y, .nil, e => by simp at e
  | _, _, 0, y, .cons a _, e => by simp at e; subst e; exact ⟨_, rfl, a⟩
  | _, _, i + 1, y, .cons _ r, e => by
    obtain ⟨x, h1, h2⟩ := All2.get i (y := y) r (by simpa using e)
    exact ⟨x, by simpa using h1, h2⟩
theorem All2.getL {α β : Type} {F : α → β → Prop} : ∀ {xs : List α} {ys : List β} (i : Nat) {x : α}, All2 F xs ys → xs[i]? = some x → ∃ y, ys[i]? = some y ∧ F x y
  | _, _, i, y, .nil, e => by simp at e
  | _, _, 0, y, .cons a _, e => by simp at e; subst e; exact ⟨_, rfl, a⟩
  | _, _, i + 1, y, .cons _ r, e => by
    obtain ⟨x, h1, h2⟩ := All2.getL i (x := y) r (by simpa using e)
    exact ⟨x, by simpa using h1, h2⟩
theorem All2.snoc {α β : Type} {F : α → β → Prop} {x : α} {y : β} : ∀ {xs : List α} {ys : List β}, All2 F xs ys → F x y → All2 F (xs ++ [x]) (ys ++ [y])
  | _, _, .nil, h => .cons h .nil
  | _, _, .cons a r, h => .cons a (All2.snoc r h)
theorem All2.app {α β : Type} {F : α → β → Prop} : ∀ {xs xs' : List α} {ys ys' : List β}, All2 F xs ys → All2 F xs' ys' → All2 F (xs ++ xs') (ys ++ ys')
  | _, _, _, _, .nil, h => h
  | _, _, _, _, .cons a r, h => .cons a (All2.app r h)
theorem All2.drop {α β : Type} {F : α → β → Prop} : ∀ (n : Nat) {xs : List α} {ys : List β}, All2 F xs ys → All2 F (xs.drop n) (ys.drop n)
  | 0, _, _, h => h
  | _ + 1, _, _, .nil => .nil
  | n + 1, _, _, .cons _ r => All2.drop n r
theorem All2.take {α β : Type} {F : α → β → Prop} : ∀ (n : Nat) {xs : List α} {ys : List β}, All2 F xs ys → All2 F (xs.take n) (ys.take n)
  | 0, _, _, _ => .nil
  | _ + 1, _, _, .nil => .nil
  | n + 1, _, _, .cons a r => .cons a (All2.take n r)
theorem All2.set {α β : Type} {F : α → β → Prop} {x : α} {y : β} (h : F x y) : ∀ (n : Nat) {xs : List α} {ys : List β}, All2 F xs ys → All2 F (xs.set n x) (ys.set n y)
  | _, _, _, .nil => .nil
  | 0, _, _, .cons _ r => .cons h r
  | n + 1, _, _, .cons a r => .cons a (All2.set h n r)
theorem All2.at {α β : Type} {F : α → β → Prop} {xs : List α} {ys : List β} {i : Int} {y : β} (h : All2 F xs ys) (e : atI ys i = some y) : ∃ x, atI xs i = some x ∧ F x y := by
  unfold atI at e ⊢
  rw [h.len]
  cases q : ixN ys.length i with
  | none => rw [q] at e; cases e
  | some j =>
    rw [q] at e
    exact h.get j e

/-! ### codes: what a value stands for -/
def nT (K : PySem.W.Frag) (S : AS) (H : Hp) (a : Addr) (xs : List V) : Prop := (Rd H a (.tup xs) ∧ a ∉ S) ∨ SqT K (fun _ => none) a xs
def nL (K : PySem.W.Frag) (S : AS) (H : Hp) (a : Addr) (xs : List V) : Prop := H a = some (.lst xs) ∧ a ∉ S
theorem not_rd {a : Addr} {u : HO} (h : Rd (fun _ => none) a u) : False := by
  rcases h with h | ⟨_, h⟩ <;> cases h
theorem Rd.some {H : Hp} {a : Addr} {u : HO} (h : Rd H a u) : H a ≠ none := by
  rcases h with h | ⟨_, h⟩ <;> rw [h] <;> intro z <;> cases z
theorem Rd.fr {T : AS} {H H' : Hp} {a : Addr} {u : HO} (h : Rd H a u) (f : Fr T H H') (n : a ∉ T) : Rd H' a u := by
  rcases h with h | ⟨o, h⟩
  · exact .inl (f _ _ h n)
  · exact .inr ⟨o, f _ _ h n⟩
theorem nT.sq {K : PySem.W.Frag} {S : AS} {H : Hp} {a : Addr} {xs : List V} (h : nT K S H a xs) : SqT K H a xs := by
  rcases h with h | h | h
  · exact .inl h.1
  · exact (not_rd h).elim
  · exact .inr h
theorem nL.sq {K : PySem.W.Frag} {S : AS} {H : Hp} {a : Addr} {xs : List V} (h : nL K S H a xs) : SqL K H a xs := .inl (.inl h.1)
theorem nT.mono {K : PySem.W.Frag} {S : AS} {H H' : Hp} {a : Addr} {xs : List V} (f : Fr S H H') (h : nT K S H a xs) : nT K S H' a xs := by
  rcases h with h | h
  · exact .inl ⟨Rd.fr h.1 f h.2, h.2⟩
  · exact .inr h
theorem nL.mono {K : PySem.W.Frag} {S : AS} {H H' : Hp} {a : Addr} {xs : List V} (f : Fr S H H') (h : nL K S H a xs) : nL K S H' a xs := ⟨f _ _ h.1 h.2, h.2⟩
theorem not_cons {S : AS} {H : Hp} {p a : Addr} (hp : H p = none) (ha : H a ≠ none) (n : a ∉ S) : a ∉ p :: S := fun m => by
  rcases List.mem_cons.mp m with rfl | m
  · exact ha hp
  · exact n m
theorem nT.ext {K : PySem.W.Frag} {S : AS} {H : Hp} {a p : Addr} {xs : List V} (hp : H p = none) (h : nT K S H a xs) : nT K (p :: S) H a xs := by
  rcases h with h | h
  · exact .inl ⟨h.1, not_cons hp (Rd.some h.1) h.2⟩
  · exact .inr h
theorem nL.ext {K : PySem.W.Frag} {S : AS} {H : Hp} {a p : Addr} {xs : List V} (hp : H p = none) (h : nL K S H a xs) : nL K (p :: S) H a xs := ⟨h.1, not_cons hp (by rw [h.1]; intro z; cases z) h.2⟩
theorem nT.sub {K : PySem.W.Frag} {S S' : AS} {H : Hp} {a : Addr} {xs : List V} (hs : ∀ a ∈ S', a ∈ S) (h : nT K S H a xs) : nT K S' H a xs := by
  rcases h with h | h
  · exact .inl ⟨h.1, fun m => h.2 (hs _ m)⟩
  · exact .inr h
theorem nL.sub {K : PySem.W.Frag} {S S' : AS} {H : Hp} {a : Addr} {xs : List V} (hs : ∀ a ∈ S', a ∈ S) (h : nL K S H a xs) : nL K S' H a xs := ⟨h.1, fun m => h.2 (hs _ m)⟩

structure Ty (K : PySem.W.Frag) (α : Type) where
  rp : AS → Hp → V → α → Prop
  mono : ∀ {S H H' v x}, Fr S H H' → rp S H v x → rp S H' v x
  ext : ∀ {S H p v x}, H p = none → rp S H v x → rp (p :: S) H v x
  sub : ∀ {S S' H v x}, (∀ a ∈ S', a ∈ S) → rp S H v x → rp S' H v x

section
variable {K : PySem.W.Frag} {α β γ δ ε : Type}
def tInt : Ty K Int := ⟨fun _ _ v i => v = .int i, fun _ h => h, fun _ h => h, fun _ h => h⟩
def tBool : Ty K Bool := ⟨fun _ _ v i => v = .bl i, fun _ h => h, fun _ h => h, fun _ h => h⟩
def tStr : Ty K Str := ⟨fun _ _ v i => v = .str i ∧ PyData.strOk i = true, fun _ h => h, fun _ h => h, fun _ h => h⟩
def tNone : Ty K Unit := ⟨fun _ _ v _ => v = .non, fun _ h => h, fun _ h => h, fun _ h => h⟩
def tOpt (c : Ty K α) : Ty K (Option α) where
  rp S H v
    | none => v = .non
    | some x => v ≠ .non ∧ c.rp S H v x
  mono {S H H' v x} f h := by cases x with | none => exact h | some x => exact ⟨h.1, c.mono f h.2⟩
  ext {S H p v x} f h := by cases x with | none => exact h | some x => exact ⟨h.1, c.ext f h.2⟩
  sub {S S' H v x} f h := by cases x with | none => exact h | some x => exact ⟨h.1, c.sub f h.2⟩
def tT2 (c : Ty K α) (d : Ty K β) : Ty K (α × β) where
  rp S H v x := ∃ a u w, v = .ref a ∧ nT K S H a [u, w] ∧ c.rp S H u x.1 ∧ d.rp S H w x.2
  mono f := fun ⟨a, u, w, e, h, h1, h2⟩ => ⟨a, u, w, e, h.mono f, c.mono f h1, d.mono f h2⟩
  ext f := fun ⟨a, u, w, e, h, h1, h2⟩ => ⟨a, u, w, e, h.ext f, c.ext f h1, d.ext f h2⟩
  sub f := fun ⟨a, u, w, e, h, h1, h2⟩ => ⟨a, u, w, e, h.sub f, c.sub f h1, d.sub f h2⟩
def tT3 (c : Ty K α) (d : Ty K β) (g : Ty K γ) : Ty K (α × β × γ) where
  rp S H v x := ∃ a u w z, v = .ref a ∧ nT K S H a [u, w, z] ∧ c.rp S H u x.1 ∧ d.rp S H w x.2.1 ∧ g.rp S H z x.2.2
  mono f := fun ⟨a, u, w, z, e, h, h1, h2, h3⟩ => ⟨a, u, w, z, e, h.mono f, c.mono f h1, d.mono f h2, g.mono f h3⟩
  ext f := fun ⟨a, u, w, z, e, h, h1, h2, h3⟩ => ⟨a, u, w, z, e, h.ext f, c.ext f h1, d.ext f h2, g.ext f h3⟩
  sub f := fun ⟨a, u, w, z, e, h, h1, h2, h3⟩ => ⟨a, u, w, z, e, h.sub f, c.sub f h1, d.sub f h2, g.sub f h3⟩
/-- a tuple of any length; a list -/
def tTs (c : Ty K α) : Ty K (List α) where
  rp S H v xs := ∃ a vs, v = .ref a ∧ nT K S H a vs ∧ All2 (c.rp S H) vs xs
  mono f := fun ⟨a, vs, e, h, h1⟩ => ⟨a, vs, e, h.mono f, h1.imp fun _ _ => c.mono f⟩
  ext f := fun ⟨a, vs, e, h, h1⟩ => ⟨a, vs, e, h.ext f, h1.imp fun _ _ => c.ext f⟩
  sub f := fun ⟨a, vs, e, h, h1⟩ => ⟨a, vs, e, h.sub f, h1.imp fun _ _ => c.sub f⟩
def tL (c : Ty K α) : Ty K (List α) where
  rp S H v xs := ∃ a vs, v = .ref a ∧ nL K S H a vs ∧ All2 (c.rp S H) vs xs
  mono f := fun ⟨a, vs, e, h, h1⟩ => ⟨a, vs, e, h.mono f, h1.imp fun _ _ => c.mono f⟩
  ext f := fun ⟨a, vs, e, h, h1⟩ => ⟨a, vs, e, h.ext f, h1.imp fun _ _ => c.ext f⟩
  sub f := fun ⟨a, vs, e, h, h1⟩ => ⟨a, vs, e, h.sub f, h1.imp fun _ _ => c.sub f⟩
/-- a ratio: a tuple of two numbers in lowest terms -/
def tRat : Ty K Rat where
  rp S H v q := ∃ a, v = .ref a ∧ nT K S H a [.int q.num, .int (q.den : Int)]
  mono f := fun ⟨a, e, h⟩ => ⟨a, e, h.mono f⟩
  ext f := fun ⟨a, e, h⟩ => ⟨a, e, h.ext f⟩
  sub f := fun ⟨a, e, h⟩ => ⟨a, e, h.sub f⟩
abbrev tSpot : Ty K (Rat × Rat) := tT2 tRat tRat
/-- a list that is owned: at p, and p is of S -/
def Own (c : Ty K α) (S : AS) (H : Hp) (p : Addr) (xs : List α) : Prop := ∃ vs, H p = some (.lst vs) ∧ All2 (c.rp S H) vs xs
/-- a new list -/
def nwL (c : Ty K α) (S : AS) (H0 H : Hp) (v : V) (xs : List α) : Prop := ∃ p, v = .ref p ∧ H0 p = none ∧ Own c (p :: S) H p xs
theorem nwL.rp {c : Ty K α} {S : AS} {H0 H : Hp} {v : V} {xs : List α} (h : nwL c S H0 H v xs) (d : Dom S H0) : (tL c).rp S H v xs := by
  obtain ⟨p, e, hp, vs, hv, ha⟩ := h
  exact ⟨p, vs, e, ⟨hv, d.not_mem hp⟩, ha.imp fun _ _ => c.sub fun _ m => List.mem_cons_of_mem _ m⟩

/-! ### what an expression tells -/
structure Rl (α : Type) where
  r : Hp → Hp → V → α → Prop
  back : ∀ {T H0 H1 H2 v x}, Fr T H0 H1 → Dom T H1 → r H1 H2 v x → r H0 H2 v x
def of (c : Ty K α) (S : AS) : Rl α := ⟨fun _ H v x => c.rp S H v x, fun _ _ h => h⟩
theorem fr_back {T : AS} {H0 H1 : Hp} {p : Addr} (f : Fr T H0 H1) (d : Dom T H1) (n : H1 p = none) : H0 p = none := by
  cases q : H0 p with
  | none => rfl
  | some o =>
    rw [f p o q (d.not_mem n)] at n
    cases n
def nw (c : Ty K α) (S : AS) : Rl (List α) := ⟨nwL c S, fun f d ⟨p, e, n, h⟩ => ⟨p, e, fr_back f d n, h⟩⟩
theorem Rl.same (R : Rl α) {H0 H1 H2 : Hp} {v : V} {x : α} (s : Same H0 H1) (h : R.r H1 H2 v x) : R.r H0 H2 v x := R.back (T := []) (Fr.same s) Dom.nil h
/-- S: what is owned; T: what of it may change while the expression is read (the bag) -/
def Ev (S T : AS) (te : TE) (σ : St) (H : Hp) (R : Rl α) (r : Option α) : Prop :=
  ∀ x, r = some x → ∀ H1, Fr T H H1 → Dom S H1 → ∀ Q : VK, (∀ v H2, Same H1 H2 → R.r H1 H2 v x → Q v H2) → te σ H1 Q
def EvB (S T : AS) (tt : TT) (σ : St) (H : Hp) (r : Option Bool) : Prop :=
  ∀ b, r = some b → ∀ H1, Fr T H H1 → Dom S H1 → ∀ Q : Bool → Hp → Prop, (∀ H2, Same H1 H2 → Q b H2) → tt σ H1 Q
abbrev bd (r : Option α) (k : α → Option β) : Option β := Option.bind r k
theorem bd_some {r : Option α} {k : α → Option β} {y : β} (h : bd r k = some y) : ∃ x, r = some x ∧ k x = some y := by
  cases r with
  | none => cases h
  | some x => exact ⟨x, rfl, h⟩
abbrev Sub (T S : AS) : Prop := ∀ a ∈ T, a ∈ S
variable {S T : AS} {σ : St} {H : Hp} {ta tb te : TE} {tt tu : TT} {a : Ty K α} {b : Ty K β} {c : Ty K γ}
theorem ev_var (ts : Sub T S) {i : Nat} {v : V} {x : α} (h : a.rp S H v x) (e : σ[i]? = some (some v)) : Ev S T (tVar i) σ H (of a S) (some x) := by
  intro y ey H1 f d Q q
  cases ey
  exact ⟨v, e, q v H1 (Same.refl _) (a.mono (f.sub ts) h)⟩
theorem ev_c {v : V} {x : α} (h : ∀ H, a.rp S H v x) : Ev S T (tC v) σ H (of a S) (some x) := by
  intro y ey H1 f d Q q
  cases ey
  exact q v H1 (Same.refl _) (h H1)
theorem ev_int {i : Int} : Ev S T (tC (.int i)) σ H (of (K := K) tInt S) (some i) := ev_c fun _ => rfl
theorem ev_bool {i : Bool} : Ev S T (tC (.bl i)) σ H (of (K := K) tBool S) (some i) := ev_c fun _ => rfl
theorem ev_str {i : Str} (h : PyData.strOk i = true := by decide +kernel) : Ev S T (tC (.str i)) σ H (of (K := K) tStr S) (some i) := ev_c fun _ => ⟨rfl, h⟩
theorem ev_none : Ev S T (tC .non) σ H (of (K := K) tNone S) (some ()) := ev_c fun _ => rfl
/-- another code for the same value -/
theorem ev_as {R : Rl α} {R' : Rl β} {r : Option α} {g : α → Option β} (h : Ev S T te σ H R r) (k : ∀ x y, g x = some y → ∀ H1 H2 v, Dom S H1 → R.r H1 H2 v x → R'.r H1 H2 v y) : Ev S T te σ H R' (bd r g) := by
  intro y ey H1 f d Q q
  obtain ⟨x, ex, ey⟩ := bd_some ey
  exact h x ex H1 f d Q fun v H2 s hv => q v H2 s (k x y ey H1 H2 v d hv)
theorem ev_new {r : Option (List α)} (h : Ev S T te σ H (nw a S) r) : Ev S T te σ H (of (tL a) S) r := by
  intro x ex H1 f d Q q
  exact h x ex H1 f d Q fun v H2 s hv => q v H2 s (nwL.rp hv d)
def OpD (a : Ty K α) (b : Ty K β) (S : AS) (R : Rl γ) (r : R2) (f : α → β → Option γ) : Prop :=
  ∀ x y z, f x y = some z → ∀ H1 v w, Dom S H1 → a.rp S H1 v x → b.rp S H1 w y → ∀ Q : VK, (∀ u H2, Same H1 H2 → R.r H1 H2 u z → Q u H2) → r v w H1 Q
theorem ev_op {R : Rl γ} {r : R2} {f : α → β → Option γ} {ra : Option α} {rb : Option β} (h : OpD a b S R r f) (ha : Ev S T ta σ H (of a S) ra) (hb : Ev S T tb σ H (of b S) rb) :
    Ev S T (tOp r ta tb) σ H R (bd ra fun x => bd rb fun y => f x y) := by
  intro z e H1 f1 d Q q
  obtain ⟨x, ex, e⟩ := bd_some e
  obtain ⟨y, ey, e⟩ := bd_some e
  refine ha x ex H1 f1 d _ fun v H2 s2 hv => hb y ey H2 (f1.trans (Fr.same s2)) (d.same s2) _ fun w H3 s3 hw => h x y z e H3 v w ((d.same s2).same s3) (a.mono (Fr.same s3) hv) hw Q fun u H4 s4 hu => q u H4 (s2.trans (s3.trans s4)) (R.same (s2.trans s3) hu)
/-- ints -/
theorem od_I0 {g : Int → Int → V} {k : Int → Int → γ} (h : ∀ i j H, c.rp S H (g i j) (k i j)) : OpD (K := K) tInt tInt S (of c S) (rI0 g) (fun i j => some (k i j)) := by
  intro x y z e H1 v w d hv hw Q q
  cases e
  exact ⟨x, y, hv, hw, q _ H1 (Same.refl _) (h x y H1)⟩
theorem od_I {C : Int → Int → Prop} {p : Int → Int → Bool} {g : Int → Int → V} {k : Int → Int → γ} (hp : ∀ i j, p i j = true → C i j) (h : ∀ i j H, c.rp S H (g i j) (k i j)) : OpD (K := K) tInt tInt S (of c S) (rI C g) (fun i j => if p i j then some (k i j) else none) := by
  intro x y z e H1 v w d hv hw Q q
  dsimp only at e
  split at e
  · rename_i hc
    cases e
    exact ⟨x, y, hv, hw, hp _ _ hc, q _ H1 (Same.refl _) (h x y H1)⟩
  · cases e
def mulP (i j : Int) : Bool := decide (i.natAbs.log2 + j.natAbs.log2 < 1000000)
def mul? (i j : Int) : Option Int := if mulP i j then some (i * j) else none
theorem od_add : OpD (K := K) tInt tInt S (of (K := K) tInt S) (rI0 fun i j => .int (i + j)) (fun i j => some (i + j)) := od_I0 fun _ _ _ => rfl
theorem od_sub : OpD (K := K) tInt tInt S (of (K := K) tInt S) (rI0 fun i j => .int (i - j)) (fun i j => some (i - j)) := od_I0 fun _ _ _ => rfl
theorem od_mul : OpD (K := K) tInt tInt S (of (K := K) tInt S) (rI CMulW fun i j => .int (i * j)) mul? := od_I (fun i j h => show i.natAbs.log2 + j.natAbs.log2 < 1000000 from of_decide_eq_true h) fun _ _ _ => rfl
theorem od_lt : OpD (K := K) tInt tInt S (of (K := K) tBool S) (rI0 fun i j => .bl (decide (i < j))) (fun i j => some (decide (i < j))) := od_I0 fun _ _ _ => rfl
theorem od_le : OpD (K := K) tInt tInt S (of (K := K) tBool S) (rI0 fun i j => .bl (decide (i ≤ j))) (fun i j => some (decide (i ≤ j))) := od_I0 fun _ _ _ => rfl
theorem od_gt : OpD (K := K) tInt tInt S (of (K := K) tBool S) (rI0 fun i j => .bl (decide (j < i))) (fun i j => some (decide (j < i))) := od_I0 fun _ _ _ => rfl
theorem od_ge : OpD (K := K) tInt tInt S (of (K := K) tBool S) (rI0 fun i j => .bl (decide (j ≤ i))) (fun i j => some (decide (j ≤ i))) := od_I0 fun _ _ _ => rfl
theorem od_eqI : OpD (K := K) tInt tInt S (of (K := K) tBool S) rEq (fun i j => some (decide (i = j))) := by
  intro x y z e H1 v w d hv hw Q q
  cases e; cases hv; cases hw
  refine ⟨rfl, ?_⟩
  rw [show decide (V.int x = V.int y) = decide (x = y) by simp]
  exact q _ H1 (Same.refl _) rfl
theorem od_neI : OpD (K := K) tInt tInt S (of (K := K) tBool S) rNe (fun i j => some (!decide (i = j))) := by
  intro x y z e H1 v w d hv hw Q q
  cases e; cases hv; cases hw
  refine ⟨rfl, ?_⟩
  rw [show decide (V.int x = V.int y) = decide (x = y) by simp]
  exact q _ H1 (Same.refl _) rfl
theorem od_eqS : OpD (K := K) tStr tStr S (of (K := K) tBool S) rEq (fun i j => some (decide (i = j))) := by
  intro x y z e H1 v w d hv hw Q q
  obtain ⟨rfl, _⟩ := hv; obtain ⟨rfl, _⟩ := hw; cases e
  refine ⟨rfl, ?_⟩
  rw [show decide (V.str x = V.str y) = decide (x = y) by simp]
  exact q _ H1 (Same.refl _) rfl
theorem od_neS : OpD (K := K) tStr tStr S (of (K := K) tBool S) rNe (fun i j => some (!decide (i = j))) := by
  intro x y z e H1 v w d hv hw Q q
  obtain ⟨rfl, _⟩ := hv; obtain ⟨rfl, _⟩ := hw; cases e
  refine ⟨rfl, ?_⟩
  rw [show decide (V.str x = V.str y) = decide (x = y) by simp]
  exact q _ H1 (Same.refl _) rfl
/-- an item of a list, of a tuple -/
theorem od_ixL : OpD (tL a) (K := K) tInt S (of a S) (rIxL K) (fun xs i => atI xs i) := by
  intro x y z e H1 v w d hv hw Q q
  obtain ⟨p, vs, rfl, hp, ha⟩ := hv
  cases hw
  obtain ⟨u, hu, hz⟩ := ha.at e
  exact ⟨p, vs, y, u, rfl, rfl, hp.sq, hu, q u H1 (Same.refl _) hz⟩
theorem od_ixTs : OpD (tTs a) (K := K) tInt S (of a S) (rIxT K) (fun xs i => atI xs i) := by
  intro x y z e H1 v w d hv hw Q q
  obtain ⟨p, vs, rfl, hp, ha⟩ := hv
  cases hw
  obtain ⟨u, hu, hz⟩ := ha.at e
  exact ⟨p, vs, y, u, rfl, rfl, hp.sq, hu, q u H1 (Same.refl _) hz⟩
/-- an item of a pair of alike things -/
def at2 (x : α × α) (i : Int) : Option α := atI [x.1, x.2] i
theorem od_ix2 : OpD (tT2 a a) (K := K) tInt S (of a S) (rIxT K) at2 := by
  intro x y z e H1 v w d hv hw Q q
  obtain ⟨p, u1, u2, rfl, hp, h1, h2⟩ := hv
  cases hw
  obtain ⟨u, hu, hz⟩ := All2.at (F := a.rp S H1) (.cons h1 (.cons h2 .nil)) e
  exact ⟨p, _, y, u, rfl, rfl, hp.sq, hu, q u H1 (Same.refl _) hz⟩
/-- items 0, 1 of tuples by their written places -/
theorem ev_ixT {R : Rl γ} {i : Int} {ra : Option α} {g : α → γ} (ha : Ev S T ta σ H (of a S) ra) (h : ∀ x H v, a.rp S H v x → ∃ p vs u, v = .ref p ∧ SqT K H p vs ∧ atI vs i = some u ∧ R.r H H u (g x)) :
    Ev S T (tOp (rIxT K) ta (tC (.int i))) σ H R (bd ra fun x => some (g x)) := by
  intro z e H1 f1 d Q q
  obtain ⟨x, ex, e⟩ := bd_some e
  cases e
  refine ha x ex H1 f1 d _ fun v H2 s2 hv => ?_
  obtain ⟨p, vs, u, rfl, hp, hu, hz⟩ := h x H2 v hv
  exact ⟨p, vs, i, u, rfl, rfl, hp, hu, q u H2 s2 (R.same s2 hz)⟩
theorem ev_ix20 {ra : Option (α × β)} (ha : Ev S T ta σ H (of (tT2 a b) S) ra) : Ev S T (tOp (rIxT K) ta (tC (.int 0))) σ H (of a S) (bd ra fun x => some x.1) :=
  ev_ixT ha fun x H v ⟨p, u, w, e, h, h1, h2⟩ => ⟨p, _, u, e, h.sq, rfl, h1⟩
theorem ev_ix21 {ra : Option (α × β)} (ha : Ev S T ta σ H (of (tT2 a b) S) ra) : Ev S T (tOp (rIxT K) ta (tC (.int 1))) σ H (of b S) (bd ra fun x => some x.2) :=
  ev_ixT ha fun x H v ⟨p, u, w, e, h, h1, h2⟩ => ⟨p, _, w, e, h.sq, rfl, h2⟩
theorem ev_ixR0 {ra : Option Rat} (ha : Ev S T ta σ H (of (K := K) tRat S) ra) : Ev S T (tOp (rIxT K) ta (tC (.int 0))) σ H (of (K := K) tInt S) (bd ra fun x => some x.num) :=
  ev_ixT ha fun x H v ⟨p, e, h⟩ => ⟨p, _, _, e, h.sq, rfl, rfl⟩
theorem ev_ixR1 {ra : Option Rat} (ha : Ev S T ta σ H (of (K := K) tRat S) ra) : Ev S T (tOp (rIxT K) ta (tC (.int 1))) σ H (of (K := K) tInt S) (bd ra fun x => some (x.den : Int)) :=
  ev_ixT ha fun x H v ⟨p, e, h⟩ => ⟨p, _, _, e, h.sq, rfl, rfl⟩
/-! tests -/
theorem eb_test {r : Option Bool} (h : Ev S T te σ H (of (K := K) tBool S) r) : EvB S T (tTest te) σ H r := fun x ex H1 f d Q q => h x ex H1 f d _ fun v H2 s hv => ⟨x, hv, q H2 s⟩
theorem eb_B {r : Option Bool} (h : Ev S T te σ H (of (K := K) tBool S) r) : EvB S T (tB te) σ H r := fun x ex H1 f d Q q => h x ex H1 f d _ fun v H2 s hv => ⟨x, hv, q H2 s⟩
theorem eb_not {r : Option Bool} (h : EvB S T tt σ H r) : EvB S T (tNot tt) σ H (bd r fun x => some (!x)) := by
  intro z e H1 f1 d Q q
  obtain ⟨x, ex, e⟩ := bd_some e
  cases e
  exact h x ex H1 f1 d _ fun H2 s => q H2 s
theorem eb_and {r u : Option Bool} (h : EvB S T tt σ H r) (h' : EvB S T tu σ H u) : EvB S T (tAnd tt tu) σ H (bd r fun x => if x then u else some false) := by
  intro z e H1 f1 d Q q
  obtain ⟨x, ex, e⟩ := bd_some e
  refine h x ex H1 f1 d _ fun H2 s => ?_
  cases x with
  | true => exact (if_pos rfl).symm ▸ h' z e H2 (f1.trans (Fr.same s)) (d.same s) Q fun H3 s3 => q H3 (s.trans s3)
  | false => cases e; exact q H2 s
theorem eb_or {r u : Option Bool} (h : EvB S T tt σ H r) (h' : EvB S T tu σ H u) : EvB S T (tOr tt tu) σ H (bd r fun x => if x then some true else u) := by
  intro z e H1 f1 d Q q
  obtain ⟨x, ex, e⟩ := bd_some e
  refine h x ex H1 f1 d _ fun H2 s => ?_
  cases x with
  | false => exact h' z e H2 (f1.trans (Fr.same s)) (d.same s) Q fun H3 s3 => q H3 (s.trans s3)
  | true => cases e; exact q H2 s
theorem ev_if {R : Rl γ} {r : Option Bool} {ra rb : Option γ} (h : EvB S T tt σ H r) (ha : Ev S T ta σ H R ra) (hb : Ev S T tb σ H R rb) : Ev S T (tIf tt ta tb) σ H R (bd r fun x => if x then ra else rb) := by
  intro z e H1 f1 d Q q
  obtain ⟨x, ex, e⟩ := bd_some e
  refine h x ex H1 f1 d _ fun H2 s => ?_
  cases x with
  | true => exact ha z e H2 (f1.trans (Fr.same s)) (d.same s) Q fun v H3 s3 hv => q v H3 (s.trans s3) (R.same s hv)
  | false => exact hb z e H2 (f1.trans (Fr.same s)) (d.same s) Q fun v H3 s3 hv => q v H3 (s.trans s3) (R.same s hv)
theorem ev_and {r u : Option Bool} (h : Ev S T ta σ H (of (K := K) tBool S) r) (h' : Ev S T tb σ H (of (K := K) tBool S) u) : Ev S T (tAndV ta tb) σ H (of (K := K) tBool S) (bd r fun x => if x then u else some false) := by
  intro z e H1 f1 d Q q
  obtain ⟨x, ex, e⟩ := bd_some e
  refine h x ex H1 f1 d _ fun v H2 s hv => ⟨x, hv, ?_⟩
  cases x with
  | true => exact h' z e H2 (f1.trans (Fr.same s)) (d.same s) Q fun v H3 s3 hv => q v H3 (s.trans s3) hv
  | false => cases e; exact q _ H2 s rfl
theorem ev_or {r u : Option Bool} (h : Ev S T ta σ H (of (K := K) tBool S) r) (h' : Ev S T tb σ H (of (K := K) tBool S) u) : Ev S T (tOrV ta tb) σ H (of (K := K) tBool S) (bd r fun x => if x then some true else u) := by
  intro z e H1 f1 d Q q
  obtain ⟨x, ex, e⟩ := bd_some e
  refine h x ex H1 f1 d _ fun v H2 s hv => ⟨x, hv, ?_⟩
  cases x with
  | false => exact h' z e H2 (f1.trans (Fr.same s)) (d.same s) Q fun v H3 s3 hv => q v H3 (s.trans s3) hv
  | true => cases e; exact q _ H2 s rfl
theorem ev_not {r : Option Bool} (h : Ev S T ta σ H (of (K := K) tBool S) r) : Ev S T (tNotV ta) σ H (of (K := K) tBool S) (bd r fun x => some (!x)) := by
  intro z e H1 f1 d Q q
  obtain ⟨x, ex, e⟩ := bd_some e
  cases e
  exact h x ex H1 f1 d _ fun v H2 s hv => ⟨x, hv, q _ H2 s rfl⟩

/-! ### arguments and calls -/
structure TyA (K : PySem.W.Frag) (α : Type) where
  rp : AS → Hp → List V → α → Prop
  mono : ∀ {S H H' v x}, Fr S H H' → rp S H v x → rp S H' v x
def aNil : TyA K Unit := ⟨fun _ _ vs _ => vs = [], fun _ h => h⟩
def aCons (c : Ty K α) (t : TyA K β) : TyA K (α × β) := ⟨fun S H vs x => ∃ v r, vs = v :: r ∧ c.rp S H v x.1 ∧ t.rp S H r x.2, fun f ⟨v, r, e, h, h'⟩ => ⟨v, r, e, c.mono f h, t.mono f h'⟩⟩
def EvA (S T : AS) (ta : TA) (σ : St) (H : Hp) (t : TyA K α) (r : Option α) : Prop :=
  ∀ x, r = some x → ∀ H1, Fr T H H1 → Dom S H1 → ∀ Q : List V → Hp → Prop, (∀ vs H2, Same H1 H2 → t.rp S H2 vs x → Q vs H2) → ta σ H1 Q
theorem ea_nil : EvA S T tNil σ H (K := K) aNil (some ()) := fun _ e H1 f d Q q => q [] H1 (Same.refl _) rfl
theorem ea_cons {tr : TA} {t : TyA K β} {ra : Option α} {rr : Option β} (h : Ev S T ta σ H (of a S) ra) (hr : EvA S T tr σ H t rr) : EvA S T (tCons ta tr) σ H (aCons a t) (bd ra fun x => bd rr fun y => some (x, y)) := by
  intro z e H1 f1 d Q q
  obtain ⟨x, ex, e⟩ := bd_some e
  obtain ⟨y, ey, e⟩ := bd_some e
  cases e
  exact h x ex H1 f1 d _ fun v H2 s2 hv => hr y ey H2 (f1.trans (Fr.same s2)) (d.same s2) _ fun vs H3 s3 hw => q _ H3 (s2.trans s3) ⟨v, vs, rfl, a.mono (Fr.same s3) hv, hw⟩
/-- the promise of a def that changes nothing -/
def spF (t : TyA K α) (R : AS → Rl γ) (f : α → Option γ) : Sp := fun vs H Q _ => ∃ S x z, Dom S H ∧ t.rp S H vs x ∧ f x = some z ∧ ∀ u H', Same H H' → (R S).r H H' u z → Q u H'
theorem ev_call {ta : TA} {t : TyA K α} {R : AS → Rl γ} {f : α → Option γ} {r : Option α} {E : XK} (h : EvA S T ta σ H t r) : Ev S T (tCall (spF t R f) [] E ta) σ H (R S) (bd r f) := by
  intro z e H1 f1 d Q q
  obtain ⟨x, ex, e⟩ := bd_some e
  refine h x ex H1 f1 d _ fun vs H2 s2 hv => ⟨S, x, z, d.same s2, ?_, e, fun u H' s hu => q u H' (s2.trans s) ((R S).same s2 hu)⟩
  rw [List.append_nil]
  exact hv
/-! displays -/
theorem ev_tup2 {ra : Option α} {rb : Option β} (ha : Ev S T ta σ H (of a S) ra) (hb : Ev S T tb σ H (of b S) rb) : Ev S T (tTup (tCons ta (tCons tb tNil))) σ H (of (tT2 a b) S) (bd ra fun x => bd rb fun y => some (x, y)) := by
  intro z e H1 f1 d Q q
  obtain ⟨x, ex, e⟩ := bd_some e
  obtain ⟨y, ey, e⟩ := bd_some e
  cases e
  refine ha x ex H1 f1 d _ fun v H2 s2 hv => hb y ey H2 (f1.trans (Fr.same s2)) (d.same s2) _ fun w H3 s3 hw => ⟨(by show 2 ≤ sizeLine; decide), fun p hp => ?_⟩
  have s4 := same_new (o := .tup [v, w]) hp
  exact q _ _ (s2.trans (s3.trans s4)) ⟨p, v, w, rfl, .inl ⟨.inl upd_same, ((d.same s2).same s3).not_mem hp⟩, a.mono (Fr.same (s3.trans s4)) hv, b.mono (Fr.same s4) hw⟩
end
end M

namespace M
open PySem L2
section
variable {K : PySem.W.Frag} {α β γ δ ε ρ : Type} {S T : AS} {σ : St} {H : Hp} {ta tb te : TE} {tt tu : TT} {a : Ty K α} {b : Ty K β} {c : Ty K γ} {D : Ends} {u t1 t2 : TS}
theorem if_t {A B : Option α} {y : α} (h : (if true = true then A else B) = some y) : A = some y := h
theorem if_f {A B : Option α} {y : α} (h : (if false = true then A else B) = some y) : B = some y := h
theorem q_asg {R : Rl α} {r : Option α} {x : α} {i : Nat} (d : Dom S H) (h : Ev S T te σ H R r) (e : r = some x) (k : ∀ v H1, Same H H1 → R.r H H1 v x → u D (σ.set i (some v)) H1) : tSeq (tAsg te (gName i)) u D σ H := h x e H (Fr.refl _) d _ k
theorem l_asg {R : Rl α} {r : Option α} {x : α} {i : Nat} (d : Dom S H) (h : Ev S T te σ H R r) (e : r = some x) (k : ∀ v H1, Same H H1 → R.r H H1 v x → D.nx (σ.set i (some v)) H1) : tAsg te (gName i) D σ H := h x e H (Fr.refl _) d _ k
theorem q_ret {R : Rl α} {r : Option α} {x : α} (d : Dom S H) (h : Ev S T te σ H R r) (e : r = some x) (k : ∀ v H1, Same H H1 → R.r H H1 v x → D.rt v H1) : tRet te D σ H := h x e H (Fr.refl _) d _ k
theorem l_if {r : Option Bool} {b : Bool} (d : Dom S H) (h : EvB S T tt σ H r) (e : r = some b) (k1 : b = true → ∀ H1, Same H H1 → t1 D σ H1) (k2 : b = false → ∀ H1, Same H H1 → t2 D σ H1) : tIfS tt t1 t2 D σ H := h b e H (Fr.refl _) d _ fun H1 s => by
  cases b with
  | true => exact k1 rfl H1 s
  | false => exact k2 rfl H1 s
theorem q_if {r : Option Bool} {b : Bool} (d : Dom S H) (h : EvB S T tt σ H r) (e : r = some b) (k1 : b = true → ∀ H1, Same H H1 → t1 { D with nx := u D } σ H1) (k2 : b = false → ∀ H1, Same H H1 → t2 { D with nx := u D } σ H1) : tSeq (tIfS tt t1 t2) u D σ H := l_if (D := { D with nx := u D }) d h e k1 k2
theorem q_next {u : TS} {D : Ends} {σ : St} {H : Hp} (h : u D σ H) : tNext { D with nx := u D } σ H := h
theorem l_next (h : D.nx σ H) : tNext D σ H := h
theorem seq_by {t u : TS} (Pv : St → Hp → Prop) (h2 : ∀ σ H, Pv σ H → u D σ H) (h1 : (∀ σ H, Pv σ H → u D σ H) → t { D with nx := u D } σ H) : tSeq t u D σ H := h1 h2
/-- two names at once: a, b = e, f -/
theorem q_par {i j : Nat} {ra : Option α} {rb : Option β} {x : α} {y : β} (d : Dom S H) (ha : Ev S T ta σ H (of a S) ra) (ea : ra = some x) (hb : Ev S T tb σ H (of b S) rb) (eb : rb = some y) (k : ∀ v w H1, Same H H1 → a.rp S H1 v x → b.rp S H1 w y → u D ((σ.set i (some v)).set j (some w)) H1) :
    tSeq (tPar i j (tCons ta (tCons tb tNil))) u D σ H := ha x ea H (Fr.refl _) d _ fun v H1 s1 hv => hb y eb H1 (Fr.same s1) (d.same s1) _ fun w H2 s2 hw => ⟨v, w, rfl, k v w H2 (s1.trans s2) (a.mono (Fr.same s2) hv) hw⟩

theorem q_par2 {i j : Nat} {ra : Option α} {rb : Option β} {x : α} {y : β} (d : Dom S H) (ha : Ev S T ta σ H (of a S) ra) (ea : ra = some x) (hb : Ev S T tb σ H (of b S) rb) (eb : rb = some y) (k : ∀ v w H1, Same H H1 → a.rp S H1 v x → b.rp S H1 w y → u D ((σ.set i (some v)).set j (some w)) H1) :
    tSeq (tAsg (tTup (tCons ta (tCons tb tNil))) (gTup K 2 (gCons (gName i) (gCons (gName j) gNil)))) u D σ H := ha x ea H (Fr.refl _) d _ fun v H1 s1 hv => hb y eb H1 (Fr.same s1) (d.same s1) _ fun w H2 s2 hw => ⟨(by show 2 ≤ sizeLine; decide), fun p hp =>
  ⟨p, _, rfl, .inl (.inl upd_same), rfl, v, _, rfl, w, _, rfl, rfl, k v w _ ((s1.trans s2).trans (same_new hp)) (a.mono (Fr.same (s2.trans (same_new hp))) hv) (b.mono (Fr.same (same_new hp)) hw)⟩⟩
/-! ### loops -/
/-- one turn's end: go on, or tell y -/
inductive Ct (ρ σ : Type) where
  | go (s : σ) | ret (y : ρ) | brk (s : σ)
def loopC (f : δ → α → Option (Ct ρ δ)) : List α → δ → Option (Ct ρ δ)
  | [], s => some (.go s)
  | x :: xs, s => (f s x).bind fun r => match r with | .go s' => loopC f xs s' | .ret y => some (.ret y) | .brk s' => some (.go s')
def rngL (lo : Int) (n : Nat) : List Int := (List.range n).map fun (i : Nat) => lo + (i : Int)
def rngP (i : Int) : Bool := Nat.ble i.natAbs 4611686018427387903
theorem rngP_le {i : Int} (h : rngP i = true) : -(2 ^ 62) ≤ i ∧ i < 2 ^ 62 := by
  have h2 : i.natAbs ≤ 4611686018427387903 := Nat.le_of_ble_eq_true h
  omega
def rng1? (n : Int) : Option (List Int) := if rngP n then some (rngL 0 n.toNat) else none
def rng2? (lo n : Int) : Option (List Int) := if rngP lo && rngP n then some (rngL lo (n - lo).toNat) else none
/-- what is walked: xs, by their values at the heap H0, while nothing of it changes -/
structure Wk (J : It) (a : Ty K α) (S : AS) (H0 : Hp) (xs : List α) : Prop where
  go : ∀ H' i, Fr S H0 H' → i < xs.length → J.go i H'
  yl : ∀ H' i v H'', Fr S H0 H' → J.yld i H' v H'' → ∀ y, xs[i]? = some y → H'' = H' ∧ a.rp S H0 v y
  st : ∀ H' i, Fr S H0 H' → xs.length ≤ i → J.stop i H'
def Sr (S T : AS) (wi : TI) (σ : St) (H : Hp) (a : Ty K α) (r : Option (List α)) : Prop :=
  ∀ xs, r = some xs → ∀ H1, Fr T H H1 → Dom S H1 → ∀ R : It → Hp → Prop, (∀ J H2, Same H1 H2 → Wk J a S H2 xs → R J H2) → wi σ H1 R
theorem wk_list {p : Addr} {vs : List V} {xs : List α} {S : AS} {H : Hp} (hp : nL K S H p vs) (ha : All2 (a.rp S H) vs xs) : Wk (Itl K p) a S H xs where
  go H' i f hi := by
    obtain ⟨v, hv, _⟩ := ha.get i (List.getElem?_eq_getElem hi)
    exact ⟨vs, v, (hp.mono f).sq, hv⟩
  yl H' i v H'' f h y hy := by
    obtain ⟨w, hw, hr⟩ := ha.get i hy
    obtain ⟨e, hx⟩ := h
    have := hx vs (hp.mono f).sq
    rw [hw] at this
    cases this
    exact ⟨e, hr⟩
  st H' i f hi := ⟨vs, (hp.mono f).sq, by rw [ha.len]; exact hi⟩
theorem wk_tup {p : Addr} {vs : List V} {xs : List α} {S : AS} {H : Hp} (hp : nT K S H p vs) (ha : All2 (a.rp S H) vs xs) : Wk (Itt K p) a S H xs where
  go H' i f hi := by
    obtain ⟨v, hv, _⟩ := ha.get i (List.getElem?_eq_getElem hi)
    exact ⟨vs, v, (hp.mono f).sq, hv⟩
  yl H' i v H'' f h y hy := by
    obtain ⟨w, hw, hr⟩ := ha.get i hy
    obtain ⟨e, hx⟩ := h
    have := hx vs (hp.mono f).sq
    rw [hw] at this
    cases this
    exact ⟨e, hr⟩
  st H' i f hi := ⟨vs, (hp.mono f).sq, by rw [ha.len]; exact hi⟩
theorem wk_rng {lo : Int} {n : Nat} {S : AS} {H : Hp} : Wk (Itr lo n) (tInt (K := K)) S H (rngL lo n) where
  go H' i f hi := by
    show i < n
    simpa [rngL] using hi
  yl H' i v H'' f h y hy := by
    obtain ⟨e, hx⟩ := h
    refine ⟨e, ?_⟩
    unfold rngL at hy
    rw [List.getElem?_map] at hy
    cases q : (List.range n)[i]? with
    | none => rw [q] at hy; cases hy
    | some k =>
      rw [q] at hy
      cases hy
      have : k = i := by
        have := (List.getElem?_eq_some_iff.mp q).2
        simp at this
        omega
      subst this
      exact hx
  st H' i f hi := by
    show n ≤ i
    simpa [rngL] using hi
theorem sr_list {tl : TE} {r : Option (List α)} (h : Ev S T tl σ H (of (tL a) S) r) : Sr S T (iList K tl) σ H a r := fun xs e H1 f d R q =>
  h xs e H1 f d _ fun v H2 s ⟨p, vs, ev, hp, ha⟩ => ⟨p, ev, ⟨vs, hp.sq⟩, q _ H2 s (wk_list hp ha)⟩
theorem sr_tup {tl : TE} {r : Option (List α)} (h : Ev S T tl σ H (of (tTs a) S) r) : Sr S T (iTup K tl) σ H a r := fun xs e H1 f d R q =>
  h xs e H1 f d _ fun v H2 s ⟨p, vs, ev, hp, ha⟩ => ⟨p, ev, ⟨vs, hp.sq⟩, q _ H2 s (wk_tup hp ha)⟩
theorem sr_t2 {tl : TE} {r : Option (α × α)} (h : Ev S T tl σ H (of (tT2 a a) S) r) : Sr S T (iTup K tl) σ H a (bd r fun x => some [x.1, x.2]) := fun xs e H1 f d R q => by
  obtain ⟨x, ex, e⟩ := bd_some e
  cases e
  exact h x ex H1 f d _ fun v H2 s ⟨p, u, w, ev, hp, h1, h2⟩ => ⟨p, ev, ⟨_, hp.sq⟩, q _ H2 s (wk_tup hp (.cons h1 (.cons h2 .nil)))⟩
theorem sr_r1 {te : TE} {r : Option Int} (h : Ev S T te σ H (of (K := K) tInt S) r) : Sr S T (iRng1 (tCons te tNil)) σ H (tInt (K := K)) (bd r rng1?) := fun xs e H1 f d R q => by
  obtain ⟨n, en, e⟩ := bd_some e
  unfold rng1? at e
  split at e
  · rename_i hn
    cases e
    have hb := rngP_le hn
    refine h n en H1 f d _ fun v H2 s hv => ?_
    cases hv
    exact ⟨n, rfl, hb.1, hb.2, q _ H2 s wk_rng⟩
  · cases e
theorem sr_r2 {te tg : TE} {r r' : Option Int} (h : Ev S T te σ H (of (K := K) tInt S) r) (h' : Ev S T tg σ H (of (K := K) tInt S) r') : Sr S T (iRng2 (tCons te (tCons tg tNil))) σ H (tInt (K := K)) (bd r fun x => bd r' fun y => rng2? x y) := fun xs e H1 f d R q => by
  obtain ⟨lo, el, e⟩ := bd_some e
  obtain ⟨n, en, e⟩ := bd_some e
  unfold rng2? at e
  split at e
  · rename_i hn
    cases e
    rw [Bool.and_eq_true] at hn
    have hb := rngP_le hn.1
    have hc := rngP_le hn.2
    refine h lo el H1 f d _ fun v H2 s hv => h' n en H2 (f.trans (Fr.same s)) (d.same s) _ fun v' H3 s3 hv' => ?_
    cases hv
    cases hv'
    exact ⟨lo, n, rfl, ⟨hb.1, hb.2, hc.1, hc.2⟩, q _ H3 (s.trans s3) wk_rng⟩
  · cases e
/-- a walk; I: what is known of the state at each turn -/
theorem for_s {wi : TI} {j : Nat} {tb : TS} {r : Option (List α)} {xs : List α} {s0 : δ} {f : δ → α → Option (Ct ρ δ)} {res : Ct ρ δ} (d : Dom S H) (h : Sr S T wi σ H a r) (e : r = some xs) (hf : loopC f xs s0 = some res)
    (I : δ → St → Hp → Prop) (h0 : ∀ H1, Same H H1 → I s0 σ H1)
    (step : (∀ s σ' H', res = .go s → I s σ' H' → D.nx σ' H') → ∀ (s : δ) (x : α) (cr : Ct ρ δ) (v : V) (σ' : St) (H' : Hp), I s σ' H' → a.rp S H' v x → x ∈ xs → f s x = some cr → (∀ y, cr = .ret y → res = .ret y) → (∀ s', cr = .brk s' → res = .go s') →
      tb { D with nx := fun σ2 H2 => ∃ s', cr = .go s' ∧ Fr S H' H2 ∧ I s' σ2 H2, ct := fun σ2 H2 => ∃ s', cr = .go s' ∧ Fr S H' H2 ∧ I s' σ2 H2, bk := D.nx } (σ'.set j (some v)) H')
    (done : ∀ s σ' H', res = .go s → I s σ' H' → D.nx σ' H') : tFor wi (gName j) tb D σ H := by
  refine h xs e H (Fr.refl _) d _ fun J H1 s1 wk => ?_
  refine ⟨fun i m σ' H' => m = xs.length - i ∧ i ≤ xs.length ∧ Fr S H1 H' ∧ ∃ s, I s σ' H' ∧ loopC f (xs.drop i) s = some res, ⟨_, rfl, Nat.zero_le _, Fr.refl _, s0, h0 H1 s1, hf⟩, ?_⟩
  rintro i m σ' H' ⟨rfl, hi, fr, s, hI, hl⟩
  by_cases c : i < xs.length
  · right
    rw [List.drop_eq_getElem_cons c] at hl
    simp only [loopC] at hl
    cases q : f s xs[i] with
    | none => rw [q] at hl; cases hl
    | some cr =>
      rw [q] at hl
      refine ⟨wk.go H' i fr c, fun σ2 H2 => ∃ s', cr = .go s' ∧ Fr S H' H2 ∧ I s' σ2 H2, ?_, ?_⟩
      · rintro σ2 H2 ⟨s', rfl, f2, hI'⟩
        exact ⟨xs.length - (i + 1), by omega, rfl, by omega, fr.trans f2, s', hI', hl⟩
      · intro v H2 hy
        obtain ⟨rfl, hv⟩ := wk.yl H' i v H2 fr hy _ (List.getElem?_eq_getElem c)
        exact step done s xs[i] cr v σ' _ hI (a.mono fr hv) (List.getElem_mem c) q (fun y ey => by subst ey; cases hl; rfl) (fun s' ey => by subst ey; cases hl; rfl)
  · left
    refine ⟨wk.st H' i fr (by omega), ?_⟩
    rw [List.drop_eq_nil_of_le (by omega)] at hl
    cases hl
    exact done s σ' H' rfl hI
theorem q_for_s {wi : TI} {j : Nat} {tb : TS} {r : Option (List α)} {xs : List α} {s0 : δ} {f : δ → α → Option (Ct ρ δ)} {res : Ct ρ δ} (d : Dom S H) (h : Sr S T wi σ H a r) (e : r = some xs) (hf : loopC f xs s0 = some res)
    (I : δ → St → Hp → Prop) (h0 : ∀ H1, Same H H1 → I s0 σ H1)
    (step : (∀ s σ' H', res = .go s → I s σ' H' → u D σ' H') → ∀ (s : δ) (x : α) (cr : Ct ρ δ) (v : V) (σ' : St) (H' : Hp), I s σ' H' → a.rp S H' v x → x ∈ xs → f s x = some cr → (∀ y, cr = .ret y → res = .ret y) → (∀ s', cr = .brk s' → res = .go s') →
      tb { D with nx := fun σ2 H2 => ∃ s', cr = .go s' ∧ Fr S H' H2 ∧ I s' σ2 H2, ct := fun σ2 H2 => ∃ s', cr = .go s' ∧ Fr S H' H2 ∧ I s' σ2 H2, bk := u D } (σ'.set j (some v)) H')
    (done : ∀ s σ' H', res = .go s → I s σ' H' → u D σ' H') : tSeq (tFor wi (gName j) tb) u D σ H := for_s (D := { D with nx := u D }) d h e hf I h0 step done
/-! slices of lists -/
def cutD (xs : List α) (lo hi : Option Int) : List α := (xs.drop (HT.sIx xs.length 0 lo)).take (HT.sIx xs.length xs.length hi - HT.sIx xs.length 0 lo)
theorem All2.cut {F : V → α → Prop} {vs : List V} {xs : List α} (h : All2 F vs xs) (lo hi : Option Int) : All2 F (cutV vs lo hi) (cutD xs lo hi) := by
  unfold cutV cutD
  rw [h.len]
  exact (h.drop _).take _
def EvO (S T : AS) (to : TO) (σ : St) (H : Hp) (r : Option (Option Int)) : Prop :=
  ∀ x, r = some x → ∀ H1, Fr T H H1 → Dom S H1 → ∀ Q : Option Int → Hp → Prop, (∀ H2, Same H1 H2 → Q x H2) → to σ H1 Q
theorem eo_none : EvO S T tNoPart σ H (some none) := fun x e H1 f d Q q => by cases e; exact q H1 (Same.refl _)
theorem eo_some {r : Option Int} (h : Ev S T te σ H (of (K := K) tInt S) r) : EvO S T (tPart te) σ H (bd r fun i => some (some i)) := fun x e H1 f d Q q => by
  obtain ⟨i, ei, e⟩ := bd_some e
  cases e
  exact h i ei H1 f d _ fun v H2 s hv => ⟨i, hv, q H2 s⟩
theorem ev_slL {tl th : TO} {ra : Option (List α)} {rl rh : Option (Option Int)} (ha : Ev S T ta σ H (of (tL a) S) ra) (hl : EvO S T tl σ H rl) (hh : EvO S T th σ H rh) :
    Ev S T (tSl (rSlL K) ta tl th) σ H (nw a S) (bd ra fun xs => bd rl fun l => bd rh fun h => some (cutD xs l h)) := by
  intro z e H1 f1 d Q q
  obtain ⟨xs, ex, e⟩ := bd_some e
  obtain ⟨l, el, e⟩ := bd_some e
  obtain ⟨h, eh, e⟩ := bd_some e
  cases e
  refine ha xs ex H1 f1 d _ fun v H2 s2 hv => hl l el H2 (f1.trans (Fr.same s2)) (d.same s2) _ fun H3 s3 => hh h eh H3 (f1.trans (Fr.same (s2.trans s3))) (d.same (s2.trans s3)) _ fun H4 s4 => ?_
  obtain ⟨p, vs, rfl, hp, hvs⟩ := (tL a).mono (Fr.same (s3.trans s4)) hv
  refine ⟨p, vs, rfl, hp.sq, fun p' hp' => q _ _ ((s2.trans (s3.trans s4)).trans (same_new hp')) ⟨p', rfl, (s2.trans (s3.trans s4)).free hp', _, upd_same, ?_⟩⟩
  exact (hvs.cut l h).imp fun _ _ hh => a.mono (Fr.same (same_new hp')) (a.ext hp' hh)
end
end M

namespace M
open PySem L2
section
variable {K : PySem.W.Frag} {α β γ δ ε ρ : Type} {S T : AS} {σ : St} {H : Hp} {ta tb te : TE} {tt tu : TT} {a : Ty K α} {b : Ty K β} {c : Ty K γ} {D : Ends} {u t1 t2 : TS}
/-! ### ratios -/
/-- a pair of numbers as a ratio -/
def p2r (x : Int × Int) : Option Rat := if (mkRat x.1 x.2.toNat).num = x.1 ∧ ((mkRat x.1 x.2.toNat).den : Int) = x.2 then some (mkRat x.1 x.2.toNat) else none
theorem p2r_rat (q : Rat) : p2r (q.num, (q.den : Int)) = some q := by
  unfold p2r
  simp only [Int.toNat_natCast, Rat.mkRat_self, and_self, if_true]
theorem ev_p2r {r : Option (Int × Int)} (h : Ev S T te σ H (of (K := K) (tT2 tInt tInt) S) r) : Ev S T te σ H (of (K := K) tRat S) (bd r p2r) := ev_as h fun x y e H1 H2 v d ⟨p, u, w, ev, hp, h1, h2⟩ => by
  unfold p2r at e
  split at e
  · rename_i hc
    cases e
    refine ⟨p, ev, ?_⟩
    rw [hc.1, hc.2, ← h1, ← h2]
    exact hp
  · cases e
/-- a ratio as a pair of numbers -/
theorem ev_r2p {r : Option Rat} (h : Ev S T te σ H (of (K := K) tRat S) r) : Ev S T te σ H (of (K := K) (tT2 tInt tInt) S) (bd r fun q => some (q.num, (q.den : Int))) := ev_as h fun x y e H1 H2 v d ⟨p, ev, hp⟩ => by
  cases e
  exact ⟨p, _, _, ev, hp, rfl, rfl⟩
/-! ints -/
theorem ev_neg {r : Option Int} (h : Ev S T te σ H (of (K := K) tInt S) r) : Ev S T (tUn (rU fun i => .int (-i)) te) σ H (of (K := K) tInt S) (bd r fun x => some (-x)) := by
  intro z e H1 f1 d Q q
  obtain ⟨x, ex, e⟩ := bd_some e
  cases e
  exact h x ex H1 f1 d _ fun v H2 s hv => ⟨x, hv, q _ H2 s rfl⟩
theorem ev_abs {r : Option Int} (h : Ev S T te σ H (of (K := K) tInt S) r) : Ev S T (tCB (fun xs H Q => ∃ i, xs = [.int i] ∧ Q (.int (if i < 0 then -i else i)) H) (tCons te tNil)) σ H (of (K := K) tInt S) (bd r fun x => some ((x.natAbs : Nat) : Int)) := by
  intro z e H1 f1 d Q q
  obtain ⟨x, ex, e⟩ := bd_some e
  cases e
  refine h x ex H1 f1 d _ fun v H2 s hv => ?_
  cases hv
  exact ⟨x, rfl, q _ H2 s (by show V.int _ = V.int _; congr 1; split <;> omega)⟩
def fdivP (j : Int) : Bool := decide (j ≠ 0 ∧ j.natAbs.log2 < 9000)
def fdiv? (i j : Int) : Option Int := if fdivP j then some (i.fdiv j) else none
/-! len -/
theorem ev_lenL {r : Option (List α)} (h : Ev S T te σ H (of (tL a) S) r) : Ev S T (tCB (fun xs H Q => ∃ p ys, xs = [.ref p] ∧ (SqL K H p ys ∨ SqT K H p ys) ∧ Q (.int ys.length) H) (tCons te tNil)) σ H (of (K := K) tInt S) (bd r fun x => some (x.length : Int)) := by
  intro z e H1 f1 d Q q
  obtain ⟨x, ex, e⟩ := bd_some e
  cases e
  refine h x ex H1 f1 d _ fun v H2 s hv => ?_
  obtain ⟨p, vs, rfl, hp, ha⟩ := hv
  exact ⟨p, vs, rfl, .inl hp.sq, q _ H2 s (by show V.int _ = V.int _; rw [ha.len])⟩
theorem ev_lenTs {r : Option (List α)} (h : Ev S T te σ H (of (tTs a) S) r) : Ev S T (tCB (fun xs H Q => ∃ p ys, xs = [.ref p] ∧ (SqL K H p ys ∨ SqT K H p ys) ∧ Q (.int ys.length) H) (tCons te tNil)) σ H (of (K := K) tInt S) (bd r fun x => some (x.length : Int)) := by
  intro z e H1 f1 d Q q
  obtain ⟨x, ex, e⟩ := bd_some e
  cases e
  refine h x ex H1 f1 d _ fun v H2 s hv => ?_
  obtain ⟨p, vs, rfl, hp, ha⟩ := hv
  exact ⟨p, vs, rfl, .inr hp.sq, q _ H2 s (by show V.int _ = V.int _; rw [ha.len])⟩
/-! == of things by what they stand for -/
structure TyD (a : Ty K α) where
  dt : α → PyData
  dep : Nat
  dp : ∀ {S H v x}, a.rp S H v x → Dp K H v (dt x)
  shp : ∀ {S H v x}, a.rp S H v x → PyData.canLay0 (dt x) = true
  hd : ∀ x, PyData.depth (dt x) ≤ dep
  eqv : ∀ x y, PyData.eqv (dt x) (dt y) = true ↔ x = y
def dInt : TyD (K := K) tInt := ⟨.int, 0, fun h => by cases h; exact .int _, fun _ => rfl, fun _ => Nat.le_refl _, fun x y => by simp [PyData.eqv]⟩
def dBool : TyD (K := K) tBool := ⟨.bool, 0, fun h => by cases h; exact .bl _, fun _ => rfl, fun _ => Nat.le_refl _, fun x y => by simp [PyData.eqv]⟩
def dStr : TyD (K := K) tStr := ⟨.str, 0, fun h => by rw [h.1]; exact .str _, fun h => h.2, fun _ => Nat.le_refl _, fun x y => by simp [PyData.eqv]⟩
def dNone : TyD (K := K) tNone := ⟨fun _ => .none, 0, fun h => by cases h; exact .non, fun _ => rfl, fun _ => Nat.le_refl _, fun x y => by simp [PyData.eqv]⟩
theorem dpAll {a : Ty K α} (d : TyD a) {S : AS} {H : Hp} : ∀ {vs : List V} {xs : List α}, All2 (a.rp S H) vs xs → DpAll K H vs (xs.map d.dt)
  | _, _, .nil => .nil
  | _, _, .cons h r => .cons (d.dp h) (dpAll d r)
theorem shpAll {a : Ty K α} (d : TyD a) {S : AS} {H : Hp} : ∀ {vs : List V} {xs : List α}, All2 (a.rp S H) vs xs → PyData.canLayAll0 (xs.map d.dt) = true
  | _, _, .nil => rfl
  | _, x :: r, .cons h q => by
    show (PyData.canLay0 (d.dt x) && PyData.canLayAll0 (r.map d.dt)) = true
    rw [d.shp h, shpAll d q]
    rfl
theorem depAll {a : Ty K α} (d : TyD a) : ∀ xs : List α, PyData.depthAll (xs.map d.dt) ≤ d.dep
  | [] => Nat.zero_le _
  | x :: r => by
    show max (PyData.depth (d.dt x)) (PyData.depthAll (r.map d.dt)) ≤ d.dep
    exact Nat.max_le.mpr ⟨d.hd x, depAll d r⟩
theorem eqvAll {a : Ty K α} (d : TyD a) : ∀ xs ys : List α, PyData.eqvAll (xs.map d.dt) (ys.map d.dt) = true ↔ xs = ys
  | [], [] => by simp [PyData.eqvAll]
  | x :: r, [] => by simp [PyData.eqvAll]
  | [], y :: r => by simp [PyData.eqvAll]
  | x :: r, y :: q => by
    show (PyData.eqv (d.dt x) (d.dt y) && PyData.eqvAll (r.map d.dt) (q.map d.dt)) = true ↔ _
    rw [Bool.and_eq_true, d.eqv, eqvAll d r q]
    simp
def dL {a : Ty K α} (d : TyD a) : TyD (tL a) := ⟨fun xs => .list (xs.map d.dt), d.dep + 1, fun ⟨p, vs, e, hp, h⟩ => by subst e; exact .lst hp.sq (dpAll d h), fun ⟨p, vs, e, hp, h⟩ => shpAll d h, fun x => Nat.succ_le_succ (depAll d x), fun x y => eqvAll d x y⟩
def dTs {a : Ty K α} (d : TyD a) : TyD (tTs a) := ⟨fun xs => .tuple (xs.map d.dt), d.dep + 1, fun ⟨p, vs, e, hp, h⟩ => by subst e; exact .tup hp.sq (dpAll d h), fun ⟨p, vs, e, hp, h⟩ => shpAll d h, fun x => Nat.succ_le_succ (depAll d x), fun x y => eqvAll d x y⟩
def dT2 {a : Ty K α} {b : Ty K β} (d : TyD a) (e : TyD b) : TyD (tT2 a b) := ⟨fun x => .tuple [d.dt x.1, e.dt x.2], max d.dep e.dep + 1, fun ⟨p, u, w, z, hp, h1, h2⟩ => by subst z; exact .tup hp.sq (.cons (d.dp h1) (.cons (e.dp h2) .nil)),
  fun {S H v x} ⟨p, u, w, z, hp, h1, h2⟩ => by
    show (PyData.canLay0 (d.dt x.1) && (PyData.canLay0 (e.dt x.2) && true)) = true
    rw [d.shp h1, e.shp h2]
    rfl,
  fun x => by
    show max (PyData.depth (d.dt x.1)) (max (PyData.depth (e.dt x.2)) 0) + 1 ≤ _
    have h1 := d.hd x.1
    have h2 := e.hd x.2
    omega,
  fun x y => by
    show (PyData.eqv (d.dt x.1) (d.dt y.1) && (PyData.eqv (e.dt x.2) (e.dt y.2) && true)) = true ↔ _
    rw [Bool.and_true, Bool.and_eq_true, d.eqv, e.eqv]
    exact ⟨fun h => Prod.ext h.1 h.2, fun h => by subst h; exact ⟨rfl, rfl⟩⟩⟩
def dRat : TyD (K := K) tRat := ⟨fun q => .tuple [.int q.num, .int (q.den : Int)], 1, fun ⟨p, z, hp⟩ => by subst z; exact .tup hp.sq (.cons (.int _) (.cons (.int _) .nil)),
  fun _ => rfl, fun x => by show max 0 (max 0 0) + 1 ≤ 1; decide,
  fun x y => by
    show ((x.num == y.num) && (((x.den : Int) == (y.den : Int)) && true)) = true ↔ _
    rw [Bool.and_true, Bool.and_eq_true, beq_iff_eq, beq_iff_eq]
    exact ⟨fun h => Rat.ext h.1 (by omega), fun h => by subst h; exact ⟨rfl, rfl⟩⟩⟩
abbrev dSpot : TyD (K := K) tSpot := dT2 dRat dRat
theorem TyD.shaped {a : Ty K α} (d : TyD a) (h : d.dep ≤ 64) {S : AS} {H : Hp} {v : V} {x : α} (r : a.rp S H v x) : SeqAt.shaped (d.dt x) = true := by
  unfold SeqAt.shaped
  rw [d.shp r, Bool.true_and]
  exact decide_eq_true (Nat.le_trans (d.hd x) h)
theorem TyD.dec {a : Ty K α} [DecidableEq α] (d : TyD a) (x y : α) : PyData.eqv (d.dt x) (d.dt y) = decide (x = y) := by
  by_cases h : x = y
  · rw [(d.eqv x y).mpr h, decide_eq_true h]
  · rw [decide_eq_false h]
    cases q : PyData.eqv (d.dt x) (d.dt y) with
    | false => rfl
    | true => exact absurd ((d.eqv x y).mp q) h
theorem od_eqD {a : Ty K α} [DecidableEq α] (d : TyD a) (hd : d.dep ≤ 64) : OpD a a S (of (K := K) tBool S) (rEqD K) (fun x y => some (decide (x = y))) := by
  intro x y z e H1 v w dm hv hw Q q
  cases e
  refine ⟨_, _, d.dp hv, d.dp hw, d.shaped hd hv, d.shaped hd hw, ?_⟩
  rw [d.dec]
  exact q _ H1 (Same.refl _) rfl
theorem od_neD {a : Ty K α} [DecidableEq α] (d : TyD a) (hd : d.dep ≤ 64) : OpD a a S (of (K := K) tBool S) (rNeD K) (fun x y => some (!decide (x = y))) := by
  intro x y z e H1 v w dm hv hw Q q
  cases e
  refine ⟨_, _, d.dp hv, d.dp hw, d.shaped hd hv, d.shaped hd hw, ?_⟩
  rw [d.dec]
  exact q _ H1 (Same.refl _) rfl
end
end M

namespace G
open PySem L2
theorem gcd_fmod (a b : Int) : Int.gcd b (a.fmod b) = Int.gcd a b := by
  rw [Int.fmod_def, Int.sub_eq_add_neg, ← Int.mul_neg]
  rw [Int.gcd_add_mul_left_right]
  exact Int.gcd_comm b a
theorem fmod_abs_lt (a : Int) {b : Int} (h : b ≠ 0) : (a.fmod b).natAbs < b.natAbs := by
  rcases Int.lt_or_gt_of_ne h with h | h
  · have e : a.fmod b = -((-a).fmod (-b)) := by
      rw [Int.neg_fmod_neg]; omega
    have h1 := Int.fmod_nonneg_of_pos (-a) (show 0 < -b by omega)
    have h2 := Int.fmod_lt_of_pos (-a) (show 0 < -b by omega)
    omega
  · have h1 := Int.fmod_nonneg_of_pos a h
    have h2 := Int.fmod_lt_of_pos a h
    omega
theorem abs_if (x : Int) : (if x < 0 then -x else x) = ((x.natAbs : Nat) : Int) := by split <;> omega
def cOf (o u : Int) : Int := if u < 0 then -((Int.gcd o u : Nat) : Int) else ((Int.gcd o u : Nat) : Int)
def rN (o u : Int) : Int := o.fdiv (cOf o u)
def rD (o u : Int) : Int := u.fdiv (cOf o u)
def CDivZ (_ j : Int) : Prop := j ≠ 0 ∧ j.natAbs.log2 < 9000
theorem op_fdivZ {X : Cx} : OpR X (binaryOp .FloorDiv) (rI CDivZ fun i j => .int (i.fdiv j)) := opI fun _ _ _ _ _ _ _ hc q => PyProof.Rows.floordiv_int hc.1 q (.inl (PyProof.noPylong_of_log2 hc.2))
theorem cOf_ok {o u : Int} (h : u ≠ 0) (hb : u.natAbs < 2 ^ 9000) (x : Int) : CDivZ x (cOf o u) := by
  have g : 0 < Int.gcd o u := Int.gcd_pos_of_ne_zero_right o h
  have l : Int.gcd o u ≤ u.natAbs := Nat.le_of_dvd (by omega) (Int.gcd_dvd_natAbs_right o u)
  have n : (cOf o u).natAbs = Int.gcd o u := by
    unfold cOf
    split <;> omega
  refine ⟨fun z => ?_, ?_⟩
  · rw [z] at n
    simp at n
    omega
  · rw [n]
    exact PySem.Flt.log2_lt_of (by decide) (Nat.lt_of_le_of_lt l hb)
theorem pow9000 {n : Nat} (h : n < 2 ^ 200) : n < 2 ^ 9000 := Nat.lt_of_lt_of_le h (Nat.pow_le_pow_right (by decide) (by decide))
theorem small_le {n : Nat} (h : n ≤ 1000) : n ≤ sizeLine := Nat.le_of_lt (small1000 h)
theorem two {a b : V} : [a, b].length ≤ sizeLine := by
  show 2 ≤ sizeLine
  decide
theorem cOf_dl (o u : Int) : cOf o u ∣ o := by
  unfold cOf
  split
  · exact Int.neg_dvd.mpr (Int.gcd_dvd_left o u)
  · exact Int.gcd_dvd_left o u
theorem cOf_dr (o u : Int) : cOf o u ∣ u := by
  unfold cOf
  split
  · exact Int.neg_dvd.mpr (Int.gcd_dvd_right o u)
  · exact Int.gcd_dvd_right o u
theorem cOf_ne {o u : Int} (h : u ≠ 0) : cOf o u ≠ 0 := by
  have g : 0 < Int.gcd o u := Int.gcd_pos_of_ne_zero_right o h
  unfold cOf
  split <;> omega
theorem rN_eq (o u : Int) : cOf o u * rN o u = o := Int.mul_fdiv_cancel' (cOf_dl o u)
theorem rD_eq (o u : Int) : cOf o u * rD o u = u := Int.mul_fdiv_cancel' (cOf_dr o u)
theorem rD_pos {o u : Int} (h : u ≠ 0) : 0 < rD o u := by
  have e := rD_eq o u
  have g : 0 < Int.gcd o u := Int.gcd_pos_of_ne_zero_right o h
  unfold cOf at e
  generalize rD o u = d at e
  split at e
  · rename_i hu
    rcases (show 0 < d ∨ d ≤ 0 by omega) with hd | hd
    · exact hd
    · have z : 0 ≤ -((Int.gcd o u : Nat) : Int) * d := Int.mul_nonneg_of_nonpos_of_nonpos (by omega) hd
      omega
  · rcases (show 0 < d ∨ d ≤ 0 by omega) with hd | hd
    · exact hd
    · have z : ((Int.gcd o u : Nat) : Int) * d ≤ 0 := Int.mul_nonpos_of_nonneg_of_nonpos (by omega) hd
      omega
theorem le_of_mul_eq {c k o : Int} (hc : c ≠ 0) (e : c * k = o) : k.natAbs ≤ o.natAbs := by
  rw [← e, Int.natAbs_mul]
  exact Nat.le_mul_of_pos_left _ (by omega)
theorem rN_le {o u : Int} (h : u ≠ 0) : (rN o u).natAbs ≤ o.natAbs := le_of_mul_eq (cOf_ne h) (rN_eq o u)
theorem rD_le {o u : Int} (h : u ≠ 0) : (rD o u).natAbs ≤ u.natAbs := le_of_mul_eq (cOf_ne h) (rD_eq o u)
theorem rDiv {o u : Int} (h : 0 < u) : (rN o u).fdiv (rD o u) = o.fdiv u := by
  have c0 : 0 < cOf o u := by
    have g : 0 < Int.gcd o u := Int.gcd_pos_of_ne_zero_right o (by omega)
    unfold cOf
    split <;> omega
  have e := Int.mul_fdiv_mul_of_pos (rN o u) (rD o u) c0
  rw [rN_eq, rD_eq] at e
  exact e.symm
structure Bag (H : Hp) (b c : Addr) : Prop where
  ne : b ≠ c
  at_ : ∃ (ns : List Int) (slot seed : Int), H b = some (.lst [.ref c, .int slot, .int seed]) ∧ H c = some (.lst (ns.map V.int)) ∧ ns.length ≤ 63 ∧ 0 ≤ slot ∧ 0 ≤ seed ∧ seed < 2147483647
/-- all but what stands at b and c stands -/
def Kept (b c : Addr) (H H' : Hp) : Prop := ∀ p o, H p = some o → p ≠ b → p ≠ c → H' p = some o
theorem Kept.refl {b c : Addr} {H : Hp} : Kept b c H H := fun _ _ e _ _ => e
theorem Kept.trans {b c : Addr} {H H' H'' : Hp} (h : Kept b c H H') (h' : Kept b c H' H'') : Kept b c H H'' := fun p o e n m => h' p o (h p o e n m) n m
theorem kept_same {b c : Addr} {H H' : Hp} (h : Same H H') : Kept b c H H' := fun p o e _ _ => h p o e
theorem same_upd {H : Hp} {p : Addr} {o : HO} (h : H p = none) : Same H (upd H p o) := fun b x e => by
  rw [upd_ne (ne_of_none e h)]
  exact e
theorem Kept.upd {b c p : Addr} {H H' : Hp} {o : HO} (h : Kept b c H H') (hp : H' p = none) : Kept b c H (upd H' p o) := h.trans (kept_same (same_upd hp))
theorem Bag.same {H H' : Hp} {b c : Addr} (h : Bag H b c) (s : Same H H') : Bag H' b c := by
  obtain ⟨ne, ns, sl, sd, h1, h2, r⟩ := h
  exact ⟨ne, ns, sl, sd, s _ _ h1, s _ _ h2, r⟩
theorem Bag.upd {b c p : Addr} {H : Hp} {o : HO} (h : Bag H b c) (hp : H p = none) : Bag (upd H p o) b c := h.same (same_upd hp)
theorem Bag.off {H : Hp} {b c p : Addr} (h : Bag H b c) (hp : H p = none) : p ≠ b ∧ p ≠ c := by
  obtain ⟨_, ns, sl, sd, h1, h2, _⟩ := h
  exact ⟨(ne_of_none h1 hp).symm, (ne_of_none h2 hp).symm⟩
/-- a thing that is no list of the bag's -/
theorem Bag.tup {H : Hp} {b c p : Addr} {xs : List V} (h : Bag H b c) (hp : H p = some (.tup xs)) : p ≠ b ∧ p ≠ c := by
  obtain ⟨_, ns, sl, sd, h1, h2, _⟩ := h
  exact ⟨ne_of hp h1 (by intro z; cases z), ne_of hp h2 (by intro z; cases z)⟩
theorem seq_by {t u : TS} {D : Ends} {σ : St} {H : Hp} (Pv : St → Hp → Prop) (h2 : ∀ σ H, Pv σ H → u D σ H) (h1 : (∀ σ H, Pv σ H → u D σ H) → t { D with nx := u D } σ H) : tSeq t u D σ H := h1 h2
theorem seq_c {u : TS} {i : Nat} {v : V} {D : Ends} {σ : St} {H : Hp} (h : u D (σ.set i (some v)) H) : tSeq (tAsg (tC v) (gName i)) u D σ H := h
theorem seq_asg {te : TE} {u : TS} {i : Nat} {D : Ends} {σ : St} {H : Hp} (h : te σ H fun x H1 => u D (σ.set i (some x)) H1) : tSeq (tAsg te (gName i)) u D σ H := h
theorem seq_sub {te ta ti : TE} {r : TSet} {u : TS} {D : Ends} {σ : St} {H : Hp} (h : te σ H fun x H1 => gSub ta ti r x σ H1 fun σ' H' => u D σ' H') : tSeq (tAsg te (gSub ta ti r)) u D σ H := h
theorem seq_drop {te : TE} {u : TS} {D : Ends} {σ : St} {H : Hp} (h : te σ H fun _ H1 => u D σ H1) : tSeq (tDrop te) u D σ H := h
theorem next_u {u : TS} {D : Ends} {σ : St} {H : Hp} (h : u D σ H) : tNext { D with nx := u D } σ H := h
theorem nx_u {u : TS} {D : Ends} {rt : VK} {bk ct : St → Hp → Prop} {σ : St} {H : Hp} (h : u D σ H) : Ends.nx { nx := u D, rt := rt, bk := bk, ct := ct } σ H := h
theorem yes_ {σ : St} {H : Hp} {A B : Hp → Prop} (h : A H) : tYes σ H (fun b H3 => if b = true then A H3 else B H3) := by
  show if true = true then A H else B H
  exact iteT h
theorem int_at {ns : List Int} {i : Int} (h0 : 0 ≤ i) (h : i < (ns.length : Int)) : ∃ v : Int, atI (ns.map V.int) i = some (.int v) := by
  have ek : i = ((i.toNat : Nat) : Int) := by omega
  have hk : i.toNat < ns.length := by omega
  rw [ek]
  exact ⟨ns[i.toNat], atI_nat (by rw [List.getElem?_map, List.getElem?_eq_getElem hk] <;> rfl)⟩
theorem ix_at {n : Nat} {i : Int} (h0 : 0 ≤ i) (h : i < (n : Int)) : ixN n i = some i.toNat := by
  unfold ixN
  rw [if_pos h0, if_pos h]
theorem set_ints (ns : List Int) (j : Nat) (v : Int) : (ns.map V.int).set j (.int v) = (ns.set j v).map V.int := by
  rw [List.map_set]
theorem at_mem {xs : List V} {r : Int} (h0 : 0 ≤ r) (h : r < (xs.length : Int)) : ∃ v, v ∈ xs ∧ atI xs r = some v := by
  have hk : r.toNat < xs.length := by omega
  have e := atI_nat (xs := xs) (j := r.toNat) (List.getElem?_eq_getElem hk)
  rw [show ((r.toNat : Nat) : Int) = r by omega] at e
  exact ⟨_, List.getElem_mem hk, e⟩
theorem cut_ints (ns : List Int) (lo hi : Option Int) : ∃ ms : List Int, cutV (ns.map V.int) lo hi = ms.map V.int ∧ ms.length ≤ ns.length := by
  refine ⟨(ns.drop (HT.sIx (ns.map V.int).length 0 lo)).take (HT.sIx (ns.map V.int).length (ns.map V.int).length hi - HT.sIx (ns.map V.int).length 0 lo), ?_, ?_⟩
  · unfold cutV
    rw [List.map_take, List.map_drop]
  · rw [List.length_take, List.length_drop]
    omega
theorem ne_true {u : Int} (z : (!decide (V.int u = V.int 0)) = true) : u ≠ 0 := fun e => by
  subst e
  exact absurd z (by decide)
theorem ne_false {u : Int} (z : ¬ (!decide (V.int u = V.int 0)) = true) : u = 0 := by
  by_cases e : u = 0
  · exact e
  · exact absurd (show (!decide (V.int u = V.int 0)) = true by rw [decide_eq_false (fun q => e (V.int.inj q))]; rfl) z
def leS (a b : Str) : Prop := a.cps.toList ≤ b.cps.toList
theorem leS_trans {a b c : Str} (h : leS a b) (h' : leS b c) : leS a c := List.le_trans h h'
theorem leS_anti {a b : Str} (h : leS a b) (h' : leS b a) : a = b := by
  have e : a.cps.toList = b.cps.toList := List.le_antisymm h h'
  cases a
  cases b
  exact congrArg Str.mk (Array.toList_inj.mp e)
theorem ris_all : ∀ (l : List Str) (p : Str), PyProof.Rows.risingS p l = true → (∀ x ∈ l, leS p x) ∧ l.Pairwise leS
  | [], _, _ => ⟨(fun _ h => nomatch h), .nil⟩
  | x :: r, p, h => by
    unfold PyProof.Rows.risingS at h
    rw [Bool.and_eq_true, Bool.not_eq_true'] at h
    rw [PyProof.Rows.ltCps_eq] at h
    have hx : leS p x := of_decide_eq_false h.1
    obtain ⟨i1, i2⟩ := ris_all r x h.2
    refine ⟨fun y hy => ?_, List.pairwise_cons.mpr ⟨i1, i2⟩⟩
    rcases List.mem_cons.mp hy with rfl | hy
    · exact hx
    · exact leS_trans hx (i1 y hy)
theorem srt_pw : ∀ {l : List Str}, PyProof.Rows.sortedS l = true → l.Pairwise leS
  | [], _ => .nil
  | x :: r, h => List.pairwise_cons.mpr (ris_all r x h)
theorem srt_same {a b : List Str} (hp : a.Perm b) (ha : PyProof.Rows.sortedS a = true) (hb : PyProof.Rows.sortedS b = true) : a = b :=
  hp.eq_of_pairwise (fun _ _ _ _ h1 h2 => leS_anti h1 h2) (srt_pw ha) (srt_pw hb)
theorem srtI_same {a b : List Int} (hp : a.Perm b) (ha : a.Pairwise (· ≤ ·)) (hb : b.Pairwise (· ≤ ·)) : a = b :=
  hp.eq_of_pairwise (fun _ _ _ _ h1 h2 => Int.le_antisymm h1 h2) ha hb
theorem lay_all : ∀ {ds : List PyData}, (∀ d ∈ ds, d.canLay0 = true) → PyData.canLayAll0 ds = true
  | [], _ => rfl
  | d :: r, h => by
    unfold PyData.canLayAll0
    rw [h d List.mem_cons_self, lay_all fun x hx => h x (List.mem_cons_of_mem _ hx)]
    rfl
theorem depth_all : ∀ {ds : List PyData} {n : Nat}, (∀ d ∈ ds, d.depth ≤ n) → PyData.depthAll ds ≤ n
  | [], _, _ => Nat.zero_le _
  | d :: r, n, h => by
    unfold PyData.depthAll
    exact Nat.max_le.mpr ⟨h d List.mem_cons_self, depth_all fun x hx => h x (List.mem_cons_of_mem _ hx)⟩

/-! ### ratios of the program are Lean's -/
theorem gcd_rND {o u : Int} (h : u ≠ 0) : Int.gcd (rN o u) (rD o u) = 1 := by
  have g : 0 < Int.gcd o u := Int.gcd_pos_of_ne_zero_right o h
  have e : Int.gcd o u = (cOf o u).natAbs * Int.gcd (rN o u) (rD o u) := by
    rw [← Int.gcd_mul_left, rN_eq, rD_eq]
  have n : (cOf o u).natAbs = Int.gcd o u := by
    unfold cOf
    split <;> omega
  rw [n] at e
  exact (Nat.eq_of_mul_eq_mul_left g (by rw [Nat.mul_one]; exact e)).symm
theorem rat_rND {o u : Int} (h : u ≠ 0) : (Rat.divInt o u).num = rN o u ∧ ((Rat.divInt o u).den : Int) = rD o u := by
  have p := rD_pos (o := o) h
  have c : Nat.Coprime (rN o u).natAbs (rD o u).toNat := by
    have := gcd_rND (o := o) h
    unfold Int.gcd at this
    rw [show (rD o u).natAbs = (rD o u).toNat by omega] at this
    exact this
  have e : Rat.divInt o u = ⟨rN o u, (rD o u).toNat, by omega, c⟩ := by
    rw [Rat.mk_eq_divInt, Int.toNat_of_nonneg (by omega)]
    have e2 := @Rat.divInt_mul_left (rN o u) (rD o u) (cOf o u) (cOf_ne h)
    rw [rN_eq, rD_eq] at e2
    exact e2
  rw [e]
  exact ⟨rfl, by show (((rD o u).toNat : Nat) : Int) = _; omega⟩
end G


namespace M
open PySem L2
section
variable {K : PySem.W.Frag} {α β γ δ ε ρ : Type} {S T : AS} {σ : St} {H : Hp} {ta tb te : TE} {tt tu : TT} {a : Ty K α} {b : Ty K β} {c : Ty K γ} {D : Ends} {u t1 t2 : TS}
theorem if_and {g : Bool} {A : Option α} {y : α} (h : (if g then A else none) = some y) : g = true ∧ A = some y := by
  cases g with
  | true => exact ⟨rfl, h⟩
  | false => cases h
theorem sub_cons {p : Addr} {S S' : AS} (h : Sub S S') : Sub S (p :: S') := fun a m => List.mem_cons_of_mem _ (h a m)
theorem cons_sub {p : Addr} {S S' : AS} (h : p ∈ S') (h' : Sub S S') : Sub (p :: S) S' := fun a m => by
  rcases List.mem_cons.mp m with rfl | m
  · exact h
  · exact h' a m
theorem nwL.sub {c : Ty K α} {S S' T : AS} {H0 H H1 : Hp} {v : V} {xs : List α} (h : nwL c S H H1 v xs) (hs : Sub S' S) (f : Fr T H0 H) (d : Dom T H) : nwL c S' H0 H1 v xs := by
  obtain ⟨p, e, n, vs, hv, ha⟩ := h
  exact ⟨p, e, fr_back f d n, vs, hv, ha.imp fun _ _ => c.sub fun a m => by
    rcases List.mem_cons.mp m with rfl | m
    · exact List.mem_cons_self ..
    · exact List.mem_cons_of_mem _ (hs a m)⟩
theorem Own.same {c : Ty K α} {S : AS} {H H' : Hp} {p : Addr} {xs : List α} (h : Own c S H p xs) (s : Same H H') : Own c S H' p xs := by
  obtain ⟨vs, hv, ha⟩ := h
  exact ⟨vs, s _ _ hv, ha.imp fun _ _ => c.mono (Fr.same s)⟩
theorem Own.fr {c : Ty K α} {S T : AS} {H H' : Hp} {p : Addr} {xs : List α} (h : Own c S H p xs) (f : Fr T H H') (ts : Sub T S) (n : p ∉ T) : Own c S H' p xs := by
  obtain ⟨vs, hv, ha⟩ := h
  exact ⟨vs, f _ _ hv n, ha.imp fun _ _ => c.mono (f.sub ts)⟩
theorem Own.ext {c : Ty K α} {S : AS} {H : Hp} {p q : Addr} {xs : List α} (h : Own c S H p xs) (n : H q = none) : Own c (q :: S) H p xs := by
  obtain ⟨vs, hv, ha⟩ := h
  exact ⟨vs, hv, ha.imp fun _ _ => c.ext n⟩
theorem Own.ne {c : Ty K α} {S : AS} {H : Hp} {p q : Addr} {xs : List α} (h : Own c S H p xs) (n : H q = none) : p ≠ q := by
  obtain ⟨vs, hv, ha⟩ := h
  exact ne_of_none hv n
theorem Own.sub {c : Ty K α} {S S' : AS} {H : Hp} {p : Addr} {xs : List α} (h : Own c S H p xs) (hs : Sub S' S) : Own c S' H p xs := by
  obtain ⟨vs, hv, ha⟩ := h
  exact ⟨vs, hv, ha.imp fun _ _ => c.sub hs⟩
/-! items put behind an owned list -/
def app? (xs : List α) (x : α) : Option (List α) := if xs.length < 100000 then some (xs ++ [x]) else none
/-- all but p stands, and what p held is H1 p -/
structure Mut1 (p : Addr) (H H' : Hp) : Prop where
  k : ∀ a o, H a = some o → a ≠ p → H' a = some o
  p' : H' p ≠ none
theorem l_app {p : Addr} {xs ys : List α} {i : Nat} {r : Option α} {x : α} (d : Dom S H) (o : Own a S H p xs) (im : p ∈ S) (nt : p ∉ T) (ts : Sub T S) (hi : σ[i]? = some (some (.ref p))) (h : Ev S T te σ H (of a S) r) (e : r = some x) (f : app? xs x = some ys)
    (k : ∀ H1, Mut1 p H H1 → Fr S H H1 → Own a S H1 p ys → D.nx σ H1) : tDrop (tBM K "list" rAppend (tVar i) (tCons te tNil)) D σ H := by
  obtain ⟨vs, hv, ha⟩ := o
  unfold app? at f
  split at f
  · rename_i hl
    cases f
    refine ⟨_, hi, Or.inl ⟨rfl, vs, .inl (.inl hv)⟩, h x e H (Fr.refl _) d _ fun v H1 s1 hx => ?_⟩
    refine ⟨p, vs, v, rfl, rfl, s1 _ _ hv, Nat.lt_of_lt_of_le (by rw [ha.len]; exact hl) (by decide), ?_⟩
    have f1 : Fr S H1 (upd H1 p (.lst (vs ++ [v]))) := fr_upd im
    refine k _ ⟨fun b ob e n => by rw [upd_ne n]; exact s1 _ _ e, by rw [upd_same]; intro z; cases z⟩ ((Fr.same s1).trans f1) ⟨vs ++ [v], upd_same, ?_⟩
    exact ((ha.imp fun _ _ h => a.mono (Fr.same s1) h).snoc hx).imp fun _ _ h => a.mono f1 h
  · cases f
theorem q_app {p : Addr} {xs ys : List α} {i : Nat} {r : Option α} {x : α} (d : Dom S H) (o : Own a S H p xs) (im : p ∈ S) (nt : p ∉ T) (ts : Sub T S) (hi : σ[i]? = some (some (.ref p))) (h : Ev S T te σ H (of a S) r) (e : r = some x) (f : app? xs x = some ys)
    (k : ∀ H1, Mut1 p H H1 → Fr S H H1 → Own a S H1 p ys → u D σ H1) : tSeq (tDrop (tBM K "list" rAppend (tVar i) (tCons te tNil))) u D σ H := l_app (D := { D with nx := u D }) d o im nt ts hi h e f k
theorem Fr.mut {p : Addr} {H0 H H' : Hp} (f : Fr T H0 H) (d : Dom T H) (n : H0 p = none) (m : Mut1 p H H') : Fr T H0 H' := fun b o e nb => m.k b o (f b o e nb) (ne_of_none e n)
theorem Mut1.fr {p : Addr} {H H' : Hp} (m : Mut1 p H H') (h : p ∈ S) : Fr S H H' := fun b o e nb => m.k b o e fun z => nb (by rw [z]; exact h)
theorem Fr.mutN {p : Addr} {H0 H H' : Hp} (f : Fr T H0 H) (n : H0 p = none) (m : Mut1 p H H') : Fr T H0 H' := fun b o e nb => m.k b o (f b o e nb) (ne_of_none e n)
theorem Dom.sub {S' : AS} (d : Dom S H) (h : Sub S' S) : Dom S' H := fun a m => d a (h a m)
theorem Dom.fx {p : Addr} {H H' : Hp} (d : Dom S H) (f : Fr S H H') (m : Mut1 p H H') : Dom S H' := fun b mb e => by
  by_cases q : b = p
  · subst q; exact m.p' e
  · cases z : H b with
    | none => exact d b mb z
    | some o => rw [m.k b o z q] at e; cases e
theorem Own.mut {c : Ty K α} {S : AS} {H H' : Hp} {p q : Addr} {xs : List α} (h : Own c S H p xs) (f : Fr S H H') (m : Mut1 q H H') (n : p ≠ q) : Own c S H' p xs := by
  obtain ⟨vs, hv, ha⟩ := h
  exact ⟨vs, m.k _ _ hv n, ha.imp fun _ _ => c.mono f⟩
theorem seq_last {t : TS} (Pv : St → Hp → Prop) (h2 : ∀ σ H, Pv σ H → D.nx σ H) (h1 : (∀ σ H, Pv σ H → D.nx σ H) → t D σ H) : t D σ H := h1 h2
/-! lists made -/
theorem ev_lst0 : Ev S T (tLst tNil) σ H (nw a S) (some []) := fun x e H1 f d Q q => by
  cases e
  exact ⟨Nat.zero_le _, fun p hp => q _ _ (same_new hp) ⟨p, rfl, hp, [], upd_same, .nil⟩⟩
theorem ev_list {r : Option (List α)} (h : Ev S T te σ H (of (tL a) S) r) : Ev S T (tCB (fun xs H Q => ∃ p ys, xs = [.ref p] ∧ (SqL K H p ys ∨ SqT K H p ys) ∧ ∀ l, H l = none → Q (.ref l) (upd H l (.lst ys))) (tCons te tNil)) σ H (nw a S) r := fun x e H1 f d Q q => by
  refine h x e H1 f d _ fun v H2 s2 hv => ?_
  obtain ⟨p, vs, rfl, hp, ha⟩ := hv
  exact ⟨p, vs, rfl, .inl hp.sq, fun l hl => q _ _ (s2.trans (same_new hl)) ⟨l, rfl, s2.free hl, vs, upd_same, ha.imp fun _ _ h => a.mono (Fr.same (same_new hl)) (a.ext hl h)⟩⟩
def EvE (S T : AS) (ta : TA) (σ : St) (H : Hp) (a : Ty K α) (n : Nat) (r : Option (List α)) : Prop :=
  ∀ x, r = some x → ∀ H1, Fr T H H1 → Dom S H1 → ∀ Q : List V → Hp → Prop, (∀ vs H2, vs.length = n → Same H1 H2 → All2 (a.rp S H2) vs x → Q vs H2) → ta σ H1 Q
theorem el_nil : EvE S T tNil σ H a 0 (some []) := fun _ e H1 f d Q q => by cases e; exact q [] H1 rfl (Same.refl _) .nil
theorem el_cons {tr : TA} {n : Nat} {ra : Option α} {rr : Option (List α)} (h : Ev S T ta σ H (of a S) ra) (hr : EvE S T tr σ H a n rr) : EvE S T (tCons ta tr) σ H a (n + 1) (bd ra fun x => bd rr fun y => some (x :: y)) := by
  intro z e H1 f1 d Q q
  obtain ⟨x, ex, e⟩ := bd_some e
  obtain ⟨y, ey, e⟩ := bd_some e
  cases e
  exact h x ex H1 f1 d _ fun v H2 s2 hv => hr y ey H2 (f1.trans (Fr.same s2)) (d.same s2) _ fun vs H3 hl s3 hw => q _ H3 (by simp [hl]) (s2.trans s3) (.cons (a.mono (Fr.same s3) hv) hw)
theorem ev_lst {tr : TA} {n : Nat} {rr : Option (List α)} (h : EvE S T tr σ H a n rr) (hn : n ≤ sizeLine) : Ev S T (tLst tr) σ H (nw a S) rr := fun x e H1 f d Q q =>
  h x e H1 f d _ fun vs H2 hl s2 ha => ⟨by rw [hl]; exact hn, fun p hp => q _ _ (s2.trans (same_new hp)) ⟨p, rfl, s2.free hp, vs, upd_same, ha.imp fun _ _ h => a.mono (Fr.same (same_new hp)) (a.ext hp h)⟩⟩
theorem All2.bools {S : AS} {H : Hp} : ∀ {vs : List V} {xs : List Bool}, All2 ((tBool (K := K)).rp S H) vs xs → vs = xs.map V.bl
  | _, _, .nil => rfl
  | _, _, .cons h r => by rw [List.map_cons, ← All2.bools r, show _ = _ from h]
theorem ev_all {r : Option (List Bool)} (h : Ev S T te σ H (of (K := K) (tL tBool) S) r) : Ev S T (tCB (rAll K) (tCons te tNil)) σ H (of (K := K) tBool S) (bd r fun x => some (x.all id)) := by
  intro z e H1 f1 d Q q
  obtain ⟨x, ex, e⟩ := bd_some e
  cases e
  refine h x ex H1 f1 d _ fun v H2 s hv => ?_
  obtain ⟨p, vs, rfl, hp, ha⟩ := hv
  refine ⟨p, x, rfl, ?_, q _ H2 s rfl⟩
  rw [← ha.bools]
  exact hp.sq
theorem ev_intB {r : Option Bool} (h : Ev S T te σ H (of (K := K) tBool S) r) : Ev S T (tCB (fun xs H Q => (∃ i, xs = [.int i] ∧ Q (.int i) H) ∨ ∃ k, xs = [.bl k] ∧ Q (.int (if k then 1 else 0)) H) (tCons te tNil)) σ H (of (K := K) tInt S) (bd r fun x => some (if x then 1 else 0 : Int)) := by
  intro z e H1 f1 d Q q
  obtain ⟨x, ex, e⟩ := bd_some e
  cases e
  refine h x ex H1 f1 d _ fun v H2 s hv => ?_
  cases hv
  exact .inr ⟨x, rfl, q _ H2 s rfl⟩
/-! comprehensions over a list -/
def mapO (f : α → Option β) : List α → Option (List β)
  | [] => some []
  | x :: xs => bd (f x) fun y => bd (mapO f xs) fun ys => some (y :: ys)
theorem mapO_get {f : α → Option β} : ∀ {xs : List α} {ys : List β} {i : Nat} {x : α}, mapO f xs = some ys → xs[i]? = some x → ∃ y, f x = some y ∧ ys[i]? = some y
  | [], _, i, x, _, e => by simp at e
  | z :: xs, ys, i, x, h, e => by
    obtain ⟨y, hy, h⟩ := bd_some h
    obtain ⟨r, hr, h⟩ := bd_some h
    cases h
    cases i with
    | zero => simp at e; subst e; exact ⟨y, hy, rfl⟩
    | succ i =>
      obtain ⟨w, h1, h2⟩ := mapO_get (i := i) hr (by simpa using e)
      exact ⟨w, h1, by simpa using h2⟩
theorem mapO_len {f : α → Option β} : ∀ {xs : List α} {ys : List β}, mapO f xs = some ys → ys.length = xs.length
  | [], _, h => by cases h; rfl
  | z :: xs, ys, h => by
    obtain ⟨y, hy, h⟩ := bd_some h
    obtain ⟨r, hr, h⟩ := bd_some h
    cases h
    simp [mapO_len hr]
def filO (f : α → Option (Option β)) : List α → Option (List β)
  | [] => some []
  | x :: xs => bd (f x) fun o => bd (filO f xs) fun ys => match o with | some y => some (y :: ys) | none => some ys
theorem filO_map {f : α → Option β} : ∀ xs : List α, filO (fun x => bd (f x) fun y => some (some y)) xs = mapO f xs
  | [] => rfl
  | x :: r => by
    simp only [filO, mapO, bd, filO_map r]
    cases f x <;> rfl
def mapL? (f : α → Option β) (xs : List α) : Option (List β) := if xs.length < 100000 then mapO f xs else none
/-- [te for x in wi] -/
theorem lc_core2 {wi : TI} {j : Nat} {ws : List Nat} {r : Option (List α)} {f : α → Option (Option β)} (h : Sr S T wi σ H a r) (hw : ∀ x, wipe ((wipe σ ws).set j (some x)) ws = wipe σ ws)
    (he : ∀ (x : α) (v : V) (H2 H' : Hp) (p : Addr) (o : Option β), Fr T H H2 → H2 p = none → Same H2 H' → a.rp (p :: S) H' v x → Dom (p :: S) H' → f x = some o → ∀ (Q1 : V → Hp → Prop) (Q0 : Hp → Prop), (∀ y w H3, o = some y → Same H' H3 → b.rp (p :: S) H3 w y → Q1 w H3) → (∀ H3, o = none → Same H' H3 → Q0 H3) →
      tt ((wipe σ ws).set j (some v)) H' fun k H3 => if k = true then te ((wipe σ ws).set j (some v)) H3 Q1 else Q0 H3) :
    Ev S T (tLc wi (gName j) tt te ws) σ H (nw b S) (bd r fun xs => if xs.length < 100000 then filO f xs else none) := by
  intro z e H1 f1 d Q q
  obtain ⟨xs, ex, e⟩ := bd_some e
  split at e
  rotate_left
  · cases e
  rename_i hlen
  refine h xs ex H1 f1 d _ fun J H2 s2 wk => fun Dl hD => ?_
  have d2 := d.same s2
  have sD : Same H2 (upd H2 Dl (.lst [])) := same_new hD
  refine ⟨fun i m H' => m = xs.length - i ∧ i ≤ xs.length ∧ ∃ acc pre, H' Dl = some (.lst acc) ∧ Same H2 H' ∧ acc.length ≤ i ∧ All2 (b.rp (Dl :: S) H') acc pre ∧ ∃ suf, filO f (xs.drop i) = some suf ∧ z = pre ++ suf, ⟨_, rfl, Nat.zero_le _, [], [], upd_same, sD, Nat.zero_le _, .nil, z, e, rfl⟩, ?_⟩
  rintro i m H' ⟨rfl, hi, acc, pre, h1, h2, h3, h4, suf, h5, h6⟩
  by_cases c : i < xs.length
  · right
    rw [List.drop_eq_getElem_cons c] at h5
    obtain ⟨o, ho, h5⟩ := bd_some h5
    obtain ⟨suf', hs', h5⟩ := bd_some h5
    refine ⟨wk.go H' i (Fr.same h2) c, fun H3 => ∃ acc pre, H3 Dl = some (.lst acc) ∧ Same H2 H3 ∧ acc.length ≤ i + 1 ∧ All2 (b.rp (Dl :: S) H3) acc pre ∧ ∃ suf, filO f (xs.drop (i + 1)) = some suf ∧ z = pre ++ suf, ?_, ?_⟩
    · rintro H3 ⟨acc, pre, g1, g2, g3, g4, suf, g5, g6⟩
      exact ⟨xs.length - (i + 1), by omega, rfl, by omega, acc, pre, g1, g2, g3, g4, suf, g5, g6⟩
    · intro v H3 hy
      obtain ⟨rfl, hv⟩ := wk.yl H' i v H3 (Fr.same h2) hy _ (List.getElem?_eq_getElem c)
      refine ⟨hw v, ?_⟩
      refine he xs[i] v H2 _ Dl o (f1.trans (Fr.same s2)) hD h2 (a.mono (Fr.same h2) (a.ext hD hv)) ((d2.same h2).cons h1) ho _ _ (fun y w H4 eo s4 hw4 => ?_) (fun H4 eo s4 => ?_)
      · subst eo
        cases h5
        refine ⟨acc, s4 _ _ h1, Nat.lt_of_lt_of_le (by omega : acc.length < 100000) (by decide), acc ++ [w], pre ++ [y], upd_same, fun p ob eb => ?_, by simp; omega, ?_, suf', hs', by rw [h6]; simp⟩
        · rw [upd_ne (ne_of_none eb hD)]
          exact s4 _ _ (h2 _ _ eb)
        · have fD : Fr (Dl :: S) H4 (upd H4 Dl (.lst (acc ++ [w]))) := fr_upd (List.mem_cons_self ..)
          exact ((h4.imp fun _ _ h => b.mono (Fr.same s4) h).snoc hw4).imp fun _ _ h => b.mono fD h
      · subst eo
        cases h5
        exact ⟨acc, pre, s4 _ _ h1, fun p ob eb => s4 _ _ (h2 _ _ eb), by omega, h4.imp fun _ _ h => b.mono (Fr.same s4) h, _, hs', h6⟩
  · left
    rw [List.drop_eq_nil_of_le (by omega)] at h5
    cases h5
    rw [List.append_nil] at h6
    subst h6
    exact ⟨wk.st H' i (Fr.same h2) (by omega), q _ _ (s2.trans h2) ⟨Dl, rfl, s2.free hD, acc, h1, h4⟩⟩
theorem ev_lc {wi : TI} {j : Nat} {ws : List Nat} {r : Option (List α)} {f : α → Option β} (h : Sr S T wi σ H a r) (hw : ∀ x, wipe ((wipe σ ws).set j (some x)) ws = wipe σ ws)
    (he : ∀ (x : α) (v : V) (H2 H' : Hp) (p : Addr), Fr T H H2 → H2 p = none → Same H2 H' → a.rp (p :: S) H' v x → Ev (p :: S) [] te ((wipe σ ws).set j (some v)) H' (of b (p :: S)) (f x)) :
    Ev S T (tLc wi (gName j) tYes te ws) σ H (nw b S) (bd r fun xs => mapL? f xs) := by
  have k := lc_core2 (tt := tYes) (te := te) (b := b) (f := fun x => bd (f x) fun y => some (some y)) h hw fun x v H2 H' p o g1 g2 g3 g4 g5 g6 Q1 Q0 g7 g8 => by
    obtain ⟨y, hy, g6⟩ := bd_some g6
    cases g6
    refine G.yes_ ?_
    exact he x v H2 H' p g1 g2 g3 g4 y hy H' (Fr.refl _) g5 _ fun w H3 s3 hw3 => g7 y w H3 rfl s3 hw3
  intro z e
  refine k z ?_
  obtain ⟨xs, ex, e⟩ := bd_some e
  rw [ex]
  unfold mapL? at e
  show (if xs.length < 100000 then filO _ xs else none) = some z
  split at e
  · rename_i hl
    rw [if_pos hl, filO_map]
    exact e
  · cases e
/-- with a test -/
def filL? (g : α → Option Bool) (f : α → Option β) (xs : List α) : Option (List β) := if xs.length < 100000 then filO (fun x => bd (g x) fun k => if k then bd (f x) fun y => some (some y) else some none) xs else none
theorem ev_lcF {wi : TI} {j : Nat} {ws : List Nat} {r : Option (List α)} {g : α → Option Bool} {f : α → Option β} (h : Sr S T wi σ H a r) (hw : ∀ x, wipe ((wipe σ ws).set j (some x)) ws = wipe σ ws)
    (ht : ∀ (x : α) (v : V) (H2 H' : Hp) (p : Addr), Fr T H H2 → H2 p = none → Same H2 H' → a.rp (p :: S) H' v x → EvB (p :: S) [] tt ((wipe σ ws).set j (some v)) H' (g x))
    (he : ∀ (x : α) (v : V) (H2 H' : Hp) (p : Addr), Fr T H H2 → H2 p = none → Same H2 H' → a.rp (p :: S) H' v x → Ev (p :: S) [] te ((wipe σ ws).set j (some v)) H' (of b (p :: S)) (f x)) :
    Ev S T (tLc wi (gName j) tt te ws) σ H (nw b S) (bd r fun xs => filL? g f xs) :=
  lc_core2 (tt := tt) (te := te) (b := b) (f := fun x => bd (g x) fun k => if k then bd (f x) fun y => some (some y) else some none) h hw fun x v H2 H' p o g1 g2 g3 g4 g5 g6 Q1 Q0 g7 g8 => by
    obtain ⟨k, hk, g6⟩ := bd_some g6
    refine ht x v H2 H' p g1 g2 g3 g4 k hk H' (Fr.refl _) g5 _ fun H3 s3 => ?_
    cases k with
    | true =>
      obtain ⟨y, hy, g6⟩ := bd_some (if_t g6)
      cases g6
      show if true = true then _ else _
      rw [if_pos rfl]
      exact he x v H2 H' p g1 g2 g3 g4 y hy H3 (Fr.same s3) (g5.same s3) _ fun w H4 s4 hw4 => g7 y w H4 rfl (s3.trans s4) hw4
    | false =>
      cases (if_f g6)
      show if false = true then _ else _
      rw [if_neg (by decide)]
      exact g8 H3 rfl s3
end
end M

namespace M
open PySem L2 G
abbrev Wp (α : Type) := (α → Prop) → Prop
def lf {α : Type} (r : Option α) : Wp α := fun P => ∃ x, r = some x ∧ P x
def opW {α β γ : Type} (f : α → β → Option γ) (wa : Wp α) (wb : Wp β) : Wp γ := fun P => wa fun x => wb fun y => lf (f x y) P
def unW {α γ : Type} (g : α → Option γ) (wa : Wp α) : Wp γ := fun P => wa fun x => lf (g x) P
def tup2W {α β : Type} (wa : Wp α) (wb : Wp β) : Wp (α × β) := fun P => wa fun x => wb fun y => P (x, y)
def consW {α : Type} (wa : Wp α) (wb : Wp (List α)) : Wp (List α) := fun P => wa fun x => wb fun y => P (x :: y)
def andW (r v : Wp Bool) : Wp Bool := fun P => r fun x => if x then v P else P false
def orW (r v : Wp Bool) : Wp Bool := fun P => r fun x => if x then P true else v P
def callBW {α γ : Type} (m : α → Wp γ) (w : Wp α) : Wp γ := fun P => w fun a => m a P
theorem lf_some {α : Type} {x : α} {P : α → Prop} : lf (some x) P ↔ P x := ⟨fun ⟨y, e, h⟩ => by cases e; exact h, fun h => ⟨x, rfl, h⟩⟩
theorem _root_.G.Bag.dom {H : Hp} {b c : Addr} (h : Bag H b c) : Dom [b, c] H := fun a m e => by
  obtain ⟨_, ns, sl, sd, h1, h2, _⟩ := h
  simp only [List.mem_cons, List.not_mem_nil, or_false] at m
  rcases m with rfl | rfl
  · rw [h1] at e; cases e
  · rw [h2] at e; cases e
theorem dom_fr {S : AS} {H H' : Hp} {b c : Addr} (d : Dom S H) (f : Fr [b, c] H H') (h : Bag H' b c) : Dom S H' := fun a m e => by
  by_cases q : a ∈ [b, c]
  · exact h.dom a q e
  · cases z : H a with
    | none => exact d a m z
    | some o => rw [f a o z q] at e; cases e
section
variable {K : PySem.W.Frag} {α β γ δ ε ρ : Type} {S T : AS} {σ : St} {H : Hp} {ta tb te : TE} {tt tu : TT} {a : Ty K α} {b' : Ty K β} {c' : Ty K γ} {D : Ends} {u t1 t2 : TS} {b c : Addr}
def EvW (b c : Addr) (S : AS) (te : TE) (σ : St) (H : Hp) (R : Rl α) (w : Wp α) : Prop :=
  Sub [b, c] S → ∀ P, w P → ∀ H1, Fr [b, c] H H1 → Dom S H1 → Bag H1 b c → ∀ Q : VK, (∀ v H2 x, P x → Fr [b, c] H1 H2 → Dom S H2 → Bag H2 b c → R.r H1 H2 v x → Q v H2) → te σ H1 Q
def BvW (b c : Addr) (S : AS) (tt : TT) (σ : St) (H : Hp) (w : Wp Bool) : Prop :=
  Sub [b, c] S → ∀ P, w P → ∀ H1, Fr [b, c] H H1 → Dom S H1 → Bag H1 b c → ∀ Q : Bool → Hp → Prop, (∀ H2 x, P x → Fr [b, c] H1 H2 → Dom S H2 → Bag H2 b c → Q x H2) → tt σ H1 Q
theorem ew_pure {R : Rl α} {r : Option α} (h : Ev S [b, c] te σ H R r) : EvW b c S te σ H R (lf r) := fun ts P ⟨x, e, hP⟩ H1 f d hB Q q =>
  h x e H1 f d Q fun v H2 s hv => q v H2 x hP (Fr.same s) (d.same s) (hB.same s) hv
theorem ew_new {w : Wp (List α)} (h : EvW b c S te σ H (nw a S) w) : EvW b c S te σ H (of (tL a) S) w := fun ts P hP H1 f d hB Q q =>
  h ts P hP H1 f d hB Q fun v H2 x hx f2 d2 hB2 hv => q v H2 x hx f2 d2 hB2 (nwL.rp hv d)
theorem ew_op {R : Rl γ} {r : R2} {f : α → β → Option γ} {wa : Wp α} {wb : Wp β} (h : OpD a b' S R r f) (ha : EvW b c S ta σ H (of a S) wa) (hb : EvW b c S tb σ H (of b' S) wb) :
    EvW b c S (tOp r ta tb) σ H R (opW f wa wb) := fun ts P hP H1 f1 d hB Q q =>
  ha ts _ hP H1 f1 d hB _ fun v H2 x hx f2 d2 hB2 hv => hb ts _ hx H2 (f1.trans f2) d2 hB2 _ fun w H3 y ⟨z, e, hz⟩ f3 d3 hB3 hw => h x y z e H3 v w d3 (a.mono (f3.sub ts) hv) hw Q fun u H4 s4 hu => q u H4 z hz ((f2.trans f3).trans (Fr.same s4)) (d3.same s4) (hB3.same s4) (R.back (f2.trans f3) hB3.dom hu)
theorem ew_ixT {R : Rl γ} {i : Int} {wa : Wp α} {g : α → γ} (ha : EvW b c S ta σ H (of a S) wa) (h : ∀ x H v, a.rp S H v x → ∃ p vs u, v = .ref p ∧ SqT K H p vs ∧ atI vs i = some u ∧ R.r H H u (g x)) :
    EvW b c S (tOp (rIxT K) ta (tC (.int i))) σ H R (unW (fun x => some (g x)) wa) := fun ts P hP H1 f1 d hB Q q => by
  refine ha ts _ hP H1 f1 d hB _ fun v H2 x ⟨z, e, hz⟩ f2 d2 hB2 hv => ?_
  cases e
  obtain ⟨p, vs, u, rfl, hp, hu, hr⟩ := h x H2 v hv
  exact ⟨p, vs, i, u, rfl, rfl, hp, hu, q u H2 _ hz f2 d2 hB2 (R.back f2 hB2.dom hr)⟩
theorem ew_ix20 {ra : Wp (α × β)} (ha : EvW b c S ta σ H (of (tT2 a b') S) ra) : EvW b c S (tOp (rIxT K) ta (tC (.int 0))) σ H (of a S) (unW (fun x => some x.1) ra) :=
  ew_ixT ha fun x H v ⟨p, u, w, e, h, h1, h2⟩ => ⟨p, _, u, e, h.sq, rfl, h1⟩
theorem ew_ix21 {ra : Wp (α × β)} (ha : EvW b c S ta σ H (of (tT2 a b') S) ra) : EvW b c S (tOp (rIxT K) ta (tC (.int 1))) σ H (of b' S) (unW (fun x => some x.2) ra) :=
  ew_ixT ha fun x H v ⟨p, u, w, e, h, h1, h2⟩ => ⟨p, _, w, e, h.sq, rfl, h2⟩
theorem ew_tup2 {wa : Wp α} {wb : Wp β} (ha : EvW b c S ta σ H (of a S) wa) (hb : EvW b c S tb σ H (of b' S) wb) : EvW b c S (tTup (tCons ta (tCons tb tNil))) σ H (of (tT2 a b') S) (tup2W wa wb) := fun ts P hP H1 f1 d hB Q q => by
  refine ha ts _ hP H1 f1 d hB _ fun v H2 x hx f2 d2 hB2 hv => hb ts _ hx H2 (f1.trans f2) d2 hB2 _ fun w H3 y hy f3 d3 hB3 hw => ⟨(by show 2 ≤ sizeLine; decide), fun p hp => ?_⟩
  have s4 := same_new (o := .tup [v, w]) hp
  exact q _ _ (x, y) hy ((f2.trans f3).trans (Fr.same s4)) (d3.same s4) (hB3.same s4) ⟨p, v, w, rfl, .inl ⟨.inl upd_same, d3.not_mem hp⟩, a.mono (Fr.same s4) (a.mono (f3.sub ts) hv), b'.mono (Fr.same s4) hw⟩
/-! tests -/
theorem bw_pure {r : Option Bool} (h : EvB S [b, c] tt σ H r) : BvW b c S tt σ H (lf r) := fun ts P ⟨x, e, hP⟩ H1 f d hB Q q => h x e H1 f d Q fun H2 s => q H2 x hP (Fr.same s) (d.same s) (hB.same s)
theorem bw_test {w : Wp Bool} (h : EvW b c S te σ H (of (K := K) tBool S) w) : BvW b c S (tTest te) σ H w := fun ts P hP H1 f d hB Q q => h ts P hP H1 f d hB _ fun v H2 x hx f2 d2 hB2 hv => ⟨x, hv, q H2 x hx f2 d2 hB2⟩
theorem bw_B {w : Wp Bool} (h : EvW b c S te σ H (of (K := K) tBool S) w) : BvW b c S (tB te) σ H w := fun ts P hP H1 f d hB Q q => h ts P hP H1 f d hB _ fun v H2 x hx f2 d2 hB2 hv => ⟨x, hv, q H2 x hx f2 d2 hB2⟩
theorem bw_and {r v : Wp Bool} (h : BvW b c S tt σ H r) (h' : BvW b c S tu σ H v) : BvW b c S (tAnd tt tu) σ H (andW r v) := fun ts P hP H1 f1 d hB Q q => by
  refine h ts _ hP H1 f1 d hB _ fun H2 x hx f2 d2 hB2 => ?_
  cases x with
  | true => exact h' ts P hx H2 (f1.trans f2) d2 hB2 Q fun H3 y hy f3 d3 hB3 => q H3 y hy (f2.trans f3) d3 hB3
  | false => exact q H2 false hx f2 d2 hB2
theorem bw_or {r v : Wp Bool} (h : BvW b c S tt σ H r) (h' : BvW b c S tu σ H v) : BvW b c S (tOr tt tu) σ H (orW r v) := fun ts P hP H1 f1 d hB Q q => by
  refine h ts _ hP H1 f1 d hB _ fun H2 x hx f2 d2 hB2 => ?_
  cases x with
  | false => exact h' ts P hx H2 (f1.trans f2) d2 hB2 Q fun H3 y hy f3 d3 hB3 => q H3 y hy (f2.trans f3) d3 hB3
  | true => exact q H2 true hx f2 d2 hB2
theorem ew_and {r v : Wp Bool} (h : EvW b c S ta σ H (of (K := K) tBool S) r) (h' : EvW b c S tb σ H (of (K := K) tBool S) v) : EvW b c S (tAndV ta tb) σ H (of (K := K) tBool S) (andW r v) := fun ts P hP H1 f1 d hB Q q => by
  refine h ts _ hP H1 f1 d hB _ fun v H2 x hx f2 d2 hB2 hv => ⟨x, hv, ?_⟩
  cases x with
  | true => exact h' ts P hx H2 (f1.trans f2) d2 hB2 Q fun v H3 y hy f3 d3 hB3 hv => q v H3 y hy (f2.trans f3) d3 hB3 hv
  | false => exact q _ H2 false hx f2 d2 hB2 rfl
theorem ew_or {r v : Wp Bool} (h : EvW b c S ta σ H (of (K := K) tBool S) r) (h' : EvW b c S tb σ H (of (K := K) tBool S) v) : EvW b c S (tOrV ta tb) σ H (of (K := K) tBool S) (orW r v) := fun ts P hP H1 f1 d hB Q q => by
  refine h ts _ hP H1 f1 d hB _ fun v H2 x hx f2 d2 hB2 hv => ⟨x, hv, ?_⟩
  cases x with
  | false => exact h' ts P hx H2 (f1.trans f2) d2 hB2 Q fun v H3 y hy f3 d3 hB3 hv => q v H3 y hy (f2.trans f3) d3 hB3 hv
  | true => exact q _ H2 true hx f2 d2 hB2 rfl
/-! arguments, calls -/
def EvWA (b c : Addr) (S : AS) (ta : TA) (σ : St) (H : Hp) (t : TyA K α) (w : Wp α) : Prop :=
  Sub [b, c] S → ∀ P, w P → ∀ H1, Fr [b, c] H H1 → Dom S H1 → Bag H1 b c → ∀ Q : List V → Hp → Prop, (∀ vs H2 x, P x → Fr [b, c] H1 H2 → Dom S H2 → Bag H2 b c → t.rp S H2 vs x → Q vs H2) → ta σ H1 Q
theorem wa_nil : EvWA b c S tNil σ H (K := K) aNil (lf (some ())) := fun ts P ⟨x, e, hP⟩ H1 f d hB Q q => q [] H1 x hP (Fr.refl _) d hB rfl
theorem wa_cons {tr : TA} {t : TyA K β} {wa : Wp α} {wr : Wp β} (h : EvW b c S ta σ H (of a S) wa) (hr : EvWA b c S tr σ H t wr) : EvWA b c S (tCons ta tr) σ H (aCons a t) (tup2W wa wr) := fun ts P hP H1 f1 d hB Q q =>
  h ts _ hP H1 f1 d hB _ fun v H2 x hx f2 d2 hB2 hv => hr ts _ hx H2 (f1.trans f2) d2 hB2 _ fun vs H3 y hy f3 d3 hB3 hw => q _ H3 (x, y) hy (f2.trans f3) d3 hB3 ⟨v, vs, rfl, a.mono (f3.sub ts) hv, hw⟩
theorem ew_call {ta : TA} {t : TyA K α} {R : AS → Rl γ} {f : α → Option γ} {w : Wp α} {E : XK} (h : EvWA b c S ta σ H t w) : EvW b c S (tCall (spF t R f) [] E ta) σ H (R S) (unW f w) := fun ts P hP H1 f1 d hB Q q => by
  refine h ts _ hP H1 f1 d hB _ fun vs H2 x ⟨z, e, hz⟩ f2 d2 hB2 hv => ⟨S, x, z, d2, ?_, e, fun u H' s hu => q u H' z hz (f2.trans (Fr.same s)) (d2.same s) (hB2.same s) ((R S).back f2 hB2.dom hu)⟩
  rw [List.append_nil]
  exact hv
/-- the promise of a def that draws from the bag -/
def spB (t : TyA K α) (R : AS → Rl γ) (m : α → Wp γ) : Sp := fun vs H Q _ => ∃ S b c r x P, vs = .ref b :: r ∧ Dom S H ∧ Sub [b, c] S ∧ Bag H b c ∧ t.rp S H r x ∧ m x P ∧ ∀ u H' z, P z → Fr [b, c] H H' → Bag H' b c → (R S).r H H' u z → Q u H'
theorem ew_callB {ta : TA} {t : TyA K α} {R : AS → Rl γ} {m : α → Wp γ} {w : Wp α} {E : XK} {i : Nat} (hi : σ[i]? = some (some (.ref b))) (h : EvWA b c S ta σ H t w) :
    EvW b c S (tCall (spB t R m) [] E (tCons (tVar i) ta)) σ H (R S) (callBW m w) := fun ts P hP H1 f1 d hB Q q => by
  refine ⟨_, hi, h ts _ hP H1 f1 d hB _ fun vs H2 x hx f2 d2 hB2 hv => ⟨S, b, c, vs, x, P, by rw [List.append_nil], d2, ts, hB2, hv, hx, fun u H' z hz f3 hB3 hu => q u H' z hz (f2.trans f3) (dom_fr d2 f3 hB3) hB3 ((R S).back f2 hB2.dom hu)⟩⟩
/-! lists made -/
def EvWE (b c : Addr) (S : AS) (ta : TA) (σ : St) (H : Hp) (a : Ty K α) (n : Nat) (w : Wp (List α)) : Prop :=
  Sub [b, c] S → ∀ P, w P → ∀ H1, Fr [b, c] H H1 → Dom S H1 → Bag H1 b c → ∀ Q : List V → Hp → Prop, (∀ vs H2 x, P x → vs.length = n → Fr [b, c] H1 H2 → Dom S H2 → Bag H2 b c → All2 (a.rp S H2) vs x → Q vs H2) → ta σ H1 Q
theorem wl_nil : EvWE b c S tNil σ H a 0 (lf (some [])) := fun ts P ⟨x, e, hP⟩ H1 f d hB Q q => by cases e; exact q [] H1 [] hP rfl (Fr.refl _) d hB .nil
theorem wl_cons {tr : TA} {n : Nat} {wa : Wp α} {wr : Wp (List α)} (h : EvW b c S ta σ H (of a S) wa) (hr : EvWE b c S tr σ H a n wr) : EvWE b c S (tCons ta tr) σ H a (n + 1) (consW wa wr) := fun ts P hP H1 f1 d hB Q q =>
  h ts _ hP H1 f1 d hB _ fun v H2 x hx f2 d2 hB2 hv => hr ts _ hx H2 (f1.trans f2) d2 hB2 _ fun vs H3 y hy hl f3 d3 hB3 hw => q _ H3 (x :: y) hy (by simp [hl]) (f2.trans f3) d3 hB3 (.cons (a.mono (f3.sub ts) hv) hw)
theorem ew_lst {tr : TA} {n : Nat} {wr : Wp (List α)} (h : EvWE b c S tr σ H a n wr) (hn : n ≤ sizeLine) : EvW b c S (tLst tr) σ H (nw a S) wr := fun ts P hP H1 f d hB Q q =>
  h ts P hP H1 f d hB _ fun vs H2 x hx hl f2 d2 hB2 ha => ⟨by rw [hl]; exact hn, fun p hp => q _ _ x hx (f2.trans (Fr.same (same_new hp))) (d2.same (same_new hp)) (hB2.same (same_new hp)) ⟨p, rfl, fr_back f2 hB2.dom hp, vs, upd_same, ha.imp fun _ _ h => a.mono (Fr.same (same_new hp)) (a.ext hp h)⟩⟩
/-! statements -/
theorem lw_asg {R : Rl α} {w : Wp α} {P : α → Prop} {i : Nat} (d : Dom S H) (hB : Bag H b c) (ts : Sub [b, c] S) (h : EvW b c S te σ H R w) (e : w P) (k : ∀ v H1 x, P x → Fr [b, c] H H1 → Dom S H1 → Bag H1 b c → R.r H H1 v x → D.nx (σ.set i (some v)) H1) : tAsg te (gName i) D σ H := h ts P e H (Fr.refl _) d hB _ k
theorem qw_asg {R : Rl α} {w : Wp α} {P : α → Prop} {i : Nat} (d : Dom S H) (hB : Bag H b c) (ts : Sub [b, c] S) (h : EvW b c S te σ H R w) (e : w P) (k : ∀ v H1 x, P x → Fr [b, c] H H1 → Dom S H1 → Bag H1 b c → R.r H H1 v x → u D (σ.set i (some v)) H1) : tSeq (tAsg te (gName i)) u D σ H := h ts P e H (Fr.refl _) d hB _ k
theorem qw_ret {R : Rl α} {w : Wp α} {P : α → Prop} (d : Dom S H) (hB : Bag H b c) (ts : Sub [b, c] S) (h : EvW b c S te σ H R w) (e : w P) (k : ∀ v H1 x, P x → Fr [b, c] H H1 → Dom S H1 → Bag H1 b c → R.r H H1 v x → D.rt v H1) : tRet te D σ H := h ts P e H (Fr.refl _) d hB _ k
theorem lw_if {w : Wp Bool} {P : Bool → Prop} (d : Dom S H) (hB : Bag H b c) (ts : Sub [b, c] S) (h : BvW b c S tt σ H w) (e : w P) (k1 : ∀ H1, P true → Fr [b, c] H H1 → Dom S H1 → Bag H1 b c → t1 D σ H1) (k2 : ∀ H1, P false → Fr [b, c] H H1 → Dom S H1 → Bag H1 b c → t2 D σ H1) : tIfS tt t1 t2 D σ H := h ts P e H (Fr.refl _) d hB _ fun H1 x hx f d hB => by
  cases x with
  | true => exact k1 H1 hx f d hB
  | false => exact k2 H1 hx f d hB
theorem qw_if {w : Wp Bool} {P : Bool → Prop} (d : Dom S H) (hB : Bag H b c) (ts : Sub [b, c] S) (h : BvW b c S tt σ H w) (e : w P) (k1 : ∀ H1, P true → Fr [b, c] H H1 → Dom S H1 → Bag H1 b c → t1 { D with nx := u D } σ H1) (k2 : ∀ H1, P false → Fr [b, c] H H1 → Dom S H1 → Bag H1 b c → t2 { D with nx := u D } σ H1) : tSeq (tIfS tt t1 t2) u D σ H := lw_if (D := { D with nx := u D }) d hB ts h e k1 k2
theorem ifp_t {A B : Prop} (h : if true = true then A else B) : A := h
theorem ifp_f {A B : Prop} (h : if false = true then A else B) : B := h
theorem ifp_and {g : Bool} {A : Prop} (h : if g then A else False) : g = true ∧ A := by
  cases g with
  | true => exact ⟨rfl, h⟩
  | false => exact h.elim
/-! loops -/
def loopW (f : δ → α → Wp (Ct ρ δ)) : List α → δ → Wp (Ct ρ δ)
  | [], s, P => P (.go s)
  | x :: xs, s, P => f s x fun r => match r with | .go s' => loopW f xs s' P | .ret y => P (.ret y) | .brk s' => P (.go s')
def SrW (b c : Addr) (S : AS) (wi : TI) (σ : St) (H : Hp) (a : Ty K α) (w : Wp (List α)) : Prop :=
  Sub [b, c] S → ∀ P, w P → ∀ H1, Fr [b, c] H H1 → Dom S H1 → Bag H1 b c → ∀ R : It → Hp → Prop, (∀ J H2 xs, P xs → Fr [b, c] H1 H2 → Dom S H2 → Bag H2 b c → Wk J a S H2 xs → R J H2) → wi σ H1 R
theorem srw_pure {wi : TI} {r : Option (List α)} (h : Sr S [b, c] wi σ H a r) : SrW b c S wi σ H a (lf r) := fun ts P ⟨xs, e, hP⟩ H1 f d hB R q => h xs e H1 f d R fun J H2 s wk => q J H2 xs hP (Fr.same s) (d.same s) (hB.same s) wk
theorem srw_r1 {te : TE} {w : Wp Int} (h : EvW b c S te σ H (of (K := K) tInt S) w) : SrW b c S (iRng1 (tCons te tNil)) σ H (tInt (K := K)) (unW rng1? w) := fun ts P hP H1 f d hB R q => by
  refine h ts _ hP H1 f d hB _ fun v H2 n ⟨xs, e, hx⟩ f2 d2 hB2 hv => ?_
  unfold rng1? at e
  split at e
  · rename_i hn
    cases e
    have hb := rngP_le hn
    cases hv
    exact ⟨n, rfl, hb.1, hb.2, q _ H2 _ hx f2 d2 hB2 wk_rng⟩
  · cases e
theorem lw_for_s {wi : TI} {j : Nat} {tb : TS} {w : Wp (List α)} {s0 : δ} {f : δ → α → Wp (Ct ρ δ)} {P : Ct ρ δ → Prop} (d : Dom S H) (hB : Bag H b c) (ts : Sub [b, c] S) (h : SrW b c S wi σ H a w) (hf : w fun xs => loopW f xs s0 P)
    (I : δ → St → Hp → Prop) (h0 : ∀ H1, Fr [b, c] H H1 → Dom S H1 → Bag H1 b c → I s0 σ H1)
    (step : (∀ s σ' H', P (.go s) → I s σ' H' → D.nx σ' H') → ∀ (s : δ) (x : α) (C : Ct ρ δ → Prop) (v : V) (σ' : St) (H' : Hp), I s σ' H' → a.rp S H' v x → f s x C → (∀ y, C (.ret y) → P (.ret y)) → (∀ s', C (.brk s') → P (.go s')) →
      tb { D with nx := fun σ2 H2 => ∃ s', C (.go s') ∧ Fr S H' H2 ∧ I s' σ2 H2, ct := fun σ2 H2 => ∃ s', C (.go s') ∧ Fr S H' H2 ∧ I s' σ2 H2, bk := D.nx } (σ'.set j (some v)) H')
    (done : ∀ s σ' H', P (.go s) → I s σ' H' → D.nx σ' H') : tFor wi (gName j) tb D σ H := by
  refine h ts _ hf H (Fr.refl _) d hB _ fun J H1 xs hl0 f1 d1 hB1 wk => ?_
  refine ⟨fun i m σ' H' => m = xs.length - i ∧ i ≤ xs.length ∧ Fr S H1 H' ∧ ∃ s, I s σ' H' ∧ loopW f (xs.drop i) s P, ⟨_, rfl, Nat.zero_le _, Fr.refl _, s0, h0 H1 f1 d1 hB1, hl0⟩, ?_⟩
  rintro i m σ' H' ⟨rfl, hi, fr, s, hI, hl⟩
  by_cases c : i < xs.length
  · right
    rw [List.drop_eq_getElem_cons c] at hl
    simp only [loopW] at hl
    refine ⟨wk.go H' i fr c, fun σ2 H2 => ∃ s', loopW f (xs.drop (i + 1)) s' P ∧ Fr S H' H2 ∧ I s' σ2 H2, ?_, ?_⟩
    · rintro σ2 H2 ⟨s', hl', f2, hI'⟩
      exact ⟨xs.length - (i + 1), by omega, rfl, by omega, fr.trans f2, s', hI', hl'⟩
    · intro v H2 hy
      obtain ⟨rfl, hv⟩ := wk.yl H' i v H2 fr hy _ (List.getElem?_eq_getElem c)
      exact step done s xs[i] _ v σ' _ hI (a.mono fr hv) hl (fun y ey => ey) (fun s' ey => ey)
  · left
    refine ⟨wk.st H' i fr (by omega), ?_⟩
    rw [List.drop_eq_nil_of_le (by omega)] at hl
    exact done s σ' H' hl hI
theorem qw_for_s {wi : TI} {j : Nat} {tb : TS} {w : Wp (List α)} {s0 : δ} {f : δ → α → Wp (Ct ρ δ)} {P : Ct ρ δ → Prop} (d : Dom S H) (hB : Bag H b c) (ts : Sub [b, c] S) (h : SrW b c S wi σ H a w) (hf : w fun xs => loopW f xs s0 P)
    (I : δ → St → Hp → Prop) (h0 : ∀ H1, Fr [b, c] H H1 → Dom S H1 → Bag H1 b c → I s0 σ H1)
    (step : (∀ s σ' H', P (.go s) → I s σ' H' → u D σ' H') → ∀ (s : δ) (x : α) (C : Ct ρ δ → Prop) (v : V) (σ' : St) (H' : Hp), I s σ' H' → a.rp S H' v x → f s x C → (∀ y, C (.ret y) → P (.ret y)) → (∀ s', C (.brk s') → P (.go s')) →
      tb { D with nx := fun σ2 H2 => ∃ s', C (.go s') ∧ Fr S H' H2 ∧ I s' σ2 H2, ct := fun σ2 H2 => ∃ s', C (.go s') ∧ Fr S H' H2 ∧ I s' σ2 H2, bk := u D } (σ'.set j (some v)) H')
    (done : ∀ s σ' H', P (.go s) → I s σ' H' → u D σ' H') : tSeq (tFor wi (gName j) tb) u D σ H := lw_for_s (D := { D with nx := u D }) d hB ts h hf I h0 step done
theorem _root_.G.Bag.mut {p : Addr} {H H' : Hp} (h : Bag H b c) (m : Mut1 p H H') (n : p ∉ [b, c]) : Bag H' b c := by
  obtain ⟨ne, ns, sl, sd, h1, h2, r⟩ := h
  simp only [List.mem_cons, List.not_mem_nil, or_false, not_or] at n
  exact ⟨ne, ns, sl, sd, m.k _ _ h1 (Ne.symm n.1), m.k _ _ h2 (Ne.symm n.2), r⟩
def jn (f : (δ → Prop) → Prop) (k : δ → Prop) : Prop := f k
theorem jn_open {f : (δ → Prop) → Prop} {k : δ → Prop} (h : jn f k) : ∃ K_ : δ → Prop, (∀ j, K_ j → k j) ∧ f K_ := ⟨k, fun _ h => h, h⟩
/-! owned lists read -/
theorem ev_ownIx {p : Addr} {xs : List α} {i : Nat} {r : Option Int} (o : Own a S H p xs) (nt : p ∉ T) (ts : Sub T S) (hi : σ[i]? = some (some (.ref p))) (h : Ev S T te σ H (of (K := K) tInt S) r) : Ev S T (tOp (rIxL K) (tVar i) te) σ H (of a S) (bd r fun y => atI xs y) := by
  intro z e H1 f1 d Q q
  obtain ⟨y, ey, e⟩ := bd_some e
  refine ⟨_, hi, h y ey H1 f1 d _ fun v H2 s2 hv => ?_⟩
  cases hv
  obtain ⟨vs, hvs, ha⟩ := (o.fr f1 ts nt).same s2
  obtain ⟨w, hw, hz⟩ := ha.at e
  exact ⟨p, vs, y, w, rfl, rfl, .inl (.inl hvs), hw, q _ _ s2 hz⟩
theorem ev_ownLen {p : Addr} {xs : List α} {i : Nat} (o : Own a S H p xs) (nt : p ∉ T) (ts : Sub T S) (hi : σ[i]? = some (some (.ref p))) : Ev S T (tCB (fun xs H Q => ∃ p ys, xs = [.ref p] ∧ (SqL K H p ys ∨ SqT K H p ys) ∧ Q (.int ys.length) H) (tCons (tVar i) tNil)) σ H (of (K := K) tInt S) (some (xs.length : Int)) := by
  intro z e H1 f1 d Q q
  cases e
  obtain ⟨vs, hvs, ha⟩ := o.fr f1 ts nt
  exact ⟨_, hi, p, vs, rfl, .inl (.inl (.inl hvs)), q _ _ (Same.refl _) (by show V.int _ = V.int _; rw [ha.len])⟩
theorem ev_ownNe [DecidableEq α] (dt : TyD a) (hd : (dL dt).dep ≤ 64) {p : Addr} {xs : List α} {i : Nat} {r : Option (List α)} (o : Own a S H p xs) (nt : p ∉ T) (ts : Sub T S) (hi : σ[i]? = some (some (.ref p))) (h : Ev S T te σ H (of (tL a) S) r) : Ev S T (tOp (rNeD K) (tVar i) te) σ H (of (K := K) tBool S) (bd r fun y => some (!decide (xs = y))) := by
  intro z e H1 f1 d Q q
  obtain ⟨y, ey, e⟩ := bd_some e
  cases e
  refine ⟨_, hi, h y ey H1 f1 d _ fun v H2 s2 hv => ?_⟩
  obtain ⟨vs, hvs, ha⟩ := (o.fr f1 ts nt).same s2
  have rp0 : (tL a).rp [] H2 (.ref p) xs := ⟨p, vs, rfl, ⟨hvs, by simp⟩, ha.imp fun _ _ => a.sub fun _ m => by simp at m⟩
  refine ⟨_, _, (dL dt).dp rp0, (dL dt).dp hv, (dL dt).shaped hd rp0, (dL dt).shaped hd hv, ?_⟩
  rw [(dL dt).dec]
  exact q _ _ s2 rfl
end
end M

namespace M
open PySem L2 G
section
variable {K : PySem.W.Frag} {α β γ δ ε ρ : Type} {S T : AS} {σ : St} {H : Hp} {ta tb te tc td : TE} {tt tu : TT} {a : Ty K α} {b' : Ty K β} {c' : Ty K γ} {d' : Ty K δ} {D : Ends} {u t1 t2 : TS} {b c : Addr}
/-! ### None or a thing -/
def optM (o : Option α) (A : β) (B : α → β) : β := match o with | none => A | some x => B x
theorem opt_cases {o : Option α} {A : Option β} {B : α → Option β} {y : β} (h : optM o A B = some y) : (o = none ∧ A = some y) ∨ ∃ x, o = some x ∧ B x = some y := by
  cases o with
  | none => exact .inl ⟨rfl, h⟩
  | some x => exact .inr ⟨x, rfl, h⟩
theorem optp_cases {o : Option α} {A : Prop} {B : α → Prop} (h : optM o A B) : (o = none ∧ A) ∨ ∃ x, o = some x ∧ B x := by
  cases o with
  | none => exact .inl ⟨rfl, h⟩
  | some x => exact .inr ⟨x, rfl, h⟩
/-- a code whose things are never None -/
class NN (a : Ty K α) : Prop where
  h : ∀ {S H v x}, a.rp S H v x → v ≠ .non
instance : NN (K := K) tInt := ⟨fun h => by rw [show _ = _ from h]; intro z; cases z⟩
instance : NN (K := K) tBool := ⟨fun h => by rw [show _ = _ from h]; intro z; cases z⟩
instance : NN (K := K) tStr := ⟨fun h => by rw [h.1]; intro z; cases z⟩
instance : NN (K := K) tRat := ⟨fun ⟨p, e, _⟩ => by rw [e]; intro z; cases z⟩
instance : NN (tT2 a b') := ⟨fun ⟨p, u, w, e, _⟩ => by rw [e]; intro z; cases z⟩
instance : NN (tL a) := ⟨fun ⟨p, u, e, _⟩ => by rw [e]; intro z; cases z⟩
instance : NN (tTs a) := ⟨fun ⟨p, u, e, _⟩ => by rw [e]; intro z; cases z⟩
theorem ev_oN {r : Option Unit} (h : Ev S T te σ H (of (K := K) tNone S) r) : Ev S T te σ H (of (tOpt a) S) (bd r fun _ => some none) := ev_as h fun x y e H1 H2 v d hv => by
  cases e
  exact hv
theorem ev_oS [NN a] {r : Option α} (h : Ev S T te σ H (of a S) r) : Ev S T te σ H (of (tOpt a) S) (bd r fun x => some (some x)) := ev_as h fun x y e H1 H2 v d hv => by
  cases e
  exact ⟨NN.h hv, hv⟩
theorem eb_isN (ts : Sub T S) {i : Nat} {v : V} {x : Option α} (h : (tOpt a).rp S H v x) (e : σ[i]? = some (some v)) : EvB S T (tTest (tOp (fun x y H Q => y = .non ∧ Q (.bl (decide (x = .non))) H) (tVar i) (tC .non))) σ H (some x.isNone) := by
  intro z ez H1 f d Q q
  cases ez
  refine ⟨v, e, rfl, _, rfl, ?_⟩
  cases x with
  | none => rw [show v = .non from h]; exact q H1 (Same.refl _)
  | some y => rw [decide_eq_false h.1]; exact q H1 (Same.refl _)
theorem eb_notN (ts : Sub T S) {i : Nat} {v : V} {x : Option α} (h : (tOpt a).rp S H v x) (e : σ[i]? = some (some v)) : EvB S T (tTest (tOp (fun x y H Q => y = .non ∧ Q (.bl (!decide (x = .non))) H) (tVar i) (tC .non))) σ H (some x.isSome) := by
  intro z ez H1 f d Q q
  cases ez
  refine ⟨v, e, rfl, _, rfl, ?_⟩
  cases x with
  | none => rw [show v = .non from h]; exact q H1 (Same.refl _)
  | some y => rw [decide_eq_false h.1]; exact q H1 (Same.refl _)
theorem opt_is {v : V} {x : Option α} {y : α} (h : (tOpt a).rp S H v x) (e : x = some y) : a.rp S H v y := by
  subst e
  exact h.2
theorem opt_back [NN a] {v : V} {x : Option α} {y : α} (h : a.rp S H v y) (e : x = some y) : (tOpt a).rp S H v x := by
  subst e
  exact ⟨NN.h h, h⟩
/-! ### tuples of four -/
def tT4 (c1 : Ty K α) (c2 : Ty K β) (c3 : Ty K γ) (c4 : Ty K δ) : Ty K (α × β × γ × δ) where
  rp S H v x := ∃ a u1 u2 u3 u4, v = .ref a ∧ nT K S H a [u1, u2, u3, u4] ∧ c1.rp S H u1 x.1 ∧ c2.rp S H u2 x.2.1 ∧ c3.rp S H u3 x.2.2.1 ∧ c4.rp S H u4 x.2.2.2
  mono f := fun ⟨a, u1, u2, u3, u4, e, h, h1, h2, h3, h4⟩ => ⟨a, u1, u2, u3, u4, e, h.mono f, c1.mono f h1, c2.mono f h2, c3.mono f h3, c4.mono f h4⟩
  ext f := fun ⟨a, u1, u2, u3, u4, e, h, h1, h2, h3, h4⟩ => ⟨a, u1, u2, u3, u4, e, h.ext f, c1.ext f h1, c2.ext f h2, c3.ext f h3, c4.ext f h4⟩
  sub f := fun ⟨a, u1, u2, u3, u4, e, h, h1, h2, h3, h4⟩ => ⟨a, u1, u2, u3, u4, e, h.sub f, c1.sub f h1, c2.sub f h2, c3.sub f h3, c4.sub f h4⟩
theorem ev_tup4 {ra : Option α} {rb : Option β} {rc : Option γ} {rd : Option δ} (ha : Ev S T ta σ H (of a S) ra) (hb : Ev S T tb σ H (of b' S) rb) (hc : Ev S T tc σ H (of c' S) rc) (hd : Ev S T td σ H (of d' S) rd) :
    Ev S T (tTup (tCons ta (tCons tb (tCons tc (tCons td tNil))))) σ H (of (tT4 a b' c' d') S) (bd ra fun x => bd rb fun y => bd rc fun z => bd rd fun w => some (x, y, z, w)) := by
  intro z e H1 f1 d Q q
  obtain ⟨x, ex, e⟩ := bd_some e
  obtain ⟨y, ey, e⟩ := bd_some e
  obtain ⟨z3, ez, e⟩ := bd_some e
  obtain ⟨w4, ew, e⟩ := bd_some e
  cases e
  refine ha x ex H1 f1 d _ fun v1 H2 s2 h1 => hb y ey H2 (f1.trans (Fr.same s2)) (d.same s2) _ fun v2 H3 s3 h2 => hc z3 ez H3 (f1.trans (Fr.same (s2.trans s3))) (d.same (s2.trans s3)) _ fun v3 H4 s4 h3 => hd w4 ew H4 (f1.trans (Fr.same ((s2.trans s3).trans s4))) (d.same ((s2.trans s3).trans s4)) _ fun v4 H5 s5 h4 => ⟨(by show 4 ≤ sizeLine; decide), fun p hp => ?_⟩
  have sn := same_new (o := .tup [v1, v2, v3, v4]) hp
  have dd := d.same (((s2.trans s3).trans s4).trans s5)
  exact q _ _ ((((s2.trans s3).trans s4).trans s5).trans sn) ⟨p, v1, v2, v3, v4, rfl, .inl ⟨.inl upd_same, dd.not_mem hp⟩, a.mono (Fr.same (((s3.trans s4).trans s5).trans sn)) h1, b'.mono (Fr.same ((s4.trans s5).trans sn)) h2, c'.mono (Fr.same (s5.trans sn)) h3, d'.mono (Fr.same sn) h4⟩
/-! a, b = e -/
theorem q_unp2 {i j : Nat} {r : Option (α × β)} {x : α × β} (d : Dom S H) (h : Ev S T te σ H (of (tT2 a b') S) r) (e : r = some x) (k : ∀ v w H1, Same H H1 → a.rp S H1 v x.1 → b'.rp S H1 w x.2 → u D ((σ.set i (some v)).set j (some w)) H1) :
    tSeq (tAsg te (gTup K 2 (gCons (gName i) (gCons (gName j) gNil)))) u D σ H := h x e H (Fr.refl _) d _ fun v H1 s1 ⟨p, u1, u2, ev, hp, h1, h2⟩ => ⟨p, _, ev, hp.sq, rfl, u1, _, rfl, u2, _, rfl, rfl, k u1 u2 H1 s1 h1 h2⟩
theorem q_unp4 {i j l m : Nat} {r : Option (α × β × γ × δ)} {x : α × β × γ × δ} (d : Dom S H) (h : Ev S T te σ H (of (tT4 a b' c' d') S) r) (e : r = some x) (k : ∀ v1 v2 v3 v4 H1, Same H H1 → a.rp S H1 v1 x.1 → b'.rp S H1 v2 x.2.1 → c'.rp S H1 v3 x.2.2.1 → d'.rp S H1 v4 x.2.2.2 → u D ((((σ.set i (some v1)).set j (some v2)).set l (some v3)).set m (some v4)) H1) :
    tSeq (tAsg te (gTup K 4 (gCons (gName i) (gCons (gName j) (gCons (gName l) (gCons (gName m) gNil)))))) u D σ H := h x e H (Fr.refl _) d _ fun v H1 s1 ⟨p, u1, u2, u3, u4, ev, hp, h1, h2, h3, h4⟩ => ⟨p, _, ev, hp.sq, rfl, u1, _, rfl, u2, _, rfl, u3, _, rfl, u4, _, rfl, rfl, k u1 u2 u3 u4 H1 s1 h1 h2 h3 h4⟩
theorem ev_revL {r : Option (List α)} (h : Ev S T te σ H (of (tL a) S) r) : Ev S T (tRevL K te) σ H (nw a S) (bd r fun x => some x.reverse) := by
  intro z e H1 f1 d Q q
  obtain ⟨x, ex, e⟩ := bd_some e
  cases e
  refine h x ex H1 f1 d _ fun v H2 s2 hv => ?_
  obtain ⟨p, vs, rfl, hp, ha⟩ := hv
  have hr : ∀ {vs : List V} {xs : List α}, All2 (a.rp S H2) vs xs → All2 (a.rp S H2) vs.reverse xs.reverse := fun {vs xs} h => by
    induction h with
    | nil => exact .nil
    | cons h _ ih => rw [List.reverse_cons, List.reverse_cons]; exact ih.snoc h
  exact ⟨p, vs, rfl, hp.sq, fun l hl => q _ _ (s2.trans (same_new hl)) ⟨l, rfl, s2.free hl, _, upd_same, (hr ha).imp fun _ _ h => a.mono (Fr.same (same_new hl)) (a.ext hl h)⟩⟩
end
end M

namespace M
open PySem L2 G
section
variable {K : PySem.W.Frag} {α β γ δ ε ρ : Type} {S T : AS} {σ : St} {H : Hp} {ta tb te tc td : TE} {tt tu : TT} {a : Ty K α} {b' : Ty K β} {c' : Ty K γ} {d' : Ty K δ} {D : Ends} {u t1 t2 : TS} {b c : Addr}
def rLenQ (K : PySem.W.Frag) : List V → Hp → VK → Prop := fun xs H Q => ∃ p ys, xs = [.ref p] ∧ (SqL K H p ys ∨ SqT K H p ys) ∧ Q (.int ys.length) H
/-! ### lists put together -/
def cat? (xs ys : List α) : Option (List α) := if xs.length + ys.length ≤ 100000 then some (xs ++ ys) else none
theorem od_cat : OpD (tL a) (tL a) S (nw a S) rCat cat? := by
  intro x y z e H1 v w d hv hw Q q
  unfold cat? at e
  split at e
  · rename_i hl
    cases e
    obtain ⟨p, vs, rfl, hp, ha⟩ := hv
    obtain ⟨p', ws, rfl, hp', hb⟩ := hw
    refine ⟨p, p', vs, ws, rfl, rfl, hp.1, hp'.1, Nat.le_trans (by rw [ha.len, hb.len]; exact hl) (by decide), fun l hl => q _ _ (same_new hl) ⟨l, rfl, hl, _, upd_same, (ha.app hb).imp fun _ _ h => a.mono (Fr.same (same_new hl)) (a.ext hl h)⟩⟩
  · cases e
theorem ev_catO {p : Addr} {ys : List α} {i : Nat} {ra : Option (List α)} (o : Own a S H p ys) (nt : p ∉ T) (ts : Sub T S) (hi : σ[i]? = some (some (.ref p))) (ha : Ev S T ta σ H (of (tL a) S) ra) : Ev S T (tOp rCat ta (tVar i)) σ H (nw a S) (bd ra fun x => cat? x ys) := by
  intro z e H1 f1 d Q q
  obtain ⟨x, ex, e⟩ := bd_some e
  unfold cat? at e
  split at e
  · rename_i hl
    cases e
    refine ha x ex H1 f1 d _ fun v H2 s2 hv => ⟨_, hi, ?_⟩
    obtain ⟨ws, hw, hb⟩ := (o.fr f1 ts nt).same s2
    obtain ⟨p', vs, rfl, hp, hvs⟩ := hv
    exact ⟨p', p, vs, ws, rfl, rfl, hp.1, hw, Nat.le_trans (by rw [hvs.len, hb.len]; exact hl) (by decide), fun l hl => q _ _ (s2.trans (same_new hl)) ⟨l, rfl, s2.free hl, _, upd_same, (hvs.app hb).imp fun _ _ h => a.mono (Fr.same (same_new hl)) (a.ext hl h)⟩⟩
  · cases e
theorem Fr.transx {S S' : AS} {H0 H1 H2 : Hp} (f : Fr S H0 H1) (g : Fr S' H1 H2) (h : ∀ a ∈ S', a ∉ S → H0 a = none) : Fr S H0 H2 := fun a o e n => g a o (f a o e n) fun m => by rw [h a m n] at e; cases e
theorem fresh_cons {S S' : AS} {H0 : Hp} {p : Addr} (h : ∀ a ∈ S', a ∉ S → H0 a = none) (n : H0 p = none) : ∀ a ∈ p :: S', a ∉ S → H0 a = none := fun a m k => by
  rcases List.mem_cons.mp m with rfl | m
  · exact n
  · exact h a m k
def rep? (xs : List α) (k : Int) : Option (List α) := if 0 ≤ k ∧ k ≤ 1000 ∧ xs.length ≤ 100 then some (List.replicate k.toNat xs).flatten else none
theorem All2.rep {F : V → α → Prop} {vs : List V} {xs : List α} (h : All2 F vs xs) : ∀ n : Nat, All2 F (List.replicate n vs).flatten (List.replicate n xs).flatten
  | 0 => .nil
  | n + 1 => by
    rw [List.replicate_succ, List.replicate_succ, List.flatten_cons, List.flatten_cons]
    exact h.app (All2.rep h n)
theorem od_rep : OpD (tL a) (K := K) tInt S (nw a S) rRep rep? := by
  intro x y z e H1 v w d hv hw Q q
  unfold rep? at e
  split at e
  · rename_i hl
    cases e
    obtain ⟨p, vs, rfl, hp, ha⟩ := hv
    cases hw
    refine ⟨p, y, vs, rfl, rfl, hp.1, by omega, by omega, ?_, fun l hl => q _ _ (same_new hl) ⟨l, rfl, hl, _, upd_same, (ha.rep _).imp fun _ _ h => a.mono (Fr.same (same_new hl)) (a.ext hl h)⟩⟩
    refine Nat.le_trans (Nat.mul_le_mul (show vs.length ≤ 100 by rw [ha.len]; omega) (show y.toNat ≤ 1000 by omega)) (by decide)
  · cases e
/-! ### the least of several -/
theorem All2.ints {S : AS} {H : Hp} : ∀ {vs : List V} {xs : List Int}, All2 ((tInt (K := K)).rp S H) vs xs → vs = xs.map V.int
  | _, _, .nil => rfl
  | _, _, .cons h r => by rw [List.map_cons, ← All2.ints r, show _ = _ from h]
theorem ev_min {r : Option (List Int)} (h : Ev S T te σ H (of (K := K) (tL tInt) S) r) : Ev S T (tCB (rMin K) (tCons te tNil)) σ H (of (K := K) tInt S) (bd r fun x => x.min?) := by
  intro z e H1 f1 d Q q
  obtain ⟨x, ex, e⟩ := bd_some e
  have hm := List.min?_eq_some_iff.mp e
  refine h x ex H1 f1 d _ fun v H2 s hv => ?_
  obtain ⟨p, vs, rfl, hp, ha⟩ := hv
  refine ⟨p, x, rfl, by rw [← ha.ints]; exact hp.sq, List.length_pos_of_mem hm.1, fun m h1 h2 => ?_⟩
  have : m = z := Int.le_antisymm (h2 z hm.1) (hm.2 m h1)
  rw [this]
  exact q _ H2 s rfl
/-! ### in -/
theorem inV_int (i : Int) : ∀ xs : List Int, inV (.int i) (xs.map V.int) = decide (i ∈ xs)
  | [] => by simp [inV]
  | x :: r => by
    have ih := inV_int i r
    unfold inV at ih ⊢
    rw [List.map_cons, List.any_cons, ih]
    have : eqV (.int x) (.int i) = decide (x = i) := by
      simp [eqV]
      rfl
    rw [this]
    by_cases c : x = i
    · subst c; simp
    · have : ¬ i = x := fun z => c z.symm
      simp [c, this]
theorem flat_ints : ∀ xs : List Int, (xs.map V.int).all flatV = true
  | [] => rfl
  | x :: r => by rw [List.map_cons, List.all_cons, flat_ints r]; rfl
theorem od_inI {neg : Bool} : OpD (K := K) tInt (tL tInt) S (of (K := K) tBool S) (rIn K neg) (fun x xs => some (if neg then !decide (x ∈ xs) else decide (x ∈ xs))) := by
  intro x y z e H1 v w d hv hw Q q
  cases e
  obtain ⟨p, vs, rfl, hp, ha⟩ := hw
  cases hv
  refine ⟨p, vs, rfl, .inl hp.sq, rfl, by rw [ha.ints]; exact flat_ints y, ?_⟩
  rw [ha.ints, inV_int]
  exact q _ H1 (Same.refl _) rfl
theorem od_inIT {neg : Bool} : OpD (K := K) tInt (tTs tInt) S (of (K := K) tBool S) (rIn K neg) (fun x xs => some (if neg then !decide (x ∈ xs) else decide (x ∈ xs))) := by
  intro x y z e H1 v w d hv hw Q q
  cases e
  obtain ⟨p, vs, rfl, hp, ha⟩ := hw
  cases hv
  refine ⟨p, vs, rfl, .inr hp.sq, rfl, by rw [ha.ints]; exact flat_ints y, ?_⟩
  rw [ha.ints, inV_int]
  exact q _ H1 (Same.refl _) rfl
/-! ### a list or a tuple -/
def tSq (a : Ty K α) : Ty K (List α) where
  rp S H v xs := (tL a).rp S H v xs ∨ (tTs a).rp S H v xs
  mono f := fun h => h.elim (fun h => .inl ((tL a).mono f h)) (fun h => .inr ((tTs a).mono f h))
  ext f := fun h => h.elim (fun h => .inl ((tL a).ext f h)) (fun h => .inr ((tTs a).ext f h))
  sub f := fun h => h.elim (fun h => .inl ((tL a).sub f h)) (fun h => .inr ((tTs a).sub f h))
theorem ev_L2Sq {r : Option (List α)} (h : Ev S T te σ H (of (tL a) S) r) : Ev S T te σ H (of (tSq a) S) r := fun x e H1 f d Q q => h x e H1 f d Q fun v H2 s hv => q v H2 s (.inl hv)
theorem ev_T2Sq {r : Option (List α)} (h : Ev S T te σ H (of (tTs a) S) r) : Ev S T te σ H (of (tSq a) S) r := fun x e H1 f d Q q => h x e H1 f d Q fun v H2 s hv => q v H2 s (.inr hv)
theorem od_inISq {neg : Bool} : OpD (K := K) tInt (tSq tInt) S (of (K := K) tBool S) (rIn K neg) (fun x xs => some (if neg then !decide (x ∈ xs) else decide (x ∈ xs))) := by
  intro x y z e H1 v w d hv hw Q q
  rcases hw with hw | hw
  · exact od_inI x y z e H1 v w d hv hw Q q
  · exact od_inIT x y z e H1 v w d hv hw Q q
theorem ev_listSq {r : Option (List α)} (h : Ev S T te σ H (of (tSq a) S) r) : Ev S T (tCB (fun xs H Q => ∃ p ys, xs = [.ref p] ∧ (SqL K H p ys ∨ SqT K H p ys) ∧ ∀ l, H l = none → Q (.ref l) (upd H l (.lst ys))) (tCons te tNil)) σ H (nw a S) r := fun x e H1 f d Q q => by
  refine h x e H1 f d _ fun v H2 s2 hv => ?_
  rcases hv with ⟨p, vs, rfl, hp, ha⟩ | ⟨p, vs, rfl, hp, ha⟩
  · exact ⟨p, vs, rfl, .inl hp.sq, fun l hl => q _ _ (s2.trans (same_new hl)) ⟨l, rfl, s2.free hl, vs, upd_same, ha.imp fun _ _ h => a.mono (Fr.same (same_new hl)) (a.ext hl h)⟩⟩
  · exact ⟨p, vs, rfl, .inr hp.sq, fun l hl => q _ _ (s2.trans (same_new hl)) ⟨l, rfl, s2.free hl, vs, upd_same, ha.imp fun _ _ h => a.mono (Fr.same (same_new hl)) (a.ext hl h)⟩⟩
/-! ### tuple(xs) -/
theorem ev_tupleL {r : Option (List α)} (h : Ev S T te σ H (of (tL a) S) r) : Ev S T (tCB (fun xs H Q => ∃ p ys, xs = [.ref p] ∧ ((SqL K H p ys ∧ ∀ l, H l = none → Q (.ref l) (upd H l (.tup ys))) ∨ (SqT K H p ys ∧ Q (.ref p) H))) (tCons te tNil)) σ H (of (tTs a) S) r := fun x e H1 f d Q q => by
  refine h x e H1 f d _ fun v H2 s2 hv => ?_
  obtain ⟨p, vs, rfl, hp, ha⟩ := hv
  exact ⟨p, vs, rfl, .inl ⟨hp.sq, fun l hl => q _ _ (s2.trans (same_new hl)) ⟨l, vs, rfl, .inl ⟨.inl upd_same, (d.same s2).not_mem hl⟩, ha.imp fun _ _ h => a.mono (Fr.same (same_new hl)) h⟩⟩⟩
/-! ### xs[i] = e of an owned list -/
def set? (xs : List α) (i : Int) (x : α) : Option (List α) := (ixN xs.length i).bind fun j => some (xs.set j x)
theorem l_set {p : Addr} {xs ys : List α} {i : Nat} {r : Option α} {ri : Option Int} {x : α} {k : Int} (d : Dom S H) (o : Own a S H p xs) (im : p ∈ S) (nt : p ∉ T) (ts : Sub T S) (hi : σ[i]? = some (some (.ref p))) (h : Ev S T te σ H (of a S) r) (e : r = some x) (hk : Ev S T td σ H (of (K := K) tInt S) ri) (ek : ri = some k) (f : set? xs k x = some ys)
    (q : ∀ H1, Mut1 p H H1 → Fr S H H1 → Own a S H1 p ys → D.nx σ H1) : tAsg te (gSub (tVar i) td rSetL) D σ H := by
  obtain ⟨vs, hv, ha⟩ := o
  obtain ⟨j, ej, f⟩ := bd_some f
  cases f
  refine h x e H (Fr.refl _) d _ fun v H1 s1 hx => ⟨_, hi, hk k ek H1 (Fr.same s1) (d.same s1) _ fun w H2 s2 hw => ?_⟩
  cases hw
  refine ⟨p, vs, k, j, rfl, rfl, s2 _ _ (s1 _ _ hv), by rw [ha.len]; exact ej, ?_⟩
  have f1 : Fr S H2 (upd H2 p (.lst (vs.set j v))) := fr_upd im
  refine q _ ⟨fun b ob e n => by rw [upd_ne n]; exact s2 _ _ (s1 _ _ e), by rw [upd_same]; intro z; cases z⟩ ((Fr.same (s1.trans s2)).trans f1) ⟨_, upd_same, ?_⟩
  exact (All2.set (a.mono (Fr.same s2) hx) j (ha.imp fun _ _ h => a.mono (Fr.same (s1.trans s2)) h)).imp fun _ _ h => a.mono f1 h
theorem q_set {p : Addr} {xs ys : List α} {i : Nat} {r : Option α} {ri : Option Int} {x : α} {k : Int} (d : Dom S H) (o : Own a S H p xs) (im : p ∈ S) (nt : p ∉ T) (ts : Sub T S) (hi : σ[i]? = some (some (.ref p))) (h : Ev S T te σ H (of a S) r) (e : r = some x) (hk : Ev S T td σ H (of (K := K) tInt S) ri) (ek : ri = some k) (f : set? xs k x = some ys)
    (q : ∀ H1, Mut1 p H H1 → Fr S H H1 → Own a S H1 p ys → u D σ H1) : tSeq (tAsg te (gSub (tVar i) td rSetL)) u D σ H := l_set (D := { D with nx := u D }) d o im nt ts hi h e hk ek f q
/-! ### range(a, b, -1) -/
def dnL (i : Int) (n : Nat) : List Int := (List.range n).map fun (k : Nat) => i - (k : Int)
def rng3? (i j : Int) : Option (List Int) := if rngP i && rngP j then some (dnL i (i - j).toNat) else none
theorem wk_dn {i : Int} {n : Nat} : Wk (Itc i (-1) n) (tInt (K := K)) S H (dnL i n) where
  go H' k f hi := by
    show k < n
    simpa [dnL] using hi
  yl H' k v H'' f h y hy := by
    obtain ⟨e, hx⟩ := h
    refine ⟨e, ?_⟩
    unfold dnL at hy
    rw [List.getElem?_map] at hy
    cases q : (List.range n)[k]? with
    | none => rw [q] at hy; cases hy
    | some m =>
      rw [q] at hy
      cases hy
      have : m = k := by
        have := (List.getElem?_eq_some_iff.mp q).2
        simp at this
        omega
      subst this
      rw [hx]
      show V.int (i + ((m : Nat) : Int) * -1) = V.int (i - (m : Int))
      congr 1
      omega
  st H' k f hi := by
    show n ≤ k
    simpa [dnL] using hi
theorem sr_r3 {te tg : TE} {r r' : Option Int} (h : Ev S T te σ H (of (K := K) tInt S) r) (h' : Ev S T tg σ H (of (K := K) tInt S) r') : Sr S T (iRng3 (tCons te (tCons tg (tCons (tUn (rU fun i => .int (-i)) (tC (.int 1))) tNil)))) σ H (tInt (K := K)) (bd r fun x => bd r' fun y => rng3? x y) := fun xs e H1 f d R q => by
  obtain ⟨lo, el, e⟩ := bd_some e
  obtain ⟨n, en, e⟩ := bd_some e
  unfold rng3? at e
  split at e
  · rename_i hn
    cases e
    rw [Bool.and_eq_true] at hn
    have hb := rngP_le hn.1
    have hc := rngP_le hn.2
    refine h lo el H1 f d _ fun v H2 s hv => h' n en H2 (f.trans (Fr.same s)) (d.same s) _ fun v' H3 s3 hv' => ?_
    cases hv
    cases hv'
    exact ⟨1, rfl, lo, n, -1, _, rfl, RgC.neg hb.1 hb.2 hc.1 hc.2, q _ H3 (s.trans s3) wk_dn⟩
  · cases e
end
end M

namespace M
open PySem L2 G
section
variable {K : PySem.W.Frag} {α β γ δ ε ρ : Type} {S T : AS} {σ : St} {H : Hp} {ta tb te tc td : TE} {tt tu : TT} {a : Ty K α} {b' : Ty K β} {D : Ends} {u t1 t2 : TS} {b c : Addr}
/-! ### comprehensions that draw -/
def filW (f : α → Wp (Option β)) : List α → Wp (List β)
  | [], P => P []
  | x :: xs, P => f x fun o => filW f xs fun ys => P (o.toList ++ ys)
def lcW (w : Wp (List α)) (f : α → Wp (Option β)) : Wp (List β) := fun P => w fun xs => if xs.length < 100000 then filW f xs P else False
theorem ew_lcCore {wi : TI} {j : Nat} {ws : List Nat} {w : Wp (List α)} {f : α → Wp (Option β)} (h : SrW b c S wi σ H a w) (hw : ∀ x, wipe ((wipe σ ws).set j (some x)) ws = wipe σ ws)
    (he : ∀ (x : α) (v : V) (H2 H' : Hp) (p : Addr) (Po : Option β → Prop), Sub [b, c] S → Fr [b, c] H H2 → H2 p = none → Fr [b, c] H2 H' → a.rp (p :: S) H' v x → Dom (p :: S) H' → Bag H' b c → f x Po → ∀ (Q1 : V → Hp → Prop) (Q0 : Hp → Prop),
      (∀ y w H3, Po (some y) → Fr [b, c] H' H3 → Dom (p :: S) H3 → Bag H3 b c → b'.rp (p :: S) H3 w y → Q1 w H3) → (∀ H3, Po none → Fr [b, c] H' H3 → Dom (p :: S) H3 → Bag H3 b c → Q0 H3) →
      tt ((wipe σ ws).set j (some v)) H' fun k H3 => if k = true then te ((wipe σ ws).set j (some v)) H3 Q1 else Q0 H3) :
    EvW b c S (tLc wi (gName j) tt te ws) σ H (nw b' S) (lcW w f) := fun ts P hP H1 f1 d hB Q q => by
  refine h ts _ hP H1 f1 d hB _ fun J H2 xs hx f2 d2 hB2 wk => fun Dl hD => ?_
  split at hx
  rotate_left
  · exact hx.elim
  rename_i hlen
  have nD : Dl ∉ [b, c] := hB2.dom.not_mem hD
  have sD : Same H2 (upd H2 Dl (.lst [])) := same_new hD
  refine ⟨fun i m H' => m = xs.length - i ∧ i ≤ xs.length ∧ ∃ acc pre, H' Dl = some (.lst acc) ∧ Fr [b, c] H2 H' ∧ Dom (Dl :: S) H' ∧ Bag H' b c ∧ acc.length ≤ i ∧ All2 (b'.rp (Dl :: S) H') acc pre ∧ filW f (xs.drop i) fun suf => P (pre ++ suf),
    ⟨_, rfl, Nat.zero_le _, [], [], upd_same, Fr.same sD, (d2.same sD).cons upd_same, hB2.same sD, Nat.zero_le _, .nil, hx⟩, ?_⟩
  rintro i m H' ⟨rfl, hi, acc, pre, h1, h2, h3, h4, h5, h6, h7⟩
  have g2 : Fr S H2 H' := h2.sub ts
  by_cases cc : i < xs.length
  · right
    rw [List.drop_eq_getElem_cons cc] at h7
    simp only [filW] at h7
    refine ⟨wk.go H' i g2 cc, fun H3 => ∃ acc pre, H3 Dl = some (.lst acc) ∧ Fr [b, c] H2 H3 ∧ Dom (Dl :: S) H3 ∧ Bag H3 b c ∧ acc.length ≤ i + 1 ∧ All2 (b'.rp (Dl :: S) H3) acc pre ∧ filW f (xs.drop (i + 1)) fun suf => P (pre ++ suf), ?_, ?_⟩
    · rintro H3 ⟨acc, pre, k⟩
      exact ⟨xs.length - (i + 1), by omega, rfl, by omega, acc, pre, k⟩
    · intro v H3 hy
      obtain ⟨rfl, hv⟩ := wk.yl H' i v H3 g2 hy _ (List.getElem?_eq_getElem cc)
      refine ⟨hw v, ?_⟩
      refine he xs[i] v H2 _ Dl _ ts (f1.trans f2) hD h2 (a.mono (h2.sub (sub_cons ts)) (a.ext hD hv)) h3 h4 h7 _ _ (fun y w H4 hPo f4 d4 hB4 hw4 => ?_) (fun H4 hPo f4 d4 hB4 => ?_)
      · have fD : Fr (Dl :: S) H4 (upd H4 Dl (.lst (acc ++ [w]))) := fr_upd (List.mem_cons_self ..)
        refine ⟨acc, f4 _ _ h1 nD, Nat.lt_of_lt_of_le (by omega : acc.length < 100000) (by decide), acc ++ [w], pre ++ [y], upd_same, fun p ob eb nb => ?_, d4.upd, ?_, by simp; omega, ?_, ?_⟩
        · rw [upd_ne (ne_of_none eb hD)]
          exact f4 _ _ (h2 _ _ eb nb) nb
        · obtain ⟨ne, ns, sl, sd, e1, e2, r⟩ := hB4
          simp only [List.mem_cons, List.not_mem_nil, or_false, not_or] at nD
          exact ⟨ne, ns, sl, sd, by rw [upd_ne (Ne.symm nD.1)]; exact e1, by rw [upd_ne (Ne.symm nD.2)]; exact e2, r⟩
        · exact ((h6.imp fun _ _ h => b'.mono (f4.sub (sub_cons ts)) h).snoc hw4).imp fun _ _ h => b'.mono fD h
        · simpa using hPo
      · refine ⟨acc, pre, f4 _ _ h1 nD, h2.trans f4, d4, hB4, by omega, h6.imp fun _ _ h => b'.mono (f4.sub (sub_cons ts)) h, ?_⟩
        simpa using hPo
  · left
    rw [List.drop_eq_nil_of_le (by omega)] at h7
    refine ⟨wk.st H' i g2 (by omega), q _ _ pre (by simpa [filW] using h7) (f2.trans h2) (h3.sub (sub_cons fun a m => m)) h4 ⟨Dl, rfl, fr_back f2 hB2.dom hD, acc, h1, h6⟩⟩
theorem ew_lc {wi : TI} {j : Nat} {ws : List Nat} {w : Wp (List α)} {f : α → Wp β} (h : SrW b c S wi σ H a w) (hw : ∀ x, wipe ((wipe σ ws).set j (some x)) ws = wipe σ ws)
    (he : ∀ (x : α) (v : V) (H2 H' : Hp) (p : Addr), Sub [b, c] S → Fr [b, c] H H2 → H2 p = none → Fr [b, c] H2 H' → a.rp (p :: S) H' v x → EvW b c (p :: S) te ((wipe σ ws).set j (some v)) H' (of b' (p :: S)) (f x)) :
    EvW b c S (tLc wi (gName j) tYes te ws) σ H (nw b' S) (lcW w fun x Po => f x fun y => Po (some y)) :=
  ew_lcCore h hw fun x v H2 H' p Po ts g1 g2 g3 g4 g5 g6 g7 Q1 Q0 q1 q0 => by
    refine G.yes_ ?_
    exact he x v H2 H' p ts g1 g2 g3 g4 (sub_cons ts) _ g7 H' (Fr.refl _) g5 g6 _ fun w H3 y hy f3 d3 hB3 hw3 => q1 y w H3 hy f3 d3 hB3 hw3
theorem ew_lcF {wi : TI} {j : Nat} {ws : List Nat} {w : Wp (List α)} {t : α → Wp Bool} {f : α → Wp β} (h : SrW b c S wi σ H a w) (hw : ∀ x, wipe ((wipe σ ws).set j (some x)) ws = wipe σ ws)
    (ht : ∀ (x : α) (v : V) (H2 H' : Hp) (p : Addr), Sub [b, c] S → Fr [b, c] H H2 → H2 p = none → Fr [b, c] H2 H' → a.rp (p :: S) H' v x → BvW b c (p :: S) tt ((wipe σ ws).set j (some v)) H' (t x))
    (he : ∀ (x : α) (v : V) (H2 H' : Hp) (p : Addr), Sub [b, c] S → Fr [b, c] H H2 → H2 p = none → Fr [b, c] H2 H' → a.rp (p :: S) H' v x → EvW b c (p :: S) te ((wipe σ ws).set j (some v)) H' (of b' (p :: S)) (f x)) :
    EvW b c S (tLc wi (gName j) tt te ws) σ H (nw b' S) (lcW w fun x Po => t x fun k => if k then f x fun y => Po (some y) else Po none) :=
  ew_lcCore h hw fun x v H2 H' p Po ts g1 g2 g3 g4 g5 g6 g7 Q1 Q0 q1 q0 => by
    refine ht x v H2 H' p ts g1 g2 g3 g4 (sub_cons ts) _ g7 H' (Fr.refl _) g5 g6 _ fun H3 k hk f3 d3 hB3 => ?_
    cases k with
    | true =>
      have hk := ifp_t hk
      show if true = true then _ else _
      rw [if_pos rfl]
      refine he x v H2 H' p ts g1 g2 g3 g4 (sub_cons ts) _ hk H3 f3 d3 hB3 _ fun w H4 y hy f4 d4 hB4 hw4 => q1 y w H4 hy (f3.trans f4) d4 hB4 hw4
    | false =>
      have hk := ifp_f hk
      show if false = true then _ else _
      rw [if_neg (by decide)]
      exact q0 H3 hk f3 d3 hB3
end
end M

namespace M
open PySem L2 G
/-! ### a def with one keyword-only parameter that has a default -/
structure AtK (K : PySem.W.Frag) (mg : Str → Option Value) (name : String) (st : Stmt) (ps : List Str) (n : Nat) (kw : Str) (dv : V) (f : Addr) (fd : FuncData) : Prop where
  F : Fun K (Str.ofString name) (Str.ofString name) st f fd
  m : mg (Str.ofString name) = some (.ref f)
  kb : KBn K fd ps n [kw] (fun us ws => us ++ ws) (fun vs zs => vs ++ zs)
  b0 : ∃ ds, Vals [dv] ds ∧ Binds K fd ps ds
theorem kb_of {K : PySem.W.Frag} {x : Str} {st : Stmt} {f : Addr} {fd : FuncData} {ps : List Str} {n : Nat} {kw : Str} (F : Fun K x x st f fd)
    (h : ∀ (kV doc pm : Value) (an : Option Addr) (cdv ct : Value) (us ws : List Value), us.length = n → ws.length = 1 → bindArgs (PySem.W.fnOf x x (defArgs st) (defBody st) (defScope st) .none kV doc pm an cdv ct) ⟨us, [kw].zip ws⟩ = pure (ps.zip (us ++ ws))) :
    KBn K fd ps n [kw] (fun us ws => us ++ ws) (fun vs zs => vs ++ zs) := by
  obtain ⟨oc, od, kV, doc, pm, an, cdv, ct, osl, rfl, lk, hcd⟩ := F.ex
  exact ⟨fun s us ws X h1 h2 => .of_eq (h kV doc pm an cdv ct us ws h1 h2), fun r1 r2 => r1.append r2⟩
section
variable {K : PySem.W.Frag} {α β γ δ ε ρ : Type} {S T : AS} {σ : St} {H : Hp} {t1 t2 t3 t4 t5 : TE} {a1 : Ty K α} {a2 : Ty K β} {a3 : Ty K γ} {R : AS → Rl ρ} {E : XK}
theorem ev_callK {f : α × β × γ × Unit → Option ρ} {r1 : Option α} {r2 : Option β} {r3 : Option γ} (h1 : Ev S T t1 σ H (of a1 S) r1) (h2 : Ev S T t2 σ H (of a2 S) r2) (h3 : Ev S T t3 σ H (of a3 S) r3) :
    Ev S T (tCallN 2 1 (spF (aCons a1 (aCons a2 (aCons a3 aNil))) R f) (fun vs zs => vs ++ zs) E (tCons t1 (tCons t2 tNil)) (tCons t3 tNil)) σ H (R S) (bd r1 fun x => bd r2 fun y => bd r3 fun z => f (x, y, z, ())) := by
  intro o e H1 f1 d Q q
  obtain ⟨x, ex, e⟩ := bd_some e
  obtain ⟨y, ey, e⟩ := bd_some e
  obtain ⟨z, ez, e⟩ := bd_some e
  refine h1 x ex H1 f1 d _ fun v1 H2 s2 g1 => h2 y ey H2 (f1.trans (Fr.same s2)) (d.same s2) _ fun v2 H3 s3 g2 => h3 z ez H3 (f1.trans (Fr.same (s2.trans s3))) (d.same (s2.trans s3)) _ fun v3 H4 s4 g3 => ⟨rfl, rfl, S, (x, y, z, ()), o, d.same ((s2.trans s3).trans s4), ⟨v1, _, rfl, a1.mono (Fr.same (s3.trans s4)) g1, v2, _, rfl, a2.mono (Fr.same s4) g2, v3, _, rfl, g3, rfl⟩, e, fun u H' s hu => q u H' (((s2.trans s3).trans s4).trans s) ((R S).same ((s2.trans s3).trans s4) hu)⟩
theorem ev_callD {f : α × β × γ × Unit → Option ρ} {r1 : Option α} {r2 : Option β} {dv : V} {z : γ} (hz : ∀ S H, a3.rp S H dv z) (h1 : Ev S T t1 σ H (of a1 S) r1) (h2 : Ev S T t2 σ H (of a2 S) r2) :
    Ev S T (tCall (spF (aCons a1 (aCons a2 (aCons a3 aNil))) R f) [dv] E (tCons t1 (tCons t2 tNil))) σ H (R S) (bd r1 fun x => bd r2 fun y => f (x, y, z, ())) := by
  intro o e H1 f1 d Q q
  obtain ⟨x, ex, e⟩ := bd_some e
  obtain ⟨y, ey, e⟩ := bd_some e
  refine h1 x ex H1 f1 d _ fun v1 H2 s2 g1 => h2 y ey H2 (f1.trans (Fr.same s2)) (d.same s2) _ fun v2 H3 s3 g2 => ⟨S, (x, y, z, ()), o, d.same (s2.trans s3), ⟨v1, _, rfl, a1.mono (Fr.same s3) g1, v2, _, rfl, g2, dv, _, rfl, hz S H3, rfl⟩, e, fun u H' s hu => q u H' ((s2.trans s3).trans s) ((R S).same (s2.trans s3) hu)⟩
end
end M

namespace M
open PySem L2 G
section
variable {K : PySem.W.Frag} {α β γ δ ε ρ : Type} {S T : AS} {σ : St} {H : Hp} {ta tb te tc : TE} {tt tu : TT} {a : Ty K α} {b' : Ty K β} {c' : Ty K γ} {D : Ends} {u t1 t2 : TS} {b c : Addr}
/-! ### while -/
def whileC (t : δ → Option Bool) (f : δ → Option (Ct ρ δ)) : Nat → δ → Option (Ct ρ δ)
  | 0, _ => none
  | n + 1, s => (t s).bind fun k => if k then (f s).bind fun r => match r with | .go s' => whileC t f n s' | .ret y => some (.ret y) | .brk s' => some (.go s') else some (.go s)
theorem while_s {tb : TS} {n : Nat} {s0 : δ} {t : δ → Option Bool} {f : δ → Option (Ct ρ δ)} {res : Ct ρ δ} (hf : whileC t f n s0 = some res)
    (I : δ → St → Hp → Prop) (h0 : I s0 σ H)
    (test : ∀ s σ' H', I s σ' H' → ∃ S', Dom S' H' ∧ EvB S' T tt σ' H' (t s))
    (step : (∀ s σ' H' H1, res = .go s → I s σ' H' → Same H' H1 → D.nx σ' H1) → ∀ (s : δ) (cr : Ct ρ δ) (σ' : St) (H' H1 : Hp), I s σ' H' → Same H' H1 → f s = some cr → (∀ y, cr = .ret y → res = .ret y) → (∀ s', cr = .brk s' → res = .go s') →
      tb { D with nx := fun σ2 H2 => ∃ s', cr = .go s' ∧ Fr S H1 H2 ∧ I s' σ2 H2, ct := fun σ2 H2 => ∃ s', cr = .go s' ∧ Fr S H1 H2 ∧ I s' σ2 H2, bk := D.nx } σ' H1)
    (done : ∀ s σ' H' H1, res = .go s → I s σ' H' → Same H' H1 → D.nx σ' H1) : tWhile tt tb D σ H := by
  refine ⟨fun m σ' H' => ∃ s, I s σ' H' ∧ whileC t f m s = some res, ⟨n, s0, h0, hf⟩, ?_⟩
  rintro m σ' H' ⟨s, hI, hw⟩
  cases m with
  | zero => cases hw
  | succ m =>
    simp only [whileC] at hw
    cases q : t s with
    | none => rw [q] at hw; cases hw
    | some k =>
      rw [q] at hw
      obtain ⟨S', dm, hev⟩ := test s σ' H' hI
      refine hev k q H' (Fr.refl _) dm _ fun H1 s1 => ?_
      cases k with
      | false =>
        cases hw
        rw [if_neg (by decide)]
        exact done s σ' H' H1 rfl hI s1
      | true =>
        rw [if_pos rfl]
        simp only [Option.bind_some, if_true] at hw
        cases q2 : f s with
        | none => rw [q2] at hw; cases hw
        | some cr =>
          rw [q2] at hw
          refine ⟨fun σ2 H2 => ∃ s', cr = .go s' ∧ Fr S H1 H2 ∧ I s' σ2 H2, ?_, ?_⟩
          · rintro σ2 H2 ⟨s', rfl, f2, hI'⟩
            exact ⟨m, Nat.lt_succ_self _, s', hI', hw⟩
          · exact step done s cr σ' H' H1 hI s1 q2 (fun y ey => by subst ey; cases hw; rfl) (fun s' ey => by subst ey; cases hw; rfl)
theorem q_while_s {tb : TS} {n : Nat} {s0 : δ} {t : δ → Option Bool} {f : δ → Option (Ct ρ δ)} {res : Ct ρ δ} (hf : whileC t f n s0 = some res)
    (I : δ → St → Hp → Prop) (h0 : I s0 σ H)
    (test : ∀ s σ' H', I s σ' H' → ∃ S', Dom S' H' ∧ EvB S' T tt σ' H' (t s))
    (step : (∀ s σ' H' H1, res = .go s → I s σ' H' → Same H' H1 → u D σ' H1) → ∀ (s : δ) (cr : Ct ρ δ) (σ' : St) (H' H1 : Hp), I s σ' H' → Same H' H1 → f s = some cr → (∀ y, cr = .ret y → res = .ret y) → (∀ s', cr = .brk s' → res = .go s') →
      tb { D with nx := fun σ2 H2 => ∃ s', cr = .go s' ∧ Fr S H1 H2 ∧ I s' σ2 H2, ct := fun σ2 H2 => ∃ s', cr = .go s' ∧ Fr S H1 H2 ∧ I s' σ2 H2, bk := u D } σ' H1)
    (done : ∀ s σ' H' H1, res = .go s → I s σ' H' → Same H' H1 → u D σ' H1) : tSeq (tWhile tt tb) u D σ H := while_s (D := { D with nx := u D }) (S := S) (T := T) hf I h0 test step done
theorem whileC_go {t : δ → Option Bool} {f : δ → Option (Ct ρ δ)} {n : Nat} {s s' : δ} (h : t s = some true) (h' : f s = some (.go s')) : whileC t f (n + 1) s = whileC t f n s' := by simp [whileC, h, h']
theorem whileC_stop {t : δ → Option Bool} {f : δ → Option (Ct ρ δ)} {n : Nat} {s : δ} (h : t s = some false) : whileC t f (n + 1) s = some (.go s) := by simp [whileC, h]
/-! ### chains of comparisons -/
theorem ev_chain {r r' : R2} {f g : α → α → Bool} {ra rb rc : Option α} (h : OpD a a S (of (K := K) tBool S) r (fun x y => some (f x y))) (h' : OpD a a S (of (K := K) tBool S) r' (fun x y => some (g x y)))
    (ha : Ev S T ta σ H (of a S) ra) (hb : Ev S T tb σ H (of a S) rb) (hc : Ev S T tc σ H (of a S) rc) :
    Ev S T (tChain r r' ta tb tc) σ H (of (K := K) tBool S) (bd ra fun x => bd rb fun y => if f x y then bd rc fun z => some (g y z) else some false) := by
  intro z e H1 f1 d Q q
  obtain ⟨x, ex, e⟩ := bd_some e
  obtain ⟨y, ey, e⟩ := bd_some e
  refine ha x ex H1 f1 d _ fun v H2 s2 hv => hb y ey H2 (f1.trans (Fr.same s2)) (d.same s2) _ fun w H3 s3 hw => ?_
  have d3 := (d.same s2).same s3
  refine h x y _ rfl H3 v w d3 (a.mono (Fr.same s3) hv) hw _ fun k H4 s4 hk => ⟨_, hk, ?_⟩
  by_cases c1 : f x y = true
  · rw [if_pos c1] at e
    rw [if_pos c1]
    obtain ⟨z', ez, e⟩ := bd_some e
    cases e
    refine hc z' ez H4 (f1.trans (Fr.same ((s2.trans s3).trans s4))) (d3.same s4) _ fun w' H5 s5 hw' => ?_
    refine h' y z' _ rfl H5 w w' ((d3.same s4).same s5) (a.mono (Fr.same (s4.trans s5)) hw) hw' Q fun u' H6 s6 hu => q u' H6 (((s2.trans s3).trans (s4.trans s5)).trans s6) hu
  · rw [if_neg c1] at e
    rw [if_neg c1]
    cases e
    exact q _ H4 ((s2.trans s3).trans s4) rfl
/-! ### x in l by data -/
def memD [DecidableEq α] (x : α) (xs : List α) : Bool := decide (x ∈ xs)
theorem _root_.L2.Room.units65 {k : Nat} {A : Around} (r : Room k A) : A.units + 65 < cLine := by have := r.un; omega
theorem any_eqv {a : Ty K α} [DecidableEq α] (d : TyD a) (x : α) : ∀ xs : List α, ((xs.map d.dt).any fun z => PyData.eqv z (d.dt x)) = memD x xs
  | [] => by simp [memD]
  | y :: ys => by
    rw [List.map_cons, List.any_cons, d.dec, any_eqv d x ys]
    unfold memD
    by_cases h : y = x
    · subst h; simp
    · by_cases h2 : x ∈ ys
      · simp [h2]
      · simp [h, h2, Ne.symm h]
theorem od_inD [DecidableEq α] (d : TyD a) (hd : d.dep ≤ 63) : OpD a (tL a) S (of (K := K) tBool S) (rInD K) (fun x xs => some (memD x xs)) := by
  intro x xs z e H1 v w dm hv hw Q q
  cases e
  have h2 := (dL d).dp hw
  refine ⟨d.dt x, xs.map d.dt, d.dp hv, h2, d.shaped (by omega) hv, (dL d).shaped (by show d.dep + 1 ≤ 64; omega) hw, ?_⟩
  rw [any_eqv]
  exact q _ H1 (Same.refl _) rfl
theorem od_notInD [DecidableEq α] (d : TyD a) (hd : d.dep ≤ 63) : OpD a (tL a) S (of (K := K) tBool S) (rNotInD K) (fun x xs => some (!memD x xs)) := by
  intro x xs z e H1 v w dm hv hw Q q
  cases e
  have h2 := (dL d).dp hw
  refine ⟨d.dt x, xs.map d.dt, d.dp hv, h2, d.shaped (by omega) hv, (dL d).shaped (by show d.dep + 1 ≤ 64; omega) hw, ?_⟩
  rw [any_eqv]
  exact q _ H1 (Same.refl _) rfl
/-! ### powers of constants -/
theorem ev_powC {i j : Int} (hc : 0 ≤ j ∧ j ≤ 1000000 ∧ i.natAbs < 2 ^ 64) : Ev S T (tOp (rI (fun i j => 0 ≤ j ∧ j ≤ 1000000 ∧ i.natAbs < 2 ^ 64) fun i j => .int (i ^ j.toNat)) (tC (.int i)) (tC (.int j))) σ H (of (K := K) tInt S) (some (i ^ j.toNat)) := by
  intro y ey H1 f d Q q
  cases ey
  exact ⟨i, j, rfl, rfl, hc, q _ H1 (Same.refl _) rfl⟩
/-! ### None or not, of any expression -/
theorem eb_isNe {r : Option (Option α)} (h : Ev S T te σ H (of (tOpt a) S) r) : EvB S T (tTest (tOp (fun x y H Q => y = .non ∧ Q (.bl (decide (x = .non))) H) te (tC .non))) σ H (bd r fun x => some x.isNone) := by
  intro z ez H1 f d Q q
  obtain ⟨x, ex, ez⟩ := bd_some ez
  cases ez
  refine h x ex H1 f d _ fun v H2 s hv => ⟨rfl, _, rfl, ?_⟩
  cases x with
  | none => rw [show v = .non from hv]; exact q H2 s
  | some y => rw [decide_eq_false hv.1]; exact q H2 s
theorem eb_notNe {r : Option (Option α)} (h : Ev S T te σ H (of (tOpt a) S) r) : EvB S T (tTest (tOp (fun x y H Q => y = .non ∧ Q (.bl (!decide (x = .non))) H) te (tC .non))) σ H (bd r fun x => some x.isSome) := by
  intro z ez H1 f d Q q
  obtain ⟨x, ex, ez⟩ := bd_some ez
  cases ez
  refine h x ex H1 f d _ fun v H2 s hv => ⟨rfl, _, rfl, ?_⟩
  cases x with
  | none => rw [show v = .non from hv]; exact q H2 s
  | some y => rw [decide_eq_false hv.1]; exact q H2 s
/-! ### max of two -/
theorem ev_max2 {ra rb : Option Int} (ha : Ev S T ta σ H (of (K := K) tInt S) ra) (hb : Ev S T tb σ H (of (K := K) tInt S) rb) :
    Ev S T (tCB (fun xs H Q => ∃ i j, xs = [.int i, .int j] ∧ Q (.int (if j > i then j else i)) H) (tCons ta (tCons tb tNil))) σ H (of (K := K) tInt S) (bd ra fun x => bd rb fun y => some (max x y)) := by
  intro z e H1 f1 d Q q
  obtain ⟨x, ex, e⟩ := bd_some e
  obtain ⟨y, ey, e⟩ := bd_some e
  cases e
  refine ha x ex H1 f1 d _ fun v H2 s2 hv => hb y ey H2 (f1.trans (Fr.same s2)) (d.same s2) _ fun w H3 s3 hw => ?_
  cases hv
  cases hw
  refine ⟨x, y, rfl, q _ H3 (s2.trans s3) ?_⟩
  show V.int _ = V.int _
  congr 1
  omega
/-! ### calls with keywords -/
def EvAn (S T : AS) (ta : TA) (σ : St) (H : Hp) (n : Nat) (t : TyA K α) (r : Option α) : Prop :=
  ∀ x, r = some x → ∀ H1, Fr T H H1 → Dom S H1 → ∀ Q : List V → Hp → Prop, (∀ vs H2, vs.length = n → Same H1 H2 → t.rp S H2 vs x → Q vs H2) → ta σ H1 Q
theorem en_nil : EvAn S T tNil σ H 0 (K := K) aNil (some ()) := fun _ e H1 f d Q q => q [] H1 rfl (Same.refl _) rfl
theorem en_cons {n : Nat} {tr : TA} {t : TyA K β} {ra : Option α} {rr : Option β} (h : Ev S T ta σ H (of a S) ra) (hr : EvAn S T tr σ H n t rr) : EvAn S T (tCons ta tr) σ H (n + 1) (aCons a t) (bd ra fun x => bd rr fun y => some (x, y)) := by
  intro z e H1 f1 d Q q
  obtain ⟨x, ex, e⟩ := bd_some e
  obtain ⟨y, ey, e⟩ := bd_some e
  cases e
  exact h x ex H1 f1 d _ fun v H2 s2 hv => hr y ey H2 (f1.trans (Fr.same s2)) (d.same s2) _ fun vs H3 l s3 hvs => q (v :: vs) H3 (by simp [l]) (s2.trans s3) ⟨v, vs, rfl, a.mono (Fr.same s3) hv, hvs⟩
/-- first t, then tk: together they are the arguments -/
def EvA2 (S T : AS) (ta tk : TA) (σ : St) (H : Hp) (n m : Nat) (t : TyA K α) (r : Option α) : Prop :=
  ∀ x, r = some x → ∀ H1, Fr T H H1 → Dom S H1 → ∀ Q : List V → List V → Hp → Prop, (∀ vs zs H2, vs.length = n → zs.length = m → Same H1 H2 → t.rp S H2 (vs ++ zs) x → Q vs zs H2) → ta σ H1 fun vs H2 => tk σ H2 fun zs H3 => Q vs zs H3
theorem e2_nil {tk : TA} {m : Nat} {t : TyA K α} {r : Option α} (h : EvAn S T tk σ H m t r) : EvA2 S T tNil tk σ H 0 m t r := fun x e H1 f d Q q => h x e H1 f d _ fun vs H2 l s hv => q [] vs H2 rfl l s hv
theorem e2_cons {n m : Nat} {tr tk : TA} {t : TyA K β} {ra : Option α} {rr : Option β} (h : Ev S T ta σ H (of a S) ra) (hr : EvA2 S T tr tk σ H n m t rr) : EvA2 S T (tCons ta tr) tk σ H (n + 1) m (aCons a t) (bd ra fun x => bd rr fun y => some (x, y)) := by
  intro z e H1 f1 d Q q
  obtain ⟨x, ex, e⟩ := bd_some e
  obtain ⟨y, ey, e⟩ := bd_some e
  cases e
  exact h x ex H1 f1 d _ fun v H2 s2 hv => hr y ey H2 (f1.trans (Fr.same s2)) (d.same s2) _ fun vs zs H3 l l' s3 hvs => q (v :: vs) zs H3 (by simp [l]) l' (s2.trans s3) ⟨v, vs ++ zs, rfl, a.mono (Fr.same s3) hv, hvs⟩
theorem ev_callN {n m : Nat} {ta tk : TA} {t : TyA K α} {R : AS → Rl γ} {f : α → Option γ} {r : Option α} {E : XK} (h : EvA2 S T ta tk σ H n m t r) : Ev S T (tCallN n m (spF t R f) (fun vs zs => vs ++ zs) E ta tk) σ H (R S) (bd r f) := by
  intro z e H1 f1 d Q q
  obtain ⟨x, ex, e⟩ := bd_some e
  exact h x ex H1 f1 d _ fun vs zs H2 l l' s2 hv => ⟨l, l', S, x, z, d.same s2, hv, e, fun u H' s hu => q u H' (s2.trans s) ((R S).same s2 hu)⟩
/-- .. with a default behind -/
def EvAd (S T : AS) (ta : TA) (σ : St) (H : Hp) (ds : List V) (t : TyA K α) (r : Option α) : Prop :=
  ∀ x, r = some x → ∀ H1, Fr T H H1 → Dom S H1 → ∀ Q : List V → Hp → Prop, (∀ vs H2, Same H1 H2 → t.rp S H2 (vs ++ ds) x → Q vs H2) → ta σ H1 Q
theorem edd_nil {dv : V} {z : α} (hz : ∀ S H, a.rp S H dv z) : EvAd S T tNil σ H [dv] (aCons a aNil) (some (z, ())) := fun _ e H1 f d Q q => by cases e; exact q [] H1 (Same.refl _) ⟨dv, [], rfl, hz S H1, rfl⟩
theorem edd_cons {ds : List V} {tr : TA} {t : TyA K β} {ra : Option α} {rr : Option β} (h : Ev S T ta σ H (of a S) ra) (hr : EvAd S T tr σ H ds t rr) : EvAd S T (tCons ta tr) σ H ds (aCons a t) (bd ra fun x => bd rr fun y => some (x, y)) := by
  intro z e H1 f1 d Q q
  obtain ⟨x, ex, e⟩ := bd_some e
  obtain ⟨y, ey, e⟩ := bd_some e
  cases e
  exact h x ex H1 f1 d _ fun v H2 s2 hv => hr y ey H2 (f1.trans (Fr.same s2)) (d.same s2) _ fun vs H3 s3 hvs => q (v :: vs) H3 (s2.trans s3) ⟨v, vs ++ ds, rfl, a.mono (Fr.same s3) hv, hvs⟩
theorem ev_callDn {ds : List V} {ta : TA} {t : TyA K α} {R : AS → Rl γ} {f : α → Option γ} {r : Option α} {E : XK} (h : EvAd S T ta σ H ds t r) : Ev S T (tCall (spF t R f) ds E ta) σ H (R S) (bd r f) := by
  intro z e H1 f1 d Q q
  obtain ⟨x, ex, e⟩ := bd_some e
  exact h x ex H1 f1 d _ fun vs H2 s2 hv => ⟨S, x, z, d.same s2, hv, e, fun u H' s hu => q u H' (s2.trans s) ((R S).same s2 hu)⟩
/-! .. while drawing -/
def EvWAn (b c : Addr) (S : AS) (ta : TA) (σ : St) (H : Hp) (n : Nat) (t : TyA K α) (w : Wp α) : Prop :=
  Sub [b, c] S → ∀ P, w P → ∀ H1, Fr [b, c] H H1 → Dom S H1 → Bag H1 b c → ∀ Q : List V → Hp → Prop, (∀ vs H2 x, vs.length = n → P x → Fr [b, c] H1 H2 → Dom S H2 → Bag H2 b c → t.rp S H2 vs x → Q vs H2) → ta σ H1 Q
theorem wn_nil : EvWAn b c S tNil σ H 0 (K := K) aNil (lf (some ())) := fun ts P ⟨x, e, hP⟩ H1 f d hB Q q => by cases e; exact q [] H1 () rfl hP (Fr.refl _) d hB rfl
theorem wn_cons {n : Nat} {tr : TA} {t : TyA K β} {wa : Wp α} {wr : Wp β} (h : EvW b c S ta σ H (of a S) wa) (hr : EvWAn b c S tr σ H n t wr) : EvWAn b c S (tCons ta tr) σ H (n + 1) (aCons a t) (tup2W wa wr) := fun ts P hP H1 f1 d hB Q q =>
  h ts _ hP H1 f1 d hB _ fun v H2 x hx f2 d2 hB2 hv => hr ts _ hx H2 (f1.trans f2) d2 hB2 _ fun vs H3 y l hy f3 d3 hB3 hvs => q (v :: vs) H3 (x, y) (by simp [l]) hy (f2.trans f3) d3 hB3 ⟨v, vs, rfl, a.mono (f3.sub ts) hv, hvs⟩
def EvWA2 (b c : Addr) (S : AS) (ta tk : TA) (σ : St) (H : Hp) (n m : Nat) (t : TyA K α) (w : Wp α) : Prop :=
  Sub [b, c] S → ∀ P, w P → ∀ H1, Fr [b, c] H H1 → Dom S H1 → Bag H1 b c → ∀ Q : List V → List V → Hp → Prop, (∀ vs zs H2 x, vs.length = n → zs.length = m → P x → Fr [b, c] H1 H2 → Dom S H2 → Bag H2 b c → t.rp S H2 (vs ++ zs) x → Q vs zs H2) → ta σ H1 fun vs H2 => tk σ H2 fun zs H3 => Q vs zs H3
theorem w2_nil {tk : TA} {m : Nat} {t : TyA K α} {w : Wp α} (h : EvWAn b c S tk σ H m t w) : EvWA2 b c S tNil tk σ H 0 m t w := fun ts P hP H1 f d hB Q q => h ts P hP H1 f d hB _ fun vs H2 x l hx f2 d2 hB2 hv => q [] vs H2 x rfl l hx f2 d2 hB2 hv
theorem w2_cons {n m : Nat} {tr tk : TA} {t : TyA K β} {wa : Wp α} {wr : Wp β} (h : EvW b c S ta σ H (of a S) wa) (hr : EvWA2 b c S tr tk σ H n m t wr) : EvWA2 b c S (tCons ta tr) tk σ H (n + 1) m (aCons a t) (tup2W wa wr) := fun ts P hP H1 f1 d hB Q q =>
  h ts _ hP H1 f1 d hB _ fun v H2 x hx f2 d2 hB2 hv => hr ts _ hx H2 (f1.trans f2) d2 hB2 _ fun vs zs H3 y l l' hy f3 d3 hB3 hvs => q (v :: vs) zs H3 (x, y) (by simp [l]) l' hy (f2.trans f3) d3 hB3 ⟨v, vs ++ zs, rfl, a.mono (f3.sub ts) hv, hvs⟩
theorem ew_callN {n m : Nat} {ta tk : TA} {t : TyA K α} {R : AS → Rl γ} {f : α → Option γ} {w : Wp α} {E : XK} (h : EvWA2 b c S ta tk σ H n m t w) : EvW b c S (tCallN n m (spF t R f) (fun vs zs => vs ++ zs) E ta tk) σ H (R S) (unW f w) := fun ts P hP H1 f1 d hB Q q =>
  h ts _ hP H1 f1 d hB _ fun vs zs H2 x l l' ⟨z, e, hz⟩ f2 d2 hB2 hv => ⟨l, l', S, x, z, d2, hv, e, fun u H' s hu => q u H' z hz (f2.trans (Fr.same s)) (d2.same s) (hB2.same s) ((R S).back f2 hB2.dom hu)⟩
/-! ### any; truth of a list -/
theorem ev_any {r : Option (List Bool)} (h : Ev S T te σ H (of (K := K) (tL tBool) S) r) : Ev S T (tCB (rAny K) (tCons te tNil)) σ H (of (K := K) tBool S) (bd r fun x => some (x.any id)) := by
  intro z e H1 f1 d Q q
  obtain ⟨x, ex, e⟩ := bd_some e
  cases e
  refine h x ex H1 f1 d _ fun v H2 s hv => ?_
  obtain ⟨p, vs, rfl, hp, ha⟩ := hv
  refine ⟨p, x, rfl, ?_, q _ H2 s rfl⟩
  rw [← ha.bools]
  exact hp.sq
theorem All2.empty {F : V → α → Prop} {vs : List V} {xs : List α} (h : All2 F vs xs) : vs.isEmpty = xs.isEmpty := by cases h <;> rfl
theorem eb_truL {r : Option (List α)} (h : Ev S T te σ H (of (tL a) S) r) : EvB S T (fun σ H Q => te σ H fun x H' => ∃ k, TruV K x H' k ∧ Q k H') σ H (bd r fun x => some (!x.isEmpty)) := by
  intro z ez H1 f d Q q
  obtain ⟨x, ex, ez⟩ := bd_some ez
  cases ez
  refine h x ex H1 f d _ fun v H2 s ⟨p, vs, ev, hp, ha⟩ => ⟨_, ?_, q H2 s⟩
  subst ev
  exact .inl ⟨vs, hp.sq, by rw [ha.empty]⟩
/-! ### an owned list that is owned no more -/
theorem sub_keep {p : Addr} {S S' : AS} (h : Sub S S') : Sub (p :: S) (p :: S') := fun a m => by
  rcases List.mem_cons.mp m with rfl | m
  · exact List.mem_cons_self ..
  · exact List.mem_cons_of_mem _ (h a m)
theorem nmc {p q : Addr} {S : AS} (h : p ≠ q) (n : p ∉ S) : p ∉ q :: S := fun m => by
  rcases List.mem_cons.mp m with e | m
  · exact h e
  · exact n m
theorem Own.frz {p : Addr} {xs : List α} {S' : AS} (o : Own a S H p xs) (hs : Sub S' S) (n : p ∉ S') : (tL a).rp S' H (.ref p) xs := by
  obtain ⟨vs, hv, ha⟩ := o
  exact ⟨p, vs, rfl, ⟨hv, n⟩, ha.imp fun _ _ => a.sub hs⟩
/-! ### walks that unpack pairs -/
theorem for_s2 {wi : TI} {j j2 : Nat} {tb : TS} {r : Option (List (α × β))} {xs : List (α × β)} {s0 : δ} {f : δ → α × β → Option (Ct ρ δ)} {res : Ct ρ δ} (d : Dom S H) (h : Sr S T wi σ H (tT2 a b') r) (e : r = some xs) (hf : loopC f xs s0 = some res)
    (I : δ → St → Hp → Prop) (h0 : ∀ H1, Same H H1 → I s0 σ H1)
    (step : (∀ s σ' H', res = .go s → I s σ' H' → D.nx σ' H') → ∀ (s : δ) (x : α × β) (cr : Ct ρ δ) (v w : V) (σ' : St) (H' : Hp), I s σ' H' → a.rp S H' v x.1 → b'.rp S H' w x.2 → x ∈ xs → f s x = some cr → (∀ y, cr = .ret y → res = .ret y) → (∀ s', cr = .brk s' → res = .go s') →
      tb { D with nx := fun σ2 H2 => ∃ s', cr = .go s' ∧ Fr S H' H2 ∧ I s' σ2 H2, ct := fun σ2 H2 => ∃ s', cr = .go s' ∧ Fr S H' H2 ∧ I s' σ2 H2, bk := D.nx } ((σ'.set j (some v)).set j2 (some w)) H')
    (done : ∀ s σ' H', res = .go s → I s σ' H' → D.nx σ' H') : tFor wi (gTup K 2 (gCons (gName j) (gCons (gName j2) gNil))) tb D σ H := by
  refine h xs e H (Fr.refl _) d _ fun J H1 s1 wk => ?_
  refine ⟨fun i m σ' H' => m = xs.length - i ∧ i ≤ xs.length ∧ Fr S H1 H' ∧ ∃ s, I s σ' H' ∧ loopC f (xs.drop i) s = some res, ⟨_, rfl, Nat.zero_le _, Fr.refl _, s0, h0 H1 s1, hf⟩, ?_⟩
  rintro i m σ' H' ⟨rfl, hi, fr, s, hI, hl⟩
  by_cases c : i < xs.length
  · right
    rw [List.drop_eq_getElem_cons c] at hl
    simp only [loopC] at hl
    cases q : f s xs[i] with
    | none => rw [q] at hl; cases hl
    | some cr =>
      rw [q] at hl
      refine ⟨wk.go H' i fr c, fun σ2 H2 => ∃ s', cr = .go s' ∧ Fr S H' H2 ∧ I s' σ2 H2, ?_, ?_⟩
      · rintro σ2 H2 ⟨s', rfl, f2, hI'⟩
        exact ⟨xs.length - (i + 1), by omega, rfl, by omega, fr.trans f2, s', hI', hl⟩
      · intro v H2 hy
        obtain ⟨rfl, hv⟩ := wk.yl H' i v H2 fr hy _ (List.getElem?_eq_getElem c)
        obtain ⟨p, v1, v2, rfl, hp, h1, h2⟩ := (tT2 a b').mono fr hv
        exact ⟨p, _, rfl, hp.sq, rfl, v1, _, rfl, v2, _, rfl, rfl, step done s xs[i] cr v1 v2 σ' _ hI h1 h2 (List.getElem_mem c) q (fun y ey => by subst ey; cases hl; rfl) (fun s' ey => by subst ey; cases hl; rfl)⟩
  · left
    refine ⟨wk.st H' i fr (by omega), ?_⟩
    rw [List.drop_eq_nil_of_le (by omega)] at hl
    cases hl
    exact done s σ' H' rfl hI
theorem q_for_s2 {wi : TI} {j j2 : Nat} {tb : TS} {r : Option (List (α × β))} {xs : List (α × β)} {s0 : δ} {f : δ → α × β → Option (Ct ρ δ)} {res : Ct ρ δ} (d : Dom S H) (h : Sr S T wi σ H (tT2 a b') r) (e : r = some xs) (hf : loopC f xs s0 = some res)
    (I : δ → St → Hp → Prop) (h0 : ∀ H1, Same H H1 → I s0 σ H1)
    (step : (∀ s σ' H', res = .go s → I s σ' H' → u D σ' H') → ∀ (s : δ) (x : α × β) (cr : Ct ρ δ) (v w : V) (σ' : St) (H' : Hp), I s σ' H' → a.rp S H' v x.1 → b'.rp S H' w x.2 → x ∈ xs → f s x = some cr → (∀ y, cr = .ret y → res = .ret y) → (∀ s', cr = .brk s' → res = .go s') →
      tb { D with nx := fun σ2 H2 => ∃ s', cr = .go s' ∧ Fr S H' H2 ∧ I s' σ2 H2, ct := fun σ2 H2 => ∃ s', cr = .go s' ∧ Fr S H' H2 ∧ I s' σ2 H2, bk := u D } ((σ'.set j (some v)).set j2 (some w)) H')
    (done : ∀ s σ' H', res = .go s → I s σ' H' → u D σ' H') : tSeq (tFor wi (gTup K 2 (gCons (gName j) (gCons (gName j2) gNil))) tb) u D σ H := for_s2 (D := { D with nx := u D }) d h e hf I h0 step done
end
end M

namespace M
open PySem L2 G
section
variable {K : PySem.W.Frag} {α β γ δ ε ρ : Type} {S T : AS} {σ : St} {H : Hp} {ta tb te tc : TE} {tt tu : TT} {a : Ty K α} {b' : Ty K β} {c' : Ty K γ} {D : Ends} {u t1 t2 : TS} {b c : Addr}
/-! ### isinstance, by the code -/
theorem tyTm {H : Hp} {a : Addr} {xs : List V} (h : SqT K H a xs) : TyX K H (.ref a) (.type "tuple") := by
  rcases h with (h | ⟨o, h⟩) | ⟨o, _, _, h, hc, _⟩
  · exact .base (.tup h)
  · exact .fTuple h
  · exact .kTuple h hc
theorem tyLm {H : Hp} {a : Addr} {xs : List V} (h : SqL K H a xs) : TyX K H (.ref a) (.type "list") := by
  rcases h with (h | ⟨o, h⟩) | ⟨o, _, _, h, hc, _⟩
  · exact .base (.lst h)
  · exact .base (.frz h)
  · exact .kList h hc
class IsTy (a : Ty K α) (t : outParam String) : Prop where
  h : ∀ {S H v x}, a.rp S H v x → TyX K H v (.type t)
instance : IsTy (K := K) tInt "int" := ⟨fun h => by rw [show _ = _ from h]; exact .base (.int _)⟩
instance : IsTy (K := K) tBool "bool" := ⟨fun h => by rw [show _ = _ from h]; exact .base (.bl _)⟩
instance : IsTy (K := K) tStr "str" := ⟨fun h => by rw [h.1]; exact .base (.str _)⟩
instance : IsTy (K := K) tRat "tuple" := ⟨fun ⟨p, e, h⟩ => by rw [e]; exact tyTm h.sq⟩
instance : IsTy (tT2 a b') "tuple" := ⟨fun ⟨p, _, _, e, h, _⟩ => by rw [e]; exact tyTm h.sq⟩
instance : IsTy (tTs a) "tuple" := ⟨fun ⟨p, _, e, h, _⟩ => by rw [e]; exact tyTm h.sq⟩
instance : IsTy (tL a) "list" := ⟨fun ⟨p, _, e, h, _⟩ => by rw [e]; exact tyLm h.sq⟩
theorem ev_isi {r : Option α} {t n : String} {k : Bool} [hi : IsTy a t] (h : Ev S T te σ H (of a S) r) (hk : kitB t n = some k) :
    Ev S T (tCB (rIsi K) (tCons te (tCons (tC (.ty n)) tNil))) σ H (of (K := K) tBool S) (bd r fun _ => some k) := by
  intro z e H1 f1 d Q q
  obtain ⟨x, ex, e⟩ := bd_some e
  cases e
  exact h x ex H1 f1 d _ fun v H2 s hv => ⟨v, _, _, _, k, rfl, .ty _, hi.h hv, kit_ty hk, q _ H2 s rfl⟩
theorem ev_lenR {r : Option Rat} (h : Ev S T te σ H (of (K := K) tRat S) r) : Ev S T (tCB (fun xs H Q => ∃ p ys, xs = [.ref p] ∧ (SqL K H p ys ∨ SqT K H p ys) ∧ Q (.int ys.length) H) (tCons te tNil)) σ H (of (K := K) tInt S) (bd r fun _ => some (2 : Int)) := by
  intro z e H1 f1 d Q q
  obtain ⟨x, ex, e⟩ := bd_some e
  cases e
  exact h x ex H1 f1 d _ fun v H2 s ⟨p, ev, hp⟩ => by subst ev; exact ⟨p, _, rfl, .inr hp.sq, q _ H2 s rfl⟩
/-! ### pairs as tuples of any length -/
theorem ev_t2Sq {r : Option (α × α)} (h : Ev S T te σ H (of (tT2 a a) S) r) : Ev S T te σ H (of (tSq a) S) (bd r fun x => some [x.1, x.2]) := ev_as h fun x y e H1 H2 v d ⟨p, u, w, ev, hp, h1, h2⟩ => by
  cases e
  exact .inr ⟨p, _, ev, hp, .cons h1 (.cons h2 .nil)⟩
theorem sr_t4 {tl : TE} {r : Option (α × α × α × α)} (h : Ev S T tl σ H (of (tT4 a a a a) S) r) : Sr S T (iTup K tl) σ H a (bd r fun x => some [x.1, x.2.1, x.2.2.1, x.2.2.2]) := fun xs e H1 f d R q => by
  obtain ⟨x, ex, e⟩ := bd_some e
  cases e
  exact h x ex H1 f d _ fun v H2 s ⟨p, u1, u2, u3, u4, ev, hp, h1, h2, h3, h4⟩ => ⟨p, ev, ⟨_, hp.sq⟩, q _ H2 s (wk_tup hp (.cons h1 (.cons h2 (.cons h3 (.cons h4 .nil)))))⟩
/-! ### targets that take lists and tuples -/
def gOr (g g' : TG) : TG := fun v σ H Q => g v σ H Q ∨ g' v σ H Q
theorem pg_or {X : Cx} {e : Expr} {g g' : TG} (h : PG X e g) (h' : PG X e g') : PG X e (gOr g g') := ⟨fun pins s σ H v u Q I r hw => by
  rcases hw with hw | hw
  · exact h.run pins s σ H v u Q I r hw
  · exact h'.run pins s σ H v u Q I r hw⟩
def two? : List α → Option (α × α)
  | [x, y] => some (x, y)
  | _ => none
theorem two_some {xs : List α} {p : α × α} (h : two? xs = some p) : xs = [p.1, p.2] := by
  match xs, h with
  | [x, y], h => cases h; rfl
theorem for_s2q {wi : TI} {j j2 : Nat} {tb : TS} {r : Option (List (List α))} {xs : List (List α)} {ps : List (α × α)} {s0 : δ} {f : δ → α × α → Option (Ct ρ δ)} {res : Ct ρ δ} (d : Dom S H) (h : Sr S T wi σ H (tSq a) r) (e : r = some xs) (e2 : mapO two? xs = some ps) (hf : loopC f ps s0 = some res)
    (I : δ → St → Hp → Prop) (h0 : ∀ H1, Same H H1 → I s0 σ H1)
    (step : (∀ s σ' H', res = .go s → I s σ' H' → D.nx σ' H') → ∀ (s : δ) (x : α × α) (cr : Ct ρ δ) (v w : V) (σ' : St) (H' : Hp), I s σ' H' → a.rp S H' v x.1 → a.rp S H' w x.2 → x ∈ ps → f s x = some cr → (∀ y, cr = .ret y → res = .ret y) → (∀ s', cr = .brk s' → res = .go s') →
      tb { D with nx := fun σ2 H2 => ∃ s', cr = .go s' ∧ Fr S H' H2 ∧ I s' σ2 H2, ct := fun σ2 H2 => ∃ s', cr = .go s' ∧ Fr S H' H2 ∧ I s' σ2 H2, bk := D.nx } ((σ'.set j (some v)).set j2 (some w)) H')
    (done : ∀ s σ' H', res = .go s → I s σ' H' → D.nx σ' H') : tFor wi (gOr (gTup K 2 (gCons (gName j) (gCons (gName j2) gNil))) (gLst K 2 (gCons (gName j) (gCons (gName j2) gNil)))) tb D σ H := by
  refine h xs e H (Fr.refl _) d _ fun J H1 s1 wk => ?_
  have ln := mapO_len e2
  refine ⟨fun i m σ' H' => m = ps.length - i ∧ i ≤ ps.length ∧ Fr S H1 H' ∧ ∃ s, I s σ' H' ∧ loopC f (ps.drop i) s = some res, ⟨_, rfl, Nat.zero_le _, Fr.refl _, s0, h0 H1 s1, hf⟩, ?_⟩
  rintro i m σ' H' ⟨rfl, hi, fr, s, hI, hl⟩
  by_cases c : i < ps.length
  · right
    rw [List.drop_eq_getElem_cons c] at hl
    simp only [loopC] at hl
    cases q : f s ps[i] with
    | none => rw [q] at hl; cases hl
    | some cr =>
      rw [q] at hl
      refine ⟨wk.go H' i fr (by omega), fun σ2 H2 => ∃ s', cr = .go s' ∧ Fr S H' H2 ∧ I s' σ2 H2, ?_, ?_⟩
      · rintro σ2 H2 ⟨s', rfl, f2, hI'⟩
        exact ⟨ps.length - (i + 1), by omega, rfl, by omega, fr.trans f2, s', hI', hl⟩
      · intro v H2 hy
        have hx : i < xs.length := by omega
        obtain ⟨rfl, hv⟩ := wk.yl H' i v H2 fr hy _ (List.getElem?_eq_getElem hx)
        obtain ⟨p, ep, ep2⟩ := mapO_get e2 (List.getElem?_eq_getElem hx)
        have : p = ps[i] := by rw [List.getElem?_eq_getElem c] at ep2; exact (Option.some.inj ep2).symm
        subst this
        have hv := (tSq a).mono fr hv
        rw [two_some ep] at hv
        rcases hv with ⟨p, vs, ev, hp, ha⟩ | ⟨p, vs, ev, hp, ha⟩
        · subst ev
          cases ha with
          | cons g1 ha => cases ha with
            | cons g2 ha => cases ha with
              | nil =>
                right
                refine ⟨p, _, rfl, hp.sq, rfl, _, _, rfl, _, _, rfl, rfl, ?_⟩
                exact step done s ps[i] cr _ _ σ' _ hI g1 g2 (List.getElem_mem c) q (fun y ey => by subst ey; cases hl; rfl) (fun s' ey => by subst ey; cases hl; rfl)
        · subst ev
          cases ha with
          | cons g1 ha => cases ha with
            | cons g2 ha => cases ha with
              | nil =>
                left
                refine ⟨p, _, rfl, hp.sq, rfl, _, _, rfl, _, _, rfl, rfl, ?_⟩
                exact step done s ps[i] cr _ _ σ' _ hI g1 g2 (List.getElem_mem c) q (fun y ey => by subst ey; cases hl; rfl) (fun s' ey => by subst ey; cases hl; rfl)
  · left
    refine ⟨wk.st H' i fr (by omega), ?_⟩
    rw [List.drop_eq_nil_of_le (by omega)] at hl
    cases hl
    exact done s σ' H' rfl hI
theorem q_for_s2q {wi : TI} {j j2 : Nat} {tb : TS} {r : Option (List (List α))} {xs : List (List α)} {ps : List (α × α)} {s0 : δ} {f : δ → α × α → Option (Ct ρ δ)} {res : Ct ρ δ} (d : Dom S H) (h : Sr S T wi σ H (tSq a) r) (e : r = some xs) (e2 : mapO two? xs = some ps) (hf : loopC f ps s0 = some res)
    (I : δ → St → Hp → Prop) (h0 : ∀ H1, Same H H1 → I s0 σ H1)
    (step : (∀ s σ' H', res = .go s → I s σ' H' → u D σ' H') → ∀ (s : δ) (x : α × α) (cr : Ct ρ δ) (v w : V) (σ' : St) (H' : Hp), I s σ' H' → a.rp S H' v x.1 → a.rp S H' w x.2 → x ∈ ps → f s x = some cr → (∀ y, cr = .ret y → res = .ret y) → (∀ s', cr = .brk s' → res = .go s') →
      tb { D with nx := fun σ2 H2 => ∃ s', cr = .go s' ∧ Fr S H' H2 ∧ I s' σ2 H2, ct := fun σ2 H2 => ∃ s', cr = .go s' ∧ Fr S H' H2 ∧ I s' σ2 H2, bk := u D } ((σ'.set j (some v)).set j2 (some w)) H')
    (done : ∀ s σ' H', res = .go s → I s σ' H' → u D σ' H') : tSeq (tFor wi (gOr (gTup K 2 (gCons (gName j) (gCons (gName j2) gNil))) (gLst K 2 (gCons (gName j) (gCons (gName j2) gNil)))) tb) u D σ H := for_s2q (D := { D with nx := u D }) d h e e2 hf I h0 step done
/-! ### slices, two names at once, while drawing -/
def EvWO (b c : Addr) (S : AS) (to : TO) (σ : St) (H : Hp) (w : Wp (Option Int)) : Prop :=
  Sub [b, c] S → ∀ P, w P → ∀ H1, Fr [b, c] H H1 → Dom S H1 → Bag H1 b c → ∀ Q : Option Int → Hp → Prop, (∀ H2 x, P x → Fr [b, c] H1 H2 → Dom S H2 → Bag H2 b c → Q x H2) → to σ H1 Q
theorem wo_pure {to : TO} {r : Option (Option Int)} (h : EvO S [b, c] to σ H r) : EvWO b c S to σ H (lf r) := fun ts P ⟨x, e, hP⟩ H1 f d hB Q q => h x e H1 f d Q fun H2 s => q H2 x hP (Fr.same s) (d.same s) (hB.same s)
theorem wo_some {w : Wp Int} (h : EvW b c S te σ H (of (K := K) tInt S) w) : EvWO b c S (tPart te) σ H (unW (fun i => some (some i)) w) := fun ts P hP H1 f d hB Q q =>
  h ts _ hP H1 f d hB _ fun v H2 i ⟨z, e, hz⟩ f2 d2 hB2 hv => ⟨i, hv, q H2 _ (by cases e; exact hz) f2 d2 hB2⟩
def slW (wa : Wp (List α)) (wl wh : Wp (Option Int)) : Wp (List α) := fun P => wa fun xs => wl fun l => wh fun h => P (cutD xs l h)
theorem ew_slL {tl th : TO} {wa : Wp (List α)} {wl wh : Wp (Option Int)} (ha : EvW b c S ta σ H (of (tL a) S) wa) (hl : EvWO b c S tl σ H wl) (hh : EvWO b c S th σ H wh) :
    EvW b c S (tSl (rSlL K) ta tl th) σ H (nw a S) (slW wa wl wh) := fun ts P hP H1 f1 d hB Q q => by
  refine ha ts _ hP H1 f1 d hB _ fun v H2 xs hx f2 d2 hB2 hv => hl ts _ hx H2 (f1.trans f2) d2 hB2 _ fun H3 l hl' f3 d3 hB3 => hh ts _ hl' H3 ((f1.trans f2).trans f3) d3 hB3 _ fun H4 h hh' f4 d4 hB4 => ?_
  obtain ⟨p, vs, rfl, hp, hvs⟩ := (tL a).mono ((f3.trans f4).sub ts) hv
  refine ⟨p, vs, rfl, hp.sq, fun p' hp' => q _ _ _ hh' (((f2.trans f3).trans f4).trans (Fr.same (same_new hp'))) (d4.same (same_new hp')) (hB4.same (same_new hp')) ⟨p', rfl, fr_back ((f2.trans f3).trans f4) hB4.dom hp', _, upd_same, ?_⟩⟩
  exact (hvs.cut l h).imp fun _ _ hh => a.mono (Fr.same (same_new hp')) (a.ext hp' hh)
theorem qw_par {i j : Nat} {wa : Wp α} {wb : Wp β} {P : α → β → Prop} (d : Dom S H) (hB : Bag H b c) (ts : Sub [b, c] S) (ha : EvW b c S ta σ H (of a S) wa) (hb : EvW b c S tb σ H (of b' S) wb) (e : wa fun x => wb fun y => P x y)
    (k : ∀ v w H1 x y, P x y → Fr [b, c] H H1 → Dom S H1 → Bag H1 b c → a.rp S H1 v x → b'.rp S H1 w y → u D ((σ.set i (some v)).set j (some w)) H1) :
    tSeq (tPar i j (tCons ta (tCons tb tNil))) u D σ H := ha ts _ e H (Fr.refl _) d hB _ fun v H1 x hx f1 d1 hB1 hv => hb ts _ hx H1 f1 d1 hB1 _ fun w H2 y hy f2 d2 hB2 hw => ⟨v, w, rfl, k v w H2 x y hy (f1.trans f2) d2 hB2 (a.mono (f2.sub ts) hv) hw⟩
theorem qw_par2 {i j : Nat} {wa : Wp α} {wb : Wp β} {P : α → β → Prop} (d : Dom S H) (hB : Bag H b c) (ts : Sub [b, c] S) (ha : EvW b c S ta σ H (of a S) wa) (hb : EvW b c S tb σ H (of b' S) wb) (e : wa fun x => wb fun y => P x y)
    (k : ∀ v w H1 x y, P x y → Fr [b, c] H H1 → Dom S H1 → Bag H1 b c → a.rp S H1 v x → b'.rp S H1 w y → u D ((σ.set i (some v)).set j (some w)) H1) :
    tSeq (tAsg (tTup (tCons ta (tCons tb tNil))) (gTup K 2 (gCons (gName i) (gCons (gName j) gNil)))) u D σ H := ha ts _ e H (Fr.refl _) d hB _ fun v H1 x hx f1 d1 hB1 hv => hb ts _ hx H1 f1 d1 hB1 _ fun w H2 y hy f2 d2 hB2 hw => ⟨(by show 2 ≤ sizeLine; decide), fun p hp =>
  ⟨p, _, rfl, .inl (.inl upd_same), rfl, v, _, rfl, w, _, rfl, rfl, k v w _ x y hy ((f1.trans f2).trans (Fr.same (same_new hp))) (d2.same (same_new hp)) (hB2.same (same_new hp)) (a.mono (Fr.same (same_new hp)) (a.mono (f2.sub ts) hv)) (b'.mono (Fr.same (same_new hp)) hw)⟩⟩
end
end M

namespace M
open PySem L2 G
theorem mapO_all {α β : Type} {f : α → Option β} {g : α → β} : ∀ {xs : List α}, (∀ x ∈ xs, f x = some (g x)) → mapO f xs = some (xs.map g)
  | [], _ => rfl
  | x :: r, h => by
    simp only [mapO, bd, h x (List.mem_cons_self ..), Option.bind_some, mapO_all (fun y hy => h y (List.mem_cons_of_mem _ hy)), List.map_cons]
theorem cut_mem {α : Type} {xs : List α} {lo hi : Option Int} {x : α} (h : x ∈ cutD xs lo hi) : x ∈ xs := by
  unfold cutD at h
  exact List.mem_of_mem_drop (List.mem_of_mem_take h)
theorem cut_len {α : Type} (xs : List α) (lo hi : Option Int) : (cutD xs lo hi).length ≤ xs.length := by
  unfold cutD
  rw [List.length_take, List.length_drop]
  omega
theorem at_in {α : Type} {xs : List α} {i : Int} (h0 : 0 ≤ i) (h : i < xs.length) : ∃ x, atI xs i = some x ∧ x ∈ xs := by
  have hk : i.toNat < xs.length := by omega
  have e := atI_nat (xs := xs) (j := i.toNat) (List.getElem?_eq_getElem hk)
  rw [show ((i.toNat : Nat) : Int) = i by omega] at e
  exact ⟨_, e, List.getElem_mem hk⟩
theorem rngP_of {n : Int} (h : -1000000 ≤ n ∧ n ≤ 1000000) : rngP n = true := by
  unfold rngP
  exact Nat.ble_eq_true_of_le (by omega)
theorem rng2_eq {a b : Int} (ha : -1000000 ≤ a ∧ a ≤ 1000000) (hb : -1000000 ≤ b ∧ b ≤ 1000000) : rng2? a b = some (rngL a (b - a).toNat) := by
  unfold rng2?
  rw [rngP_of ha, rngP_of hb]
  rfl
theorem rng1_eq {b : Int} (hb : -1000000 ≤ b ∧ b ≤ 1000000) : rng1? b = some (rngL 0 b.toNat) := by
  unfold rng1?
  rw [rngP_of hb]
  rfl
theorem rngL_succ (a : Int) (m : Nat) : rngL a (m + 1) = a :: rngL (a + 1) m := by
  unfold rngL
  rw [List.range_succ_eq_map, List.map_cons, List.map_map]
  congr 1
  · simp
  · apply List.map_congr_left
    intro k _
    simp only [Function.comp_apply]
    omega
theorem app_eq {α : Type} {xs : List α} (x : α) (h : xs.length < 100000) : app? xs x = some (xs ++ [x]) := by
  unfold app?
  rw [if_pos h]
theorem rng_len (lo : Int) (n : Nat) : (rngL lo n).length = n := by simp [rngL]
theorem rng_mem {lo x : Int} {n : Nat} (h : x ∈ rngL lo n) : lo ≤ x ∧ x < lo + n := by
  unfold rngL at h
  obtain ⟨i, hi, rfl⟩ := List.mem_map.mp h
  have := List.mem_range.mp hi
  omega
theorem mapL_eq {α β : Type} {f : α → Option β} {g : α → β} {xs : List α} (hl : xs.length ≤ 1000) (h : ∀ x ∈ xs, f x = some (g x)) : mapL? f xs = some (xs.map g) := by
  have h2 : xs.length < 100000 := Nat.lt_of_le_of_lt hl (by decide)
  have e : mapL? f xs = mapO f xs := if_pos h2
  rw [e]
  exact mapO_all h
theorem atI_toNat {α : Type} {xs : List α} {j : Int} (h0 : 0 ≤ j) (h : j < xs.length) : atI xs j = xs[j.toNat]? := by
  have hk : j.toNat < xs.length := by omega
  have e := atI_nat (xs := xs) (j := j.toNat) (List.getElem?_eq_getElem hk)
  rw [show ((j.toNat : Nat) : Int) = j by omega] at e
  rw [e, List.getElem?_eq_getElem hk]
theorem cut_nat {α : Type} {xs : List α} {a b : Nat} (ha : a ≤ b) (hb : b ≤ xs.length) : cutD xs (some (a : Int)) (some (b : Int)) = (xs.drop a).take (b - a) := by
  unfold cutD
  rw [HT.sIx_nat, HT.sIx_nat, show min a xs.length = a by omega, show min b xs.length = b by omega]
theorem cut_from {α : Type} {xs : List α} {a : Nat} (ha : a ≤ xs.length) : cutD xs (some (a : Int)) none = xs.drop a := by
  unfold cutD
  rw [HT.sIx_nat, show min a xs.length = a by omega]
  rw [show HT.sIx xs.length xs.length none = xs.length from rfl]
  exact List.take_of_length_le (by rw [List.length_drop]; omega)
theorem loopW_ix {α δ ρ : Type} {f : δ → α → Wp (Ct ρ δ)} {P : Ct ρ δ → Prop} (J : Nat → δ → Prop) : ∀ (xs : List α) (i : Nat) (s : δ), J i s →
    (∀ (k : Nat) (s : δ) (x : α) (C : Ct ρ δ → Prop), i ≤ k → k < i + xs.length → J k s → x ∈ xs → (∀ s', J (k + 1) s' → C (.go s')) → f s x C) → (∀ s, J (i + xs.length) s → P (.go s)) → loopW f xs s P
  | [], i, s, h, _, e => e s h
  | x :: r, i, s, h, st, e => by
    unfold loopW
    refine st i s x _ (Nat.le_refl _) (by simp) h (List.mem_cons_self ..) fun s' h' => ?_
    show loopW f r s' P
    refine loopW_ix J r (i + 1) s' h' (fun k s x C h1 h2 hJ hx hC => st k s x C (by omega) (by simp at h2 ⊢; omega) hJ (List.mem_cons_of_mem _ hx) hC) fun s hs => e s ?_
    rw [List.length_cons, show i + (r.length + 1) = i + 1 + r.length by omega]
    exact hs
theorem loopW_all {α δ ρ : Type} {f : δ → α → Wp (Ct ρ δ)} {P : Ct ρ δ → Prop} (J : δ → Prop) (xs : List α) (s : δ) (h : J s) (st : ∀ (s : δ) (x : α) (C : Ct ρ δ → Prop), J s → x ∈ xs → (∀ s', J s' → C (.go s')) → f s x C) (e : ∀ s, J s → P (.go s)) : loopW f xs s P :=
  loopW_ix (fun _ => J) xs 0 s h (fun _ s x C _ _ hJ hx hC => st s x C hJ hx hC) (fun s hs => e s hs)
theorem last_at {α : Type} {xs : List α} (h : xs ≠ []) : ∃ x, atI xs (-1) = some x ∧ x ∈ xs := by
  have l := List.length_pos_iff.mpr h
  have hk : xs.length - 1 < xs.length := by omega
  refine ⟨xs[xs.length - 1], ?_, List.getElem_mem hk⟩
  unfold atI ixN
  rw [if_neg (by decide), if_pos (by omega), Option.bind_some, show ((-1 : Int) + (xs.length : Int)).toNat = xs.length - 1 by omega]
  exact List.getElem?_eq_getElem hk
theorem jn_of {δ : Type} {f : (δ → Prop) → Prop} {k : δ → Prop} (Gd : δ → Prop) (h1 : ∀ K : δ → Prop, (∀ j, Gd j → K j) → f K) (h2 : ∀ j, Gd j → k j) : jn f k := h1 k h2
theorem filW_all {α β : Type} {f : α → Wp (Option β)} {p : β → Prop} : ∀ {xs : List α} {P : List β → Prop}, (∀ x ∈ xs, ∀ Po : Option β → Prop, (∀ y, p y → Po (some y)) → Po none → f x Po) → (∀ ys, ys.length ≤ xs.length → (∀ y ∈ ys, p y) → P ys) → filW f xs P
  | [], P, _, h => h [] (by simp) (fun y hy => by simp at hy)
  | x :: r, P, hf, h => by
    unfold filW
    refine hf x (List.mem_cons_self ..) _ (fun y hy => ?_) ?_
    · refine filW_all (fun z hz => hf z (List.mem_cons_of_mem _ hz)) fun ys hl hp => h _ (by simp; omega) fun z hz => ?_
      simp at hz
      rcases hz with rfl | hz
      · exact hy
      · exact hp z hz
    · refine filW_all (fun z hz => hf z (List.mem_cons_of_mem _ hz)) fun ys hl hp => h _ (by simp; omega) fun z hz => hp z (by simpa using hz)
theorem loopW_rng {δ ρ : Type} {f : δ → Int → Wp (Ct ρ δ)} {P : Ct ρ δ → Prop} (J : Nat → δ → Prop) : ∀ (n : Nat) {a : Nat} (s : δ), J a s → (∀ (k : Nat) (s : δ) (C : Ct ρ δ → Prop), a ≤ k → k < a + n → J k s → (∀ s', J (k + 1) s' → C (.go s')) → f s (k : Int) C) → (∀ s, J (a + n) s → P (.go s)) → loopW f (rngL (a : Int) n) s P
  | 0, a, s, h, _, e => e s h
  | n + 1, a, s, h, st, e => by
    rw [rngL_succ]
    unfold loopW
    refine st a s _ (Nat.le_refl _) (by omega) h fun s' h' => ?_
    show loopW f (rngL ((a : Int) + 1) n) s' P
    have := loopW_rng (f := f) (P := P) J n (a := a + 1) s' h' (fun k s C h1 h2 hJ hC => st k s C (by omega) (by omega) hJ hC) (fun s hs => e s (by rw [show a + (n + 1) = a + 1 + n by omega]; exact hs))
    simpa using this
theorem loopC_chk {α : Type} {f : Unit → α → Option (Ct Bool Unit)} {g : α → Bool} : ∀ (xs : List α), (∀ x ∈ xs, f () x = some (if g x then .ret false else .go ())) → loopC f xs () = some (if xs.any g then .ret false else .go ())
  | [], _ => rfl
  | x :: r, h => by
    have hx := h x (List.mem_cons_self ..)
    have hr := loopC_chk r fun y hy => h y (List.mem_cons_of_mem _ hy)
    unfold loopC
    rw [hx, Option.bind_some]
    by_cases c : g x = true
    · simp [c]
    · simp only [c, Bool.false_eq_true, if_false, List.any_cons, Bool.false_or]
      exact hr
theorem loopC_app {α β ρ : Type} {f : List β → α → Option (Ct ρ (List β))} {g : α → List β} {M c : Nat} : ∀ (xs : List α) (s : List β), (∀ x ∈ xs, (g x).length ≤ c ∧ ∀ s, s.length + c ≤ M → f s x = some (.go (s ++ g x))) → s.length + xs.length * c ≤ M → loopC f xs s = some (.go (s ++ xs.flatMap g))
  | [], s, _, _ => by simp [loopC]
  | x :: r, s, h, hb => by
    have hx := h x (List.mem_cons_self ..)
    have e : (x :: r).length * c = c + r.length * c := by rw [List.length_cons, Nat.succ_mul, Nat.add_comm]
    rw [e] at hb
    unfold loopC
    rw [hx.2 s (by omega), Option.bind_some]
    refine (loopC_app r (s ++ g x) (fun y hy => h y (List.mem_cons_of_mem _ hy)) ?_).trans ?_
    · rw [List.length_append]
      have := hx.1
      omega
    · simp
theorem filO_gen {α : Type} {g : α → Option Bool} {p : α → Bool} : ∀ (xs : List α), (∀ x ∈ xs, g x = some (p x)) → filO (fun x => bd (g x) fun k => if k then bd (some x) fun y => some (some y) else some none) xs = some (xs.filter p)
  | [], _ => rfl
  | x :: r, h => by
    have hr := filO_gen r fun y hy => h y (List.mem_cons_of_mem _ hy)
    simp only [filO, h x (List.mem_cons_self ..), bd, Option.bind_some] at hr ⊢
    by_cases c : p x = true
    · simp [c, hr]
    · simp [c, hr]
theorem fil_gen {α : Type} {g : α → Option Bool} {p : α → Bool} {xs : List α} (hl : xs.length ≤ 1000) (h : ∀ x ∈ xs, g x = some (p x)) : filL? g (fun x => some x) xs = some (xs.filter p) := by
  unfold filL?
  rw [if_pos (by omega)]
  exact filO_gen xs h
theorem at_get {α : Type} {xs : List α} {j : Int} (d : α) (h0 : 0 ≤ j) (h : j < xs.length) : atI xs j = some (xs.getD j.toNat d) := by
  rw [atI_toNat h0 h, List.getD_eq_getElem?_getD, List.getElem?_eq_getElem (by omega)]
  rfl
theorem at_lastD {α : Type} {xs : List α} (d : α) (h : xs ≠ []) : atI xs (-1) = some (xs.getD (xs.length - 1) d) := by
  have hl := List.length_pos_iff.mpr h
  unfold atI ixN
  rw [if_neg (by decide), if_pos (by omega), Option.bind_some, show ((-1 : Int) + (xs.length : Int)).toNat = xs.length - 1 by omega, List.getD_eq_getElem?_getD, List.getElem?_eq_getElem (by omega)]
  rfl
theorem rng_memI {lo x : Int} {n : Nat} (h : lo ≤ x ∧ x < lo + n) : x ∈ rngL lo n := by
  unfold rngL
  rw [List.mem_map]
  exact ⟨(x - lo).toNat, by simp; omega, by omega⟩
theorem memD_iff {α : Type} [DecidableEq α] {x : α} {xs : List α} : memD x xs = true ↔ x ∈ xs := by simp [memD]
theorem flatMap_len {α β : Type} {g : α → List β} {c : Nat} : ∀ xs : List α, (∀ x ∈ xs, (g x).length ≤ c) → (xs.flatMap g).length ≤ xs.length * c
  | [], _ => by simp
  | x :: r, h => by
    have := flatMap_len r fun y hy => h y (List.mem_cons_of_mem _ hy)
    have := h x (List.mem_cons_self ..)
    rw [List.flatMap_cons, List.length_append, List.length_cons, Nat.succ_mul]
    omega
theorem whileC_meas {δ ρ : Type} {t : δ → Option Bool} {f : δ → Option (Ct ρ δ)} (J : δ → Prop) (μ : δ → Nat) (h : ∀ s, J s → t s = some false ∨ (t s = some true ∧ ∃ s', f s = some (.go s') ∧ J s' ∧ μ s' < μ s)) : ∀ (n : Nat) (s : δ), J s → μ s < n → ∃ s', whileC t f n s = some (.go s') ∧ J s' ∧ t s' = some false
  | 0, s, _, hm => by omega
  | n + 1, s, hJ, hm => by
    rcases h s hJ with h1 | ⟨h1, s', h2, h3, h4⟩
    · exact ⟨s, whileC_stop h1, hJ, h1⟩
    · obtain ⟨z, e1, e2, e3⟩ := whileC_meas J μ h n s' h3 (by omega)
      exact ⟨z, by rw [whileC_go h1 h2, e1], e2, e3⟩
theorem min_mem {xs : List Int} (h : xs ≠ []) : ∃ m, xs.min? = some m ∧ m ∈ xs := by
  cases e : xs.min? with
  | none => exact absurd (List.min?_eq_none_iff.mp e) h
  | some m => exact ⟨m, rfl, List.min?_mem e⟩
theorem cat_eq {α : Type} {xs ys : List α} (h : xs.length + ys.length ≤ 1000) : cat? xs ys = some (xs ++ ys) := by
  unfold cat?
  rw [if_pos (by omega)]
end M

namespace M
open PySem L2 G
section
variable {K : PySem.W.Frag} {α β γ δ ε ρ : Type} {S T : AS} {σ : St} {H : Hp} {ta tb te tc : TE} {tt tu : TT} {a : Ty K α} {b' : Ty K β} {c' : Ty K γ} {D : Ends} {u t1 t2 : TS} {b c : Addr}
theorem kitAny2 {t n1 n2 : String} {k1 k2 : Bool} (h1 : kitB t n1 = some k1) (h2 : kitB t n2 = some k2) : PySem.W.kitAny K (.type t) [.type n1, .type n2] = some (k1 || k2) := by
  cases k1 with
  | true => exact kitAny_cons (b := true) (kit_ty h1) (fun z => nomatch z) (fun _ => rfl)
  | false =>
    refine kitAny_cons (b := false) (kit_ty h1) (fun _ => ?_) (fun z => nomatch z)
    cases k2 with
    | true => exact kitAny_cons (b := true) (kit_ty h2) (fun z => nomatch z) (fun _ => rfl)
    | false => exact kitAny_cons (b := false) (kit_ty h2) (fun _ => rfl) (fun z => nomatch z)
theorem ev_isi2 {r : Option α} {t n1 n2 : String} {k1 k2 : Bool} [hi : IsTy a t] (h : Ev S T te σ H (of a S) r) (h1 : kitB t n1 = some k1) (h2 : kitB t n2 = some k2) :
    Ev S T (tCB (rIsiT K) (tCons te (tCons (tTup (tCons (tC (.ty n1)) (tCons (tC (.ty n2)) tNil))) tNil))) σ H (of (K := K) tBool S) (bd r fun _ => some (k1 || k2)) := by
  intro z e H1 f1 d Q q
  obtain ⟨x, ex, e⟩ := bd_some e
  cases e
  exact h x ex H1 f1 d _ fun v H2 s hv => ⟨(by show 2 ≤ sizeLine; decide), fun p hp => ⟨v, p, _, _, _, _, rfl, upd_same, .cons (.ty _) (.cons (.ty _) .nil), hi.h (a.mono (Fr.same (same_new hp)) hv), kitAny2 h1 h2, q _ _ (s.trans (same_new hp)) rfl⟩⟩
theorem ev_isNv [NN a] {r : Option α} (h : Ev S T te σ H (of a S) r) : Ev S T (tOp (fun x y H Q => y = .non ∧ Q (.bl (decide (x = .non))) H) te (tC .non)) σ H (of (K := K) tBool S) (bd r fun _ => some false) := by
  intro z e H1 f1 d Q q
  obtain ⟨x, ex, e⟩ := bd_some e
  cases e
  exact h x ex H1 f1 d _ fun v H2 s hv => ⟨rfl, q _ H2 s (by show V.bl _ = V.bl false; rw [decide_eq_false (NN.h hv)])⟩
theorem ev_slO {p : Addr} {xs : List α} {i : Nat} {tl th : TO} {rl rh : Option (Option Int)} (o : Own a S H p xs) (nt : p ∉ T) (ts : Sub T S) (hi : σ[i]? = some (some (.ref p))) (hl : EvO S T tl σ H rl) (hh : EvO S T th σ H rh) :
    Ev S T (tSl (rSlL K) (tVar i) tl th) σ H (nw a S) (bd rl fun l => bd rh fun h => some (cutD xs l h)) := by
  intro z e H1 f1 d Q q
  obtain ⟨l, el, e⟩ := bd_some e
  obtain ⟨h, eh, e⟩ := bd_some e
  cases e
  refine ⟨_, hi, hl l el H1 f1 d _ fun H2 s2 => hh h eh H2 (f1.trans (Fr.same s2)) (d.same s2) _ fun H3 s3 => ?_⟩
  obtain ⟨vs, hv, ha⟩ := ((o.fr f1 ts nt).same s2).same s3
  refine ⟨p, vs, rfl, .inl (.inl hv), fun p' hp' => q _ _ ((s2.trans s3).trans (same_new hp')) ⟨p', rfl, (s2.trans s3).free hp', _, upd_same, ?_⟩⟩
  exact (ha.cut l h).imp fun _ _ hh => a.mono (Fr.same (same_new hp')) (a.ext hp' hh)
theorem lw_set {p : Addr} {xs : List α} {i : Nat} {w : Wp α} {td : TE} {ri : Option Int} {R : List α → Prop} (d : Dom S H) (hB : Bag H b c) (ts : Sub [b, c] S) (o : Own a S H p xs) (im : p ∈ S) (nt : p ∉ [b, c]) (hi : σ[i]? = some (some (.ref p))) (h : EvW b c S te σ H (of a S) w) (hk : Ev S [b, c] td σ H (of (K := K) tInt S) ri)
    (e : w fun x => lf ri fun k => lf (set? xs k x) R)
    (q : ∀ ys H1 H2, R ys → Fr [b, c] H H1 → Dom S H1 → Bag H1 b c → Mut1 p H1 H2 → Fr S H1 H2 → Own a S H2 p ys → D.nx σ H2) : tAsg te (gSub (tVar i) td rSetL) D σ H := by
  refine h ts _ e H (Fr.refl _) d hB _ fun v H1 x ⟨k, ek, ys, ey, hR⟩ f1 d1 hB1 hx => ⟨_, hi, hk k ek H1 f1 d1 _ fun w H2 s2 hw => ?_⟩
  cases hw
  obtain ⟨vs, hv, ha⟩ := o.fr f1 ts nt
  obtain ⟨j, ej, ey⟩ := bd_some ey
  cases ey
  refine ⟨p, vs, k, j, rfl, rfl, s2 _ _ hv, by rw [ha.len]; exact ej, ?_⟩
  have g1 : Fr S H2 (upd H2 p (.lst (vs.set j v))) := fr_upd im
  refine q _ H1 _ hR f1 d1 hB1 ⟨fun b ob e n => by rw [upd_ne n]; exact s2 _ _ e, by rw [upd_same]; intro z; cases z⟩ ((Fr.same s2).trans g1) ⟨_, upd_same, ?_⟩
  exact (All2.set (a.mono (Fr.same s2) hx) j (ha.imp fun _ _ h => a.mono (Fr.same s2) h)).imp fun _ _ h => a.mono g1 h
theorem qw_set {p : Addr} {xs : List α} {i : Nat} {w : Wp α} {td : TE} {ri : Option Int} {R : List α → Prop} (d : Dom S H) (hB : Bag H b c) (ts : Sub [b, c] S) (o : Own a S H p xs) (im : p ∈ S) (nt : p ∉ [b, c]) (hi : σ[i]? = some (some (.ref p))) (h : EvW b c S te σ H (of a S) w) (hk : Ev S [b, c] td σ H (of (K := K) tInt S) ri)
    (e : w fun x => lf ri fun k => lf (set? xs k x) R)
    (q : ∀ ys H1 H2, R ys → Fr [b, c] H H1 → Dom S H1 → Bag H1 b c → Mut1 p H1 H2 → Fr S H1 H2 → Own a S H2 p ys → u D σ H2) : tSeq (tAsg te (gSub (tVar i) td rSetL)) u D σ H := lw_set (D := { D with nx := u D }) d hB ts o im nt hi h hk e q
end
end M

namespace M
open PySem L2 G
open PyProof.Rows (itemOrd)
open PySem.W (dataLt alike alikeAll AlikeAll minD min_list_data alike_unique)
/-! ### min of a list of data -/
theorem fold_mem {α : Type} (f : α → α → Bool) : ∀ (xs : List α) (x : α), xs.foldl (fun a y => if f y a then y else a) x ∈ x :: xs
  | [], x => by simp
  | y :: r, x => by
    rw [List.foldl_cons]
    have := fold_mem f r (if f y x then y else x)
    rcases List.mem_cons.mp this with e | m
    · rw [e]
      split <;> simp
    · exact List.mem_cons_of_mem _ (List.mem_cons_of_mem _ m)
def rMinA (K : PySem.W.Frag) : List V → Hp → VK → Prop := fun vs H Q => ∃ (a : Addr) (xs : List V) (d : PyData) (ds : List PyData), vs = [.ref a] ∧ SqL K H a xs ∧ DpAll K H xs (d :: ds) ∧ AlikeAll (d :: ds) ∧ PyData.depthAll (d :: ds) ≤ 60 ∧
  ∀ (i : Nat) (v : V), xs[i]? = some v → (d :: ds)[i]? = some (minD d ds) → Q v H
theorem cr_minA {X : Cx} (hc : X.calm = true) (hu : X.A.units + 65 < cLine) : CallR X (.builtin "min") (rMinA X.K) := by
  intro pins s σ H vs us Q I r h
  obtain ⟨a, xs, d, ds, rfl, hs, hd, hal, hdp, q⟩ := h
  obtain ⟨its, rv, hl, _⟩ := I.list hs
  rw [Vals.ref1 r]
  obtain ⟨as, hr⟩ := Dp.readsAll I (d :: ds) xs its hd rv
  refine min_list_data (I.ok.hd hc) hl.isList (by simpa using hr) hal (by omega) fun i v h' tk bs hv hr' hk => ?_
  have hv' : its[i]? = some v := by simpa using hv
  have hlen := rv.length
  have hi : i < its.length := (List.getElem?_eq_some_iff.mp hv').1
  obtain ⟨x, hx⟩ : ∃ x, xs[i]? = some x := ⟨_, List.getElem?_eq_getElem (by omega)⟩
  have rx : RelV x v := by
    obtain ⟨u, hu', ru⟩ := Vals.get rv hx
    rw [hv'] at hu'
    cases hu'
    exact ru
  obtain ⟨cs, rc, hin, _, _⟩ := PySem.W.readsAll_at hr i v hv'
  have e : (d :: ds).getD i .none = minD d ds := by
    have r1 := PySem.W.reads_keeps hk rc
    refine alike_unique _ _ v _ _ ?_ r1 hr'
    refine hal.1 _ ?_ _ ?_
    · rw [List.getD_eq_getElem?_getD, List.getElem?_eq_getElem hin]
      exact List.getElem_mem _
    · exact fold_mem _ _ _
  refine ⟨x, H, I.kept hk, rx, q i x hx ?_⟩
  rw [← e, List.getD_eq_getElem?_getD, List.getElem?_eq_getElem hin]
  rfl
/-- codes whose things can be ordered -/
structure TyLt {K : PySem.W.Frag} {α : Type} {a : Ty K α} (d : TyD a) (lt : α → α → Bool) : Prop where
  al : ∀ x y, alike (d.dt x) (d.dt y) = true
  nn : ∀ x, d.dt x ≠ .none
  lt : ∀ x y, dataLt (d.dt x) (d.dt y) = lt x y
def minBy? {α : Type} (lt : α → α → Bool) : List α → Option α
  | [] => none
  | x :: xs => some (xs.foldl (fun a y => if lt y a then y else a) x)
theorem minD_map {K : PySem.W.Frag} {α : Type} {a : Ty K α} {d : TyD a} {lt : α → α → Bool} (h : TyLt d lt) : ∀ (xs : List α) (x : α), minD (d.dt x) (xs.map d.dt) = d.dt (xs.foldl (fun a y => if lt y a then y else a) x)
  | [], x => rfl
  | y :: r, x => by
    have ih := minD_map h r (if lt y x then y else x)
    unfold minD at ih ⊢
    rw [List.map_cons, List.foldl_cons, List.foldl_cons, h.lt, ← ih]
    congr 1
    split <;> rfl
theorem ev_minBy {K : PySem.W.Frag} {α : Type} {S T : AS} {σ : St} {H : Hp} {te : TE} {a : Ty K α} [DecidableEq α] {d : TyD a} {lt : α → α → Bool} {r : Option (List α)} (hd : d.dep ≤ 60) (hl : TyLt d lt) (h : Ev S T te σ H (of (tL a) S) r) :
    Ev S T (tCB (rMinA K) (tCons te tNil)) σ H (of a S) (bd r fun x => minBy? lt x) := by
  intro z e H1 f1 dm Q q
  obtain ⟨x, ex, e⟩ := bd_some e
  refine h x ex H1 f1 dm _ fun v H2 s ⟨p, vs, ev, hp, ha⟩ => ?_
  subst ev
  cases x with
  | nil => cases e
  | cons y ys =>
    cases e
    have da := dpAll d ha
    rw [List.map_cons] at da
    refine ⟨p, vs, d.dt y, ys.map d.dt, rfl, hp.sq, da, ⟨fun u hu w hw => ?_, fun u hu => ?_⟩, ?_, fun i w hw he => ?_⟩
    · rw [← List.map_cons] at hu hw
      obtain ⟨u', _, rfl⟩ := List.mem_map.mp hu
      obtain ⟨w', _, rfl⟩ := List.mem_map.mp hw
      exact hl.al _ _
    · rw [← List.map_cons] at hu
      obtain ⟨u', _, rfl⟩ := List.mem_map.mp hu
      exact hl.nn _
    · rw [← List.map_cons]
      exact Nat.le_trans (depAll d (y :: ys)) hd
    · rw [← List.map_cons, List.getElem?_map, minD_map hl] at he
      obtain ⟨c, hc, rc⟩ := ha.getL i hw
      rw [hc] at he
      have ec : c = ys.foldl (fun a y => if lt y a then y else a) y := by
        have := Option.some.inj he
        have e2 := d.dec c (ys.foldl (fun a y => if lt y a then y else a) y)
        rw [this, d.dec] at e2
        simpa using e2.symm
      subst ec
      exact q w H2 s rc
/-! lists of ints, as Python orders them -/
def lexI : List Int → List Int → Bool
  | [], [] => false
  | [], _ :: _ => true
  | _ :: _, [] => false
  | x :: xs, y :: ys => if x = y then lexI xs ys else decide (x < y)
theorem lexI_toks : ∀ xs ys : List Int, PyProof.Rows.lexLt itemOrd (PySem.W.keyToksAll (xs.map .int)) (PySem.W.keyToksAll (ys.map .int)) = lexI xs ys
  | [], [] => by rfl
  | [], y :: ys => by rfl
  | x :: xs, [] => by rfl
  | x :: xs, y :: ys => by
    rw [List.map_cons, List.map_cons]
    have al : alike (.int x) (.int y) = true := rfl
    unfold lexI
    by_cases c : x = y
    · rw [if_pos c, PySem.W.dataLt_all_yes al (by simp [PyData.eqv, c])]
      exact lexI_toks xs ys
    · rw [if_neg c, PySem.W.dataLt_all_no al (by simp [PyData.eqv, c]), PySem.W.dataLt_int]
theorem alike_ints' : ∀ xs ys : List Int, alikeAll (xs.map .int) (ys.map .int) = true
  | [], ys => by simp [alikeAll]
  | x :: xs, [] => by simp [alikeAll]
  | x :: xs, y :: ys => by simp [alikeAll, alike, alike_ints' xs ys]
theorem lt_LI {K : PySem.W.Frag} : TyLt (K := K) (dL dInt) lexI := ⟨fun x y => by show alike (.list _) (.list _) = true; rw [alike]; exact alike_ints' x y, fun x z => (by cases z), fun x y => by show dataLt (.list _) (.list _) = _; rw [PySem.W.dataLt_list]; exact lexI_toks x y⟩
/-! one taken out of a list -/
def popAt? {α : Type} (xs : List α) (i : Int) : Option (α × List α) := if 0 ≤ i then (xs[i.toNat]?).map fun y => (y, xs.eraseIdx i.toNat) else none
theorem All2.erase {α β : Type} {F : α → β → Prop} : ∀ (n : Nat) {xs : List α} {ys : List β}, All2 F xs ys → All2 F (xs.eraseIdx n) (ys.eraseIdx n)
  | _, _, _, .nil => .nil
  | 0, _, _, .cons _ r => r
  | n + 1, _, _, .cons a r => .cons a (All2.erase n r)
end M

namespace M
open PySem L2 G
open PyProof.Rows (itemOrd)
open PySem.W (dataLt alike alikeAll AllAlike Sortable dataLe sorted_data EachIs)
/-! ### sorted of a list of data -/
def rSortA (K : PySem.W.Frag) : List V → Hp → VK → Prop := fun vs H Q => ∃ (a : Addr) (bs : List (V × PyData)), vs = [.ref a] ∧ SqL K H a (bs.map (·.1)) ∧ (∀ b ∈ bs, Dp K H b.1 b.2) ∧ AllAlike (bs.map (·.2)) ∧ Sortable (bs.map (·.2)) ∧ (∀ b ∈ bs, b.2.depth ≤ 60) ∧
  ∀ p, H p = none → Q (.ref p) (upd H p (.lst ((bs.mergeSort (dataLe false (·.2))).map (·.1))))
theorem each_vals {X : Cx} {pins : List (Addr × Obj)} {σ : St} {H : Hp} {s : Shared} (I : Inv X pins σ H s) : ∀ {bs : List (V × PyData)} {its : List Value}, Vals (bs.map (·.1)) its → (∀ b ∈ bs, Dp X.K H b.1 b.2) →
    EachIs (fun v (b : V × PyData) => RelV b.1 v) its bs ∧ EachIs (fun v (b : V × PyData) => ∃ as, Reads s.heap v b.2 as) its bs
  | [], _, .nil, _ => ⟨.nil, .nil⟩
  | b :: r, _, .cons h t, hd => by
    obtain ⟨e1, e2⟩ := each_vals I t fun x hx => hd x (List.mem_cons_of_mem _ hx)
    exact ⟨.cons h e1, .cons (Dp.reads I b.2 b.1 _ (hd b (List.mem_cons_self ..)) h) e2⟩
theorem vals_each : ∀ {out : List Value} {bs : List (V × PyData)}, EachIs (fun v (b : V × PyData) => RelV b.1 v) out bs → Vals (bs.map (·.1)) out
  | _, _, .nil => .nil
  | _, _, .cons h t => .cons h (vals_each t)
theorem cr_sortA {X : Cx} (hu : X.A.units + 65 < cLine) : CallR X (.builtin "sorted") (rSortA X.K) := by
  intro pins s σ H vs us Q I r h
  obtain ⟨a, bs, rfl, hs, hd, hal, hk, hdp, q⟩ := h
  obtain ⟨its, rv, hl, hz⟩ := I.list hs
  rw [Vals.ref1 r]
  obtain ⟨e1, e2⟩ := each_vals I rv hd
  have hz' : bs.length ≤ sizeLine := by simpa using hz
  refine sorted_data (bs := bs) (enc := (·.2)) hl.isList e1 e2 hal hk hz' (fun b hb => by have := hdp b hb; omega) fun out ho he => ?_
  obtain ⟨ep, he'⟩ := PyProof.Rows.sortedAll_at s.heap its out.toArray
  have hlen : ((bs.mergeSort (dataLe false (·.2))).map (·.1)).length ≤ sizeLine := by rw [List.length_map, List.length_mergeSort]; exact hz'
  exact ⟨.ref _, upd H (s.heap.objs.size + 1) (.lst ((bs.mergeSort (dataLe false (·.2))).map (·.1))), I.laid (t' := s.toks) (fun _ _ => PyProof.Rows.sortedAll_old) (Nat.le_succ _) ⟨hlen, out, ep, vals_each he, by simpa using he'⟩, rfl, q _ (I.hok.fresh (Nat.le_succ _))⟩
def sortBy {α : Type} (lt : α → α → Bool) (xs : List α) : List α := xs.mergeSort fun x y => !lt y x
theorem dataLe_not {β : Type} (k : β → PyData) (x y : β) : dataLe false k x y = !dataLt (k y) (k x) := by
  first | rfl | (unfold dataLe dataLt; rfl)
/-- codes of which all are tuples with an item, or none is -/
def Srt {K : PySem.W.Frag} {α : Type} {a : Ty K α} (d : TyD a) : Prop := (∀ x, ∃ y r, d.dt x = .tuple (y :: r)) ∨ ∀ x ys, d.dt x ≠ .tuple ys
theorem ev_sortBy {K : PySem.W.Frag} {α : Type} {S T : AS} {σ : St} {H : Hp} {te : TE} {a : Ty K α} {d : TyD a} {lt : α → α → Bool} {r : Option (List α)} (hd : d.dep ≤ 60) (hl : TyLt d lt) (hs : Srt d) (h : Ev S T te σ H (of (tL a) S) r) :
    Ev S T (tCB (rSortA K) (tCons te tNil)) σ H (nw a S) (bd r fun x => some (sortBy lt x)) := by
  intro z e H1 f1 dm Q q
  obtain ⟨xs, ex, e⟩ := bd_some e
  cases e
  refine h xs ex H1 f1 dm _ fun v H2 s ⟨p, vs, ev, hp, ha⟩ => ?_
  subst ev
  have len := ha.len
  have m1 : ((vs.zip xs).map fun t : V × α => (t.1, d.dt t.2)).map (·.1) = vs := by
    rw [List.map_map]
    exact List.map_fst_zip (by omega)
  have m2 : (vs.zip xs).map Prod.snd = xs := List.map_snd_zip (by omega)
  have hz : ∀ t ∈ vs.zip xs, a.rp S H2 t.1 t.2 := fun t ht => by
    obtain ⟨i, hi, rfl⟩ := List.mem_iff_getElem.mp ht
    rw [List.length_zip] at hi
    rw [List.getElem_zip]
    obtain ⟨w, hw, hr⟩ := ha.get i (List.getElem?_eq_getElem (show i < xs.length by omega))
    rw [List.getElem?_eq_getElem (by omega)] at hw
    cases hw
    exact hr
  refine ⟨p, (vs.zip xs).map fun t => (t.1, d.dt t.2), rfl, by rw [m1]; exact hp.sq, fun b hb => ?_, ?_, ?_, fun b hb => ?_, fun p' hp' => ?_⟩
  · obtain ⟨t, ht, rfl⟩ := List.mem_map.mp hb
    exact d.dp (hz t ht)
  · intro u hu w hw
    rw [List.map_map] at hu hw
    obtain ⟨t, _, rfl⟩ := List.mem_map.mp hu
    obtain ⟨t', _, rfl⟩ := List.mem_map.mp hw
    exact hl.al _ _
  · rcases hs with hs | hs
    · left
      intro u hu
      rw [List.map_map] at hu
      obtain ⟨t, _, rfl⟩ := List.mem_map.mp hu
      exact hs _
    · right
      intro u hu
      rw [List.map_map] at hu
      obtain ⟨t, _, rfl⟩ := List.mem_map.mp hu
      exact ⟨hl.nn _, hs _⟩
  · obtain ⟨t, _, rfl⟩ := List.mem_map.mp hb
    exact Nat.le_trans (d.hd _) hd
  · have k1 := List.map_mergeSort (r := fun t t' : V × α => !lt t'.2 t.2) (s := dataLe false (fun b : V × PyData => b.2)) (f := fun t : V × α => (t.1, d.dt t.2)) (l := vs.zip xs) (fun t _ t' _ => by rw [dataLe_not, hl.lt])
    have k2 := List.map_mergeSort (r := fun t t' : V × α => !lt t'.2 t.2) (s := fun x y => !lt y x) (f := Prod.snd) (l := vs.zip xs) (fun t _ t' _ => rfl)
    rw [m2] at k2
    rw [← k1, List.map_map]
    have s4 := same_new (o := .lst (((vs.zip xs).mergeSort fun t t' : V × α => !lt t'.2 t.2).map fun t => t.1)) hp'
    refine q _ _ (s.trans s4) ⟨p', rfl, s.free hp', _, upd_same, ?_⟩
    unfold sortBy
    rw [← k2]
    have al : ∀ ts : List (V × α), (∀ t ∈ ts, a.rp S H2 t.1 t.2) → All2 (a.rp (p' :: S) (upd H2 p' (.lst (((vs.zip xs).mergeSort fun t t' : V × α => !lt t'.2 t.2).map fun t => t.1)))) (ts.map fun t => t.1) (ts.map Prod.snd) := by
      intro ts
      induction ts with
      | nil => exact fun _ => .nil
      | cons t r ih => exact fun ht => .cons (a.mono (Fr.same s4) (a.ext hp' (ht t (List.mem_cons_self ..)))) (ih fun x hx => ht x (List.mem_cons_of_mem _ hx))
    exact al _ fun t ht => hz t (List.mem_mergeSort.mp ht)
/-! pairs of a number and a list of numbers; texts -/
def ltPL (x y : Int × List Int) : Bool := if x.1 = y.1 then lexI x.2 y.2 else decide (x.1 < y.1)
theorem lt_PL {K : PySem.W.Frag} : TyLt (K := K) (dT2 dInt (dL dInt)) ltPL := by
  have al1 : ∀ n m : Int, alike (.int n) (.int m) = true := fun _ _ => rfl
  have al2 : ∀ x y : List Int, alike (.list (x.map .int)) (.list (y.map .int)) = true := fun x y => by rw [alike]; exact alike_ints' x y
  refine ⟨fun x y => ?_, fun x z => (by cases z), fun x y => ?_⟩
  · show alike (.tuple [.int x.1, .list (x.2.map .int)]) (.tuple [.int y.1, .list (y.2.map .int)]) = true
    rw [alike, alikeAll, alikeAll, al1, al2, alikeAll]
    rfl
  · show dataLt (.tuple [.int x.1, .list (x.2.map .int)]) (.tuple [.int y.1, .list (y.2.map .int)]) = ltPL x y
    rw [PySem.W.dataLt_tuple]
    unfold ltPL
    by_cases c : x.1 = y.1
    · rw [if_pos c, PySem.W.dataLt_all_yes (al1 _ _) (by simp [PyData.eqv, c])]
      have e2 : PyData.eqv (.list (x.2.map .int)) (.list (y.2.map .int)) = decide (x.2 = y.2) := (dL (K := K) dInt).dec x.2 y.2
      by_cases c2 : x.2 = y.2
      · rw [PySem.W.dataLt_all_yes (al2 _ _) (by rw [e2]; exact decide_eq_true c2), c2]
        have irr : ∀ l : List Int, lexI l l = false := fun l => by induction l with | nil => rfl | cons a r ih => simp [lexI, ih]
        rw [irr]
        rfl
      · rw [PySem.W.dataLt_all_no (al2 _ _) (by rw [e2]; exact decide_eq_false c2), PySem.W.dataLt_list]
        exact lexI_toks _ _
    · rw [if_neg c, PySem.W.dataLt_all_no (al1 _ _) (by simp [PyData.eqv, c]), PySem.W.dataLt_int]
theorem srt_PL {K : PySem.W.Frag} : Srt (K := K) (dT2 dInt (dL dInt)) := .inl fun x => ⟨_, _, rfl⟩
def ltS (x y : Str) : Bool := decide (x.cps.toList < y.cps.toList)
theorem lt_S {K : PySem.W.Frag} : TyLt (K := K) dStr ltS := ⟨fun x y => rfl, fun x z => (by cases z), fun x y => PySem.W.dataLt_str x y⟩
theorem srt_S {K : PySem.W.Frag} : Srt (K := K) dStr := .inr fun x ys z => (by cases z)
def ltI (x y : Int) : Bool := decide (x < y)
theorem lt_I {K : PySem.W.Frag} : TyLt (K := K) dInt ltI := ⟨fun x y => rfl, fun x z => (by cases z), fun x y => PySem.W.dataLt_int x y⟩
theorem srt_I {K : PySem.W.Frag} : Srt (K := K) dInt := .inr fun x ys z => (by cases z)
end M

namespace M
open PySem L2 G
/-! ### dicts -/
/-- what can be a key: ints and texts -/
class KeyC (κ : Type) where
  kk : κ → Key
  ok : κ → Prop
  inj : ∀ {x y}, kk x = kk y → x = y
instance : KeyC Int := ⟨Sum.inl, fun _ => True, fun h => by cases h; rfl⟩
instance : KeyC Str := ⟨Sum.inr, fun z => PyData.strOk z = true, fun h => by cases h; rfl⟩
section
variable {K : PySem.W.Frag} {α β γ δ ε ρ κ : Type} [KeyC κ] [DecidableEq κ] {S T : AS} {σ : St} {H : Hp} {ta tb te tc td ty tv : TE} {tt tu : TT} {a : Ty K α} {b' : Ty K β} {c' : Ty K γ} {D : Ends} {u t1 t2 : TS} {b c : Addr}
open KeyC
/-- the codes of keys -/
class KeyT (c : Ty K κ) : Prop where
  to : ∀ {S H v x}, c.rp S H v x → v = kV (kk x) ∧ ok x
  of_ : ∀ {S H x}, ok x → c.rp S H (kV (kk x)) x
instance : KeyT (K := K) (κ := Int) tInt := ⟨fun h => ⟨h, trivial⟩, fun _ => rfl⟩
instance : KeyT (K := K) (κ := Str) tStr := ⟨fun h => ⟨h.1, h.2⟩, fun h => ⟨rfl, h⟩⟩
def KvP (b' : Ty K β) (S : AS) (H : Hp) (kv : Key × V) (x : κ × β) : Prop := kv.1 = kk x.1 ∧ ok x.1 ∧ b'.rp S H kv.2 x.2
def nDk (S : AS) (H : Hp) (a : Addr) (kvs : List (Key × V)) : Prop := H a = some (.dK kvs) ∧ a ∉ S
variable (κ) in
def tD (b' : Ty K β) : Ty K (List (κ × β)) where
  rp S H v xs := ∃ a kvs, v = .ref a ∧ nDk S H a kvs ∧ All2 (KvP b' S H) kvs xs ∧ (xs.map Prod.fst).Nodup
  mono f := fun ⟨a, kvs, e, h, h1, h2⟩ => ⟨a, kvs, e, ⟨f _ _ h.1 h.2, h.2⟩, h1.imp fun _ _ ⟨p, q, r⟩ => ⟨p, q, b'.mono f r⟩, h2⟩
  ext f := fun ⟨a, kvs, e, h, h1, h2⟩ => ⟨a, kvs, e, ⟨h.1, not_cons f (by rw [h.1]; intro z; cases z) h.2⟩, h1.imp fun _ _ ⟨p, q, r⟩ => ⟨p, q, b'.ext f r⟩, h2⟩
  sub f := fun ⟨a, kvs, e, h, h1, h2⟩ => ⟨a, kvs, e, ⟨h.1, fun m => h.2 (f _ m)⟩, h1.imp fun _ _ ⟨p, q, r⟩ => ⟨p, q, b'.sub f r⟩, h2⟩
/-- an owned dict -/
def OwnD (b' : Ty K β) (S : AS) (H : Hp) (p : Addr) (xs : List (κ × β)) : Prop := ∃ kvs, H p = some (.dK kvs) ∧ All2 (KvP b' S H) kvs xs ∧ (xs.map Prod.fst).Nodup
def nwD (b' : Ty K β) (S : AS) (H0 H : Hp) (v : V) (xs : List (κ × β)) : Prop := ∃ p, v = .ref p ∧ H0 p = none ∧ OwnD b' (p :: S) H p xs
def nwd (b' : Ty K β) (S : AS) : Rl (List (κ × β)) := ⟨nwD b' S, fun f d ⟨p, e, n, h⟩ => ⟨p, e, fr_back f d n, h⟩⟩
theorem nwD.rp {S : AS} {H0 H : Hp} {v : V} {xs : List (κ × β)} (h : nwD b' S H0 H v xs) (d : Dom S H0) : (tD κ b').rp S H v xs := by
  obtain ⟨p, e, hp, kvs, hv, ha, hn⟩ := h
  exact ⟨p, kvs, e, ⟨hv, d.not_mem hp⟩, ha.imp fun _ _ ⟨q, r, s⟩ => ⟨q, r, b'.sub (fun _ m => List.mem_cons_of_mem _ m) s⟩, hn⟩
theorem ev_newD {r : Option (List (κ × β))} (h : Ev S T te σ H (nwd b' S) r) : Ev S T te σ H (of (tD κ b') S) r := by
  intro x ex H1 f d Q q
  exact h x ex H1 f d Q fun v H2 s hv => q v H2 s (nwD.rp hv d)
/-! what a dict tells -/
def getK (xs : List (κ × β)) (k : κ) : Option β := (xs.find? fun p => decide (p.1 = k)).map (·.2)
theorem val_get {S : AS} {H : Hp} {k : κ} : ∀ {kvs : List (Key × V)} {xs : List (κ × β)}, All2 (KvP b' S H) kvs xs → (getK xs k = none ∧ valV kvs (kk k) = none) ∨ ∃ x v, getK xs k = some x ∧ valV kvs (kk k) = some v ∧ b'.rp S H v x
  | _, _, .nil => .inl ⟨rfl, rfl⟩
  | kv :: kvs, x :: xs, .cons h r => by
    by_cases e : x.1 = k
    · right
      refine ⟨x.2, kv.2, ?_, ?_, h.2.2⟩
      · simp [getK, List.find?_cons, e]
      · exact valV_pos (by rw [h.1, e])
    · have e' : ¬ kv.1 = kk k := fun z => e (inj (h.1.symm.trans z))
      have g1 : getK (x :: xs) k = getK xs k := by simp [getK, List.find?_cons, e]
      have g2 := valV_neg (p := kv) (r := kvs) (k := kk k) e'
      rw [g1, g2]
      exact val_get r
theorem ev_dget {ck : Ty K κ} [KeyT ck] {rd : Option (List (κ × β))} {rk : Option κ} (hd : Ev S T td σ H (of (tD κ b') S) rd) (hk : Ev S T ty σ H (of ck S) rk) :
    Ev S T (tDGet td ty) σ H (of b' S) (bd rd fun d => bd rk fun k => getK d k) := by
  intro z e H1 f1 d Q q
  obtain ⟨xs, ex, e⟩ := bd_some e
  obtain ⟨k, ek, e⟩ := bd_some e
  refine hd xs ex H1 f1 d _ fun v H2 s2 hv => hk k ek H2 (f1.trans (Fr.same s2)) (d.same s2) _ fun w H3 s3 hw => ?_
  obtain ⟨p, kvs, rfl, hp, ha, hn⟩ := (tD κ b').mono (Fr.same s3) hv
  obtain ⟨rfl, hok⟩ := KeyT.to hw
  rcases val_get (k := k) ha with ⟨g1, _⟩ | ⟨x, u, g1, g2, g3⟩
  · rw [g1] at e; cases e
  · rw [g1] at e
    cases e
    exact ⟨p, u, rfl, .inl ⟨kvs, kk k, .inl hp.1, rfl, g2.symm⟩, q u H3 (s2.trans s3) g3⟩
theorem ev_din {ck : Ty K κ} [KeyT ck] {rd : Option (List (κ × β))} {rk : Option κ} (hk : Ev S T ty σ H (of ck S) rk) (hd : Ev S T td σ H (of (tD κ b') S) rd) :
    Ev S T (tDIn ty td) σ H (of (K := K) tBool S) (bd rk fun k => bd rd fun d => some (getK d k).isSome) := by
  intro z e H1 f1 d Q q
  obtain ⟨k, ek, e⟩ := bd_some e
  obtain ⟨xs, ex, e⟩ := bd_some e
  cases e
  refine hk k ek H1 f1 d _ fun w H2 s2 hw => hd xs ex H2 (f1.trans (Fr.same s2)) (d.same s2) _ fun v H3 s3 hv => ?_
  obtain ⟨p, kvs, rfl, hp, ha, hn⟩ := hv
  obtain ⟨rfl, hok⟩ := KeyT.to hw
  refine ⟨p, _, rfl, .inl ⟨kvs, kk k, .inl hp.1, rfl, rfl⟩, q _ H3 (s2.trans s3) ?_⟩
  rcases val_get (k := k) ha with ⟨g1, g2⟩ | ⟨x, u, g1, g2, g3⟩
  · rw [g1, g2]; rfl
  · rw [g1, g2]; rfl
theorem ev_dnotin {ck : Ty K κ} [KeyT ck] {rd : Option (List (κ × β))} {rk : Option κ} (hk : Ev S T ty σ H (of ck S) rk) (hd : Ev S T td σ H (of (tD κ b') S) rd) :
    Ev S T (tDNotIn ty td) σ H (of (K := K) tBool S) (bd rk fun k => bd rd fun d => some (!(getK d k).isSome)) := by
  intro z e H1 f1 d Q q
  obtain ⟨k, ek, e⟩ := bd_some e
  obtain ⟨xs, ex, e⟩ := bd_some e
  cases e
  refine hk k ek H1 f1 d _ fun w H2 s2 hw => hd xs ex H2 (f1.trans (Fr.same s2)) (d.same s2) _ fun v H3 s3 hv => ?_
  obtain ⟨p, kvs, rfl, hp, ha, hn⟩ := hv
  obtain ⟨rfl, hok⟩ := KeyT.to hw
  refine ⟨p, _, rfl, .inl ⟨kvs, kk k, .inl hp.1, rfl, rfl⟩, q _ H3 (s2.trans s3) ?_⟩
  rcases val_get (k := k) ha with ⟨g1, g2⟩ | ⟨x, u, g1, g2, g3⟩
  · rw [g1, g2]; rfl
  · rw [g1, g2]; rfl
theorem ev_dnew : Ev S T tDNewK σ H (nwd (κ := κ) b' S) (some []) := fun x e H1 f d Q q => by
  cases e
  exact fun p hp => q _ _ (same_new hp) ⟨p, rfl, hp, [], upd_same, .nil, by simp⟩
/-! put -/
def putL (xs : List (κ × β)) (k : κ) (x : β) : List (κ × β) := if xs.any (fun p => decide (p.1 = k)) then xs.map fun p => if p.1 = k then (p.1, x) else p else xs ++ [(k, x)]
def putL? (xs : List (κ × β)) (k : κ) (x : β) : Option (List (κ × β)) := if xs.length < 100000 then some (putL xs k x) else none
theorem any_kk {S : AS} {H : Hp} {k : κ} : ∀ {kvs : List (Key × V)} {xs : List (κ × β)}, All2 (KvP b' S H) kvs xs → (kvs.any fun kv => decide (kv.1 = kk k)) = xs.any fun p => decide (p.1 = k)
  | _, _, .nil => rfl
  | kv :: kvs, x :: xs, .cons h r => by
    rw [List.any_cons, List.any_cons, any_kk r, h.1]
    congr 1
    by_cases e : x.1 = k
    · rw [e]; simp
    · have : ¬ (kk x.1 : Key) = kk k := fun z => e (inj z)
      simp [e, this]
theorem put_all {S : AS} {H : Hp} {k : κ} {v : V} {x : β} (hk : ok k) (hv : b'.rp S H v x) {kvs : List (Key × V)} {xs : List (κ × β)} (h : All2 (KvP b' S H) kvs xs) : All2 (KvP b' S H) (putK kvs (kk k) v) (putL xs k x) := by
  unfold putK putL
  rw [any_kk h]
  split
  · have : ∀ {kvs : List (Key × V)} {xs : List (κ × β)}, All2 (KvP b' S H) kvs xs → All2 (KvP b' S H) (kvs.map fun kv => if kv.1 = kk k then (kv.1, v) else kv) (xs.map fun p => if p.1 = k then (p.1, x) else p) := by
      intro kvs xs h
      induction h with
      | nil => exact .nil
      | @cons kv y kvs xs h r ih =>
        refine .cons ?_ ih
        dsimp only
        by_cases e : y.1 = k
        · rw [if_pos e, if_pos (by rw [h.1, e])]
          exact ⟨h.1, h.2.1, hv⟩
        · rw [if_neg e, if_neg (fun z => e (inj (h.1.symm.trans z)))]
          exact h
    exact this h
  · exact h.snoc ⟨rfl, hk, hv⟩
theorem put_nd {k : κ} {x : β} {xs : List (κ × β)} (h : (xs.map Prod.fst).Nodup) : ((putL xs k x).map Prod.fst).Nodup := by
  unfold putL
  split
  · rw [List.map_map]
    have : (Prod.fst ∘ fun p : κ × β => if p.1 = k then (p.1, x) else p) = Prod.fst := by
      funext p
      simp only [Function.comp_apply]
      split <;> rfl
    rw [this]
    exact h
  · rename_i hn
    rw [List.map_append, List.map_singleton]
    refine List.nodup_append.mpr ⟨h, by simp, fun y hy z hz e => ?_⟩
    rw [List.mem_singleton] at hz
    subst hz
    subst e
    obtain ⟨p, hp, e⟩ := List.mem_map.mp hy
    exact hn (List.any_eq_true.mpr ⟨p, hp, decide_eq_true e⟩)
end
end M

namespace M
open PySem L2 G
section
variable {K : PySem.W.Frag} {α β γ δ ε ρ κ : Type} [KeyC κ] [DecidableEq κ] {S T : AS} {σ : St} {H : Hp} {ta tb te tc td ty tv : TE} {tt tu : TT} {a : Ty K α} {b' : Ty K β} {c' : Ty K γ} {D : Ends} {u t1 t2 : TS} {b c : Addr}
open KeyC
theorem KvP.mono {S : AS} {H H' : Hp} {kv : Key × V} {x : κ × β} (f : Fr S H H') (h : KvP b' S H kv x) : KvP b' S H' kv x := ⟨h.1, h.2.1, b'.mono f h.2.2⟩
theorem KvP.ext {S : AS} {H : Hp} {q : Addr} {kv : Key × V} {x : κ × β} (n : H q = none) (h : KvP b' S H kv x) : KvP b' (q :: S) H kv x := ⟨h.1, h.2.1, b'.ext n h.2.2⟩
theorem KvP.sub {S S' : AS} {H : Hp} {kv : Key × V} {x : κ × β} (f : Sub S' S) (h : KvP b' S H kv x) : KvP b' S' H kv x := ⟨h.1, h.2.1, b'.sub f h.2.2⟩
theorem OwnD.same {S : AS} {H H' : Hp} {p : Addr} {xs : List (κ × β)} (h : OwnD b' S H p xs) (s : Same H H') : OwnD b' S H' p xs := by
  obtain ⟨kvs, hv, ha, hn⟩ := h
  exact ⟨kvs, s _ _ hv, ha.imp fun _ _ => KvP.mono (Fr.same s), hn⟩
theorem OwnD.fr {S T : AS} {H H' : Hp} {p : Addr} {xs : List (κ × β)} (h : OwnD b' S H p xs) (f : Fr T H H') (ts : Sub T S) (n : p ∉ T) : OwnD b' S H' p xs := by
  obtain ⟨kvs, hv, ha, hn⟩ := h
  exact ⟨kvs, f _ _ hv n, ha.imp fun _ _ => KvP.mono (f.sub ts), hn⟩
theorem OwnD.ext {S : AS} {H : Hp} {p q : Addr} {xs : List (κ × β)} (h : OwnD b' S H p xs) (n : H q = none) : OwnD b' (q :: S) H p xs := by
  obtain ⟨kvs, hv, ha, hn⟩ := h
  exact ⟨kvs, hv, ha.imp fun _ _ => KvP.ext n, hn⟩
theorem OwnD.ne {S : AS} {H : Hp} {p q : Addr} {xs : List (κ × β)} (h : OwnD b' S H p xs) (n : H q = none) : p ≠ q := by
  obtain ⟨kvs, hv, _⟩ := h
  exact ne_of_none hv n
theorem OwnD.sub {S S' : AS} {H : Hp} {p : Addr} {xs : List (κ × β)} (h : OwnD b' S H p xs) (hs : Sub S' S) : OwnD b' S' H p xs := by
  obtain ⟨kvs, hv, ha, hn⟩ := h
  exact ⟨kvs, hv, ha.imp fun _ _ => KvP.sub hs, hn⟩
theorem OwnD.mut {S : AS} {H H' : Hp} {p q : Addr} {xs : List (κ × β)} (h : OwnD b' S H p xs) (f : Fr S H H') (m : Mut1 q H H') (n : p ≠ q) : OwnD b' S H' p xs := by
  obtain ⟨kvs, hv, ha, hn⟩ := h
  exact ⟨kvs, m.k _ _ hv n, ha.imp fun _ _ => KvP.mono f, hn⟩
theorem OwnD.frz {p : Addr} {xs : List (κ × β)} {S' : AS} (o : OwnD b' S H p xs) (hs : Sub S' S) (n : p ∉ S') : (tD κ b').rp S' H (.ref p) xs := by
  obtain ⟨kvs, hv, ha, hn⟩ := o
  exact ⟨p, kvs, rfl, ⟨hv, n⟩, ha.imp fun _ _ => KvP.sub hs, hn⟩
/-! an owned dict is read -/
theorem ev_ownDGet {ck : Ty K κ} [KeyT ck] {p : Addr} {xs : List (κ × β)} {i : Nat} {rk : Option κ} (o : OwnD b' S H p xs) (nt : p ∉ T) (ts : Sub T S) (hi : σ[i]? = some (some (.ref p))) (hk : Ev S T ty σ H (of ck S) rk) :
    Ev S T (tDGet (tVar i) ty) σ H (of b' S) (bd rk fun k => getK xs k) := by
  intro z e H1 f1 d Q q
  obtain ⟨k, ek, e⟩ := bd_some e
  refine ⟨_, hi, hk k ek H1 f1 d _ fun w H2 s2 hw => ?_⟩
  obtain ⟨kvs, hv, ha, hn⟩ := (o.fr f1 ts nt).same s2
  obtain ⟨rfl, hok⟩ := KeyT.to hw
  rcases val_get (k := k) ha with ⟨g1, _⟩ | ⟨x, v, g1, g2, g3⟩
  · rw [g1] at e; cases e
  · rw [g1] at e
    cases e
    exact ⟨p, v, rfl, .inl ⟨kvs, kk k, .inl hv, rfl, g2.symm⟩, q v H2 s2 g3⟩
theorem ev_ownDIn {ck : Ty K κ} [KeyT ck] {p : Addr} {xs : List (κ × β)} {i : Nat} {rk : Option κ} (o : OwnD b' S H p xs) (nt : p ∉ T) (ts : Sub T S) (hi : σ[i]? = some (some (.ref p))) (hk : Ev S T ty σ H (of ck S) rk) :
    Ev S T (tDIn ty (tVar i)) σ H (of (K := K) tBool S) (bd rk fun k => some (getK xs k).isSome) := by
  intro z e H1 f1 d Q q
  obtain ⟨k, ek, e⟩ := bd_some e
  cases e
  refine hk k ek H1 f1 d _ fun w H2 s2 hw => ⟨_, hi, ?_⟩
  obtain ⟨kvs, hv, ha, hn⟩ := (o.fr f1 ts nt).same s2
  obtain ⟨rfl, hok⟩ := KeyT.to hw
  refine ⟨p, _, rfl, .inl ⟨kvs, kk k, .inl hv, rfl, rfl⟩, q _ H2 s2 ?_⟩
  rcases val_get (k := k) ha with ⟨g1, g2⟩ | ⟨x, v, g1, g2, g3⟩
  · rw [g1, g2]; rfl
  · rw [g1, g2]; rfl
theorem ev_ownDNotIn {ck : Ty K κ} [KeyT ck] {p : Addr} {xs : List (κ × β)} {i : Nat} {rk : Option κ} (o : OwnD b' S H p xs) (nt : p ∉ T) (ts : Sub T S) (hi : σ[i]? = some (some (.ref p))) (hk : Ev S T ty σ H (of ck S) rk) :
    Ev S T (tDNotIn ty (tVar i)) σ H (of (K := K) tBool S) (bd rk fun k => some (!(getK xs k).isSome)) := by
  intro z e H1 f1 d Q q
  obtain ⟨k, ek, e⟩ := bd_some e
  cases e
  refine hk k ek H1 f1 d _ fun w H2 s2 hw => ⟨_, hi, ?_⟩
  obtain ⟨kvs, hv, ha, hn⟩ := (o.fr f1 ts nt).same s2
  obtain ⟨rfl, hok⟩ := KeyT.to hw
  refine ⟨p, _, rfl, .inl ⟨kvs, kk k, .inl hv, rfl, rfl⟩, q _ H2 s2 ?_⟩
  rcases val_get (k := k) ha with ⟨g1, g2⟩ | ⟨x, v, g1, g2, g3⟩
  · rw [g1, g2]; rfl
  · rw [g1, g2]; rfl
/-! d[k] = e -/
theorem l_dput {ck : Ty K κ} [KeyT ck] {p : Addr} {xs ys : List (κ × β)} {i : Nat} {r : Option β} {rk : Option κ} {x : β} {k : κ} (d : Dom S H) (o : OwnD b' S H p xs) (im : p ∈ S) (nt : p ∉ T) (ts : Sub T S) (hi : σ[i]? = some (some (.ref p))) (h : Ev S T tv σ H (of b' S) r) (e : r = some x) (hk : Ev S T ty σ H (of ck S) rk) (ek : rk = some k) (f : putL? xs k x = some ys)
    (q : ∀ H1, Mut1 p H H1 → Fr S H H1 → OwnD b' S H1 p ys → D.nx σ H1) : sDPut (tVar i) ty tv D σ H := by
  obtain ⟨kvs, hv, ha, hn⟩ := o
  unfold putL? at f
  split at f
  · rename_i hl
    cases f
    refine h x e H (Fr.refl _) d _ fun v H1 s1 hx => ⟨_, hi, hk k ek H1 (Fr.same s1) (d.same s1) _ fun w H2 s2 hw => ?_⟩
    obtain ⟨rfl, hok⟩ := KeyT.to hw
    have f1 : Fr S H2 (upd H2 p (.dK (putK kvs (kk k) v))) := fr_upd im
    refine ⟨p, _, rfl, .inl ⟨kvs, kk k, s2 _ _ (s1 _ _ hv), rfl, Nat.lt_of_lt_of_le (by rw [ha.len]; exact hl) (by decide), rfl⟩, ?_⟩
    refine q _ ⟨fun b ob e n => by rw [upd_ne n]; exact s2 _ _ (s1 _ _ e), by rw [upd_same]; intro z; cases z⟩ ((Fr.same (s1.trans s2)).trans f1) ⟨_, upd_same, ?_, put_nd hn⟩
    exact (put_all hok (b'.mono (Fr.same s2) hx) (ha.imp fun _ _ => KvP.mono (Fr.same (s1.trans s2)))).imp fun _ _ => KvP.mono f1
  · cases f
theorem q_dput {ck : Ty K κ} [KeyT ck] {p : Addr} {xs ys : List (κ × β)} {i : Nat} {r : Option β} {rk : Option κ} {x : β} {k : κ} (d : Dom S H) (o : OwnD b' S H p xs) (im : p ∈ S) (nt : p ∉ T) (ts : Sub T S) (hi : σ[i]? = some (some (.ref p))) (h : Ev S T tv σ H (of b' S) r) (e : r = some x) (hk : Ev S T ty σ H (of ck S) rk) (ek : rk = some k) (f : putL? xs k x = some ys)
    (q : ∀ H1, Mut1 p H H1 → Fr S H H1 → OwnD b' S H1 p ys → u D σ H1) : tSeq (sDPut (tVar i) ty tv) u D σ H := l_dput (D := { D with nx := u D }) d o im nt ts hi h e hk ek f q
theorem lw_dput {ck : Ty K κ} [KeyT ck] {p : Addr} {xs : List (κ × β)} {i : Nat} {w : Wp β} {rk : Option κ} {R : List (κ × β) → Prop} (d : Dom S H) (hB : Bag H b c) (ts : Sub [b, c] S) (o : OwnD b' S H p xs) (im : p ∈ S) (nt : p ∉ [b, c]) (hi : σ[i]? = some (some (.ref p))) (h : EvW b c S tv σ H (of b' S) w) (hk : Ev S [b, c] ty σ H (of ck S) rk)
    (e : w fun x => lf rk fun k => lf (putL? xs k x) R)
    (q : ∀ ys H1 H2, R ys → Fr [b, c] H H1 → Dom S H1 → Bag H1 b c → Mut1 p H1 H2 → Fr S H1 H2 → OwnD b' S H2 p ys → D.nx σ H2) : sDPut (tVar i) ty tv D σ H := by
  refine h ts _ e H (Fr.refl _) d hB _ fun v H1 x ⟨k, ek, ys, ey, hR⟩ f1 d1 hB1 hx => ⟨_, hi, hk k ek H1 f1 d1 _ fun z H2 s2 hw => ?_⟩
  obtain ⟨kvs, hv, ha, hn⟩ := (o.fr f1 ts nt).same s2
  obtain ⟨rfl, hok⟩ := KeyT.to hw
  unfold putL? at ey
  split at ey
  · rename_i hl
    cases ey
    have g1 : Fr S H2 (upd H2 p (.dK (putK kvs (kk k) v))) := fr_upd im
    refine ⟨p, _, rfl, .inl ⟨kvs, kk k, hv, rfl, Nat.lt_of_lt_of_le (by rw [ha.len]; exact hl) (by decide), rfl⟩, ?_⟩
    refine q _ H1 _ hR f1 d1 hB1 ⟨fun b ob e n => by rw [upd_ne n]; exact s2 _ _ e, by rw [upd_same]; intro z; cases z⟩ ((Fr.same s2).trans g1) ⟨_, upd_same, ?_, put_nd hn⟩
    exact (put_all hok (b'.mono (Fr.same s2) hx) ha).imp fun _ _ => KvP.mono g1
  · cases ey
theorem qw_dput {ck : Ty K κ} [KeyT ck] {p : Addr} {xs : List (κ × β)} {i : Nat} {w : Wp β} {rk : Option κ} {R : List (κ × β) → Prop} (d : Dom S H) (hB : Bag H b c) (ts : Sub [b, c] S) (o : OwnD b' S H p xs) (im : p ∈ S) (nt : p ∉ [b, c]) (hi : σ[i]? = some (some (.ref p))) (h : EvW b c S tv σ H (of b' S) w) (hk : Ev S [b, c] ty σ H (of ck S) rk)
    (e : w fun x => lf rk fun k => lf (putL? xs k x) R)
    (q : ∀ ys H1 H2, R ys → Fr [b, c] H H1 → Dom S H1 → Bag H1 b c → Mut1 p H1 H2 → Fr S H1 H2 → OwnD b' S H2 p ys → u D σ H2) : tSeq (sDPut (tVar i) ty tv) u D σ H := lw_dput (D := { D with nx := u D }) d hB ts o im nt hi h hk e q
/-! len, dict(d), list(d) -/
theorem ev_lenD {r : Option (List (κ × β))} (h : Ev S T te σ H (of (tD κ b') S) r) : Ev S T (tCB (fun xs H Q => ∃ a kvs, xs = [V.ref a] ∧ H a = some (.dK kvs) ∧ Q (.int kvs.length) H) (tCons te tNil)) σ H (of (K := K) tInt S) (bd r fun x => some (x.length : Int)) := by
  intro z e H1 f1 d Q q
  obtain ⟨x, ex, e⟩ := bd_some e
  cases e
  refine h x ex H1 f1 d _ fun v H2 s ⟨p, kvs, ev, hp, ha, hn⟩ => ?_
  subst ev
  exact ⟨p, kvs, rfl, hp.1, q _ H2 s (by rw [ha.len]; rfl)⟩
theorem ev_dictD {r : Option (List (κ × β))} (h : Ev S T te σ H (of (tD κ b') S) r) : Ev S T (tCB (fun xs H Q => ∃ (a : Addr) (kvs : List (Key × V)), xs = [.ref a] ∧ Rd H a (.dK kvs) ∧ ∀ p, H p = none → Q (.ref p) (upd H p (.dK kvs))) (tCons te tNil)) σ H (nwd b' S) r := by
  intro x ex H1 f1 d Q q
  refine h x ex H1 f1 d _ fun v H2 s ⟨p, kvs, ev, hp, ha, hn⟩ => ?_
  subst ev
  refine ⟨p, kvs, rfl, .inl hp.1, fun p' hp' => q _ _ (s.trans (same_new hp')) ⟨p', rfl, s.free hp', kvs, upd_same, ?_, hn⟩⟩
  exact ha.imp fun _ _ h => KvP.mono (Fr.same (same_new hp')) (KvP.ext hp' h)
end
/-! sorted(d): the keys, rising -/
section
variable {K : PySem.W.Frag} {β : Type} {S T : AS} {σ : St} {H : Hp} {te : TE} {b' : Ty K β}
theorem keys_S {S : AS} {H : Hp} : ∀ {kvs : List (Key × V)} {xs : List (Str × β)}, All2 (KvP b' S H) kvs xs → kvs.map (·.1) = (xs.map Prod.fst).map Sum.inr ∧ ∀ z ∈ xs.map Prod.fst, PyData.strOk z = true
  | _, _, .nil => ⟨rfl, fun z hz => by simp at hz⟩
  | kv :: kvs, x :: xs, .cons h r => by
    obtain ⟨e1, e2⟩ := keys_S r
    refine ⟨by rw [List.map_cons, List.map_cons, List.map_cons, e1, h.1]; rfl, fun z hz => ?_⟩
    rw [List.map_cons] at hz
    rcases List.mem_cons.mp hz with rfl | hz
    · exact h.2.1
    · exact e2 z hz
end
end M

namespace M
open PySem L2 G
section
variable {K : PySem.W.Frag} {α β γ δ ε ρ : Type} {S T : AS} {σ : St} {H : Hp} {ta tb te : TE} {tt tu : TT} {a : Ty K α} {b : Ty K β} {c : Ty K γ}
/-! ### a list of two things of two kinds -/
def tL2 (c : Ty K α) (d : Ty K β) : Ty K (α × β) where
  rp S H v x := ∃ a u w, v = .ref a ∧ nL K S H a [u, w] ∧ c.rp S H u x.1 ∧ d.rp S H w x.2
  mono f := fun ⟨a, u, w, e, h, h1, h2⟩ => ⟨a, u, w, e, h.mono f, c.mono f h1, d.mono f h2⟩
  ext f := fun ⟨a, u, w, e, h, h1, h2⟩ => ⟨a, u, w, e, h.ext f, c.ext f h1, d.ext f h2⟩
  sub f := fun ⟨a, u, w, e, h, h1, h2⟩ => ⟨a, u, w, e, h.sub f, c.sub f h1, d.sub f h2⟩
theorem ev_lst2 {ra : Option α} {rb : Option β} (ha : Ev S T ta σ H (of a S) ra) (hb : Ev S T tb σ H (of b S) rb) : Ev S T (tLst (tCons ta (tCons tb tNil))) σ H (of (tL2 a b) S) (bd ra fun x => bd rb fun y => some (x, y)) := by
  intro z e H1 f1 d Q q
  obtain ⟨x, ex, e⟩ := bd_some e
  obtain ⟨y, ey, e⟩ := bd_some e
  cases e
  refine ha x ex H1 f1 d _ fun v H2 s2 hv => hb y ey H2 (f1.trans (Fr.same s2)) (d.same s2) _ fun w H3 s3 hw => ⟨(by show 2 ≤ sizeLine; decide), fun p hp => ?_⟩
  have s4 := same_new (o := .lst [v, w]) hp
  exact q _ _ (s2.trans (s3.trans s4)) ⟨p, v, w, rfl, ⟨upd_same, ((d.same s2).same s3).not_mem hp⟩, a.mono (Fr.same (s3.trans s4)) hv, b.mono (Fr.same s4) hw⟩
theorem ev_ixL_ {R : Rl γ} {i : Int} {ra : Option α} {g : α → γ} (ha : Ev S T ta σ H (of a S) ra) (h : ∀ x H v, a.rp S H v x → ∃ p vs u, v = .ref p ∧ SqL K H p vs ∧ atI vs i = some u ∧ R.r H H u (g x)) :
    Ev S T (tOp (rIxL K) ta (tC (.int i))) σ H R (bd ra fun x => some (g x)) := by
  intro z e H1 f1 d Q q
  obtain ⟨x, ex, e⟩ := bd_some e
  cases e
  refine ha x ex H1 f1 d _ fun v H2 s2 hv => ?_
  obtain ⟨p, vs, u, rfl, hp, hu, hz⟩ := h x H2 v hv
  exact ⟨p, vs, i, u, rfl, rfl, hp, hu, q u H2 s2 (R.same s2 hz)⟩
theorem ev_ixL20 {ra : Option (α × β)} (ha : Ev S T ta σ H (of (tL2 a b) S) ra) : Ev S T (tOp (rIxL K) ta (tC (.int 0))) σ H (of a S) (bd ra fun x => some x.1) :=
  ev_ixL_ ha fun x H v ⟨p, u, w, e, h, h1, h2⟩ => ⟨p, _, u, e, h.sq, rfl, h1⟩
theorem ev_ixL21 {ra : Option (α × β)} (ha : Ev S T ta σ H (of (tL2 a b) S) ra) : Ev S T (tOp (rIxL K) ta (tC (.int 1))) σ H (of b S) (bd ra fun x => some x.2) :=
  ev_ixL_ ha fun x H v ⟨p, u, w, e, h, h1, h2⟩ => ⟨p, _, w, e, h.sq, rfl, h2⟩
def dL2 {a : Ty K α} {b : Ty K β} (d : TyD a) (e : TyD b) : TyD (tL2 a b) := ⟨fun x => .list [d.dt x.1, e.dt x.2], max d.dep e.dep + 1, fun ⟨p, u, w, z, hp, h1, h2⟩ => by subst z; exact .lst hp.sq (.cons (d.dp h1) (.cons (e.dp h2) .nil)),
  fun {S H v x} ⟨p, u, w, z, hp, h1, h2⟩ => by
    show (PyData.canLay0 (d.dt x.1) && (PyData.canLay0 (e.dt x.2) && true)) = true
    rw [d.shp h1, e.shp h2]
    rfl,
  fun x => by
    show max (PyData.depth (d.dt x.1)) (max (PyData.depth (e.dt x.2)) 0) + 1 ≤ _
    have h1 := d.hd x.1
    have h2 := e.hd x.2
    omega,
  fun x y => by
    show (PyData.eqv (d.dt x.1) (d.dt y.1) && (PyData.eqv (e.dt x.2) (e.dt y.2) && true)) = true ↔ _
    rw [Bool.and_true, Bool.and_eq_true, d.eqv, e.eqv]
    exact ⟨fun h => Prod.ext h.1 h.2, fun h => by subst h; exact ⟨rfl, rfl⟩⟩⟩
/-! ### // and % -/
theorem od_fdiv : OpD (K := K) tInt tInt S (of (K := K) tInt S) (rI CDivZ fun i j => .int (i.fdiv j)) fdiv? := od_I (p := fun _ j => fdivP j) (fun i j h => show j ≠ 0 ∧ j.natAbs.log2 < 9000 from of_decide_eq_true h) fun _ _ _ => rfl
def fmod? (i j : Int) : Option Int := if decide (j ≠ 0) then some (i.fmod j) else none
theorem od_fmod : OpD (K := K) tInt tInt S (of (K := K) tInt S) (rI (fun _ j => j ≠ 0) fun i j => .int (i.fmod j)) fmod? := od_I (p := fun _ j => decide (j ≠ 0)) (fun i j h => of_decide_eq_true h) fun _ _ _ => rfl
/-! ### is not True -/
theorem od_isB : OpD (K := K) tBool tBool S (of (K := K) tBool S) rIsB (fun i j => some (decide (i = j))) := by
  intro x y z e H1 v w d hv hw Q q
  cases e; cases hv; cases hw
  exact ⟨x, y, rfl, rfl, q _ H1 (Same.refl _) rfl⟩
theorem od_notB : OpD (K := K) tBool tBool S (of (K := K) tBool S) rNotB (fun i j => some (!decide (i = j))) := by
  intro x y z e H1 v w d hv hw Q q
  cases e; cases hv; cases hw
  exact ⟨x, y, rfl, rfl, q _ H1 (Same.refl _) rfl⟩
/-! ### a test over fewer owned lists -/
theorem eb_shr {S' : AS} {r : Option Bool} (hs : Sub S' S) (h : EvB S' T tt σ H r) : EvB S T tt σ H r := fun x ex H1 f d Q q => h x ex H1 f (d.sub hs) Q q
/-! ### [te for x, y in zip(xs, ys)] -/
theorem ev_lcZ {tl tm : TE} {j j2 : Nat} {ws : List Nat} {r : Option (List α)} {r' : Option (List β)} {f : α × β → Option γ} (h : Ev S T tl σ H (of (tL a) S) r) (h' : Ev S T tm σ H (of (tL b) S) r') (hw : ∀ x y, wipe (((wipe σ ws).set j (some x)).set j2 (some y)) ws = wipe σ ws)
    (he : ∀ (x : α × β) (v w : V) (H2 H' : Hp) (p : Addr), Fr T H H2 → H2 p = none → Same H2 H' → a.rp (p :: S) H' v x.1 → b.rp (p :: S) H' w x.2 → Ev (p :: S) [] te (((wipe σ ws).set j (some v)).set j2 (some w)) H' (of c (p :: S)) (f x)) :
    Ev S T (tLc (iZip K (tCons tl (tCons tm tNil))) (gTup K 2 (gCons (gName j) (gCons (gName j2) gNil))) tYes te ws) σ H (nw c S) (bd r fun xs => bd r' fun ys => mapL? f (xs.zip ys)) := by
  intro z e H1 f1 d Q q
  obtain ⟨xs, ex, e⟩ := bd_some e
  obtain ⟨ys, ey, e⟩ := bd_some e
  unfold mapL? at e
  split at e
  rotate_left
  · cases e
  rename_i hlen
  refine h xs ex H1 f1 d _ fun v H2 s2 ⟨p, vs, ev, hp, ha⟩ => h' ys ey H2 (f1.trans (Fr.same s2)) (d.same s2) _ fun v' H3 s3 ⟨p', vs', ev', hp', ha'⟩ => ?_
  subst ev
  subst ev'
  have hp := hp.mono (Fr.same s3)
  have ha := ha.imp fun _ _ => a.mono (Fr.same s3)
  have la := ha.len
  have la' := ha'.len
  refine ⟨p, p', vs, vs', rfl, hp.sq, hp'.sq, fun Dl hD => ?_⟩
  have d3 := (d.same s2).same s3
  have sD : Same H3 (upd H3 Dl (.lst [])) := same_new hD
  refine ⟨fun i m H' => m = (xs.zip ys).length - i ∧ i ≤ (xs.zip ys).length ∧ ∃ acc pre, H' Dl = some (.lst acc) ∧ Same H3 H' ∧ acc.length ≤ i ∧ All2 (c.rp (Dl :: S) H') acc pre ∧ ∃ suf, mapO f ((xs.zip ys).drop i) = some suf ∧ z = pre ++ suf, ⟨_, rfl, Nat.zero_le _, [], [], upd_same, sD, Nat.zero_le _, .nil, z, e, rfl⟩, ?_⟩
  rintro i m H' ⟨rfl, hi, acc, pre, h1, h2, h3, h4, suf, h5, h6⟩
  by_cases k : i < (xs.zip ys).length
  · right
    have k' := k
    rw [List.length_zip] at k'
    rw [List.drop_eq_getElem_cons k] at h5
    obtain ⟨o, ho, h5⟩ := bd_some h5
    obtain ⟨suf', hs', h5⟩ := bd_some h5
    cases h5
    obtain ⟨u, hu, ru⟩ := ha.get i (List.getElem?_eq_getElem (show i < xs.length by omega))
    obtain ⟨u', hu', ru'⟩ := ha'.get i (List.getElem?_eq_getElem (show i < ys.length by omega))
    have q1 : SqL K H' p vs := (hp.mono (Fr.same h2)).sq
    have q2 : SqL K H' p' vs' := (hp'.mono (Fr.same h2)).sq
    refine ⟨⟨vs, vs', u, u', q1, q2, hu, hu'⟩, fun H4 => ∃ acc pre, H4 Dl = some (.lst acc) ∧ Same H3 H4 ∧ acc.length ≤ i + 1 ∧ All2 (c.rp (Dl :: S) H4) acc pre ∧ ∃ suf, mapO f ((xs.zip ys).drop (i + 1)) = some suf ∧ z = pre ++ suf, ?_, ?_⟩
    · rintro H4 ⟨acc, pre, g1, g2, g3, g4, suf, g5, g6⟩
      exact ⟨(xs.zip ys).length - (i + 1), by omega, rfl, by omega, acc, pre, g1, g2, g3, g4, suf, g5, g6⟩
    · intro v H4 hy
      obtain ⟨T', x', y', rfl, hT, rfl, e1, e2⟩ := hy
      have := e1 vs q1
      rw [hu] at this
      cases this
      have := e2 vs' q2
      rw [hu'] at this
      cases this
      have sT : Same H' (upd H' T' (.tup [u, u'])) := same_new hT
      refine ⟨T', [u, u'], rfl, .inl (.inl upd_same), rfl, u, _, rfl, u', _, rfl, rfl, hw _ _, G.yes_ ?_⟩
      have hs4 := h2.trans sT
      have gz : (xs.zip ys)[i] = (xs[i]'(by omega), ys[i]'(by omega)) := by rw [List.getElem_zip]
      refine he (xs.zip ys)[i] u u' H3 _ Dl (f1.trans (Fr.same (s2.trans s3))) hD hs4 (by rw [gz]; exact a.mono (Fr.same hs4) (a.ext hD ru)) (by rw [gz]; exact b.mono (Fr.same hs4) (b.ext hD ru')) o ho _ (Fr.refl _) ((d3.same hs4).cons (sT _ _ h1)) _ fun w H5 s5 hw5 => ?_
      have s6 := sT.trans s5
      refine ⟨acc, s6 _ _ h1, Nat.lt_of_lt_of_le (by omega : acc.length < 100000) (by decide), acc ++ [w], pre ++ [o], upd_same, fun p ob eb => ?_, by simp; omega, ?_, suf', hs', by rw [h6]; simp⟩
      · rw [upd_ne (ne_of_none eb hD)]
        exact s6 _ _ (h2 _ _ eb)
      · have fD : Fr (Dl :: S) H5 (upd H5 Dl (.lst (acc ++ [w]))) := fr_upd (List.mem_cons_self ..)
        exact ((h4.imp fun _ _ h => c.mono (Fr.same s6) h).snoc hw5).imp fun _ _ h => c.mono fD h
  · left
    rw [List.drop_eq_nil_of_le (by omega)] at h5
    cases h5
    rw [List.append_nil] at h6
    subst h6
    refine ⟨⟨vs, vs', (hp.mono (Fr.same h2)).sq, (hp'.mono (Fr.same h2)).sq, ?_⟩, q _ _ ((s2.trans s3).trans h2) ⟨Dl, rfl, (s2.trans s3).free hD, acc, h1, h4⟩⟩
    rw [List.length_zip] at k
    omega
end
end M

namespace M
open PySem L2 G
section
variable {K : PySem.W.Frag} {α β γ δ ε ρ : Type} {S T : AS} {σ : St} {H : Hp} {b c : Addr} {ta tb te : TE} {tt tu : TT} {a : Ty K α} {b' : Ty K β} {c' : Ty K γ} {D : Ends} {u : TS}
/-! ### a list that was made behind the heap Hs: it may be owned later -/
theorem Own.sub2 {p : Addr} {xs : List α} {S' : AS} (o : Own a S H p xs) (h : ∀ q ∈ S', q ∈ S) : Own a S' H p xs := by
  obtain ⟨vs, hv, ha⟩ := o
  exact ⟨vs, hv, ha.imp fun _ _ => a.sub h⟩
def tFL (Hs : Hp) (a : Ty K α) : Ty K (List α) where
  rp S H v xs := ∃ p, v = .ref p ∧ Hs p = none ∧ p ∉ S ∧ Own a (p :: S) H p xs
  mono {S H H' v x} f := fun ⟨p, e, n, ns, vs, hv, ha⟩ => ⟨p, e, n, ns, vs, f _ _ hv ns, ha.imp fun _ _ => a.mono (Fr.sub (fun q m => List.mem_cons_of_mem _ m) f)⟩
  ext {S H q v x} hq := fun ⟨p, e, n, ns, vs, hv, ha⟩ => ⟨p, e, n, not_cons hq (by rw [hv]; intro z; cases z) ns, vs, hv, ha.imp fun _ _ h => a.sub (fun r m => by simp only [List.mem_cons] at m ⊢; grind) (a.ext hq h)⟩
  sub {S S' H v x} hs := fun ⟨p, e, n, ns, vs, hv, ha⟩ => ⟨p, e, n, fun m => ns (hs _ m), vs, hv, ha.imp fun _ _ => a.sub fun r m => by
    rcases List.mem_cons.mp m with e | m
    · rw [e]; exact List.mem_cons_self ..
    · exact List.mem_cons_of_mem _ (hs _ m)⟩
theorem ev_FL {Hs : Hp} {r : Option (List α)} (ts : Sub T S) (fs : Fr T Hs H) (h : Ev S T te σ H (nw a S) r) : Ev S T te σ H (of (tFL Hs a) S) r := by
  intro x ex H1 f d Q q
  exact h x ex H1 f d Q fun v H2 s ⟨p, e, n, o⟩ => q v H2 s ⟨p, e, fr_back (fs.trans f) (d.sub ts) n, d.not_mem n, o⟩
theorem ew_FL {Hs : Hp} {w : Wp (List α)} (fs : Fr [b, c] Hs H) (h : EvW b c S te σ H (nw a S) w) : EvW b c S te σ H (of (tFL Hs a) S) w := fun ts P hP H1 f d hB Q q =>
  h ts P hP H1 f d hB Q fun v H2 x hx f2 d2 hB2 ⟨p, e, n, o⟩ => q v H2 x hx f2 d2 hB2 ⟨p, e, fr_back (fs.trans f) hB.dom n, d.not_mem n, o⟩
theorem ev_FL2L {Hs : Hp} {r : Option (List α)} (h : Ev S T te σ H (of (tFL Hs a) S) r) : Ev S T te σ H (of (tL a) S) r := by
  intro x ex H1 f d Q q
  exact h x ex H1 f d Q fun v H2 s ⟨p, e, n, ns, vs, hv, ha⟩ => q v H2 s ⟨p, vs, e, ⟨hv, ns⟩, ha.imp fun _ _ => a.sub fun r m => List.mem_cons_of_mem _ m⟩
theorem Fr.reflOf {H0 : Hp} (f : Fr T H0 H) : Fr T H H := Fr.refl _
/-! ### a value that is not None -/
theorem ev_unopt {r : Option (Option α)} (h : Ev S T te σ H (of (tOpt a) S) r) : Ev S T te σ H (of a S) (bd r fun x => x) := by
  intro y ey H1 f d Q q
  obtain ⟨x, ex, ey⟩ := bd_some ey
  exact h x ex H1 f d Q fun v H2 s hv => q v H2 s (by subst ey; exact hv.2)
/-! ### walks over what a draw tells; list(xs) of an owned list -/
theorem srw_list {tl : TE} {w : Wp (List α)} (h : EvW b c S tl σ H (of (tL a) S) w) : SrW b c S (iList K tl) σ H a w := fun ts P hP H1 f d hB R q =>
  h ts P hP H1 f d hB _ fun v H2 x hx f2 d2 hB2 ⟨p, vs, ev, hp, ha⟩ => ⟨p, ev, ⟨vs, hp.sq⟩, q _ H2 x hx f2 d2 hB2 (wk_list hp ha)⟩
theorem ev_listO {p : Addr} {xs : List α} {i : Nat} (o : Own a S H p xs) (nt : p ∉ T) (ts : Sub T S) (hi : σ[i]? = some (some (.ref p))) : Ev S T (tCB (fun xs H Q => ∃ p ys, xs = [.ref p] ∧ (SqL K H p ys ∨ SqT K H p ys) ∧ ∀ l, H l = none → Q (.ref l) (upd H l (.lst ys))) (tCons (tVar i) tNil)) σ H (nw a S) (some xs) := by
  intro z e H1 f1 d Q q
  cases e
  obtain ⟨vs, hv, ha⟩ := o.fr f1 ts nt
  exact ⟨_, hi, p, vs, rfl, .inl (.inl (.inl hv)), fun l hl => q _ _ (same_new hl) ⟨l, rfl, hl, vs, upd_same, ha.imp fun _ _ h => a.mono (Fr.same (same_new hl)) (a.ext hl h)⟩⟩
/-! ### two new lists at once -/
theorem q_par0 {i j : Nat} (a : Ty K α) (b' : Ty K β) (k : ∀ v w Hm H1, Same H Hm → nwL a S H Hm v [] → Same Hm H1 → (∀ p, v = .ref p → nwL b' (p :: S) Hm H1 w []) → u D ((σ.set i (some v)).set j (some w)) H1) : tSeq (tPar i j (tCons (tLst tNil) (tCons (tLst tNil) tNil))) u D σ H :=
  ⟨Nat.zero_le _, fun p hp => ⟨Nat.zero_le _, fun q hq => ⟨.ref p, .ref q, rfl, k _ _ _ _ (same_new hp) ⟨p, rfl, hp, [], upd_same, .nil⟩ (same_new hq) fun p' e => ⟨q, rfl, hq, [], upd_same, .nil⟩⟩⟩⟩
theorem ev_lenT2 {r : Option (α × β)} (h : Ev S T te σ H (of (tT2 a b') S) r) : Ev S T (tCB (fun xs H Q => ∃ p ys, xs = [.ref p] ∧ (SqL K H p ys ∨ SqT K H p ys) ∧ Q (.int ys.length) H) (tCons te tNil)) σ H (of (K := K) tInt S) (bd r fun _ => some (2 : Int)) := by
  intro z e H1 f1 d Q q
  obtain ⟨x, ex, e⟩ := bd_some e
  cases e
  refine h x ex H1 f1 d _ fun v H2 s hv => ?_
  obtain ⟨p, u, w, rfl, hp, _, _⟩ := hv
  exact ⟨p, _, rfl, .inr hp.sq, q _ H2 s rfl⟩
end
end M

namespace PySem
namespace SupX
open PySem.W PySem.Calls PyProof.Rows PySem.HandSPX
def sS (f : Str) : Scope := { kind := .function, names := [(PySem.Str.ofString "self", .local), (f, .local), (PySem.Str.ofString "__class__", .free), (PySem.Str.ofString "super", .globalImplicit)], isGenerator := false, isCoroutine := false, more := [] }
/-- the body: super().__init__(msg); self.f = f -/
def sB (f : Str) (ws : List Expr) (pj p0 p1 p2 p3 p4 q1 q2 q3 q4 : Pos) : List Stmt :=
  [.Expr (.Call (.Attribute (.Call (.Name "super" p0) [] [] p1) "__init__" p2) [.JoinedStr ws pj] [] p3) p4, .Assign [.Attribute (.Name "self" q1) f q2] (.Name f q3) q4]
structure SupTxt (prog : Program) (K : Frag) (mg : Str → Option Value) (B newId i : String) (bmB : List Value) (C fI : Addr) (f : Str) (qual : Str) (params : Arguments) (ws : List Expr) : Prop where
  FB : ExcBaseFacts B newId i bmB
  KF : KxsFacts B i
  SF : StoreFacts B bmB "object.__setattr__" "object"
  ini : excInitIn K C bmB newId = true
  over : excOver K C bmB = true
  sa : findIn K (.ref C) "__setattr__" = some (some (.builtin "object.__setattr__"))
  tk : takerIn K C f = some none
  hd : hasDictIn K C = true
  iC : findIn K (.ref C) "__init__" = some (some (.ref fI))
  tC : typeIn K (.ref fI) = some (.type "function")
  sub : subIn K (.ref C) (.type B) = some true
  mro : mroIn K C (.ref C) = some true
  sup : ks_superIn K C C "__init__" = some (some (.builtin i))
  opq : nsIn K cStatics "thirdparty.any" = some none
  nos : mg "super" = none
  top : (prog.main.scope.names.lookup ("super" : Str)).isSome = false
  hd1 : (params.posonlyargs ++ params.args).head?.map (·.arg) = some "self"
  dbg : (f == ("__debug__" : Str)) = false
  nself : f ≠ "self"
  ncls : f ≠ "__class__"
  nsup : f ≠ "super"
  fn : ∃ (oc : Value) (od : Option Addr) (doc pm : Value) (an : Option Addr) (cda : Addr) (ct : Value) (osl : Array (Option Value)) (cc : Addr) (cl : Value) (cld : Option Addr) (csl : Array (Option Value)) (ccl : Value) (cdd : Option Addr) (vs : Array Value) (ccs : Array (Option Value)) (file : Str) (tf : Tok) (pj p0 p1 p2 p3 p4 q1 q2 q3 q4 : Pos),
    K.lookup fI = some ⟨oc, od, .func (ksFn "__init__" qual params (sB f ws pj p0 p1 p2 p3 p4 q1 q2 q3 q4) (sS f) .none .none doc pm an (.ref cda) ct cc), osl⟩ ∧ codeIn K (.ref cda) qual = true ∧
    K.lookup cc = some ⟨cl, cld, .cell (some (.ref C)), csl⟩ ∧ K.lookup cda = some ⟨ccl, cdd, .fields vs, ccs⟩ ∧ vs[2]? = some (.str file tf) ∧ ((prog.main.file : Str) == file) = true ∧
    (p2.endLine == p3.line) = true ∧ ∀ (s : Shared) (x v : Value), BindsTo s (ksFn "__init__" qual params (sB f ws pj p0 p1 p2 p3 p4 q1 q2 q3 q4) (sS f) .none .none doc pm an (.ref cda) ct cc) ⟨[x, v], []⟩ [("self", x), (f, v)]
/-- the message is told, and nothing else is done -/
def Tells (prog : Program) (w : World) (ws : List Expr) (f : Str) (qual : Str) (v : Value) : Prop :=
  ∀ (A : Around) (E : Value → Shared → Prop) (s : Shared) (pj : Pos) (L a : Addr) (cd : Value) (cc : Addr) (m : Str → Option Value) (Q : Value → Shared → Prop), s.heap.Ns L m → m f = some v → (∀ y tk tk', Q (.str y tk) { s with toks := tk' }) →
    wpAny (model prog w) A (eval (.JoinedStr ws pj) (ksEnv qual (sS f) L a cd cc)) Q E s
structure Made (h h' : Heap) (e C d : Addr) (f : Str) (v : Value) : Prop where
  keep : ∀ b o, h.get? b = some o → h'.get? b = some o
  new : h.objs.size ≤ e
  obj : ∃ oe vs, h'.get? e = some oe ∧ oe.cls = .ref C ∧ oe.dict = some d ∧ oe.data = .fields vs ∧ vs[1]? = some .none
  dbig : h.objs.size ≤ d
  dne : d ≠ e
  ns : h'.Ns1 d (fun y => if y = f then some v else none)
theorem one_size (v : Value) : [v].length ≤ sizeLine := by
  rw [sizeLine_eq]
  exact (by decide : 1 ≤ 16777216)
theorem ns1_one {h : Heap} {d : Addr} {f : Str} {v : Value} {hsh : Int} {tk : Tok} {n : Nat} (e : h.get? d = some (dictOf [⟨hsh, .str f tk, v⟩] n)) : h.Ns1 d (fun y => if y = f then some v else none) := by
  refine ⟨_, _, _, e, rfl, ?_, ?_, fun y => ?_⟩
  · intro b hb
    simp at hb
    subst hb
    exact ⟨_, _, rfl⟩
  · unfold UniqKeys
    simp
  · by_cases hy : y = f
    · subst hy
      simp [nsFind, findBy, Value.isStr]
    · have : ¬ f = y := fun z => hy z.symm
      simp [nsFind, findBy, Value.isStr, hy, this]
section
variable {prog : Program} {w : World} {A : Around} {E : Value → Shared → Prop} {R : Result → Shared → Prop} {s : Shared} {K : Frag} {mg : Str → Option Value} {B newId i : String} {bmB : List Value} {C fI : Addr} {f qual : Str} {params : Arguments} {ws : List Expr}
theorem cls_at {D : Addr} {cd : ClassData} {g : Heap} (X : K.In g) (e : clsIn K D = some cd) : ∃ o, g.get? D = some o ∧ o.data = .cls cd := by
  unfold clsIn at e
  split at e
  case h_1 c d cd' sl z => exact ⟨⟨c, d, .cls cd', sl⟩, X _ _ z, by cases e; rfl⟩
  case h_2 => cases e
theorem inst_no {x : Addr} {ox : Obj} {odx : Option Obj} {g : Heap} (I : InstAt g x ox C odx) (c : ClassData) : ox.data ≠ .cls c := fun e => by
  have no := I.no
  simp [notCls, e] at no
/-- what super() looks at: the def's own file, its cell of the class, its first parameter -/
structure SupAt (prog : Program) (K : Frag) (mg m : Str → Option Value) (sc : Scope) (fd : FuncData) (fu cda cc C D x : Addr) : Prop where
  fn : ∃ c d sl, K.lookup fu = some ⟨c, d, .func fd, sl⟩
  first : ∃ ar, (fd.params.posonlyargs ++ fd.params.args).head? = some ar ∧ m ar.arg = some (.ref x) ∧ sc.names.lookup ar.arg = some .local
  code : ∃ c d vs sl file tf, K.lookup cda = some ⟨c, d, .fields vs, sl⟩ ∧ vs[2]? = some (.str file tf) ∧ ((prog.main.file : Str) == file) = true
  cell : ∃ c d sl, K.lookup cc = some ⟨c, d, .cell (some (.ref D)), sl⟩
  cls : ∃ cd, clsIn K D = some cd
  below : mroIn K C (.ref D) = some true
  nos : mg "super" = none
  names : sc.names.lookup ("super" : Str) = some .globalImplicit ∧ sc.names.lookup ("__class__" : Str) = some .free
  kind : sc.kind = .function
  top : (prog.main.scope.names.lookup ("super" : Str)).isSome = false
theorem sup_node {sc : Scope} {base h₀ : Heap} {L : Addr} {m : Str → Option Value} {news : List (Addr × Obj)} {body : List Stmt} {q : Str} {p0 p1 : Pos} {attr : Str} {whole : Sem Value} {fd : FuncData} {Q : Value → Shared → Prop} {x D fu cc cda : Addr} {ox : Obj} {odx : Option Obj}
    (F : Fr h₀ L s.heap m) (Mb : L2.Mod K mg base) (kb : ∀ b o, base.get? b = some o → h₀.get? b = some o) (N : News h₀ L s.heap news) (S : SupAt prog K mg m sc fd fu cda cc C D x) (I : InstAt s.heap x ox C odx) (hat : (attr == ("__class__" : Str)) = false)
    (h : ∀ so g, Fr h₀ L g m → News h₀ L g ((so, ks_superObj D x C) :: news) → (∀ p ∈ news, p.1 < so) → Q (.ref so) { s with heap := g }) :
    _root_.PySem.wpAt (model prog w) A (.func body (ksEnv q sc L fu (.ref cda) cc)) (attributeBase (.Call (.Name "super" p0) [] [] p1) attr (ksEnv q sc L fu (.ref cda) cc) whole) Q E s := by
  have all : ∀ b o, base.get? b = some o → s.heap.get? b = some o := fun b o e => F.keep b o (kb b o e)
  have X : K.In s.heap := (Mb.kin.keeps kb).keeps F.keep
  obtain ⟨⟨_, _, _, e1⟩, ⟨ar, e2, e3, e4⟩, ⟨_, _, _, _, _, _, e5, e6, e7⟩, ⟨_, _, _, e8⟩, ⟨cd, e9⟩, sub, nos, ⟨ns, nc⟩, kd, tp⟩ := S
  have ⟨mb, hmb, std⟩ := Mb.blt
  have sup : mb "super" = some (.type "super") := (std _ (by decide +kernel)).trans (by kernel_rfl)
  have ⟨oD, d1, d2⟩ := cls_at X e9
  obtain ⟨hp, gs, dr, tk, os⟩ := s
  apply ks_wpAt_super_base (env := ksEnv q sc L fu (.ref cda) cc) ns nc hat rfl (X _ _ e1) rfl e2 rfl (X _ _ e5) rfl e6 e7 tp
  refine ks_loadName_global kd ns (loadGlobal_builtin (env := ksEnv q sc L fu (.ref cda) cc) (Mb.glob.keeps all) nos (hmb.keeps all) sup ⟨rfl, ?_⟩)
  refine wpAny_loadName_free kd nc rfl ⟨_, X _ _ e8, rfl⟩ (wpAny_loadName_local kd e4 F.ns e3 ?_)
  refine ks_wpAny_isType_cls d1 d2 ⟨rfl, ?_⟩
  apply ks_wpAny_call_super d1 d2 I.at_ I.cls (fun c => inst_no I c) (looks_mroIn X sub)
  intro g e k
  have ⟨F', N', l'⟩ := ks_newsPush (s := ⟨hp, gs, dr, tk, os⟩) F N rfl e k
  exact h _ g F' N' l'
theorem spl_one {M : Model} {pos : Pos} {env : Env} {e : Expr} {Q : List Value → Shared → Prop} (h : wpAny M A (eval e env) (fun v s' => Q [v] s') E s) (he : starEach [e] env = [(false, eval e env)] := by rfl) : wpAny M A (spliced (backTo pos (starEach [e] env))) Q E s := by
  rw [he]
  show wpAny M A (spliced ((false, eval e env) :: backTo pos [])) Q E s
  refine Calls.spliced_cons (wpAny_mono h (fun v s₁ h₁ => ?_) fun _ _ z => z)
  exact wpAny_pure h₁
theorem sup_init {base : Heap} (T : SupTxt prog K mg B newId i bmB C fI f qual params ws) {x t0 : Addr} {v : Value} (hT : Tells prog w ws f qual v) (hp : Heap) (Mb : L2.Mod K mg base) (kb : ∀ b o, base.get? b = some o → hp.get? b = some o)
    (k0 : ∀ b o, hp.get? b = some o → s.heap.get? b = some o) (hz : hp.objs.size ≤ s.heap.objs.size) (hx : s.heap.get? x = some (excO C t0)) (hx0 : hp.get? x = none) (hroom : A.depth < recursionLimit)
    (hq : ∀ h' tk dx t1, (∀ b o, hp.get? b = some o → h'.get? b = some o) → h'.get? x = some (excObj C t1 (some dx) .none) → x < dx → h'.Ns1 dx (fun y => if y = f then some v else none) → R (.ok (.ret .none)) { s with heap := h', toks := tk }) :
    codeAny (model prog w) A (.call (.ref fI) ⟨[.ref x, v], []⟩) R s := by
  obtain ⟨oc, od, doc, pm, an, cda, ct, osl, cc, cl, cld, csl, ccl, cdd, vs, ccs, file, tf, pj, p0, p1, p2, p3, p4, q1, q2, q3, q4, ho, hcd, hcc, hcda, hvs, hfile, hl, hb⟩ := T.fn
  have X₀ : K.In hp := Mb.kin.keeps kb
  have Xs : K.In s.heap := X₀.keeps k0
  refine ks_codeAny_call_defAt (fd := ksFn "__init__" qual params (sB f ws pj p0 p1 p2 p3 p4 q1 q2 q3 q4) (sS f) .none .none doc pm an (.ref cda) ct cc) (body := sB f ws pj p0 p1 p2 p3 p4 q1 q2 q3 q4) (binds := [("self", .ref x), (f, v)]) hroom (Xs _ _ ho) rfl
    ((Mb.nolimit.keeps kb).keeps k0) (codeRec_of Xs hcd) rfl (hb s (.ref x) v) ?_ ?_ (fun h₁ hns hk₁ => ?_) rfl rfl rfl
  · intro y hy
    simp only [sS, List.mem_cons, List.not_mem_nil, or_false] at hy
    rcases hy with rfl | rfl | rfl | rfl <;> exact fun z => by cases z
  · intro y hy
    simp only [List.mem_cons, List.not_mem_nil, or_false] at hy
    rcases hy with rfl | rfl
    · rfl
    · have e : (f == ("self" : Str)) = false := by simpa using T.nself
      show List.lookup f [(("self" : Str), NameKind.local), (f, .local), ("__class__", .free), ("super", .globalImplicit)] = some .local
      simp [List.lookup, e]
  have FR : Fr hp s.heap.objs.size h₁ _ := ⟨hns, fun b o e => hk₁ b o (k0 b o e), hz⟩
  have N0 : News hp s.heap.objs.size h₁ [(x, excObj C t0 none .none)] := fun p hp' => by
    simp only [List.mem_cons, List.not_mem_nil, or_false] at hp'
    subst hp'
    exact ⟨hk₁ _ _ hx, Nat.ne_of_lt (Heap.lt_size hx), hx0⟩
  have ms : (fun y => List.lookup y ([("self", Value.ref x), (f, v)] : List (Str × Value)).reverse) "self" = some (.ref x) := by
    have e : (("self" : Str) == f) = false := by simpa using fun z => T.nself z.symm
    simp [List.lookup, e]
  have mf : (fun y => List.lookup y ([("self", Value.ref x), (f, v)] : List (Str × Value)).reverse) f = some v := by
    simp [List.lookup]
  revert ms mf FR
  generalize (fun y => List.lookup y ([("self", Value.ref x), (f, v)] : List (Str × Value)).reverse) = m
  intro FR ms mf
  obtain ⟨ar, har, hara⟩ : ∃ ar, (params.posonlyargs ++ params.args).head? = some ar ∧ ar.arg = "self" := by
    have := T.hd1
    cases z : (params.posonlyargs ++ params.args).head? with
    | none => rw [z] at this; cases this
    | some ar => rw [z] at this; exact ⟨ar, rfl, Option.some.inj this⟩
  obtain ⟨cdD, hD⟩ : ∃ cd, clsIn K C = some cd := by
    have := T.sup
    unfold ks_superIn at this
    cases z : clsIn K C with
    | none => rw [z] at this; cases this
    | some cd => exact ⟨cd, rfl⟩
  generalize s.heap.objs.size = L at *
  have hed : callEnv (ksFn "__init__" qual params (sB f ws pj p0 p1 p2 p3 p4 q1 q2 q3 q4) (sS f) .none .none doc pm an (.ref cda) ct cc) L fI = ksEnv qual (sS f) L fI (.ref cda) cc := rfl
  rw [hed]
  have lc : (sS f).names.lookup ("__class__" : Str) = some .free := by
    have e : (("__class__" : Str) == f) = false := by simpa using fun z => T.ncls z.symm
    show List.lookup ("__class__" : Str) [(("self" : Str), NameKind.local), (f, .local), ("__class__", .free), ("super", .globalImplicit)] = some .free
    rw [List.lookup_cons, show (("__class__" : Str) == "self") = false by decide]
    simp only [List.lookup_cons, e]
    rfl
  have lp : (sS f).names.lookup ("super" : Str) = some .globalImplicit := by
    have e : (("super" : Str) == f) = false := by simpa using fun z => T.nsup z.symm
    show List.lookup ("super" : Str) [(("self" : Str), NameKind.local), (f, .local), ("__class__", .free), ("super", .globalImplicit)] = some .globalImplicit
    rw [List.lookup_cons, show (("super" : Str) == "self") = false by decide]
    simp only [List.lookup_cons, e]
    rfl
  have lf : (sS f).names.lookup f = some .local := by
    have e : (f == ("self" : Str)) = false := by simpa using T.nself
    show List.lookup f [(("self" : Str), NameKind.local), (f, .local), ("__class__", .free), ("super", .globalImplicit)] = some .local
    simp [List.lookup, e]
  have X1 : ∀ {h : Heap}, Fr hp L h m → K.In h := fun F => X₀.keeps F.keep
  refine ks_wpAt_execs_cons (ks_wpAt_Expr_any ?_ rfl rfl)
  refine ks_wpAt_MethodCall (pl := L2.plainOf (.Call (.Name "super" p0) [] [] p1) (ksEnv qual (sS f) L fI (.ref cda) cc)) ?_ ?_
  · refine sup_node (D := C) FR Mb kb N0 ⟨⟨_, _, _, ho⟩, ⟨ar, har, by rw [hara]; exact ms, by rw [hara]; rfl⟩, ⟨_, _, _, _, _, _, hcda, hvs, hfile⟩, ⟨_, _, _, hcc⟩, ⟨_, hD⟩, T.mro, T.nos, ⟨lp, lc⟩, rfl, T.top⟩ (InstAt.of_exc0 N0 (List.mem_cons_self ..)) (by decide) fun so h₂ F2 N2 l2 => ?_
    refine kxs_method T.KF F2 X₀ N2 (List.mem_cons_self ..) (InstAt.of_exc0 N2 (List.mem_cons_of_mem _ (List.mem_cons_self ..))) T.opq T.sup T.sub (by decide) fun u h₃ F3 N3 l3 => ?_
    refine kxs_callWith1 N3 (List.mem_cons_self ..) ?_ rfl rfl
    refine spl_one ?_
    refine hT _ _ _ pj L fI _ cc m _ F3.ns mf fun y tk tk' => ⟨kxs_at N3 (List.mem_cons_self ..), ?_⟩
    refine kxs_call (t := t0) (dv := none) (c2 := .none) (nw := fun o => [(u, kxs_mw i x), (so, ks_superObj C x C), (x, o)]) F3 X₀ N3 T.FB T.ini (List.mem_cons_self ..) ?_ (one_size _) fun t1 h₄ F4 N4 l4 => ?_
    · exact .tail (Nat.ne_of_gt (l3 (x, _) (List.mem_cons_of_mem _ (List.mem_cons_self ..)))) (.tail (Nat.ne_of_gt (l2 (x, _) (List.mem_cons_self ..))) (.head fun p z => by cases z))
    (try dsimp only at N4)
    have l4x : x < t1 := l4 (x, _) (List.mem_cons_of_mem _ (List.mem_cons_of_mem _ (List.mem_cons_self ..)))
    refine ks_wpAt_execs_cons (ks_wpAt_Assign_Attr (wpAt_of_wpAny ?_) rfl)
    refine wpAny_Name (wpAny_loadName_local rfl lf F4.ns mf ?_) T.dbg
    refine wpAny_Name (wpAny_loadName_local rfl rfl F4.ns ms ?_) (by decide)
    refine set_exc0 (t := t1) (c2 := .none) (nw := fun o => [(t1, excTup [.str y tk]), (u, kxs_mw i x), (so, ks_superObj C x C), (x, o)]) T.SF F4 X₀ N4 (List.mem_cons_of_mem _ (List.mem_cons_of_mem _ (List.mem_cons_of_mem _ (List.mem_cons_self ..)))) T.sa T.over T.tk T.hd rfl ?_ (by show 1 ≤ 1000; decide) fun dx h₅ F5 N5 l5 => ?_
    · exact .tail (Nat.ne_of_gt l4x) (.tail (Nat.ne_of_gt (l3 (x, _) (List.mem_cons_of_mem _ (List.mem_cons_self ..)))) (.tail (Nat.ne_of_gt (l2 (x, _) (List.mem_cons_self ..))) (.head fun p z => by cases z)))
    (try dsimp only at N5)
    have l5x : x < dx := l5 (x, _) (List.mem_cons_of_mem _ (List.mem_cons_of_mem _ (List.mem_cons_of_mem _ (List.mem_cons_self ..))))
    refine wpAt_of_wpAny (wpAny_execs_nil ?_)
    exact hq h₅ _ dx t1 F5.keep (N5 (x, _) (List.mem_cons_of_mem _ (List.mem_cons_of_mem _ (List.mem_cons_of_mem _ (List.mem_cons_of_mem _ (List.mem_cons_self ..)))))).1 l5x (ns1_one (N5 (dx, _) (List.mem_cons_self ..)).1)
  · rw [arm_eval_Call]
    refine congrArg _ (funext fun ov => congrArg _ (funext fun _ => ?_))
    rw [L2.mcall_line rfl hl]
    rfl
theorem sup_made {base : Heap} (T : SupTxt prog K mg B newId i bmB C fI f qual params ws) {v : Value} (hT : Tells prog w ws f qual v) (Mb : L2.Mod K mg base) (kb : ∀ b o, base.get? b = some o → s.heap.get? b = some o) (hroom : A.depth + 1 < recursionLimit)
    (hq : ∀ h' tk e d, Made s.heap h' e C d f v → R (.ok (.ret (.ref e))) { s with heap := h', toks := tk }) :
    codeAny (model prog w) A (.call (.ref C) ⟨[v], []⟩) R s := by
  have X : K.In s.heap := Mb.kin.keeps kb
  obtain ⟨nm, N', qn, bs, bm, hdct, sn, sub, ab, col, dd, k0, k1, k2, k3, k5, hC, hbm⟩ := excInit_of X T.ini
  obtain ⟨hp, g, dr, tk, os⟩ := s
  have k : ∀ b o, hp.get? b = some o → ((hp.push (kdv_tup [v])).push (excO C hp.objs.size)).get? b = some o := fun b o e => Heap.get?_push_of_some _ (Heap.get?_push_of_some _ e)
  have hget : ((hp.push (kdv_tup [v])).push (excO C hp.objs.size)).get? (hp.objs.size + 1) = some (excO C hp.objs.size) := by heap_get
  have hnx : hp.get? (hp.objs.size + 1) = none := by
    cases e : hp.get? (hp.objs.size + 1) with
    | none => rfl
    | some o => exact absurd (Nat.lt_of_succ_lt (Heap.lt_size e)) (Nat.lt_irrefl _)
  refine call_own T.FB hbm hC (looks_findIn X T.iC) (fun self => bind_fn X self T.tC) (one_size v) ?_
  refine sup_init (s := ⟨(hp.push (kdv_tup [v])).push (excO C hp.objs.size), g, dr, tk, os⟩) (t0 := hp.objs.size) T hT hp Mb kb k ?_ hget hnx ?_ fun h' tk' dx t1 kk hx hlt hns => ?_
  · show hp.objs.size ≤ ((hp.push (kdv_tup [v])).push (excO C hp.objs.size)).objs.size
    rw [Heap.size_push, Heap.size_push]
    omega
  · show A.depth + 1 < recursionLimit
    exact hroom
  · exact ⟨rfl, hq h' tk' (hp.objs.size + 1) dx ⟨kk, Nat.le_succ _, ⟨_, _, hx, rfl, rfl, rfl, rfl⟩, Nat.le_of_lt (Nat.lt_of_succ_lt hlt), Nat.ne_of_gt hlt, hns⟩⟩
end
end SupX
end PySem
namespace L2
open PySem PySem.Spec PyProof.Rows
theorem relO_one {v : V} {v' : Value} (n : Str) (r : RelV v v') (f : Str) : RelO (List.lookup f [(n, v)]) (if f = n then some v' else none) := by
  by_cases hw : f = n
  · subst hw
    rw [if_pos rfl]
    have q : List.lookup f [(f, v)] = some v := by simp [List.lookup]
    rw [q]
    exact r
  · rw [if_neg hw]
    have qw : (f == n) = false := by simpa using hw
    have q2 : List.lookup f [(n, v)] = none := by simp [List.lookup, qw]
    rw [q2]
    trivial
/-- C(e), an own error whose __init__ says super().__init__(f"..") and keeps e as the field f -/
def tMkSup (C : Addr) (f : Str) (ok : V → Prop) (ta : TA) : St → Hp → XK → Prop := fun σ H Q => ta σ H fun vs H1 => ∃ v, vs = [v] ∧ ok v ∧ ∀ d, H1 d = none → Q (.ref C) (some d) (upd H1 d (.xd [(f, v)]))
/-- what is read of the class beside its __init__ -/
structure SupC (K : PySem.W.Frag) (mg : Str → Option Value) (n : Str) (C : Addr) : Prop where
  gC : mg n = some (.ref C)
  kC : PySem.W.keepIn K (.ref C) = true
  exC : PySem.W.subIn K (.ref C) (.type "BaseException") = some true
  tyC : PySem.W.typeIn K (.ref C) = some (.type "type")
section
variable {X : Cx} {C fI : Addr} {B newId i : String} {bmB : List Value} {f qual n : Str} {params : Arguments} {ws : List Expr} {ok : V → Prop}
theorem pmk_sup {a : Expr} {ta : TA} {p pos : Pos} {k : Nat} (T : PySem.SupX.SupTxt X.prog X.K X.mg B newId i bmB C fI f qual params ws) (S : SupC X.K X.mg n C) (hT : ∀ v v', ok v → RelV v v' → PySem.SupX.Tells X.prog X.w ws f qual v') (hr : Room k X.A) (ha : PA X [a] ta) (hg : Gl X n)
    (hdb : (n == ("__debug__" : Str)) = false := by decide) (he : starEach (a :: []) X.env = (false, eval a X.env) :: starEach [] X.env := by rfl) (hpl : (backTo pos (starEach [] X.env)).any (·.1) = false := by rfl) :
    PMk X (.Call (.Name n p) [a] [] pos) (tMkSup C f ok ta) := by
  intro pins s σ H Q I h
  refine wpAny_Call_Name_kw (ld_glob I hg S.gC ?_ hdb)
  refine PySem.W.callWith_K (h₀ := X.base) I.ok.mod.kin S.kC (thn (ha.run pos pins s σ H _ I h) fun us s1 hh => ?_) he hpl
  obtain ⟨vs, H1, I1, r1, v, ev, okv, q1⟩ := hh
  subst ev
  refine ⟨I1.kIn, ?_⟩
  cases r1 with
  | cons rv rn =>
    rename_i v' us'
    cases rn
    show wpAny _ _ (call (.ref C) [v']) _ _ _
    have kb := I1.bk
    obtain ⟨hp, g, dr, tk, os⟩ := s1
    refine wpAny_call (PySem.SupX.sup_made T (hT v v' okv rv) I1.mod kb (by have := hr.dp; omega) fun h' tk' e d M => ?_)
    show MkP X pins σ Q (.ref e) ⟨h', g, dr, tk', os⟩
    obtain ⟨oe, fv, hoe, hc, hd, hdat, h1⟩ := M.obj
    have hns := M.ns
    obtain ⟨G', g1, g2⟩ := restrict h' fun b => decide (b ≠ e)
    have gk : ∀ b, b ≠ e → G'.get? b = h'.get? b := fun b hb => g1 b (decide_eq_true hb)
    have ge : G'.get? e = none := g2 e (by simp)
    have old : ∀ b o, hp.get? b = some o → G'.get? b = some o := fun b o q => (gk b (Nat.ne_of_lt (Nat.lt_of_lt_of_le (Heap.lt_size q) M.new))).trans (M.keep b o q)
    have ob : ObjOk X.prog X.w (upd H1 d (.xd [(f, v)])) G' d (.xd [(f, v)]) := ⟨_, hns.at (fun o q => (gk d M.dne).trans q), fun y => relO_one f rv y⟩
    have J : Inv X pins σ (upd H1 d (.xd [(f, v)])) ⟨G', g, dr, tk', os⟩ := I1.laid (t' := tk') old M.dbig ob
    refine ⟨e, oe, fv, ⟨G', g, dr, tk', os⟩, _, .ref C, some d, rfl, J, fun b o q => ?_, ge, hoe, ⟨hc, hd⟩, hdat, h1, ?_, rfl, I1.bare, raises_own S.exC S.tyC, q1 d (I1.hok.fresh M.dbig)⟩
    · by_cases hb : b = e
      · have q' : G'.get? b = some o := q
        rw [hb, ge] at q'; cases q'
      · exact (gk b hb).symm.trans q
    · rw [upd_ne (Ne.symm M.dne)]
      exact I1.hok.fresh M.new
/-- raise C(e) -/
def tRaiseSup (C : Addr) (f : Str) (ok : V → Prop) (W : WX) (ta : TA) : TS := fun _ σ H => tMkSup C f ok ta σ H fun cls d H' => W cls d σ H'
theorem ps_raiseSup {a : Expr} {ta : TA} {W : WX} {p pos pos2 : Pos} {k : Nat} (hc : X.calm = true) (T : PySem.SupX.SupTxt X.prog X.K X.mg B newId i bmB C fI f qual params ws) (S : SupC X.K X.mg n C) (hT : ∀ v v', ok v → RelV v v' → PySem.SupX.Tells X.prog X.w ws f qual v') (hr : Room k X.A) (tk : Takes X W) (ha : PA X [a] ta) (hg : Gl X n)
    (hdb : (n == ("__debug__" : Str)) = false := by decide) (he : starEach (a :: []) X.env = (false, eval a X.env) :: starEach [] X.env := by rfl) (hpl : (backTo pos (starEach [] X.env)).any (·.1) = false := by rfl) :
    PS X (.Raise (some (.Call (.Name n p) [a] [] pos)) none pos2) (tRaiseSup C f ok W ta) := ps_raise hc tk (pmk_sup T S hT hr ha hg hdb he hpl)
end
end L2
namespace PySem
namespace SupX
open PySem.W PySem.Calls PyProof.Rows PySem.HandSPX
/-- what repr tells of plain things, and how long it is at most -/
def Shows (v : Value) : Prop := (∃ x t, v = .str x t ∧ (reprText x).length ≤ 1000000) ∨ (∃ i t, v = .int i t ∧ i.natAbs.log2 < 1920) ∨ (∃ b, v = .bool b) ∨ v = .none
section
variable {prog : Program} {w : World} {A : Around} {E : Value → Shared → Prop} {s : Shared}
theorem shown_repr {v : Value} {Q : Value → Shared → Prop} (hv : Shows v) (h : ∀ y t tk, y.length ≤ 1000000 → Q (.str y t) { s with toks := tk }) : wpAny (model prog w) A (pyReprObj v) (fun r s₂ => wpAny (model prog w) A (formatField r Str.empty) Q E s₂) E s := by
  rcases hv with ⟨x, t, rfl, hx⟩ | ⟨i, t, rfl, hi⟩ | ⟨b, rfl⟩ | rfl
  · have hz : (reprText x).length ≤ sizeLine := by rw [sizeLine_eq]; omega
    exact pyReprObj_str (wpAny_formatField_str (h _ _ _ hx) (h _ _ _ hx) hz) hz
  · have hx : (Str.ofString (toString i)).length ≤ 1000000 := by
      have e := int_text_length_le (k := 1920) (by decide) hi
      rw [ofString_length]
      omega
    exact pyReprObj_int hi (wpAny_formatField_str (h _ _ _ hx) (h _ _ _ hx) (int_text_fits hi))
  · have hx : (if b = true then Str.ofString "True" else Str.ofString "False").length ≤ 1000000 := by cases b <;> decide
    exact pyReprObj_bool (wpAny_formatField_str (h _ _ _ hx) (h _ _ _ hx) (by rw [sizeLine_eq]; exact Nat.le_trans hx (by decide)))
  · have hx : (Str.ofString "None").length ≤ 1000000 := by decide
    exact pyReprObj_none (wpAny_formatField_str (h _ _ _ hx) (h _ _ _ hx) (by rw [sizeLine_eq]; exact Nat.le_trans hx (by decide)))
/-- f"pre{x!r}" -/
theorem tells_r {pre f qual : Str} {j : Nat} {p1 p2 p3 : Pos} {v : Value} (hv : Shows v) (hl : (sS f).names.lookup f = some .local) (hd : (f == ("__debug__" : Str)) = false) (hz : pre.length ≤ 1000) : Tells prog w [.Constant (.str pre) j p1, .FormattedValue (.Name f p2) 114 none p3] f qual v := by
  intro A E s pj L a cd cc m Q hn hm hq
  have e0 : Str.empty.length = 0 := rfl
  refine wpAny_JoinedStr ?_
  show wpAny _ _ _ _ _ _
  refine Calls.Constant_str ⟨pre, _, rfl, ?_, ?_⟩
  · simp only [Str.length_append, sizeLine_eq, e0]; omega
  refine wpAny_FormattedValue_repr (wpAny_Name (wpAny_loadName_local rfl hl hn hm ?_) hd)
  refine shown_repr hv fun y t tk hy => ⟨y, t, rfl, ?_, ?_⟩
  · simp only [Str.length_append, sizeLine_eq, e0]; omega
  · exact ⟨by simp only [Str.length_append, sizeLine_eq, e0]; omega, hq _ _ _⟩
/-- f"pre{x!r}post" -/
theorem tells_rp {pre post f qual : Str} {j j2 : Nat} {p1 p2 p3 p4 : Pos} {v : Value} (hv : Shows v) (hl : (sS f).names.lookup f = some .local) (hd : (f == ("__debug__" : Str)) = false) (hz : pre.length ≤ 1000) (hz2 : post.length ≤ 1000) : Tells prog w [.Constant (.str pre) j p1, .FormattedValue (.Name f p2) 114 none p3, .Constant (.str post) j2 p4] f qual v := by
  intro A E s pj L a cd cc m Q hn hm hq
  have e0 : Str.empty.length = 0 := rfl
  refine wpAny_JoinedStr ?_
  show wpAny _ _ _ _ _ _
  refine Calls.Constant_str ⟨pre, _, rfl, ?_, ?_⟩
  · simp only [Str.length_append, sizeLine_eq, e0]; omega
  refine wpAny_FormattedValue_repr (wpAny_Name (wpAny_loadName_local rfl hl hn hm ?_) hd)
  refine shown_repr hv fun y t tk hy => ⟨y, t, rfl, ?_, ?_⟩
  · simp only [Str.length_append, sizeLine_eq, e0]; omega
  refine Calls.Constant_str ⟨post, _, rfl, ?_, ?_⟩
  · simp only [Str.length_append, sizeLine_eq, e0]; omega
  · exact ⟨by simp only [Str.length_append, sizeLine_eq, e0]; omega, hq _ _ _⟩
end
end SupX
end PySem

namespace L2
open PySem PySem.Spec PyProof.Rows
section
variable {X : Cx} {CX : CXT} {pins : List (Addr × Obj)} {σ : L2.St} {H : Hp} {s : Shared} {a C dx p g : Addr} {f : Str} {n : Nat} {sp : Sp} {E : XK} {v : V} {u : Value}
/-- str(x) of an own instance -/
def rStrI (C : Addr) (sp : Sp) (E : XK) : List V → Hp → VK → Prop := fun xs H Q => ∃ a dx fs, xs = [V.ref a] ∧ H a = some (.ins C dx fs) ∧ sp [.ref a] H (fun z H' => ∃ i, z = .str i ∧ Q z H') E
theorem call_strI (hs : PySem.W.findIn X.K (.ref C) "__str__" = some (some (.ref g))) (hf : PySem.W.isFn X.K (.ref g) = true) (F : FnR X.prog X.w X.K X.mg X.base CX n g sp) (hr : Room (n + 2) X.A) (hx : Passes CX X E) : CallR X (.type "str") (rStrI C sp E) := by
  intro pins s σ H xs us Q I r h
  obtain ⟨a, dx, fs, rfl, hsl, q⟩ := h
  obtain ⟨u, rfl, ru⟩ := r.one
  cases (show u = Value.ref a from ru)
  obtain ⟨mA, J, _⟩ := ins_get I.hok hsl
  obtain ⟨od, J, _⟩ := J.look
  have hr1 : Room (n + 1) X.A.in1 := Room.in1 hr
  have hr2 := Room.in1 hr1
  refine PySem.W.kso_call hr2.units0 I.kIn J hs hf (wpAny_mono (wpAny_call (SlX.run_at (us := [.ref a]) (ws := [.ref a]) F hr2 I.env0.in1.in1 hx I (.cons rfl .nil) q)) (fun w s' z => ?_) fun _ _ x => x)
  obtain ⟨z', H', I', rz, i, ei, qz⟩ := z
  subst ei
  obtain ⟨t, e⟩ := (show ∃ t, w = Value.str i t from rz)
  cases e
  exact ⟨.str i, H', I', ⟨t, rfl⟩, qz⟩
/-- repr(x) of an own instance -/
theorem call_reprI (hs : PySem.W.findIn X.K (.ref C) "__repr__" = some (some (.ref g))) (hf : PySem.W.isFn X.K (.ref g) = true) (F : FnR X.prog X.w X.K X.mg X.base CX n g sp) (hr : Room (n + 1) X.A) (hx : Passes CX X E) : CallR X (.builtin "repr") (rStrI C sp E) := by
  intro pins s σ H xs us Q I r h
  obtain ⟨a, dx, fs, rfl, hsl, q⟩ := h
  obtain ⟨u, rfl, ru⟩ := r.one
  cases (show u = Value.ref a from ru)
  obtain ⟨mA, J, _⟩ := ins_get I.hok hsl
  obtain ⟨od, J, _⟩ := J.look
  have hr2 : Room n X.A.in1 := Room.in1 hr
  obtain ⟨m, hF⟩ := I.fr
  refine PySem.W.repr_K hr2.units0 hF I.ok.mod.kin J hs hf (wpAny_mono (wpAny_call (SlX.run_at (us := [.ref a]) (ws := [.ref a]) F hr2 I.env0.in1 hx I (.cons rfl .nil) q)) (fun w s' z => ?_) fun _ _ x => x)
  obtain ⟨z', H', I', rz, i, ei, qz⟩ := z
  subst ei
  obtain ⟨t, e⟩ := (show ∃ t, w = Value.str i t from rz)
  cases e
  exact ⟨.str i, H', I', ⟨t, rfl⟩, qz⟩
/-- x op y, x an own instance whose def for op is at g; y an instance of the same class or a number -/
def rOwnI (C : Addr) (sp : Sp) (E : XK) : R2 := fun x y H Q => ∃ a dx fs, x = .ref a ∧ H a = some (.ins C dx fs) ∧ ((∃ b dy gs, y = .ref b ∧ H b = some (.ins C dy gs)) ∨ ∃ i, y = .int i) ∧ sp [x, y] H Q E
theorem op_ownI {op : CmpOp} (hop : ∀ a b, compareOp op a b = richCompare op a b) (hs : PySem.W.findIn X.K (.ref C) (cmpInfo op).2.1 = some (some (.ref g))) (hf : PySem.W.isFn X.K (.ref g) = true) (hi : PySem.W.notFirst X.K C (.type "int") = true) (F : FnR X.prog X.w X.K X.mg X.base CX n g sp)
    (hr : Room n X.A) (hx : Passes CX X E) : OpR X (compareOp op) (rOwnI C sp E) := by
  intro pins s σ H x y v u Q I rx ry h
  obtain ⟨a, dx, fs, rfl, ha, hy, q⟩ := h
  cases (show v = Value.ref a from rx)
  obtain ⟨mA, J, _⟩ := ins_get I.hok ha
  obtain ⟨od, J, _⟩ := J.look
  obtain ⟨m, hF⟩ := I.fr
  rw [hop]
  rcases hy with ⟨b, dy, gs, rfl, hb⟩ | ⟨i, rfl⟩
  · cases (show u = Value.ref b from ry)
    obtain ⟨mB, J', _⟩ := ins_get I.hok hb
    obtain ⟨od', J', _⟩ := J'.look
    refine PySem.W.cmp_K (op := op) (tb := .ref C) hr.units0 hF I.ok.mod.kin J J'.type (by simp [PySem.W.notFirst]) hs hf ?_
    have go := run_fnR (us := [.ref a, .ref b]) (vs := [.ref a, .ref b]) F hr hx I (.cons rfl (.cons rfl .nil)) q
    exact wpAny_mono (wpAny_call go) (fun _ _ ⟨z', G, J2, rz, qz⟩ => SlX.cmpback rz ⟨z', G, J2, rz, qz⟩) fun _ _ x => x
  · obtain ⟨t, e⟩ := (show ∃ t, u = Value.int i t from ry)
    subst e
    refine PySem.W.cmp_K (op := op) (tb := .type "int") hr.units0 hF I.ok.mod.kin J (fun _ _ _ _ _ q => by first | exact wpAny_pure q | exact (typeIs_int _ _ _).here q | (show wpAny _ _ (pure _) _ _ _; exact wpAny_pure q)) hi hs hf ?_
    refine wpAny_mono (wpAny_call (run_fnR (us := [.ref a, .int i t]) (vs := [.ref a, .int i]) F hr hx I (.cons rfl (.cons ⟨t, rfl⟩ .nil)) q)) (fun w s' z => ?_) fun _ _ x => x
    obtain ⟨z', H', I', rz, qz⟩ := z
    exact SlX.cmpback rz ⟨z', H', I', rz, qz⟩
end
end L2

namespace OwY
open PySem PySem.Spec PyProof.Rows PySem.SeqAt
section
variable {M : Model} {prog : Program} {w : World} {A : Around} {E : Value → Shared → Prop} {s : Shared} {K : PySem.W.Frag} {x C f : Addr} {ox : Obj} {od : Option Obj} {b : Value}
theorem ifBound_objNe {args : List Value} {Q : Option Value → Shared → Prop} (X : K.In s.heap) (I : PySem.W.InstAt s.heap x ox C od) (hs : PySem.W.findIn K (.ref C) "__ne__" = some (some (.builtin "object.__ne__")))
    (h : wpAny M A (call (.builtin "object.__ne__") (.ref x :: args)) (fun v => Q (some v)) E s) : wpAny M A (callSpecialIfBound? (.ref x) "__ne__" args) Q E s := by
  simp only [callSpecialIfBound?, bindSpecialIfBound?]
  refine wpAny_holding (wpAny_bind (wpAny_bind (wpAny_bind (I.type.here ((PySem.W.looks_findIn X hs).here ?_)))))
  refine wpAny_bind (wpAny_askSetting (wpAny_ite ?_))
  have fin : wpAny M A (call (.builtin "object.__ne__") ([.ref x] ++ args) >>= fun v => pure (some v)) Q E s := wpAny_bind (wpAny_mono h (fun v s' h' => wpAny_pure h') fun _ _ h' => h')
  split
  · exact wpAny_bind (wpAny_of_eq (F.cmp_object.ne.bind _) (wpAny_pure (by exact fin)))
  · exact wpAny_tryCatch (wpAny_bind (wpAny_of_eq (F.cmp_object.ne.bind _) (wpAny_pure (by exact fin))))
theorem entry_ne {Q : Fin → Shared → Prop} (hu : A.units < cLine) (X : K.In s.heap) (I : PySem.W.InstAt s.heap x ox C od) (hs : PySem.W.findIn K (.ref C) "__eq__" = some (some (.ref f))) (hf : PySem.W.isFn K (.ref f) = true)
    (h : wpAny (model prog w) A (call (.ref f) [.ref x, b]) (fun v s' => ∃ k, v = .bool k ∧ Q (.done (.ret (.bool (!k)))) s') E s) : wpAny (model prog w) A (Builtin.«object.__ne__» ⟨[.ref x, b], []⟩) Q E s := by
  unfold Builtin.«object.__ne__»
  repeat (first
    | with_reducible refine wpAny_cRoomFor hu ?_
    | (refine wpAny_bind (m := callSpecialIfBound? (.ref x) (Str.ofString "__eq__") [b])
        (PySem.W.ifBound_K X I hs hf (wpAny_mono h (fun r s' hr => by
          obtain ⟨k, rfl, hq⟩ := hr
          repeat (first | exact hq | exact wpAny_pure hq | exact wpAny_truthy_bool hq | (refine wpAny_bind (m := truthy (.bool _)) (wpAny_truthy_bool ?_)) | wp_step)) fun _ _ e => e)))
    | wp_step)
theorem call_objNe {Q : Value → Shared → Prop} (hu : A.in1.units < cLine) (X : K.In s.heap) (I : PySem.W.InstAt s.heap x ox C od) (hm : PySem.W.mroIn K C (.type "object") = some true) (hs : PySem.W.findIn K (.ref C) "__eq__" = some (some (.ref f))) (hf : PySem.W.isFn K (.ref f) = true)
    (h : wpAny (model prog w) A.in1 (call (.ref f) [.ref x, b]) (fun v s' => ∃ k, v = .bool k ∧ Q (.bool (!k)) s') E s) :
    wpAny (model prog w) A (call (.builtin "object.__ne__") [.ref x, b]) Q E s :=
  wpAny_call (codeAny_call_builtin F.cmp_object.ne.plain F.cmpEntry_ne (PySem.W.check_slot F.cmpKind_ne F.cmpSplit_ne (I.type.andThen (PySem.W.looks_mroIn X hm)) (F.cmpArgs_ne _ _) (entry_ne hu X I hs hf h)))
theorem ne_K {tb : Value} {Q : Value → Shared → Prop} (hu : A.units < cLine) (hu1 : A.in1.units < cLine) (X : K.In s.heap) (I : PySem.W.InstAt s.heap x ox C od) (hb : PySem.W.Looks (model prog w) s.heap (typeOf b) tb) (hn : PySem.W.notFirst K C tb = true) (hm : PySem.W.mroIn K C (.type "object") = some true)
    (hne : PySem.W.findIn K (.ref C) "__ne__" = some (some (.builtin "object.__ne__"))) (hs : PySem.W.findIn K (.ref C) "__eq__" = some (some (.ref f))) (hf : PySem.W.isFn K (.ref f) = true)
    (h : wpAny (model prog w) A.in1 (call (.ref f) [.ref x, b]) (fun v s' => ∃ k, v = .bool k ∧ Q (.bool (!k)) s') E s) : wpAny (model prog w) A (richCompare .NotEq (.ref x) b) Q E s := by
  have asked : wpAny (model prog w) A (tryCompare (.ref x) "__ne__" b) (fun r t => ∃ v, r = some v ∧ Q v t) E s := by
    unfold tryCompare
    apply wpAny_bind
    exact ifBound_objNe X I hne (call_objNe hu1 X I hm hs hf (wpAny_mono h (fun _ _ ⟨k, e, q⟩ => ⟨k, e, wpAny_pure ⟨_, rfl, q⟩⟩) fun _ _ e => e))
  have first : ∀ {T : Option Value → Sem Value}, (∀ v, T (some v) = pure v) → wpAny (model prog w) A (tryCompare (.ref x) "__ne__" b >>= T) Q E s := fun hT =>
    wpAny_bind (wpAny_mono asked (fun _ _ ⟨v, e, q⟩ => by rw [e, hT]; exact wpAny_pure q) fun _ _ e => e)
  unfold richCompare
  simp only [oneThing_ref, cmpInfo_NotEq]
  apply wpAny_holding
  apply wpAny_bind
  apply wpAny_cRoomFor hu
  apply wpAny_bind
  apply I.type.here
  apply wpAny_bind
  apply hb.here
  split
  case isTrue q =>
    have e : PySem.W.subIn K tb (.ref C) = some false := by
      rcases Bool.or_eq_true_iff.mp hn with e | e
      · simp [beq_iff_eq.mp e] at q
      · exact beq_iff_eq.mp e
    apply wpAny_bind
    apply (PySem.W.looks_subIn X e).here
    simp only [Bool.false_eq_true, if_false]
    exact first fun _ => rfl
  case isFalse =>
    apply wpAny_bind
    apply wpAny_pure
    simp only [Bool.false_eq_true, if_false]
    exact first fun _ => rfl
end
end OwY
namespace L2
open PySem PySem.Spec PyProof.Rows
section
variable {X : Cx} {CX : CXT} {pins : List (Addr × Obj)} {σ : L2.St} {H : Hp} {s : Shared} {a C dx p g : Addr} {f : Str} {n : Nat} {sp : Sp} {E : XK} {v : V} {u : Value}
/-- x != y by an own __eq__ -/
def rNeI (C : Addr) (sp : Sp) (E : XK) : R2 := fun x y H Q => ∃ a dx fs b dy gs, x = .ref a ∧ H a = some (.ins C dx fs) ∧ y = .ref b ∧ H b = some (.ins C dy gs) ∧ sp [x, y] H (fun z H' => ∃ k, z = .bl k ∧ Q (.bl (!k)) H') E
theorem op_neI (hm : PySem.W.mroIn X.K C (.type "object") = some true) (hne : PySem.W.findIn X.K (.ref C) "__ne__" = some (some (.builtin "object.__ne__"))) (hs : PySem.W.findIn X.K (.ref C) "__eq__" = some (some (.ref g))) (hf : PySem.W.isFn X.K (.ref g) = true) (F : FnR X.prog X.w X.K X.mg X.base CX n g sp)
    (hr : Room (n + 1) X.A) (hx : Passes CX X E) : OpR X (compareOp .NotEq) (rNeI C sp E) := by
  intro pins s σ H x y v u Q I rx ry h
  obtain ⟨a, dx, fs, b, dy, gs, rfl, ha, rfl, hb, q⟩ := h
  cases (show v = Value.ref a from rx)
  cases (show u = Value.ref b from ry)
  obtain ⟨mA, J, _⟩ := ins_get I.hok ha
  obtain ⟨od, J, _⟩ := J.look
  obtain ⟨mB, J', _⟩ := ins_get I.hok hb
  obtain ⟨od', J', _⟩ := J'.look
  have hr2 : Room n X.A.in1 := Room.in1 hr
  show wpAny _ _ (richCompare .NotEq _ _) _ _ _
  refine OwY.ne_K (tb := .ref C) hr.units0 hr2.units0 I.kIn J J'.type (by simp [PySem.W.notFirst]) hm hne hs hf (wpAny_mono (wpAny_call (SlX.run_at (us := [.ref a, .ref b]) (ws := [.ref a, .ref b]) F hr2 I.env0.in1 hx I (.cons rfl (.cons rfl .nil)) q)) (fun w s' z => ?_) fun _ _ x => x)
  obtain ⟨z', H', I', rz, k, ek, qz⟩ := z
  subst ek
  cases (show w = Value.bool k from rz)
  exact ⟨k, rfl, .bl (!k), H', I', rfl, qz⟩
end
end L2

namespace M
open PySem L2 G
section
variable {K : PySem.W.Frag} {α β γ δ ε ρ : Type} {S T : AS} {σ : St} {H : Hp} {b c : Addr} {ta tb te : TE} {tt tu : TT} {a : Ty K α} {b' : Ty K β} {c' : Ty K γ} {D : Ends} {u : TS}
/-! ### one of two kinds -/
def tU (c : Ty K α) (d : Ty K β) : Ty K (α ⊕ β) where
  rp S H v x := match x with | .inl y => c.rp S H v y | .inr y => d.rp S H v y
  mono {S H H' v x} f h := by cases x with | inl y => exact c.mono f h | inr y => exact d.mono f h
  ext {S H p v x} f h := by cases x with | inl y => exact c.ext f h | inr y => exact d.ext f h
  sub {S S' H v x} f h := by cases x with | inl y => exact c.sub f h | inr y => exact d.sub f h
theorem ev_inl {r : Option α} (h : Ev S T te σ H (of a S) r) : Ev S T te σ H (of (tU a b') S) (bd r fun x => some (.inl x)) := ev_as h fun x y e H1 H2 v d hv => by cases e; exact hv
theorem ev_inr {r : Option β} (h : Ev S T te σ H (of b' S) r) : Ev S T te σ H (of (tU a b') S) (bd r fun x => some (.inr x)) := ev_as h fun x y e H1 H2 v d hv => by cases e; exact hv
def getL? : α ⊕ β → Option α
  | .inl x => some x
  | .inr _ => none
def getR? : α ⊕ β → Option β
  | .inr x => some x
  | .inl _ => none
theorem ev_getL {r : Option (α ⊕ β)} (h : Ev S T te σ H (of (tU a b') S) r) : Ev S T te σ H (of a S) (bd r getL?) := ev_as h fun x y e H1 H2 v d hv => by cases x with | inl z => cases e; exact hv | inr z => cases e
theorem ev_getR {r : Option (α ⊕ β)} (h : Ev S T te σ H (of (tU a b') S) r) : Ev S T te σ H (of b' S) (bd r getR?) := ev_as h fun x y e H1 H2 v d hv => by cases x with | inr z => cases e; exact hv | inl z => cases e
theorem all_getL {S : AS} {H : Hp} : ∀ {vs : List V} {xs : List (α ⊕ β)} {ys : List α}, All2 ((tU a b').rp S H) vs xs → mapO getL? xs = some ys → All2 (a.rp S H) vs ys
  | _, _, _, .nil, e => by cases e; exact .nil
  | _, x :: xs, ys, .cons h r, e => by
    obtain ⟨y, hy, e⟩ := bd_some e
    obtain ⟨zs, hz, e⟩ := bd_some e
    cases e
    cases x with
    | inl z => cases hy; exact .cons h (all_getL r hz)
    | inr z => cases hy
theorem ev_mapGL {r : Option (List (α ⊕ β))} (h : Ev S T te σ H (of (tL (tU a b')) S) r) : Ev S T te σ H (of (tL a) S) (bd r (mapO getL?)) := ev_as h fun x y e H1 H2 v d ⟨p, vs, ev, hp, ha⟩ => ⟨p, vs, ev, hp, all_getL ha e⟩
/-- a number or a truth -/
theorem ev_isiUB {r : Option (Int ⊕ Bool)} (h : Ev S T te σ H (of (K := K) (tU tInt tBool) S) r) : Ev S T (tCB (rIsi K) (tCons te (tCons (tC (.ty "bool")) tNil))) σ H (of (K := K) tBool S) (bd r fun x => some x.isRight) := by
  intro z e H1 f1 d Q q
  obtain ⟨x, ex, e⟩ := bd_some e
  cases e
  refine h x ex H1 f1 d _ fun v H2 s hv => ?_
  cases x with
  | inl i => cases hv; exact ⟨_, _, _, _, false, rfl, .ty _, .base (.int i), kit_ty (by decide +kernel), q _ H2 s rfl⟩
  | inr k => cases hv; exact ⟨_, _, _, _, true, rfl, .ty _, .base (.bl k), kit_ty (by decide +kernel), q _ H2 s rfl⟩
theorem ev_isiUI {r : Option (Int ⊕ Bool)} (h : Ev S T te σ H (of (K := K) (tU tInt tBool) S) r) : Ev S T (tCB (rIsi K) (tCons te (tCons (tC (.ty "int")) tNil))) σ H (of (K := K) tBool S) (bd r fun _ => some true) := by
  intro z e H1 f1 d Q q
  obtain ⟨x, ex, e⟩ := bd_some e
  cases e
  refine h x ex H1 f1 d _ fun v H2 s hv => ?_
  cases x with
  | inl i => cases hv; exact ⟨_, _, _, _, true, rfl, .ty _, .base (.int i), kit_ty (by decide +kernel), q _ H2 s rfl⟩
  | inr k => cases hv; exact ⟨_, _, _, _, true, rfl, .ty _, .base (.bl k), kit_ty (by decide +kernel), q _ H2 s rfl⟩
/-! ### texts, however they were made -/
def tTx : Ty K Str := ⟨fun _ _ v i => v = .str i, fun _ h => h, fun _ h => h, fun _ h => h⟩
theorem ev_s2x {r : Option Str} (h : Ev S T te σ H (of (K := K) tStr S) r) : Ev S T te σ H (of (K := K) tTx S) r := fun x ex H1 f d Q q => h x ex H1 f d Q fun v H2 s hv => q v H2 s hv.1
theorem ev_tx {z : Str} : Ev S T (tC (.str z)) σ H (of (K := K) tTx S) (some z) := fun x e H1 f d Q q => by cases e; exact q _ H1 (Same.refl _) rfl
theorem od_eqX : OpD (K := K) tTx tTx S (of (K := K) tBool S) rEq (fun i j => some (decide (i = j))) := by
  intro x y z e H1 v w d hv hw Q q
  cases hv; cases hw; cases e
  refine ⟨rfl, ?_⟩
  rw [show decide (V.str x = V.str y) = decide (x = y) by simp]
  exact q _ H1 (Same.refl _) rfl
def shw? (i : Int) : Option Str := if i.natAbs.log2 < 1920 then some (toString i) else none
theorem ev_strI {r : Option Int} (h : Ev S T te σ H (of (K := K) tInt S) r) : Ev S T (tCB (fun xs H Q => ∃ i, xs = [.int i] ∧ i.natAbs.log2 < 1920 ∧ Q (.str (toString i)) H) (tCons te tNil)) σ H (of (K := K) tTx S) (bd r shw?) := by
  intro z e H1 f1 d Q q
  obtain ⟨x, ex, e⟩ := bd_some e
  unfold shw? at e
  split at e
  · rename_i hx
    cases e
    refine h x ex H1 f1 d _ fun v H2 s hv => ?_
    cases hv
    exact ⟨x, rfl, hx, q _ H2 s rfl⟩
  · cases e
/-! f-strings of numbers and texts -/
theorem ev_fmtI {r : Option Int} (h : Ev S T te σ H (of (K := K) tInt S) r) : Ev S T (tFmt te) σ H (of (K := K) tTx S) (bd r shw?) := by
  intro z e H1 f1 d Q q
  obtain ⟨x, ex, e⟩ := bd_some e
  unfold shw? at e
  split at e
  · rename_i hx
    cases e
    refine h x ex H1 f1 d _ fun v H2 s hv => ?_
    cases hv
    exact .inr ⟨x, rfl, hx, q _ H2 s rfl⟩
  · cases e
def catX? (x y : Str) : Option Str := if (x ++ y).length ≤ sizeLine then some (x ++ y) else none
/-- the parts of an f-string -/
def EvJ (S T : AS) (ts : List TE) (σ : St) (H : Hp) (r : Str → Option Str) : Prop :=
  ∀ acc x, r acc = some x → ∀ H1, Fr T H H1 → Dom S H1 → ∀ Q : Str → Hp → Prop, (∀ H2, Same H1 H2 → Q x H2) → tJs ts acc σ H1 Q
theorem ej_nil : EvJ S T [] σ H some := fun acc x e H1 f d Q q => by cases e; exact q H1 (Same.refl _)
theorem ej_cons {ts : List TE} {ra : Option Str} {rr : Str → Option Str} (h : Ev S T te σ H (of (K := K) tTx S) ra) (hr : EvJ S T ts σ H rr) : EvJ S T (te :: ts) σ H (fun acc => bd ra fun y => bd (catX? acc y) rr) := by
  intro acc x e H1 f1 d Q q
  obtain ⟨y, ey, e⟩ := bd_some e
  obtain ⟨z, ez, e⟩ := bd_some e
  unfold catX? at ez
  split at ez
  · rename_i hz
    cases ez
    refine h y ey H1 f1 d _ fun v H2 s hv => ⟨y, hv, hz, ?_⟩
    exact hr _ x e H2 (f1.trans (Fr.same s)) (d.same s) Q fun H3 s3 => q H3 (s.trans s3)
  · cases ez
theorem ev_joined {ts : List TE} {rr : Str → Option Str} (h : EvJ S T ts σ H rr) : Ev S T (fun σ H Q => tJs ts Str.empty σ H fun out H1 => Q (.str out) H1) σ H (of (K := K) tTx S) (rr Str.empty) := fun x e H1 f d Q q => h _ x e H1 f d _ fun H2 s => q _ H2 s rfl
/-! ### instances of an own class by their fields -/
/-- an instance of the class at C, its fields by F -/
def tIn (C : Addr) (F : α → List (Str × V)) : Ty K α where
  rp S H v x := ∃ p dx, v = .ref p ∧ H p = some (.ins C dx (F x)) ∧ p ∉ S
  mono f := fun ⟨p, dx, e, h, n⟩ => ⟨p, dx, e, f _ _ h n, n⟩
  ext f := fun ⟨p, dx, e, h, n⟩ => ⟨p, dx, e, h, not_cons f (by rw [h]; intro z; cases z) n⟩
  sub f := fun ⟨p, dx, e, h, n⟩ => ⟨p, dx, e, h, fun m => n (f _ m)⟩
theorem ev_fld {C : Addr} {F : α → List (Str × V)} {f : Str} {r : Option α} {g : α → β} (c : Cls K C) (na : NoAttr K C f) (hf : ∀ x, ∃ v, (F x).lookup f = some v ∧ ∀ S H, b'.rp S H v (g x)) (h : Ev S T te σ H (of (tIn (K := K) C F) S) r) : Ev S T (tFld K te f) σ H (of b' S) (bd r fun x => some (g x)) := by
  intro z e H1 f1 d Q q
  obtain ⟨x, ex, e⟩ := bd_some e
  cases e
  refine h x ex H1 f1 d _ fun v H2 s ⟨p, dx, ev, hp, n⟩ => ?_
  obtain ⟨v, hv, hr⟩ := hf x
  exact ⟨p, C, dx, F x, v, ev, hp, c, na, hv, q v H2 s (hr S H2)⟩
/-- x.m() -/
theorem ev_meth0 {C : Addr} {F : α → List (Str × V)} {m : Str} {r : Option α} {R : AS → Rl γ} {f : α × Unit → Option γ} {E : XK} (hf : ∀ x, (F x).lookup m = none) (h : Ev S T te σ H (of (tIn (K := K) C F) S) r) : Ev S T (tMeth C m (spF (aCons (tIn (K := K) C F) aNil) R f) [] E te tNil) σ H (R S) (bd r fun x => f (x, ())) := by
  intro z e H1 f1 d Q q
  obtain ⟨x, ex, e⟩ := bd_some e
  refine h x ex H1 f1 d _ fun v H2 s ⟨p, dx, ev, hp, n⟩ => ⟨p, dx, F x, ev, hp, hf x, ?_⟩
  exact ⟨S, (x, ()), z, d.same s, ⟨v, [], by simp, ⟨p, dx, ev, hp, n⟩, rfl⟩, e, fun u H' s' hu => q u H' (s.trans s') ((R S).same s hu)⟩
/-- str(x), repr(x) -/
theorem ev_strOf {C : Addr} {F : α → List (Str × V)} {r : Option α} {f : α × Unit → Option Str} {E : XK} (h : Ev S T te σ H (of (tIn (K := K) C F) S) r) : Ev S T (tCB (rStrI C (spF (aCons (tIn (K := K) C F) aNil) (fun S => of (K := K) tTx S) f) E) (tCons te tNil)) σ H (of (K := K) tTx S) (bd r fun x => f (x, ())) := by
  intro z e H1 f1 d Q q
  obtain ⟨x, ex, e⟩ := bd_some e
  refine h x ex H1 f1 d _ fun v H2 s ⟨p, dx, ev, hp, n⟩ => ⟨p, dx, F x, by rw [ev], hp, ?_⟩
  exact ⟨S, (x, ()), z, d.same s, ⟨.ref p, [], rfl, ⟨p, dx, rfl, hp, n⟩, rfl⟩, e, fun u H' s' hu => ⟨z, hu, q u H' (s.trans s') hu⟩⟩
/-- x == y, x != y, x == a number, by the own __eq__ -/
theorem od_eqI2 {C : Addr} {F : α → List (Str × V)} {f : α × α × Unit → Option Bool} {E : XK} : OpD (tIn (K := K) C F) (tIn (K := K) C F) S (of (K := K) tBool S) (rOwnI C (spF (aCons (tIn (K := K) C F) (aCons (tIn (K := K) C F) aNil)) (fun S => of (K := K) tBool S) f) E) (fun x y => f (x, y, ())) := by
  intro x y z e H1 v w d ⟨p, dx, ev, hp, n⟩ ⟨p', dx', ev', hp', n'⟩ Q q
  exact ⟨p, dx, F x, ev, hp, .inl ⟨p', dx', F y, ev', hp'⟩, S, (x, y, ()), z, d, ⟨v, [w], rfl, ⟨p, dx, ev, hp, n⟩, w, [], rfl, ⟨p', dx', ev', hp', n'⟩, rfl⟩, e, fun u H' s hu => q u H' s hu⟩
theorem od_neI2 {C : Addr} {F : α → List (Str × V)} {f : α × α × Unit → Option Bool} {E : XK} : OpD (tIn (K := K) C F) (tIn (K := K) C F) S (of (K := K) tBool S) (rNeI C (spF (aCons (tIn (K := K) C F) (aCons (tIn (K := K) C F) aNil)) (fun S => of (K := K) tBool S) f) E) (fun x y => bd (f (x, y, ())) fun k => some (!k)) := by
  intro x y z e H1 v w d ⟨p, dx, ev, hp, n⟩ ⟨p', dx', ev', hp', n'⟩ Q q
  obtain ⟨k, ek, e⟩ := bd_some e
  cases e
  exact ⟨p, dx, F x, p', dx', F y, ev, hp, ev', hp', S, (x, y, ()), k, d, ⟨v, [w], rfl, ⟨p, dx, ev, hp, n⟩, w, [], rfl, ⟨p', dx', ev', hp', n'⟩, rfl⟩, ek, fun u H' s hu => ⟨k, hu, q _ H' s rfl⟩⟩
theorem od_eqIi {C : Addr} {F : α → List (Str × V)} {f : α × Int × Unit → Option Bool} {E : XK} : OpD (tIn (K := K) C F) (K := K) tInt S (of (K := K) tBool S) (rOwnI C (spF (aCons (tIn (K := K) C F) (aCons (K := K) tInt aNil)) (fun S => of (K := K) tBool S) f) E) (fun x y => f (x, y, ())) := by
  intro x y z e H1 v w d ⟨p, dx, ev, hp, n⟩ hw Q q
  exact ⟨p, dx, F x, ev, hp, .inr ⟨y, hw⟩, S, (x, y, ()), z, d, ⟨v, [w], rfl, ⟨p, dx, ev, hp, n⟩, w, [], rfl, hw, rfl⟩, e, fun u H' s hu => q u H' s hu⟩
/-- isinstance(x, C) of an instance, of a number -/
theorem ev_isiC {C C' : Addr} {F : α → List (Str × V)} {r : Option α} {k : Bool} (hk : PySem.W.kitOne K (.ref C) (.ref C') = some k) (hc : ∀ H p dx fs, H p = some (.ins C dx fs) → TyX K H (.ref p) (.ref C)) (h : Ev S T te σ H (of (tIn (K := K) C F) S) r) (hv : ClsV (V.ref C') (.ref C')) :
    Ev S T (tCB (rIsi K) (tCons te (tCons (tC (.ref C')) tNil))) σ H (of (K := K) tBool S) (bd r fun _ => some k) := by
  intro z e H1 f1 d Q q
  obtain ⟨x, ex, e⟩ := bd_some e
  cases e
  exact h x ex H1 f1 d _ fun v H2 s ⟨p, dx, ev, hp, n⟩ => ⟨v, _, _, _, k, rfl, hv, by rw [ev]; exact hc H2 p dx _ hp, hk, q _ H2 s rfl⟩
end
end M
namespace M
open PySem L2 G
section
variable {K : PySem.W.Frag} {α β γ δ ε ρ : Type} {S T : AS} {σ : St} {H : Hp} {b c : Addr} {ta tb te : TE} {a : Ty K α} {b' : Ty K β}
theorem ew_inl {w : Wp α} (h : EvW b c S te σ H (of a S) w) : EvW b c S te σ H (of (tU a b') S) (unW (fun x => some (Sum.inl x)) w) := fun ts P hP H1 f d hB Q q => h ts _ hP H1 f d hB Q fun v H2 x ⟨y, e, hy⟩ f2 d2 hB2 hv => q v H2 y hy f2 d2 hB2 (by cases e; exact hv)
theorem ew_inr {w : Wp β} (h : EvW b c S te σ H (of b' S) w) : EvW b c S te σ H (of (tU a b') S) (unW (fun x => some (Sum.inr x)) w) := fun ts P hP H1 f d hB Q q => h ts _ hP H1 f d hB Q fun v H2 x ⟨y, e, hy⟩ f2 d2 hB2 hv => q v H2 y hy f2 d2 hB2 (by cases e; exact hv)
theorem ev_isiIC {C : Addr} {r : Option Int} (hk : PySem.W.kitOne K (.type "int") (.ref C) = some false) (h : Ev S T te σ H (of (K := K) tInt S) r) : Ev S T (tCB (rIsi K) (tCons te (tCons (tC (.ref C)) tNil))) σ H (of (K := K) tBool S) (bd r fun _ => some false) := by
  intro z e H1 f1 d Q q
  obtain ⟨x, ex, e⟩ := bd_some e
  cases e
  exact h x ex H1 f1 d _ fun v H2 s hv => by cases hv; exact ⟨_, _, _, _, false, rfl, .own _, .base (.int x), hk, q _ H2 s rfl⟩
end
end M
namespace M
open PySem L2 G
section
variable {K : PySem.W.Frag} {S T : AS} {σ : St} {H : Hp} {ta tb te : TE}
def catY? (x y : Str) : Option Str := if x.length + y.length ≤ sizeLine then some (x ++ y) else none
theorem od_catY : OpD (K := K) tTx tTx S (of (K := K) tTx S) (fun x y H Q => ∃ i j, x = .str i ∧ y = .str j ∧ i.length + j.length ≤ sizeLine ∧ Q (.str (i ++ j)) H) catY? := by
  intro x y z e H1 v w d hv hw Q q
  unfold catY? at e
  split at e
  · rename_i hz
    cases e; cases hv; cases hw
    exact ⟨x, y, rfl, rfl, hz, q _ H1 (Same.refl _) rfl⟩
  · cases e
def join? (x : Str) (ys : List Str) : Option Str := if (ys.map (·.length)).sum + ys.length * x.length ≤ 16777216 then some (Txt.join x ys) else none
theorem All2.txs {S : AS} {H : Hp} : ∀ {vs : List V} {xs : List Str}, All2 ((tTx (K := K)).rp S H) vs xs → vs = xs.map V.str
  | _, _, .nil => rfl
  | _, _, .cons h r => by rw [List.map_cons, ← All2.txs r, show _ = _ from h]
theorem ev_join {rx : Option Str} {ry : Option (List Str)} (hx : Ev S T ta σ H (of (K := K) tTx S) rx) (hy : Ev S T tb σ H (of (K := K) (tL tTx) S) ry) : Ev S T (tM1 (fun x xs H Q => ∃ a p, ∃ ys : List Str, x = .str a ∧ xs = [.ref p] ∧ (SqL K H p (ys.map V.str) ∨ SqT K H p (ys.map V.str)) ∧
      (ys.map (·.length)).sum + ys.length * a.length ≤ 16777216 ∧ Q (.str (Txt.join a ys)) H) ta tb) σ H (of (K := K) tTx S) (bd rx fun x => bd ry fun y => join? x y) := by
  intro z e H1 f1 d Q q
  obtain ⟨x, ex, e⟩ := bd_some e
  obtain ⟨ys, ey, e⟩ := bd_some e
  unfold join? at e
  split at e
  · rename_i hz
    cases e
    refine hx x ex H1 f1 d _ fun v H2 s hv => ⟨⟨x, hv⟩, hy ys ey H2 (f1.trans (Fr.same s)) (d.same s) _ fun w H3 s3 ⟨p, vs, ew, hp, ha⟩ => ?_⟩
    refine ⟨x, p, ys, hv, by rw [ew], .inl ?_, hz, q _ H3 (s.trans s3) rfl⟩
    rw [← ha.txs]
    exact hp.sq
  · cases e
end
end M
namespace M
open PySem L2 G
theorem pe_neverE {X : Cx} {e : Expr} : PE X e (fun _ _ _ => False) := ⟨fun _ _ _ _ _ _ h => h.elim⟩
theorem ev_never {S T : AS} {σ : St} {H : Hp} {α : Type} {R : Rl α} : Ev S T (fun _ _ _ => False) σ H R none := fun x e => by cases e
end M

namespace M
open PySem L2 G
/-! ### sorted(d): keys that are texts -/
section
variable {K : PySem.W.Frag} {α β : Type} {S T : AS} {σ : St} {H : Hp} {te : TE} {a : Ty K α} {b' : Ty K β}
def leT (a b : Str) : Prop := a.cps.toList ≤ b.cps.toList
theorem leT_trans {a b c : Str} (h : leT a b) (h' : leT b c) : leT a c := List.le_trans h h'
theorem leT_anti {a b : Str} (h : leT a b) (h' : leT b a) : a = b := by
  have e : a.cps.toList = b.cps.toList := List.le_antisymm h h'
  cases a
  cases b
  exact congrArg Str.mk (Array.toList_inj.mp e)
theorem ris_allT : ∀ (l : List Str) (p : Str), PyProof.Rows.risingS p l = true → (∀ x ∈ l, leT p x) ∧ l.Pairwise leT
  | [], _, _ => ⟨(fun _ h => nomatch h), .nil⟩
  | x :: r, p, h => by
    unfold PyProof.Rows.risingS at h
    rw [Bool.and_eq_true, Bool.not_eq_true'] at h
    rw [PyProof.Rows.ltCps_eq] at h
    have hx : leT p x := of_decide_eq_false h.1
    obtain ⟨i1, i2⟩ := ris_allT r x h.2
    refine ⟨fun y hy => ?_, List.pairwise_cons.mpr ⟨i1, i2⟩⟩
    rcases List.mem_cons.mp hy with rfl | hy
    · exact hx
    · exact leT_trans hx (i1 y hy)
theorem srt_pwT : ∀ {l : List Str}, PyProof.Rows.sortedS l = true → l.Pairwise leT
  | [], _ => .nil
  | x :: r, h => List.pairwise_cons.mpr (ris_allT r x h)
theorem ltS_le {x y : Str} : (!ltS y x) = true ↔ leT x y := by
  unfold ltS leT
  rw [Bool.not_eq_true', decide_eq_false_iff_not]
  exact Iff.rfl
theorem sortS_pw (l : List Str) : (sortBy ltS l).Pairwise leT := by
  unfold sortBy
  have := List.pairwise_mergeSort (le := fun x y : Str => !ltS y x) (fun a b c h1 h2 => ltS_le.mpr (leT_trans (ltS_le.mp h1) (ltS_le.mp h2))) (fun a b => by
    rw [Bool.or_eq_true]
    rcases List.le_total a.cps.toList b.cps.toList with h | h
    · exact .inl (ltS_le.mpr h)
    · exact .inr (ltS_le.mpr h)) l
  exact this.imp fun h => ltS_le.mp h
theorem sortS_perm (l : List Str) : (sortBy ltS l).Perm l := List.mergeSort_perm ..
theorem sortS_eq {ys l : List Str} (hp : ys.Perm l) (hs : PyProof.Rows.sortedS ys = true) : ys = sortBy ltS l :=
  (hp.trans (sortS_perm l).symm).eq_of_pairwise (fun _ _ _ _ h1 h2 => leT_anti h1 h2) (srt_pwT hs) (sortS_pw l)
def ksS? (xs : List (Str × β)) : Option (List Str) := if xs.length < 64 then some (sortBy ltS (xs.map Prod.fst)) else none
def rSrtD : List V → Hp → VK → Prop := fun xs H Q => ∃ (a : Addr) (kvs : List (Key × V)) (ks : List Str), xs = [.ref a] ∧ Rd H a (.dK kvs) ∧ kvs.map (·.1) = ks.map Sum.inr ∧ ks.length < 64 ∧
    ∀ ys p, ys.Perm ks → PyProof.Rows.sortedS ys = true → H p = none → Q (.ref p) (upd H p (.lst (ys.map V.str)))
theorem cr_srtD {X : Cx} (hc : X.calm = true) : CallR X (.builtin "sorted") rSrtD := call_sortedD hc
theorem all_strs {S : AS} {H : Hp} : ∀ {ys : List Str}, (∀ z ∈ ys, PyData.strOk z = true) → All2 ((tStr (K := K)).rp S H) (ys.map V.str) ys
  | [], _ => .nil
  | y :: ys, h => .cons ⟨rfl, h y (List.mem_cons_self ..)⟩ (all_strs fun z hz => h z (List.mem_cons_of_mem _ hz))
theorem srt_core {p : Addr} {kvs : List (Key × V)} {xs : List (Str × β)} {ys : List Str} {Q : VK} (hp : Rd H p (.dK kvs)) (ha : All2 (KvP b' S H) kvs xs) (d : Dom S H) (e : ksS? xs = some ys) (q : ∀ v H2, Same H H2 → nwL (tStr (K := K)) S H H2 v ys → Q v H2) : rSrtD [.ref p] H Q := by
  unfold ksS? at e
  split at e
  · rename_i hl
    cases e
    obtain ⟨k1, k2⟩ := keys_S ha
    refine ⟨p, kvs, xs.map Prod.fst, rfl, hp, k1, by rw [List.length_map]; exact hl, fun ys a hy hs na => ?_⟩
    rw [sortS_eq hy hs]
    refine q _ _ (same_new na) ⟨a, rfl, na, _, upd_same, all_strs fun z hz => k2 z ((sortS_perm _).mem_iff.mp hz)⟩
  · cases e
theorem ev_srtD {r : Option (List (Str × β))} (h : Ev S T te σ H (of (tD Str b') S) r) : Ev S T (tCB rSrtD (tCons te tNil)) σ H (nw (tStr (K := K)) S) (bd r ksS?) := by
  intro z e H1 f1 d Q q
  obtain ⟨xs, ex, e⟩ := bd_some e
  refine h xs ex H1 f1 d _ fun v H2 s ⟨p, kvs, ev, hp, ha, hn⟩ => ?_
  subst ev
  exact srt_core (.inl hp.1) ha (d.same s) e fun v H3 s3 ⟨p, e1, e2, e3⟩ => q v H3 (s.trans s3) ⟨p, e1, s.free e2, e3⟩
theorem ev_ownSrtD {p : Addr} {xs : List (Str × β)} {i : Nat} (o : OwnD b' S H p xs) (nt : p ∉ T) (ts : Sub T S) (hi : σ[i]? = some (some (.ref p))) : Ev S T (tCB rSrtD (tCons (tVar i) tNil)) σ H (nw (tStr (K := K)) S) (ksS? xs) := by
  intro z e H1 f1 d Q q
  refine ⟨_, hi, ?_⟩
  obtain ⟨kvs, hv, ha, hn⟩ := o.fr f1 ts nt
  exact srt_core (.inl hv) ha d e q
end
/-! ### {k: v for x in xs} -/
section
variable {K : PySem.W.Frag} {α β γ κ : Type} [KeyC κ] [DecidableEq κ] {S T : AS} {σ : St} {H : Hp} {te tv tk : TE} {a : Ty K α} {b' : Ty K β} {b c : Addr} {D : Ends} {u : TS}
open KeyC
def dcO (fk : α → Option κ) (fv : α → Option β) : List (κ × β) → List α → Option (List (κ × β))
  | acc, [] => some acc
  | acc, x :: xs => bd (fk x) fun k => bd (fv x) fun y => dcO fk fv (putL acc k y) xs
def dcL? (fk : α → Option κ) (fv : α → Option β) (xs : List α) : Option (List (κ × β)) := if xs.length < 100000 then dcO fk fv [] xs else none
theorem putL_len {xs : List (κ × β)} {k : κ} {x : β} : (putL xs k x).length ≤ xs.length + 1 := by
  unfold putL
  split
  · rw [List.length_map]; omega
  · rw [List.length_append, List.length_singleton]; exact Nat.le_refl _
theorem ev_dc {ck : Ty K κ} [KeyT ck] {wi : TI} {j : Nat} {ws : List Nat} {r : Option (List α)} {fk : α → Option κ} {fv : α → Option β} (h : Sr S T wi σ H a r) (hw : ∀ x, wipe ((wipe σ ws).set j (some x)) ws = wipe σ ws)
    (hk : ∀ (x : α) (v : V) (H2 H' : Hp) (p : Addr), Fr T H H2 → H2 p = none → Same H2 H' → a.rp (p :: S) H' v x → Ev (p :: S) [] tk ((wipe σ ws).set j (some v)) H' (of ck (p :: S)) (fk x))
    (he : ∀ (x : α) (v : V) (H2 H' : Hp) (p : Addr), Fr T H H2 → H2 p = none → Same H2 H' → a.rp (p :: S) H' v x → Ev (p :: S) [] tv ((wipe σ ws).set j (some v)) H' (of b' (p :: S)) (fv x)) :
    Ev S T (tDc wi (gName j) tYes tk tv ws) σ H (nwd b' S) (bd r fun xs => dcL? fk fv xs) := by
  intro z e H1 f1 d Q q
  obtain ⟨xs, ex, e⟩ := bd_some e
  unfold dcL? at e
  split at e
  rotate_left
  · cases e
  rename_i hlen
  refine h xs ex H1 f1 d _ fun J H2 s2 wk => fun Dl hD => ?_
  have d2 := d.same s2
  have sD : Same H2 (upd H2 Dl (.dK [])) := same_new hD
  refine ⟨fun i m H' => m = xs.length - i ∧ i ≤ xs.length ∧ ∃ kvs acc, H' Dl = some (.dK kvs) ∧ Same H2 H' ∧ acc.length ≤ i ∧ All2 (KvP b' (Dl :: S) H') kvs acc ∧ (acc.map Prod.fst).Nodup ∧ dcO fk fv acc (xs.drop i) = some z, ⟨_, rfl, Nat.zero_le _, [], [], upd_same, sD, Nat.zero_le _, .nil, by simp, e⟩, ?_⟩
  rintro i m H' ⟨rfl, hi, kvs, acc, h1, h2, h3, h4, hn, h5⟩
  by_cases cc : i < xs.length
  · right
    rw [List.drop_eq_getElem_cons cc] at h5
    obtain ⟨k, ek, h5⟩ := bd_some h5
    obtain ⟨y, ey, h5⟩ := bd_some h5
    refine ⟨wk.go H' i (Fr.same h2) cc, fun H3 => ∃ kvs acc, H3 Dl = some (.dK kvs) ∧ Same H2 H3 ∧ acc.length ≤ i + 1 ∧ All2 (KvP b' (Dl :: S) H3) kvs acc ∧ (acc.map Prod.fst).Nodup ∧ dcO fk fv acc (xs.drop (i + 1)) = some z, ?_, ?_⟩
    · rintro H3 ⟨kvs, acc, g1, g2, g3, g4, g5, g6⟩
      exact ⟨xs.length - (i + 1), by omega, rfl, by omega, kvs, acc, g1, g2, g3, g4, g5, g6⟩
    · intro v H3 hy
      obtain ⟨rfl, hv⟩ := wk.yl H' i v H3 (Fr.same h2) hy _ (List.getElem?_eq_getElem cc)
      refine ⟨hw v, ?_⟩
      have hx := a.mono (Fr.same h2) (a.ext hD hv)
      have dD := (d2.same h2).cons h1
      refine G.yes_ ?_
      refine hk xs[i] v H2 _ Dl (f1.trans (Fr.same s2)) hD h2 hx k ek _ (Fr.refl _) dD _ fun w H4 s4 hw4 => ?_
      refine he xs[i] v H2 _ Dl (f1.trans (Fr.same s2)) hD h2 hx y ey H4 (Fr.same s4) (dD.same s4) _ fun w2 H5 s5 hw5 => ?_
      obtain ⟨rfl, hok⟩ := KeyT.to hw4
      have t5 := s4.trans s5
      refine ⟨kvs, kk k, rfl, t5 _ _ h1, Nat.lt_of_lt_of_le (by rw [h4.len]; omega : kvs.length < 100000) (by decide), putK kvs (kk k) w2, putL acc k y, upd_same, fun p ob eb => ?_, ?_, ?_, put_nd hn, h5⟩
      · rw [upd_ne (ne_of_none eb hD)]
        exact t5 _ _ (h2 _ _ eb)
      · exact Nat.le_trans putL_len (by omega)
      · have fD : Fr (Dl :: S) H5 (upd H5 Dl (.dK (putK kvs (kk k) w2))) := fr_upd (List.mem_cons_self ..)
        exact (put_all hok hw5 (h4.imp fun _ _ => KvP.mono (Fr.same t5))).imp fun _ _ => KvP.mono fD
  · left
    rw [List.drop_eq_nil_of_le (by omega)] at h5
    cases h5
    exact ⟨wk.st H' i (Fr.same h2) (by omega), q _ _ (s2.trans h2) ⟨Dl, rfl, s2.free hD, kvs, h1, h4, hn⟩⟩
/-! drawn keys -/
theorem ew_ownDGet {ck : Ty K κ} [KeyT ck] {p : Addr} {xs : List (κ × β)} {i : Nat} {w : Wp κ} (o : OwnD b' S H p xs) (nt : p ∉ [b, c]) (hi : σ[i]? = some (some (.ref p))) (hk : EvW b c S tk σ H (of ck S) w) :
    EvW b c S (tDGet (tVar i) tk) σ H (of b' S) (unW (fun k => getK xs k) w) := by
  intro ts P hP H1 f1 d hB Q q
  refine ⟨_, hi, hk ts _ hP H1 f1 d hB _ fun v H2 k hk2 f2 d2 hB2 hv => ?_⟩
  obtain ⟨x, ex, hx⟩ := hk2
  dsimp only at ex
  obtain ⟨kvs, hkv, ha, hn⟩ := o.fr (f1.trans f2) ts nt
  obtain ⟨rfl, hok⟩ := KeyT.to hv
  rcases val_get (k := k) ha with ⟨g1, _⟩ | ⟨y, u, g1, g2, g3⟩
  · rw [g1] at ex; cases ex
  · rw [g1] at ex
    cases ex
    exact ⟨p, u, rfl, .inl ⟨kvs, kk k, .inl hkv, rfl, g2.symm⟩, q u H2 _ hx f2 d2 hB2 g3⟩
theorem ew_dget {ck : Ty K κ} [KeyT ck] {td : TE} {rd : Option (List (κ × β))} {w : Wp κ} (hd : Ev S [b, c] td σ H (of (tD κ b') S) rd) (hk : EvW b c S tk σ H (of ck S) w) :
    EvW b c S (tDGet td tk) σ H (of b' S) (fun P => lf rd fun d => w fun k => lf (getK d k) P) := by
  intro ts P hP H1 f1 d hB Q q
  obtain ⟨xs, ex, hP⟩ := hP
  refine hd xs ex H1 f1 d _ fun v0 H2 s2 hv0 => hk ts _ hP H2 (f1.trans (Fr.same s2)) (d.same s2) (hB.same s2) _ fun v H3 k hk2 f3 d3 hB3 hv => ?_
  obtain ⟨x, ex, hx⟩ := hk2
  obtain ⟨p, kvs, rfl, hp, ha, hn⟩ := (tD κ b').mono (f3.sub ts) hv0
  obtain ⟨rfl, hok⟩ := KeyT.to hv
  rcases val_get (k := k) ha with ⟨g1, _⟩ | ⟨y, u, g1, g2, g3⟩
  · rw [g1] at ex; cases ex
  · rw [g1] at ex
    cases ex
    exact ⟨p, u, rfl, .inl ⟨kvs, kk k, .inl hp.1, rfl, g2.symm⟩, q u H3 _ hx ((Fr.same s2).trans f3) d3 hB3 g3⟩
/-- d[k] = e, both drawn: the value first -/
theorem lw_dputK {ck : Ty K κ} [KeyT ck] {p : Addr} {xs : List (κ × β)} {i : Nat} {w : Wp β} {wk : Wp κ} {R : List (κ × β) → Prop} (d : Dom S H) (hB : Bag H b c) (ts : Sub [b, c] S) (o : OwnD b' S H p xs) (im : p ∈ S) (nt : p ∉ [b, c]) (hi : σ[i]? = some (some (.ref p))) (h : EvW b c S tv σ H (of b' S) w)
    (hk : EvW b c S tk σ H (of ck S) wk) (e : w fun x => wk fun k => lf (putL? xs k x) R)
    (q : ∀ ys H1 H2, R ys → Fr [b, c] H H1 → Dom S H1 → Bag H1 b c → Mut1 p H1 H2 → Fr S H1 H2 → OwnD b' S H2 p ys → D.nx σ H2) : sDPut (tVar i) tk tv D σ H := by
  refine h ts _ e H (Fr.refl _) d hB _ fun v H1 x hx f1 d1 hB1 hv => ⟨_, hi, ?_⟩
  refine hk ts _ hx H1 f1 d1 hB1 _ fun z H2 k hk2 f2 d2 hB2 hw => ?_
  obtain ⟨ys, ey, hR⟩ := hk2
  obtain ⟨kvs, hkv, ha, hn⟩ := o.fr (f1.trans f2) ts nt
  obtain ⟨rfl, hok⟩ := KeyT.to hw
  unfold putL? at ey
  split at ey
  · rename_i hl
    cases ey
    have g1 : Fr S H2 (upd H2 p (.dK (putK kvs (kk k) v))) := fr_upd im
    refine ⟨p, _, rfl, .inl ⟨kvs, kk k, hkv, rfl, Nat.lt_of_lt_of_le (by rw [ha.len]; exact hl) (by decide), rfl⟩, ?_⟩
    refine q _ H2 _ hR (f1.trans f2) d2 hB2 ⟨fun b ob e n => by rw [upd_ne n]; exact e, by rw [upd_same]; intro z; cases z⟩ g1 ⟨_, upd_same, ?_, put_nd hn⟩
    exact (put_all hok (b'.mono (f2.sub ts) hv) ha).imp fun _ _ => KvP.mono g1
  · cases ey
theorem qw_dputK {ck : Ty K κ} [KeyT ck] {p : Addr} {xs : List (κ × β)} {i : Nat} {w : Wp β} {wk : Wp κ} {R : List (κ × β) → Prop} (d : Dom S H) (hB : Bag H b c) (ts : Sub [b, c] S) (o : OwnD b' S H p xs) (im : p ∈ S) (nt : p ∉ [b, c]) (hi : σ[i]? = some (some (.ref p))) (h : EvW b c S tv σ H (of b' S) w)
    (hk : EvW b c S tk σ H (of ck S) wk) (e : w fun x => wk fun k => lf (putL? xs k x) R)
    (q : ∀ ys H1 H2, R ys → Fr [b, c] H H1 → Dom S H1 → Bag H1 b c → Mut1 p H1 H2 → Fr S H1 H2 → OwnD b' S H2 p ys → u D σ H2) : tSeq (sDPut (tVar i) tk tv) u D σ H := lw_dputK (D := { D with nx := u D }) d hB ts o im nt hi h hk e q
end
end M

namespace M
open PySem L2 G
/-! ### instances whose fields have codes -/
structure FT (K : PySem.W.Frag) (α : Type) where
  rp : AS → Hp → List (Str × V) → α → Prop
  mono : ∀ {S H H' fs x}, Fr S H H' → rp S H fs x → rp S H' fs x
  ext : ∀ {S H q fs x}, H q = none → rp S H fs x → rp (q :: S) H fs x
  sub : ∀ {S S' H fs x}, Sub S' S → rp S H fs x → rp S' H fs x
section
variable {K : PySem.W.Frag} {α β γ δ : Type} {S T : AS} {σ : St} {H : Hp} {te tv : TE} {a : Ty K α} {b' : Ty K β} {ft : FT K α}
def fNil : FT K Unit := ⟨fun _ _ fs _ => fs = [], fun _ h => h, fun _ h => h, fun _ h => h⟩
def fCons (f : Str) (a : Ty K α) (r : FT K β) : FT K (α × β) where
  rp S H fs x := ∃ v fs', fs = (f, v) :: fs' ∧ a.rp S H v x.1 ∧ r.rp S H fs' x.2
  mono g := fun ⟨v, fs', e, h1, h2⟩ => ⟨v, fs', e, a.mono g h1, r.mono g h2⟩
  ext g := fun ⟨v, fs', e, h1, h2⟩ => ⟨v, fs', e, a.ext g h1, r.ext g h2⟩
  sub g := fun ⟨v, fs', e, h1, h2⟩ => ⟨v, fs', e, a.sub g h1, r.sub g h2⟩
def tO (C : Addr) (ft : FT K α) : Ty K α where
  rp S H v x := ∃ p dx fs, v = .ref p ∧ H p = some (.ins C dx fs) ∧ p ∉ S ∧ ft.rp S H fs x
  mono f := fun ⟨p, dx, fs, e, h, n, r⟩ => ⟨p, dx, fs, e, f _ _ h n, n, ft.mono f r⟩
  ext f := fun ⟨p, dx, fs, e, h, n, r⟩ => ⟨p, dx, fs, e, h, not_cons f (by rw [h]; intro z; cases z) n, ft.ext f r⟩
  sub f := fun ⟨p, dx, fs, e, h, n, r⟩ => ⟨p, dx, fs, e, h, fun m => n (f _ m), ft.sub f r⟩
/-- a field of it -/
def Fget (ft : FT K α) (f : Str) (b' : Ty K β) (g : α → β) : Prop := ∀ S H fs x, ft.rp S H fs x → ∃ v, fs.lookup f = some v ∧ b'.rp S H v (g x)
def Fno (ft : FT K α) (f : Str) : Prop := ∀ S H fs x, ft.rp S H fs x → fs.lookup f = none
theorem fget_here {f : Str} {a : Ty K α} {r : FT K β} : Fget (fCons f a r) f a (fun x => x.1) := by
  rintro S H fs x ⟨v, fs', rfl, h1, h2⟩
  exact ⟨v, by simp [List.lookup], h1⟩
theorem fget_there {f f' : Str} {a : Ty K α} {r : FT K β} {c : Ty K γ} {g : β → γ} (n : (f == f') = false) (h : Fget r f c g) : Fget (fCons f' a r) f c (fun x => g x.2) := by
  rintro S H fs x ⟨v, fs', rfl, h1, h2⟩
  obtain ⟨w, e, hw⟩ := h S H fs' x.2 h2
  exact ⟨w, by rw [List.lookup_cons, n]; exact e, hw⟩
theorem fno_nil {f : Str} : Fno (K := K) fNil f := fun S H fs x h => by cases h; rfl
theorem fno_cons {f f' : Str} {a : Ty K α} {r : FT K β} (n : (f == f') = false) (h : Fno r f) : Fno (fCons f' a r) f := by
  rintro S H fs x ⟨v, fs', rfl, h1, h2⟩
  rw [List.lookup_cons, n]
  exact h S H fs' x.2 h2
theorem ev_fldO {C : Addr} {f : Str} {r : Option α} {g : α → β} (c : Cls K C) (na : NoAttr K C f) (hf : Fget ft f b' g) (h : Ev S T te σ H (of (tO C ft) S) r) : Ev S T (tFld K te f) σ H (of b' S) (bd r fun x => some (g x)) := by
  intro z e H1 f1 d Q q
  obtain ⟨x, ex, e⟩ := bd_some e
  cases e
  refine h x ex H1 f1 d _ fun v H2 s ⟨p, dx, fs, ev, hp, n, hr⟩ => ?_
  obtain ⟨w, hw, hr⟩ := hf S H2 fs x hr
  exact ⟨p, C, dx, fs, w, ev, hp, c, na, hw, q w H2 s hr⟩
/-- x.m() -/
theorem ev_methO0 {C : Addr} {m : Str} {r : Option α} {R : AS → Rl γ} {f : α × Unit → Option γ} {E : XK} (hf : Fno ft m) (h : Ev S T te σ H (of (tO C ft) S) r) : Ev S T (tMeth C m (spF (aCons (tO C ft) aNil) R f) [] E te tNil) σ H (R S) (bd r fun x => f (x, ())) := by
  intro z e H1 f1 d Q q
  obtain ⟨x, ex, e⟩ := bd_some e
  refine h x ex H1 f1 d _ fun v H2 s ⟨p, dx, fs, ev, hp, n, hr⟩ => ⟨p, dx, fs, ev, hp, hf S H2 fs x hr, ?_⟩
  exact ⟨S, (x, ()), z, d.same s, ⟨v, [], by simp, ⟨p, dx, fs, ev, hp, n, hr⟩, rfl⟩, e, fun u H' s' hu => q u H' (s.trans s') ((R S).same s hu)⟩
/-- x.m(y) -/
theorem ev_methO1 {C : Addr} {m : Str} {r : Option α} {ry : Option β} {R : AS → Rl γ} {f : α × β × Unit → Option γ} {E : XK} (hf : Fno ft m) (h : Ev S T te σ H (of (tO C ft) S) r) (hy : Ev S T tv σ H (of b' S) ry) : Ev S T (tMeth C m (spF (aCons (tO C ft) (aCons b' aNil)) R f) [] E te (tCons tv tNil)) σ H (R S) (bd r fun x => bd ry fun y => f (x, y, ())) := by
  intro z e H1 f1 d Q q
  obtain ⟨x, ex, e⟩ := bd_some e
  obtain ⟨y, ey, e⟩ := bd_some e
  refine h x ex H1 f1 d _ fun v H2 s ⟨p, dx, fs, ev, hp, n, hr⟩ => ⟨p, dx, fs, ev, hp, hf S H2 fs x hr, ?_⟩
  refine hy y ey H2 (f1.trans (Fr.same s)) (d.same s) _ fun w H3 s3 hw => ?_
  have hv := (tO C ft).mono (Fr.same s3) (⟨p, dx, fs, ev, hp, n, hr⟩ : (tO C ft).rp S H2 v x)
  exact ⟨S, (x, y, ()), z, (d.same s).same s3, ⟨v, [w], by simp, hv, w, [], rfl, hw, rfl⟩, e, fun u H' s' hu => q u H' ((s.trans s3).trans s') ((R S).same (s.trans s3) hu)⟩
end
end M

namespace M
open PySem L2 G
section
variable {K : PySem.W.Frag} {α β γ δ ε ρ : Type} {S T : AS} {σ : St} {H : Hp} {ta tb tc te : TE} {a : Ty K α} {b : Ty K β} {c : Ty K γ} {D : Ends} {u : TS}
/-! ### a list of three things of three kinds -/
def tL3 (c : Ty K α) (d : Ty K β) (e : Ty K γ) : Ty K (α × β × γ) where
  rp S H v x := ∃ a u w y, v = .ref a ∧ nL K S H a [u, w, y] ∧ c.rp S H u x.1 ∧ d.rp S H w x.2.1 ∧ e.rp S H y x.2.2
  mono f := fun ⟨a, u, w, y, ev, h, h1, h2, h3⟩ => ⟨a, u, w, y, ev, h.mono f, c.mono f h1, d.mono f h2, e.mono f h3⟩
  ext f := fun ⟨a, u, w, y, ev, h, h1, h2, h3⟩ => ⟨a, u, w, y, ev, h.ext f, c.ext f h1, d.ext f h2, e.ext f h3⟩
  sub f := fun ⟨a, u, w, y, ev, h, h1, h2, h3⟩ => ⟨a, u, w, y, ev, h.sub f, c.sub f h1, d.sub f h2, e.sub f h3⟩
theorem ev_lst3 {ra : Option α} {rb : Option β} {rc : Option γ} (ha : Ev S T ta σ H (of a S) ra) (hb : Ev S T tb σ H (of b S) rb) (hc : Ev S T tc σ H (of c S) rc) : Ev S T (tLst (tCons ta (tCons tb (tCons tc tNil)))) σ H (of (tL3 a b c) S) (bd ra fun x => bd rb fun y => bd rc fun z => some (x, y, z)) := by
  intro z e H1 f1 d Q q
  obtain ⟨x, ex, e⟩ := bd_some e
  obtain ⟨y, ey, e⟩ := bd_some e
  obtain ⟨t, et, e⟩ := bd_some e
  cases e
  refine ha x ex H1 f1 d _ fun v H2 s2 hv => hb y ey H2 (f1.trans (Fr.same s2)) (d.same s2) _ fun w H3 s3 hw => hc t et H3 (f1.trans (Fr.same (s2.trans s3))) (d.same (s2.trans s3)) _ fun r H4 s4 hr => ⟨(by show 3 ≤ sizeLine; decide), fun p hp => ?_⟩
  have s5 := same_new (o := .lst [v, w, r]) hp
  exact q _ _ (s2.trans (s3.trans (s4.trans s5))) ⟨p, v, w, r, rfl, ⟨upd_same, (d.same (s2.trans (s3.trans s4))).not_mem hp⟩, a.mono (Fr.same (s3.trans (s4.trans s5))) hv, b.mono (Fr.same (s4.trans s5)) hw, c.mono (Fr.same s5) hr⟩
theorem ev_ixL30 {ra : Option (α × β × γ)} (ha : Ev S T ta σ H (of (tL3 a b c) S) ra) : Ev S T (tOp (rIxL K) ta (tC (.int 0))) σ H (of a S) (bd ra fun x => some x.1) :=
  ev_ixL_ ha fun x H v ⟨p, u, w, y, e, h, h1, h2, h3⟩ => ⟨p, _, u, e, h.sq, rfl, h1⟩
theorem ev_ixL31 {ra : Option (α × β × γ)} (ha : Ev S T ta σ H (of (tL3 a b c) S) ra) : Ev S T (tOp (rIxL K) ta (tC (.int 1))) σ H (of b S) (bd ra fun x => some x.2.1) :=
  ev_ixL_ ha fun x H v ⟨p, u, w, y, e, h, h1, h2, h3⟩ => ⟨p, _, w, e, h.sq, rfl, h2⟩
theorem ev_ixL32 {ra : Option (α × β × γ)} (ha : Ev S T ta σ H (of (tL3 a b c) S) ra) : Ev S T (tOp (rIxL K) ta (tC (.int 2))) σ H (of c S) (bd ra fun x => some x.2.2) :=
  ev_ixL_ ha fun x H v ⟨p, u, w, y, e, h, h1, h2, h3⟩ => ⟨p, _, y, e, h.sq, rfl, h3⟩
theorem q_unpL3 {i j l : Nat} {r : Option (α × β × γ)} {x : α × β × γ} (d : Dom S H) (h : Ev S T te σ H (of (tL3 a b c) S) r) (e : r = some x) (k : ∀ v w y H1, Same H H1 → a.rp S H1 v x.1 → b.rp S H1 w x.2.1 → c.rp S H1 y x.2.2 → u D (((σ.set i (some v)).set j (some w)).set l (some y)) H1) :
    tSeq (tAsg te (gLst K 3 (gCons (gName i) (gCons (gName j) (gCons (gName l) gNil))))) u D σ H := h x e H (Fr.refl _) d _ fun v H1 s1 ⟨p, u1, u2, u3, ev, hp, h1, h2, h3⟩ => ⟨p, _, ev, hp.sq, rfl, u1, _, rfl, u2, _, rfl, u3, _, rfl, rfl, k u1 u2 u3 H1 s1 h1 h2 h3⟩
theorem ew_as {b1 c1 : Addr} {w : Wp α} {f : α → Option β} (h : EvW b1 c1 S te σ H (of a S) w) (k : ∀ x y, f x = some y → ∀ H1 v, a.rp S H1 v x → b.rp S H1 v y) : EvW b1 c1 S te σ H (of b S) (unW f w) :=
  fun ts P hP H1 f1 d hB Q q => h ts _ hP H1 f1 d hB Q fun v H2 x ⟨y, e, hy⟩ f2 d2 hB2 hv => q v H2 y hy f2 d2 hB2 (k x y e H2 v hv)
theorem ew_p2r {b1 c1 : Addr} {w : Wp (Int × Int)} (h : EvW b1 c1 S te σ H (of (K := K) (tT2 tInt tInt) S) w) : EvW b1 c1 S te σ H (of (K := K) tRat S) (unW p2r w) := ew_as h fun x y e H2 v ⟨p, u, w, ev, hp, h1, h2⟩ => by
  unfold p2r at e
  split at e
  · rename_i hc
    cases e
    refine ⟨p, ev, ?_⟩
    rw [hc.1, hc.2, ← h1, ← h2]
    exact hp
  · cases e

/-! ### texts -/
def ixS? (z : Str) (i : Int) : Option Str := if z.length ≤ 100000 then (atI z.cps.toList i).map fun c => ⟨#[c]⟩ else none
theorem strOk_all {z : Str} (h : PyData.strOk z = true) : ∀ c ∈ z.cps.toList, c < 1114112 := by
  unfold PyData.strOk at h
  rw [← Array.all_toList, List.all_eq_true] at h
  exact fun c hc => of_decide_eq_true (h c hc)
theorem strOk_of {z : Str} (h : ∀ c ∈ z.cps.toList, c < 1114112) : PyData.strOk z = true := by
  unfold PyData.strOk
  rw [← Array.all_toList, List.all_eq_true]
  exact fun c hc => decide_eq_true (h c hc)
theorem atI_mem' {α : Type} {xs : List α} {i : Int} {x : α} (h : atI xs i = some x) : x ∈ xs := by
  unfold atI at h
  cases e : ixN xs.length i with
  | none => rw [e] at h; cases h
  | some j => rw [e] at h; exact List.mem_of_getElem? h
theorem od_ixS : OpD (K := K) tStr tInt S (of (K := K) tStr S) rIxS ixS? := by
  intro x y z e H1 v w d hv hw Q q
  obtain ⟨rfl, ok⟩ := hv
  cases hw
  unfold ixS? at e
  split at e
  · rename_i hl
    cases ha : atI x.cps.toList y with
    | none => rw [ha] at e; cases e
    | some ch =>
      rw [ha] at e
      cases e
      refine ⟨x, y, ch, rfl, rfl, Nat.le_trans hl (by decide), ha, q _ H1 (Same.refl _) ⟨rfl, strOk_of fun c hc => ?_⟩⟩
      have : c = ch := by simpa using hc
      rw [this]
      exact strOk_all ok ch (atI_mem' ha)
  · cases e
def rMulS : R2 := fun x y H Q => ∃ z i, x = .str z ∧ y = .int i ∧ z.length ≤ 16 ∧ 0 ≤ i ∧ i ≤ 1000 ∧ Q (.str (Txt.mul z i)) H
theorem op_mulS {X : Cx} : OpR X (binaryOp .Mult) rMulS := by
  intro pins s σ H x y v u Q I rx ry h
  obtain ⟨z, i, rfl, rfl, h1, h2, h3, q⟩ := h
  obtain ⟨t, rfl⟩ := rx
  obtain ⟨t', rfl⟩ := ry
  exact PySem.W.KXi.mul rfl h1 (by omega) (by omega) fun t' k _ _ => ⟨.str (Txt.mul z i), H, I.tok _, ⟨_, rfl⟩, q⟩
def mulS? (z : Str) (i : Int) : Option Str := if z.length ≤ 16 ∧ 0 ≤ i ∧ i ≤ 1000 then some (Txt.mul z i) else none
theorem strOk_mul {z : Str} {i : Int} (h : PyData.strOk z = true) : PyData.strOk (Txt.mul z i) = true := by
  unfold Txt.mul
  split
  · decide +kernel
  split
  · exact h
  · refine strOk_of fun c hc => ?_
    have key : ∀ (n : Nat) (acc : Array Nat), (∀ c ∈ acc.toList, c < 1114112) → ∀ c ∈ ((List.replicate n z.cps).foldl (· ++ ·) acc).toList, c < 1114112 := by
      intro n
      induction n with
      | zero => exact fun acc ha => ha
      | succ n ih =>
        intro acc ha
        rw [List.replicate_succ, List.foldl_cons]
        refine ih _ fun c hc => ?_
        rw [Array.toList_append] at hc
        rcases List.mem_append.mp hc with hc | hc
        · exact ha c hc
        · exact strOk_all h c hc
    exact key _ #[] (by simp) c hc
theorem od_mulS : OpD (K := K) tStr tInt S (of (K := K) tStr S) rMulS mulS? := by
  intro x y z e H1 v w d hv hw Q q
  obtain ⟨rfl, ok⟩ := hv
  cases hw
  unfold mulS? at e
  split at e
  · rename_i hl
    cases e
    exact ⟨x, y, rfl, rfl, hl.1, hl.2.1, hl.2.2, q _ H1 (Same.refl _) ⟨rfl, strOk_mul ok⟩⟩
  · cases e
end
end M

namespace M
open PySem L2 G
section
variable {K : PySem.W.Frag} {α β γ δ ε ρ : Type} {S T : AS} {σ : St} {H : Hp} {ta tv te : TE} {a : Ty K α} {b' : Ty K β} {D : Ends} {u : TS} {ft : FT K α}
/-! ### fields of an instance that is being made -/
theorem putF_ne {f g : Str} {v x : V} {r : List (Str × V)} (h : (g == f) = false) : putF f v ((g, x) :: r) = (g, x) :: putF f v r := by
  have : ¬ g = f := fun e => by subst e; simp at h
  show (if g = f then _ else _) = _
  rw [if_neg this]
theorem putF_lt {f : Str} {v : V} : ∀ {fs : List (Str × V)} {n : Nat}, fs.length < n → (putF f v fs).length < n + 1
  | [], n, h => by show 1 < n + 1; simp at h; omega
  | (g, x) :: r, n, h => by
    show (if g = f then (g, v) :: r else (g, x) :: putF f v r).length < n + 1
    simp only [List.length_cons] at h
    split
    · simp only [List.length_cons]; omega
    · obtain ⟨k, rfl⟩ : ∃ k, n = k + 1 := ⟨n - 1, by omega⟩
      have := putF_lt (f := f) (v := v) (fs := r) (n := k) (by omega)
      simp only [List.length_cons]
      omega
theorem putF_nil {f : Str} {v : V} : putF f v [] = [(f, v)] := rfl
theorem l_fldO {p dx C : Addr} {fs : List (Str × V)} {i : Nat} {f : Str} {r : Option β} {y : β} (d : Dom S H) (im : p ∈ S) (hp : H p = some (.ins C dx fs)) (hi : σ[i]? = some (some (.ref p))) (cl : Cls K C) (na : NoAttr K C f) (hl : fs.length < 1000) (h : Ev S [] tv σ H (of b' S) r) (e : r = some y)
    (q : ∀ H1 v, Fr S H H1 → (∀ q o, H q = some o → q ≠ p → H1 q = some o) → Dom S H1 → H1 p = some (.ins C dx (putF f v fs)) → b'.rp S H1 v y → D.nx σ H1) : sFld K (tVar i) tv f D σ H := by
  refine h y e H (Fr.refl _) d _ fun v H1 s1 hv => ⟨_, hi, p, C, dx, fs, rfl, s1 _ _ hp, cl, na, hl, ?_⟩
  have f1 : Fr S H1 (upd H1 p (.ins C dx (putF f v fs))) := fr_upd im
  refine q _ v ((Fr.same s1).trans f1) (fun q o eq n => by rw [upd_ne n]; exact s1 _ _ eq) (fun x hx ex => ?_) upd_same (b'.mono f1 hv)
  by_cases c : x = p
  · subst c; rw [upd_same] at ex; cases ex
  · rw [upd_ne c] at ex; exact d.same s1 x hx ex
theorem q_fldO {p dx C : Addr} {fs : List (Str × V)} {i : Nat} {f : Str} {r : Option β} {y : β} (d : Dom S H) (im : p ∈ S) (hp : H p = some (.ins C dx fs)) (hi : σ[i]? = some (some (.ref p))) (cl : Cls K C) (na : NoAttr K C f) (hl : fs.length < 1000) (h : Ev S [] tv σ H (of b' S) r) (e : r = some y)
    (q : ∀ H1 v, Fr S H H1 → (∀ q o, H q = some o → q ≠ p → H1 q = some o) → Dom S H1 → H1 p = some (.ins C dx (putF f v fs)) → b'.rp S H1 v y → u D σ H1) : tSeq (sFld K (tVar i) tv f) u D σ H := l_fldO (D := { D with nx := u D }) d im hp hi cl na hl h e q
/-- C(..): the fields are told by the arguments -/
def spInitO (C : Addr) (ar : TyA K β) (ft : FT K α) (m : β → Option α) : Sp := fun vs H Q _ => ∃ (S : AS) (p dx : Addr) (ws : List V) (x : β) (y : α), vs = .ref p :: ws ∧ H p = some (.ins C dx []) ∧ Dom (p :: S) H ∧ ar.rp (p :: S) H ws x ∧ m x = some y ∧
  ∀ H' fs, (∀ q o, H q = some o → q ≠ p → H' q = some o) → H' p = some (.ins C dx fs) → ft.rp S H' fs y → Q .non H'
theorem ev_makeO {ta : TA} {C : Addr} {ar : TyA K β} {m : β → Option α} {r : Option β} {E : XK} (ext : ∀ {S H q vs x}, H q = none → ar.rp S H vs x → ar.rp (q :: S) H vs x) (h : EvA S T ta σ H ar r) : Ev S T (tMake C (spInitO C ar ft m) [] E ta) σ H (of (tO C ft) S) (bd r m) := by
  intro z e H1 f1 d Q q
  obtain ⟨x, ex, e⟩ := bd_some e
  refine h x ex H1 f1 d _ fun vs H2 s2 hvs => fun p dx np ndx ne => ?_
  have sM : Same H2 (upd (upd H2 dx (.own p)) p (.ins C dx [])) := (same_upd ndx).trans (same_upd (by rw [upd_ne (Ne.symm ne)]; exact np))
  have d2 := d.same s2
  refine ⟨S, p, dx, vs, x, z, by simp, upd_same, ((d2.same sM).cons upd_same), ar.mono (Fr.same sM) (ext np hvs), e, fun H' fs fr hp hf => ⟨rfl, q _ H' (fun a o ea => fr a o (sM _ _ (s2 _ _ ea)) (ne_of_none (s2 _ _ ea) np)) ⟨p, dx, fs, rfl, hp, d2.not_mem np, hf⟩⟩⟩
theorem ax_nil {S : AS} {H : Hp} {q : Addr} {vs : List V} {x : Unit} (n : H q = none) (h : (aNil (K := K)).rp S H vs x) : (aNil (K := K)).rp (q :: S) H vs x := h
theorem ax_cons {ar : TyA K β} (hx : ∀ {S H q vs x}, H q = none → ar.rp S H vs x → ar.rp (q :: S) H vs x) {S : AS} {H : Hp} {q : Addr} {vs : List V} {x : α × β} (n : H q = none) (h : (aCons a ar).rp S H vs x) : (aCons a ar).rp (q :: S) H vs x := by
  obtain ⟨v, r, e, h1, h2⟩ := h
  exact ⟨v, r, e, a.ext n h1, hx n h2⟩
end
end M

namespace M
open PySem L2 G
/-- o.m(e) -/
def tMethX (C : Addr) (m : Str) (sp : Sp) (E : St → XK) (ta : TE) (t : TA) : TE := fun σ H Q => ta σ H fun x H1 => ∃ a dx fs, x = .ref a ∧ H1 a = some (.ins C dx fs) ∧ fs.lookup m = none ∧ t σ H1 fun vs H2 => sp (x :: vs) H2 Q (E σ)
section
variable {K : PySem.W.Frag} {α β γ δ ε ρ : Type} {S T : AS} {σ : St} {H : Hp} {ta tb tv te : TE} {a : Ty K α} {b' : Ty K β} {D : Ends} {u : TS} {ft : FT K α}
/-! ### defs that may refuse: what is told is one of two: which refusal and its text, or a value -/
abbrev Rf : Type := Nat × Str
/-- an exception of the class (cl k).1, with the one field (cl k).2 -/
def Xq (cl : Nat → Addr × Str) (E : XK) (H : Hp) (e : Rf) : Prop := ∀ H' d, Same H H' → H' d = none → E (.ref (cl e.1).1) (some d) (upd H' d (.xd [((cl e.1).2, .str e.2)]))
def spX (ar : TyA K α) (R : AS → Rl γ) (cl : Nat → Addr × Str) (f : α → Option (Rf ⊕ γ)) : Sp := fun vs H Q E => ∃ (S : AS) (x : α) (y : Rf ⊕ γ), Dom S H ∧ ar.rp S H vs x ∧ f x = some y ∧ (∀ z, y = .inr z → ∀ v H', Same H H' → (R S).r H H' v z → Q v H') ∧ (∀ e, y = .inl e → Xq cl E H e)
def rfs? (z : Str) : Option Str := if (PySem.reprText z).length ≤ 1000000 then some z else none
/-- raise C(z) -/
theorem l_raiseE {r : Option Str} {z : Str} {C : Addr} {f : Str} {W : WX} {ok : V → Prop} (hok : ∀ z, (PySem.reprText z).length ≤ 1000000 → ok (.str z)) (d : Dom S H) (h : Ev S T te σ H (of (K := K) tStr S) r) (e : bd r rfs? = some z) (q : ∀ H1 d, Same H H1 → H1 d = none → W (.ref C) (some d) σ (upd H1 d (.xd [(f, .str z)]))) : tRaiseSup C f ok W (tCons te tNil) D σ H := by
  obtain ⟨z', ez, e⟩ := bd_some e
  unfold rfs? at e
  split at e
  · rename_i hl
    cases e
    refine h z ez H (Fr.refl _) d _ fun v H1 s hv => ?_
    obtain ⟨rfl, _⟩ := hv
    exact ⟨_, rfl, hok z hl, fun dd hd => q H1 dd s hd⟩
  · cases e
/-- what a call that may refuse tells -/
def EvX (S T : AS) (te : TE) (σ : St) (H : Hp) (R : Rl γ) (cl : Nat → Addr × Str) (E : XK) (r : Option (Rf ⊕ γ)) : Prop :=
  ∀ y, r = some y → ∀ H1, Fr T H H1 → Dom S H1 → ∀ Q : VK, (∀ z, y = .inr z → ∀ v H2, Same H1 H2 → R.r H1 H2 v z → Q v H2) → (∀ e, y = .inl e → Xq cl E H1 e) → te σ H1 Q
theorem Xq.same {cl : Nat → Addr × Str} {E : XK} {H H1 : Hp} {e : Rf} (s : Same H H1) (h : Xq cl E H e) : Xq cl E H1 e := fun H' d s' nd => h H' d (s.trans s') nd
theorem ev_fnX1 {C : Addr} {m : Str} {r : Option α} {ry : Option β} {R : AS → Rl γ} {cl : Nat → Addr × Str} {f : α × β × Unit → Option (Rf ⊕ γ)} {E : St → XK} (hf : Fno ft m) (h : Ev S T te σ H (of (tO C ft) S) r) (hy : Ev S T tv σ H (of b' S) ry) :
    EvX S T (tMethX C m (spX (aCons (tO C ft) (aCons b' aNil)) R cl f) E te (tCons tv tNil)) σ H (R S) cl (E σ) (bd r fun x => bd ry fun y => f (x, y, ())) := by
  intro z e H1 f1 d Q q qx
  obtain ⟨x, ex, e⟩ := bd_some e
  obtain ⟨y, ey, e⟩ := bd_some e
  refine h x ex H1 f1 d _ fun v H2 s ⟨p, dx, fs, ev, hp, n, hr⟩ => ⟨p, dx, fs, ev, hp, hf S H2 fs x hr, ?_⟩
  refine hy y ey H2 (f1.trans (Fr.same s)) (d.same s) _ fun w H3 s3 hw => ?_
  have hv := (tO C ft).mono (Fr.same s3) (⟨p, dx, fs, ev, hp, n, hr⟩ : (tO C ft).rp S H2 v x)
  exact ⟨S, (x, y, ()), z, (d.same s).same s3, ⟨v, [w], rfl, hv, w, [], rfl, hw, rfl⟩, e, fun z' e' u H' s' hu => q z' e' u H' ((s.trans s3).trans s') ((R S).same (s.trans s3) hu), fun e' ee => (qx e' ee).same (s.trans s3)⟩
theorem q_asgX {i : Nat} {R : Rl γ} {cl : Nat → Addr × Str} {E : XK} {r : Option (Rf ⊕ γ)} {y : Rf ⊕ γ} (d : Dom S H) (h : EvX S T te σ H R cl E r) (e : r = some y) (k : ∀ z, y = .inr z → ∀ v H1, Same H H1 → R.r H H1 v z → u D (σ.set i (some v)) H1) (kx : ∀ e, y = .inl e → Xq cl E H e) : tSeq (tAsg te (gName i)) u D σ H :=
  h y e H (Fr.refl _) d _ (fun z ez v H1 s hv => k z ez v H1 s hv) kx
end
/-- o.m(e): it may refuse -/
theorem pe_methX {X : Cx} {CX : CXT} {k : Nat} {f C : Addr} {fd : FuncData} {ps : List Str} {sp : Sp} {E : St → XK} {m : Str} {pos apos : Pos} {e o : Expr} {es : List Expr} {ta : TE} {t : TA} {pl : Sem Bool} (he : PE X o ta) (c : Cls X.K C) (hm : Meth X.K C m f) (F : FnOk X.prog X.w X.K X.mg X.base CX k f fd ps sp) (hr : Room k X.A) (hb : Binds X.K fd ps []) (hx : ∀ σ, PassesAt CX X σ (E σ)) (ha : PA X (e :: es) t)
    (hst : starEach (e :: es) X.env = (false, eval e X.env) :: starEach es X.env := by rfl) (hpl : (backTo pos (starEach es X.env)).any (·.1) = false := by rfl)
    (ht : eval (.Call (.Attribute o m apos) (e :: es) [] pos) X.env = (do
      let ov ← eval o X.env
      standAt apos.atName
      let (f, first) ← holding [ov] (getMethod ov m pl)
      callWith pos f first (backTo pos (starEach (e :: es) X.env)) (backToKw pos (keywordEach [] X.env))) := by rfl) :
    PE X (.Call (.Attribute o m apos) (e :: es) [] pos) (tMethX C m sp E ta t) := by
  refine ⟨fun pins s σ H Q I h => ?_⟩
  refine PySem.W.methodCall_KW (pl := pl) (thn (he.run pins s σ H _ I h) fun u s1 ⟨x, H1, I1, rx, a, dx, fs, ex, ea, l, q⟩ => ?_) ht
  subst ex
  obtain rfl : u = Value.ref a := rx
  refine getmeth_ok I1 ea c hm l ?_
  refine PySem.W.callWith_K (first := [.ref a]) (h₀ := X.base) I.ok.mod.kin hm.kp (thn (ha.run pos pins s1 σ H1 _ I1 q) fun us s2 ⟨vs, H2, I2, r, q2⟩ => ⟨I2.kIn, ?_⟩) hst hpl
  exact run_fnS (us := .ref a :: us) (vs := .ref a :: vs) F hr hb (hx σ) I2 (.cons rfl r) q2
end M

namespace M
open PySem L2 G
section
variable {K : PySem.W.Frag} {α β γ : Type} {S T : AS} {σ : St} {H : Hp} {a : Ty K α} {b' : Ty K β}
/-- a written tuple of things of one kind -/
theorem ev_tupTs {tr : TA} {n : Nat} {rr : Option (List α)} (h : EvE S T tr σ H a n rr) (hn : n ≤ sizeLine) : Ev S T (tTup tr) σ H (of (tTs a) S) rr := fun x e H1 f d Q q =>
  h x e H1 f d _ fun vs H2 hl s2 ha => ⟨by rw [hl]; exact hn, fun p hp => q _ _ (s2.trans (same_new hp)) ⟨p, vs, rfl, .inl ⟨.inl upd_same, (d.same s2).not_mem hp⟩, ha.imp fun _ _ h => a.mono (Fr.same (same_new hp)) h⟩⟩
end
end M

namespace G
open PySem L2 M

def top (i : Nat) : Stmt := PySem.Challenge.pw_gromatic_k13_lines_of_lands.main.body.getD i (.Pass ⟨0, 0, 0, 0⟩)
abbrev s_greatest_common : Stmt := top 8
abbrev n_greatest_common : List Str := ["one", "other"]
abbrev p_greatest_common : List Str := ["one", "other"]
theorem sc_greatest_common : FnScope n_greatest_common p_greatest_common (defScope s_greatest_common) := ⟨rfl, rfl, rfl, by decide +kernel, rfl, by decide +kernel, by decide +kernel⟩
abbrev s_ratio : Stmt := top 9
abbrev n_ratio : List Str := ["over", "under", "common"]
abbrev p_ratio : List Str := ["over", "under"]
theorem sc_ratio : FnScope n_ratio p_ratio (defScope s_ratio) := ⟨rfl, rfl, rfl, by decide +kernel, rfl, by decide +kernel, by decide +kernel⟩
abbrev s_plus : Stmt := top 10
abbrev n_plus : List Str := ["one", "other"]
abbrev p_plus : List Str := ["one", "other"]
theorem sc_plus : FnScope n_plus p_plus (defScope s_plus) := ⟨rfl, rfl, rfl, by decide +kernel, rfl, by decide +kernel, by decide +kernel⟩
abbrev s_minus : Stmt := top 11
abbrev n_minus : List Str := ["one", "other"]
abbrev p_minus : List Str := ["one", "other"]
theorem sc_minus : FnScope n_minus p_minus (defScope s_minus) := ⟨rfl, rfl, rfl, by decide +kernel, rfl, by decide +kernel, by decide +kernel⟩
abbrev s_size : Stmt := top 12
abbrev n_size : List Str := ["one"]
abbrev p_size : List Str := ["one"]
theorem sc_size : FnScope n_size p_size (defScope s_size) := ⟨rfl, rfl, rfl, by decide +kernel, rfl, by decide +kernel, by decide +kernel⟩
abbrev s_stretch : Stmt := top 13
abbrev n_stretch : List Str := ["start", "end"]
abbrev p_stretch : List Str := ["start", "end"]
theorem sc_stretch : FnScope n_stretch p_stretch (defScope s_stretch) := ⟨rfl, rfl, rfl, by decide +kernel, rfl, by decide +kernel, by decide +kernel⟩
abbrev s_Land___init__ : Stmt := inClass (top 16) 0
abbrev n_Land___init__ : List Str := ["self", "spots", "lines", "sites", "name"]
abbrev p_Land___init__ : List Str := ["self", "spots", "lines", "sites"]
theorem sc_Land___init__ : FnScope n_Land___init__ p_Land___init__ (defScope s_Land___init__) := ⟨rfl, rfl, rfl, by decide +kernel, rfl, by decide +kernel, by decide +kernel⟩
abbrev s_Land_known : Stmt := inClass (top 16) 4
abbrev n_Land_known : List Str := ["self", "name", "mark"]
abbrev p_Land_known : List Str := ["self"]
theorem sc_Land_known : FnScope n_Land_known p_Land_known (defScope s_Land_known) := ⟨rfl, rfl, rfl, by decide +kernel, rfl, by decide +kernel, by decide +kernel⟩
abbrev s_Land_row : Stmt := inClass (top 16) 5
abbrev n_Land_row : List Str := ["self", "name", "told", "mark"]
abbrev p_Land_row : List Str := ["self", "name"]
theorem sc_Land_row : FnScope n_Land_row p_Land_row (defScope s_Land_row) := ⟨rfl, rfl, rfl, by decide +kernel, rfl, by decide +kernel, by decide +kernel⟩
abbrev s_Land_length : Stmt := inClass (top 16) 6
abbrev n_Land_length : List Str := ["self", "name", "spots", "total", "at"]
abbrev p_Land_length : List Str := ["self", "name"]
theorem sc_Land_length : FnScope n_Land_length p_Land_length (defScope s_Land_length) := ⟨rfl, rfl, rfl, by decide +kernel, rfl, by decide +kernel, by decide +kernel⟩
abbrev s_law_bag : Stmt := top 18
abbrev n_law_bag : List Str := ["_law_script"]
abbrev p_law_bag : List Str := ["_law_script"]
theorem sc_law_bag : FnScope n_law_bag p_law_bag (defScope s_law_bag) := ⟨rfl, rfl, rfl, by decide +kernel, rfl, by decide +kernel, by decide +kernel⟩
abbrev s_law_draw : Stmt := top 19
abbrev n_law_draw : List Str := ["_law_bag_here", "_law_many", "_law_cells", "_law_slot", "_law_cell", "_law_seed"]
abbrev p_law_draw : List Str := ["_law_bag_here", "_law_many"]
theorem sc_law_draw : FnScope n_law_draw p_law_draw (defScope s_law_draw) := ⟨rfl, rfl, rfl, by decide +kernel, rfl, by decide +kernel, by decide +kernel⟩
abbrev s_law_whole : Stmt := top 20
abbrev n_law_whole : List Str := ["_law_found"]
abbrev p_law_whole : List Str := ["_law_found"]
theorem sc_law_whole : FnScope n_law_whole p_law_whole (defScope s_law_whole) := ⟨rfl, rfl, rfl, by decide +kernel, rfl, by decide +kernel, by decide +kernel⟩
abbrev s_law_same : Stmt := top 21
abbrev n_law_same : List Str := ["_law_found", "_law_due", "_law_name_here", "_law_k"]
abbrev p_law_same : List Str := ["_law_found", "_law_due"]
theorem sc_law_same : FnScope n_law_same p_law_same (defScope s_law_same) := ⟨rfl, rfl, rfl, by decide +kernel, rfl, by decide +kernel, by decide +kernel⟩
abbrev s_law_any : Stmt := top 22
abbrev n_law_any : List Str := ["_law_bag_here", "_law_some"]
abbrev p_law_any : List Str := ["_law_bag_here", "_law_some"]
theorem sc_law_any : FnScope n_law_any p_law_any (defScope s_law_any) := ⟨rfl, rfl, rfl, by decide +kernel, rfl, by decide +kernel, by decide +kernel⟩
abbrev s_law_rat : Stmt := top 23
abbrev n_law_rat : List Str := ["_law_over", "_law_under", "_law_one", "_law_two"]
abbrev p_law_rat : List Str := ["_law_over", "_law_under"]
theorem sc_law_rat : FnScope n_law_rat p_law_rat (defScope s_law_rat) := ⟨rfl, rfl, rfl, by decide +kernel, rfl, by decide +kernel, by decide +kernel⟩
abbrev s_law_sum : Stmt := top 24
abbrev n_law_sum : List Str := ["_law_one", "_law_two"]
abbrev p_law_sum : List Str := ["_law_one", "_law_two"]
theorem sc_law_sum : FnScope n_law_sum p_law_sum (defScope s_law_sum) := ⟨rfl, rfl, rfl, by decide +kernel, rfl, by decide +kernel, by decide +kernel⟩
abbrev s_law_dif : Stmt := top 25
abbrev n_law_dif : List Str := ["_law_one", "_law_two"]
abbrev p_law_dif : List Str := ["_law_one", "_law_two"]
theorem sc_law_dif : FnScope n_law_dif p_law_dif (defScope s_law_dif) := ⟨rfl, rfl, rfl, by decide +kernel, rfl, by decide +kernel, by decide +kernel⟩
abbrev s_law_spoil : Stmt := top 26
abbrev n_law_spoil : List Str := ["_law_row_here"]
abbrev p_law_spoil : List Str := ["_law_row_here"]
theorem sc_law_spoil : FnScope n_law_spoil p_law_spoil (defScope s_law_spoil) := ⟨rfl, rfl, rfl, by decide +kernel, rfl, by decide +kernel, by decide +kernel⟩
abbrev s_law_name : Stmt := top 27
abbrev n_law_name : List Str := ["_law_bag_here", "_law_letters", "_law_k"]
abbrev p_law_name : List Str := ["_law_bag_here"]
theorem sc_law_name : FnScope n_law_name p_law_name (defScope s_law_name) := ⟨rfl, rfl, rfl, by decide +kernel, rfl, by decide +kernel, by decide +kernel⟩
abbrev s_law_names : Stmt := top 28
abbrev n_law_names : List Str := ["_law_bag_here", "_law_many", "_law_found", "_law_k", "_law_name_here"]
abbrev p_law_names : List Str := ["_law_bag_here", "_law_many"]
theorem sc_law_names : FnScope n_law_names p_law_names (defScope s_law_names) := ⟨rfl, rfl, rfl, by decide +kernel, rfl, by decide +kernel, by decide +kernel⟩
abbrev s_law_ratio : Stmt := top 29
abbrev n_law_ratio : List Str := ["_law_bag_here", "_law_reach", "_law_low", "_law_room"]
abbrev p_law_ratio : List Str := ["_law_bag_here", "_law_reach"]
theorem sc_law_ratio : FnScope n_law_ratio p_law_ratio (defScope s_law_ratio) := ⟨rfl, rfl, rfl, by decide +kernel, rfl, by decide +kernel, by decide +kernel⟩
abbrev s_law_spot : Stmt := top 30
abbrev n_law_spot : List Str := ["_law_bag_here", "_law_reach"]
abbrev p_law_spot : List Str := ["_law_bag_here", "_law_reach"]
theorem sc_law_spot : FnScope n_law_spot p_law_spot (defScope s_law_spot) := ⟨rfl, rfl, rfl, by decide +kernel, rfl, by decide +kernel, by decide +kernel⟩
abbrev s_law_ground : Stmt := top 31
abbrev n_law_ground : List Str := ["_law_bag_here", "_law_reach", "_law_spots", "_law_names_here", "_law_name_here", "_law_two", "_law_lines", "_law_k", "_law_row_here", "_law_turn", "_law_more", "_law_kind", "_law_sites"]
abbrev p_law_ground : List Str := ["_law_bag_here", "_law_reach"]
theorem sc_law_ground : FnScope n_law_ground p_law_ground (defScope s_law_ground) := ⟨rfl, rfl, rfl, by decide +kernel, rfl, by decide +kernel, by decide +kernel⟩
abbrev s_law_known : Stmt := top 32
abbrev n_law_known : List Str := ["_law_ground_here", "_law_spots", "_law_lines", "_law_sites", "_law_found", "_law_name_here", "_law_mark"]
abbrev p_law_known : List Str := ["_law_ground_here"]
theorem sc_law_known : FnScope n_law_known p_law_known (defScope s_law_known) := ⟨rfl, rfl, rfl, by decide +kernel, rfl, by decide +kernel, by decide +kernel⟩
abbrev s_law_row : Stmt := top 33
abbrev n_law_row : List Str := ["_law_ground_here", "_law_name_here", "_law_mark"]
abbrev p_law_row : List Str := ["_law_ground_here", "_law_name_here"]
theorem sc_law_row : FnScope n_law_row p_law_row (defScope s_law_row) := ⟨rfl, rfl, rfl, by decide +kernel, rfl, by decide +kernel, by decide +kernel⟩
abbrev s_law_told : Stmt := top 34
abbrev n_law_told : List Str := ["_law_land", "_law_name_here", "_law_door", "_law_told_here", "e"]
abbrev p_law_told : List Str := ["_law_land", "_law_name_here", "_law_door"]
theorem sc_law_told : FnScope n_law_told p_law_told (defScope s_law_told) := ⟨rfl, rfl, rfl, by decide +kernel, rfl, by decide +kernel, by decide +kernel⟩
abbrev s_law : Stmt := top 35
abbrev n_law : List Str := ["_law_script", "_law_bag_here", "_law_ground_here", "_law_spots", "_law_lines", "_law_sites", "_law_land", "_law_good", "_law_turn", "_law_found", "_law_name_here", "_law_dues", "_law_gone", "_law_row_here", "_law_far", "_law_k", "_law_here", "_law_away", "_law_mark"]
abbrev p_law : List Str := ["_law_script"]
theorem sc_law : FnScope n_law p_law (defScope s_law) := ⟨rfl, rfl, rfl, by decide +kernel, rfl, by decide +kernel, by decide +kernel⟩
open PyProof.Rows in
section
open PySem.SupX in
def okV (v : V) : Prop := (∃ x : Str, v = .str x ∧ (PySem.reprText x).length ≤ 1000000) ∨ (∃ i : Int, v = .int i ∧ i.natAbs.log2 < 1920) ∨ (∃ b, v = .bl b) ∨ v = .non
theorem okV_shows {v : V} {u : Value} (h : okV v) (r : RelV v u) : PySem.SupX.Shows u := by
  rcases h with ⟨x, rfl, hx⟩ | ⟨i, rfl, hi⟩ | ⟨b, rfl⟩ | rfl
  · obtain ⟨t, rfl⟩ := r
    exact .inl ⟨x, t, rfl, hx⟩
  · obtain ⟨t, rfl⟩ := r
    exact .inr (.inl ⟨i, t, rfl, hi⟩)
  · exact .inr (.inr (.inl ⟨b, r⟩))
  · exact .inr (.inr (.inr r))
/-- an own error class with one field, its __init__ by super() -/
def SupE (P : Program) (K : PySem.W.Frag) (mg : Str → Option Value) (n f : Str) (C : Addr) : Prop :=
  ∃ (B newId i : String) (bmB : List Value) (fI : Addr) (qual : Str) (params : Arguments) (ws : List Expr), PySem.SupX.SupTxt P K mg B newId i bmB C fI f qual params ws ∧ SupC K mg n C ∧ XfC K C ∧ PySem.W.findIn K (.ref C) f = some none ∧ ∀ w v u, okV v → RelV v u → PySem.SupX.Tells P w ws f qual u
def SupL (P : Program) (K : PySem.W.Frag) (n f : Str) (C : Addr) : Prop := ∀ mg : Str → Option Value, mg n = some (.ref C) → mg "super" = none → SupE P K mg n f C
theorem pmk_E {X : Cx} {C : Addr} {n f : Str} {a : Expr} {ta : TA} {p pos : Pos} {k : Nat} (T : SupE X.prog X.K X.mg n f C) (hr : Room k X.A) (ha : PA X [a] ta) (hg : Gl X n)
    (hdb : (n == ("__debug__" : Str)) = false := by decide) (he : starEach (a :: []) X.env = (false, eval a X.env) :: starEach [] X.env := by rfl) (hpl : (backTo pos (starEach [] X.env)).any (·.1) = false := by rfl) :
    PMk X (.Call (.Name n p) [a] [] pos) (tMkSup C f okV ta) := by
  obtain ⟨B, newId, i, bmB, fI, qual, params, ws, T, S, xf, nf, hT⟩ := T
  exact pmk_sup T S (fun v u => hT X.w v u) hr ha hg hdb he hpl
theorem ps_raiseE {X : Cx} {C : Addr} {n f : Str} {a : Expr} {ta : TA} {W : WX} {p pos pos2 : Pos} {k : Nat} (hc : X.calm = true) (T : SupE X.prog X.K X.mg n f C) (hr : Room k X.A) (tk : Takes X W) (ha : PA X [a] ta) (hg : Gl X n)
    (hdb : (n == ("__debug__" : Str)) = false := by decide) (he : starEach (a :: []) X.env = (false, eval a X.env) :: starEach [] X.env := by rfl) (hpl : (backTo pos (starEach [] X.env)).any (·.1) = false := by rfl) :
    PS X (.Raise (some (.Call (.Name n p) [a] [] pos)) none pos2) (tRaiseSup C f okV W ta) := ps_raise hc tk (pmk_E T hr ha hg hdb he hpl)
open PySem.SupX PySem.W in
theorem supL_mk {P : Program} {K : PySem.W.Frag} {B newId i : String} {bmB : List Value} {C fI : Addr} {n f qual : Str} {params : Arguments} {pre : Str} {j : Nat} {w1 w2 w3 : Pos}
    {oc : Value} {od : Option Addr} {doc pm : Value} {an : Option Addr} {cda : Addr} {ct : Value} {osl : Array (Option Value)} {cc : Addr} {cl : Value} {cld : Option Addr} {csl : Array (Option Value)} {ccl : Value} {cdd : Option Addr} {vs : Array Value} {ccs : Array (Option Value)} {file : Str} {tf : Tok} {pj p0 p1 p2 p3 p4 q1 q2 q3 q4 : Pos}
    (FB : ExcBaseFacts B newId i bmB) (KF : KxsFacts B i) (SF : StoreFacts B bmB "object.__setattr__" "object")
    (iC : findIn K (.ref C) "__init__" = some (some (.ref fI)))
    (l : K.lookup fI = some ⟨oc, od, .func (ksFn "__init__" qual params (sB f [.Constant (.str pre) j w1, .FormattedValue (.Name f w2) 114 none w3] pj p0 p1 p2 p3 p4 q1 q2 q3 q4) (sS f) .none .none doc pm an (.ref cda) ct cc), osl⟩)
    (cd : codeIn K (.ref cda) qual = true) (lc : K.lookup cc = some ⟨cl, cld, .cell (some (.ref C)), csl⟩) (lk : K.lookup cda = some ⟨ccl, cdd, .fields vs, ccs⟩) (hvs : vs[2]? = some (.str file tf)) (hfile : ((P.main.file : Str) == file) = true)
    (hl : (p2.endLine == p3.line) = true) (hb : ∀ (s : Shared) (x v : Value), BindsTo s (ksFn "__init__" qual params (sB f [.Constant (.str pre) j w1, .FormattedValue (.Name f w2) 114 none w3] pj p0 p1 p2 p3 p4 q1 q2 q3 q4) (sS f) .none .none doc pm an (.ref cda) ct cc) ⟨[x, v], []⟩ [("self", x), (f, v)])
    (ini : excInitIn K C bmB newId = true) (over : excOver K C bmB = true) (sa : findIn K (.ref C) "__setattr__" = some (some (.builtin "object.__setattr__"))) (tk : takerIn K C f = some none) (hd : hasDictIn K C = true) (tC : typeIn K (.ref fI) = some (.type "function"))
    (sub : subIn K (.ref C) (.type B) = some true) (mro : mroIn K C (.ref C) = some true) (sup : ks_superIn K C C "__init__" = some (some (.builtin i))) (opq : nsIn K cStatics "thirdparty.any" = some none) (top : (P.main.scope.names.lookup ("super" : Str)).isSome = false)
    (hd1 : (params.posonlyargs ++ params.args).head?.map (·.arg) = some "self") (nn : (f != "self" && f != "__class__" && f != "super" && f != "__debug__") = true) (lf : (sS f).names.lookup f = some .local) (hz : pre.length ≤ 1000)
    (kC : keepIn K (.ref C) = true) (exC : subIn K (.ref C) (.type "BaseException") = some true) (tyC : typeIn K (.ref C) = some (.type "type")) (xf : XfC K C) (nf : findIn K (.ref C) f = some none) : SupL P K n f C := by
  intro mg gC nos
  simp only [Bool.and_eq_true, bne_iff_ne, ne_eq] at nn
  obtain ⟨⟨⟨n1, n2⟩, n3⟩, n4⟩ := nn
  have dbg : (f == ("__debug__" : Str)) = false := by simpa using n4
  exact ⟨B, newId, i, bmB, fI, qual, params, _, ⟨FB, KF, SF, ini, over, sa, tk, hd, iC, tC, sub, mro, sup, opq, nos, top, hd1, dbg, n1, n2, n3,
    ⟨oc, od, doc, pm, an, cda, ct, osl, cc, cl, cld, csl, ccl, cdd, vs, ccs, file, tf, pj, p0, p1, p2, p3, p4, q1, q2, q3, q4, l, cd, lc, lk, hvs, hfile, hl, hb⟩⟩, ⟨gC, kC, exC, tyC⟩, xf, nf,
    fun w v u hv r => tells_r (okV_shows hv r) lf dbg hz⟩

end
structure Bt (mg : Str → Option Value) : Prop where
  len_ : mg "len" = none
  list_ : mg "list" = none
  abs_ : mg "abs" = none
  isinstance_ : mg "isinstance" = none
  int_ : mg "int" = none
  bool_ : mg "bool" = none
  str_ : mg "str" = none
  dict_ : mg "dict" = none
  tuple_ : mg "tuple" = none
  all_ : mg "all" = none
  range_ : mg "range" = none
  sorted_ : mg "sorted" = none
  super_ : mg "super" = none
structure At (K : PySem.W.Frag) (mg : Str → Option Value) (name : String) (st : Stmt) (ps : List Str) (f : Addr) (fd : FuncData) : Prop where
  F : Fun K (Str.ofString name) (Str.ofString name) st f fd
  b : Binds K fd ps []
  m : mg (Str.ofString name) = some (.ref f)
structure AtM (K : PySem.W.Frag) (C : Addr) (name qual : String) (st : Stmt) (ps : List Str) (f : Addr) (fd : FuncData) : Prop where
  F : Fun K (Str.ofString name) (Str.ofString qual) st f fd
  b : Binds K fd ps []
  me : Meth K C (Str.ofString name) f
structure NoR (K : PySem.W.Frag) (mg : Str → Option Value) (C : Addr) : Prop where
  g : mg "NoRatio" = some (.ref C)
  x : PySem.W.excIn K C [.type "ZeroDivisionError", .type "ArithmeticError", .type "Exception", .type "BaseException", .type "object"] "ZeroDivisionError.__new__" = true
  k : PySem.W.keepIn K (.ref C) = true
  b : PySem.W.subIn K (.ref C) (.type "BaseException") = some true
  t : PySem.W.typeIn K (.ref C) = some (.type "type")
  te : PySem.W.exmOne K (.ref C) (.ref C) = some true
structure Env (P : Program) (K : PySem.W.Frag) (mg : Str → Option Value) where
  f_greatest_common : Addr
  d_greatest_common : FuncData
  f_ratio : Addr
  d_ratio : FuncData
  f_plus : Addr
  d_plus : FuncData
  f_minus : Addr
  d_minus : FuncData
  f_size : Addr
  d_size : FuncData
  f_stretch : Addr
  d_stretch : FuncData
  f_Land___init__ : Addr
  d_Land___init__ : FuncData
  f_Land_known : Addr
  d_Land_known : FuncData
  f_Land_row : Addr
  d_Land_row : FuncData
  f_Land_length : Addr
  d_Land_length : FuncData
  f_law_bag : Addr
  d_law_bag : FuncData
  f_law_draw : Addr
  d_law_draw : FuncData
  f_law_whole : Addr
  d_law_whole : FuncData
  f_law_same : Addr
  d_law_same : FuncData
  f_law_any : Addr
  d_law_any : FuncData
  f_law_rat : Addr
  d_law_rat : FuncData
  f_law_sum : Addr
  d_law_sum : FuncData
  f_law_dif : Addr
  d_law_dif : FuncData
  f_law_spoil : Addr
  d_law_spoil : FuncData
  f_law_name : Addr
  d_law_name : FuncData
  f_law_names : Addr
  d_law_names : FuncData
  f_law_ratio : Addr
  d_law_ratio : FuncData
  f_law_spot : Addr
  d_law_spot : FuncData
  f_law_ground : Addr
  d_law_ground : FuncData
  f_law_known : Addr
  d_law_known : FuncData
  f_law_row : Addr
  d_law_row : FuncData
  f_law_told : Addr
  d_law_told : FuncData
  f_law : Addr
  d_law : FuncData
  C_NoRatio : Addr
  C_NoLine : Addr
  C_Loose : Addr
  C_Land : Addr
  a_NOUGHT : Addr
  a_KINDS : Addr
  A_greatest_common : At K mg "greatest_common" s_greatest_common p_greatest_common f_greatest_common d_greatest_common
  A_ratio : At K mg "ratio" s_ratio p_ratio f_ratio d_ratio
  A_plus : At K mg "plus" s_plus p_plus f_plus d_plus
  A_minus : At K mg "minus" s_minus p_minus f_minus d_minus
  A_size : At K mg "size" s_size p_size f_size d_size
  A_stretch : At K mg "stretch" s_stretch p_stretch f_stretch d_stretch
  A_Land___init__ : AtM K C_Land "__init__" "Land.__init__" s_Land___init__ p_Land___init__ f_Land___init__ d_Land___init__
  A_Land_known : AtM K C_Land "known" "Land.known" s_Land_known p_Land_known f_Land_known d_Land_known
  A_Land_row : AtM K C_Land "row" "Land.row" s_Land_row p_Land_row f_Land_row d_Land_row
  A_Land_length : AtM K C_Land "length" "Land.length" s_Land_length p_Land_length f_Land_length d_Land_length
  A_law_bag : At K mg "_law_bag" s_law_bag p_law_bag f_law_bag d_law_bag
  A_law_draw : At K mg "_law_draw" s_law_draw p_law_draw f_law_draw d_law_draw
  A_law_whole : At K mg "_law_whole" s_law_whole p_law_whole f_law_whole d_law_whole
  A_law_same : At K mg "_law_same" s_law_same p_law_same f_law_same d_law_same
  A_law_any : At K mg "_law_any" s_law_any p_law_any f_law_any d_law_any
  A_law_rat : At K mg "_law_rat" s_law_rat p_law_rat f_law_rat d_law_rat
  A_law_sum : At K mg "_law_sum" s_law_sum p_law_sum f_law_sum d_law_sum
  A_law_dif : At K mg "_law_dif" s_law_dif p_law_dif f_law_dif d_law_dif
  A_law_spoil : At K mg "_law_spoil" s_law_spoil p_law_spoil f_law_spoil d_law_spoil
  A_law_name : At K mg "_law_name" s_law_name p_law_name f_law_name d_law_name
  A_law_names : At K mg "_law_names" s_law_names p_law_names f_law_names d_law_names
  A_law_ratio : At K mg "_law_ratio" s_law_ratio p_law_ratio f_law_ratio d_law_ratio
  A_law_spot : At K mg "_law_spot" s_law_spot p_law_spot f_law_spot d_law_spot
  A_law_ground : At K mg "_law_ground" s_law_ground p_law_ground f_law_ground d_law_ground
  A_law_known : At K mg "_law_known" s_law_known p_law_known f_law_known d_law_known
  A_law_row : At K mg "_law_row" s_law_row p_law_row f_law_row d_law_row
  A_law_told : At K mg "_law_told" s_law_told p_law_told f_law_told d_law_told
  A_law : At K mg "law" s_law p_law f_law d_law
  B : Bt mg
  X_NoRatio : NoR K mg C_NoRatio
  X_NoLine : SupE P K mg "NoLine" "name" C_NoLine
  X_Loose : SupE P K mg "Loose" "name" C_Loose
  xm_NoLine_NoLine : PySem.W.exmOne K (.ref C_NoLine) (.ref C_NoLine) = some true
  xm_Loose_NoLine : PySem.W.exmOne K (.ref C_Loose) (.ref C_NoLine) = some false
  xm_Loose_Loose : PySem.W.exmOne K (.ref C_Loose) (.ref C_Loose) = some true
  cl_Land : Cls K C_Land
  M_Land : Mk K C_Land f_Land___init__
  g_Land : mg "Land" = some (.ref C_Land)
  n_own_spots : NoAttr K C_Land "own_spots"
  n_own_lines : NoAttr K C_Land "own_lines"
  n_own_sites : NoAttr K C_Land "own_sites"
  c_NOUGHT : mg "NOUGHT" = some (.ref a_NOUGHT)
  q_NOUGHT : ∀ H, SqT K H a_NOUGHT [.int 0, .int 1]
  c_KINDS : mg "KINDS" = some (.ref a_KINDS)
  q_KINDS : ∀ H, SqT K H a_KINDS [.str "road", .str "shore", .str "border"]
section
variable {P : Program} {w : World} {K : PySem.W.Frag} {mg : Str → Option Value} {base : Heap}

/-! ### the greatest common number -/
def spGcd : Sp := fun vs H Q _ => ∃ a b : Int, vs = [.int a, .int b] ∧ Q (.int ((Int.gcd a b : Nat) : Int)) H
theorem ok_greatest_common (ev : Env P K mg) : FnOk P w K mg base CX0 1 ev.f_greatest_common ev.d_greatest_common p_greatest_common spGcd := by
  refine ev.A_greatest_common.F.ok sc_greatest_common (fun vs H Q E h => ?_) (fun cdv A outer s H vs Q E hr h => ?_)
  · obtain ⟨a, b, rfl, _⟩ := h
    rfl
  obtain ⟨a, b, rfl, q⟩ := h
  refine ⟨_, (pss_cons (ps_while PassesOwn.never (pt_cmpR op_ne (pv 1) pe_int (nomark _))
    (pss_one (ps_par (i := 0) (j := 1) (by rfl) sc_greatest_common.nd rfl rfl (by decide) rfl rfl (pa_cons (pv 1) (pa_cons (pe_op op_modN (pv 0) (pv 1)) pa_nil)) (by rfl))))
    (pss_one (ps_ret (pe_callB call_abs (by rfl) ev.B.abs_ (by decide +kernel) (pa_cons (pv 0) pa_nil))))), ?_⟩
  refine ⟨fun m σ H' => H' = H ∧ ∃ x y : Int, σ = [some (.int x), some (.int y)] ∧ m = y.natAbs ∧ Int.gcd x y = Int.gcd a b, ⟨_, rfl, a, b, rfl, rfl, rfl⟩, ?_⟩
  rintro m σ H' ⟨rfl, x, y, rfl, rfl, e⟩
  refine ⟨_, rfl, rfl, _, rfl, ?_⟩
  refine ite2 (fun c => ?_) (fun c => ?_)
  · have hy : y ≠ 0 := ne_true c
    refine ⟨fun σ' H2 => H2 = H' ∧ σ' = [some (.int y), some (.int (x.fmod y))], ?_, ?_⟩
    · rintro σ' H2 ⟨rfl, rfl⟩
      exact ⟨_, fmod_abs_lt x hy, rfl, y, _, rfl, rfl, (gcd_fmod x y).trans e⟩
    · exact ⟨_, rfl, _, rfl, _, rfl, _, _, rfl, rfl, hy, _, _, rfl, rfl, rfl⟩
  · have hy : y = 0 := ne_false c
    subst hy
    refine ⟨_, rfl, _, rfl, ?_⟩
    rw [Int.gcd_zero_right] at e
    rw [abs_if, e]
    exact q

/-! ### ratio -/
def spRatio (C : Addr) : Sp := fun vs H Q E => ∃ o u : Int, vs = [.int o, .int u] ∧ u.natAbs < 2 ^ 9000 ∧ (u = 0 → E (.ref C) none H) ∧ (u ≠ 0 → ∀ p, H p = none → Q (.ref p) (upd H p (.tup [.int (rN o u), .int (rD o u)])))
theorem ok_ratio (ev : Env P K mg) : FnOk P w K mg base (L2.CX P w) 2 ev.f_ratio ev.d_ratio p_ratio (spRatio ev.C_NoRatio) := by
  refine ev.A_ratio.F.okX sc_ratio (fun vs H Q E h => ?_) (fun cdv A outer s H vs Q E hr h => ?_)
  · obtain ⟨o, u, rfl, _⟩ := h
    rfl
  obtain ⟨o, u, rfl, hb, q0, q1⟩ := h
  refine ⟨_, (pss_cons (ps_if (pt_cmpR op_eq (pv 1) pe_int (nomark _))
    (pss_one (ps_raise rfl (takes_of rfl rfl rfl rfl) (pmk_own PySem.F.excBase_ZeroDivisionError ev.X_NoRatio.x ev.X_NoRatio.g ev.X_NoRatio.k (raises_own ev.X_NoRatio.b ev.X_NoRatio.t) (by exact rfl)))) pss_nil) (PSs.nox (pss_cons (ps_set (i := 2) sc_ratio.nd rfl (Or.inl rfl) (pe_call (ok_greatest_common ev) (hr.mono (by decide)) (by rfl) ev.A_greatest_common.m ev.A_greatest_common.F.kp ev.A_greatest_common.b .nil pass0 (pa_cons (pv 0) (pa_cons (pv 1) pa_nil))))
    (pss_cons (ps_if (pt_cmpR op_lt (pv 1) pe_int (nomark _))
    (pss_one (ps_set (i := 2) sc_ratio.nd rfl (Or.inl rfl) (pe_un un_neg (pv 2)))) pss_nil)
    (pss_one (ps_ret (pe_tup (pa_cons (pe_op op_fdivZ (pv 0) (pv 2)) (pa_cons (pe_op op_fdivZ (pv 1) (pv 2)) pa_nil))))))))), ?_⟩
  refine ⟨_, rfl, rfl, _, rfl, ?_⟩
  refine ite2 (fun c => ?_) (fun c => ?_)
  · exact q0 (V.int.inj (of_decide_eq_true c))
  have hu0 : u ≠ 0 := fun z => c (decide_eq_true (congrArg V.int z))
  refine next_u ?_
  refine seq_asg ⟨_, rfl, _, rfl, o, u, rfl, ?_⟩
  refine seq_by (fun σ H' => H' = H ∧ σ = [some (.int o), some (.int u), some (.int (cOf o u))]) ?_ (fun k => ?_)
  rotate_left
  · refine ⟨_, rfl, _, _, rfl, rfl, _, rfl, ?_⟩
    refine ite2 (fun z => ?_) (fun z => ?_)
    · have z' : u < 0 := of_decide_eq_true z
      refine ⟨_, rfl, _, rfl, k _ _ ⟨rfl, ?_⟩⟩
      unfold cOf
      rw [if_pos z']
      all_goals rfl
    · have z' : ¬ u < 0 := fun e => z (decide_eq_true e)
      refine k _ _ ⟨rfl, ?_⟩
      unfold cOf
      rw [if_neg z']
      all_goals rfl
  rintro σ H' ⟨rfl, rfl⟩
  exact ⟨_, rfl, _, rfl, _, _, rfl, rfl, cOf_ok hu0 hb _, _, rfl, _, rfl, _, _, rfl, rfl, cOf_ok hu0 hb _, (by show 2 ≤ sizeLine; decide), fun p hp => q1 hu0 p hp⟩

/-! ### ratios, mirrored -/
def ratioP (u : Int) : Prop := u ≠ 0 ∧ u.natAbs < 2 ^ 9000
instance : DecidablePred ratioP := fun u => inferInstanceAs (Decidable (_ ∧ _))
def ratio? (o u : Int) : Option Rat := if ratioP u then some (Rat.divInt o u) else none
theorem ev_ratio {S T : AS} {σ : St} {H : Hp} {C : Addr} {E : St → XK} {ta : TA} {r : Option (Int × Int × Unit)} (h : EvA S T ta σ H (K := K) (aCons tInt (aCons tInt aNil)) r) :
    Ev S T (tCallS (spRatio C) E ta) σ H (of (K := K) tRat S) (bd r fun a => ratio? a.1 a.2.1) := by
  intro z e H1 f1 d Q q
  obtain ⟨x, ex, e⟩ := bd_some e
  unfold ratio? at e
  split at e
  · rename_i hc
    cases e
    refine h x ex H1 f1 d _ fun vs H2 s2 hv => ?_
    obtain ⟨v, _, rfl, h1, w, _, rfl, h2, rfl⟩ := hv
    cases h1
    cases h2
    refine ⟨x.1, x.2.1, rfl, hc.2, fun z => absurd z hc.1, fun _ p hp => q _ _ (s2.trans (same_new hp)) ⟨p, rfl, .inl ⟨.inl ?_, (d.same s2).not_mem hp⟩⟩⟩
    rw [upd_same, (rat_rND hc.1).1, (rat_rND hc.1).2]
  · cases e

end
end G

namespace G
open PySem L2 M
section
variable {P : Program} {w : World} {K : PySem.W.Frag} {mg : Str → Option Value} {base : Heap}

abbrev Ld : Type := List (Str × (Rat × Rat)) × List (Str × (Str × List Str)) × List (Str × (Str × Int)) × Unit
def ldT {K : PySem.W.Frag} : FT K Ld := fCons "own_spots" (tD Str (tT2 tRat tRat)) (fCons "own_lines" (tD Str (tT2 tStr (tTs tStr))) (fCons "own_sites" (tD Str (tT2 tStr tInt)) fNil))

def m_plus (d_one : Rat) (d_other : Rat) : Option Rat :=
  (bd (bd (bd (bd (bd (some d_one) fun x => some x.num) fun x => bd (bd (some d_other) fun x => some (x.den : Int)) fun y => mul? x y) fun x => bd (bd (bd (some d_other) fun x => some x.num) fun x => bd (bd (some d_one) fun x => some (x.den : Int)) fun y => mul? x y) fun y => some (x + y)) fun x => bd (bd (bd (bd (some d_one) fun x => some (x.den : Int)) fun x => bd (bd (some d_other) fun x => some (x.den : Int)) fun y => mul? x y) fun x => bd (some ()) fun y => some (x, y)) fun y => some (x, y)) fun a => ratio? a.1 a.2.1)
abbrev sp_plus (K : PySem.W.Frag) : Sp := spF (K := K) (aCons tRat (aCons tRat aNil)) (fun S => of (K := K) tRat S) (fun a => m_plus a.1 a.2.1)
theorem ok_plus (ev : Env P K mg) : FnOk P w K mg base CX0 3 ev.f_plus ev.d_plus p_plus (sp_plus K) := by
  refine ev.A_plus.F.ok sc_plus (fun vs H Q E h => ?_) (fun cdv A outer s H0 vs Q E hr h => ?_)
  · obtain ⟨S, ⟨d_one, d_other, _⟩, y, _, ⟨v_one, _, rfl, h_one, v_other, _, rfl, h_other, rfl⟩, _⟩ := h
    rfl
  obtain ⟨S, ⟨d_one, d_other, _⟩, y, dm, ⟨v_one, _, rfl, h_one, v_other, _, rfl, h_other, rfl⟩, hm, q⟩ := h
  have ts : Sub [] S := fun a m => by simp at m
  have fr0 := Fr.refl (T := []) H0
  have sub0 : Sub S S := fun a m => m
  refine ⟨_, (pss_one (ps_ret (pe_callS (ok_ratio ev) (hr.mono (by decide)) (by rfl) ev.A_ratio.m ev.A_ratio.F.kp ev.A_ratio.b (fun σ => passAt takes0 σ) (pa_cons (pe_op op_add (pe_op op_mulW (pe_ix ix_tup (pv 0) pe_int (fun _ _ => rfl)) (pe_ix ix_tup (pv 1) pe_int (fun _ _ => rfl))) (pe_op op_mulW (pe_ix ix_tup (pv 1) pe_int (fun _ _ => rfl)) (pe_ix ix_tup (pv 0) pe_int (fun _ _ => rfl)))) (pa_cons (pe_op op_mulW (pe_ix ix_tup (pv 0) pe_int (fun _ _ => rfl)) (pe_ix ix_tup (pv 1) pe_int (fun _ _ => rfl))) pa_nil))))), ?_⟩
  dsimp only [m_plus] at hm
  have er := hm
  exact q_ret (T := []) dm (ev_ratio (ea_cons (ev_op (od_add (K := K)) (ev_op (od_mul (K := K)) (ev_ixR0 (ev_var ts h_one rfl)) (ev_ixR1 (ev_var ts h_other rfl))) (ev_op (od_mul (K := K)) (ev_ixR0 (ev_var ts h_other rfl)) (ev_ixR1 (ev_var ts h_one rfl)))) (ea_cons (ev_op (od_mul (K := K)) (ev_ixR1 (ev_var ts h_one rfl)) (ev_ixR1 (ev_var ts h_other rfl))) ea_nil))) er (fun v H1 s1 hv => q v H1 (fr0.trans (Fr.same s1)).toSame ((tRat : Ty K Rat).sub (S := S) (H := H1) sub0 hv))
def m_minus (d_one : Rat) (d_other : Rat) : Option Rat :=
  (bd (bd (bd (bd (bd (some d_one) fun x => some x.num) fun x => bd (bd (some d_other) fun x => some (x.den : Int)) fun y => mul? x y) fun x => bd (bd (bd (some d_other) fun x => some x.num) fun x => bd (bd (some d_one) fun x => some (x.den : Int)) fun y => mul? x y) fun y => some (x - y)) fun x => bd (bd (bd (bd (some d_one) fun x => some (x.den : Int)) fun x => bd (bd (some d_other) fun x => some (x.den : Int)) fun y => mul? x y) fun x => bd (some ()) fun y => some (x, y)) fun y => some (x, y)) fun a => ratio? a.1 a.2.1)
abbrev sp_minus (K : PySem.W.Frag) : Sp := spF (K := K) (aCons tRat (aCons tRat aNil)) (fun S => of (K := K) tRat S) (fun a => m_minus a.1 a.2.1)
theorem ok_minus (ev : Env P K mg) : FnOk P w K mg base CX0 3 ev.f_minus ev.d_minus p_minus (sp_minus K) := by
  refine ev.A_minus.F.ok sc_minus (fun vs H Q E h => ?_) (fun cdv A outer s H0 vs Q E hr h => ?_)
  · obtain ⟨S, ⟨d_one, d_other, _⟩, y, _, ⟨v_one, _, rfl, h_one, v_other, _, rfl, h_other, rfl⟩, _⟩ := h
    rfl
  obtain ⟨S, ⟨d_one, d_other, _⟩, y, dm, ⟨v_one, _, rfl, h_one, v_other, _, rfl, h_other, rfl⟩, hm, q⟩ := h
  have ts : Sub [] S := fun a m => by simp at m
  have fr0 := Fr.refl (T := []) H0
  have sub0 : Sub S S := fun a m => m
  refine ⟨_, (pss_one (ps_ret (pe_callS (ok_ratio ev) (hr.mono (by decide)) (by rfl) ev.A_ratio.m ev.A_ratio.F.kp ev.A_ratio.b (fun σ => passAt takes0 σ) (pa_cons (pe_op op_sub (pe_op op_mulW (pe_ix ix_tup (pv 0) pe_int (fun _ _ => rfl)) (pe_ix ix_tup (pv 1) pe_int (fun _ _ => rfl))) (pe_op op_mulW (pe_ix ix_tup (pv 1) pe_int (fun _ _ => rfl)) (pe_ix ix_tup (pv 0) pe_int (fun _ _ => rfl)))) (pa_cons (pe_op op_mulW (pe_ix ix_tup (pv 0) pe_int (fun _ _ => rfl)) (pe_ix ix_tup (pv 1) pe_int (fun _ _ => rfl))) pa_nil))))), ?_⟩
  dsimp only [m_minus] at hm
  have er := hm
  exact q_ret (T := []) dm (ev_ratio (ea_cons (ev_op (od_sub (K := K)) (ev_op (od_mul (K := K)) (ev_ixR0 (ev_var ts h_one rfl)) (ev_ixR1 (ev_var ts h_other rfl))) (ev_op (od_mul (K := K)) (ev_ixR0 (ev_var ts h_other rfl)) (ev_ixR1 (ev_var ts h_one rfl)))) (ea_cons (ev_op (od_mul (K := K)) (ev_ixR1 (ev_var ts h_one rfl)) (ev_ixR1 (ev_var ts h_other rfl))) ea_nil))) er (fun v H1 s1 hv => q v H1 (fr0.trans (Fr.same s1)).toSame ((tRat : Ty K Rat).sub (S := S) (H := H1) sub0 hv))
def m_size (d_one : Rat) : Option Rat :=
  (bd (bd (bd (bd (some d_one) fun x => some x.num) fun x => some ((x.natAbs : Nat) : Int)) fun x => bd (bd (some d_one) fun x => some (x.den : Int)) fun y => some (x, y)) p2r)
abbrev sp_size (K : PySem.W.Frag) : Sp := spF (K := K) (aCons tRat aNil) (fun S => of (K := K) tRat S) (fun a => m_size a.1)
theorem ok_size (ev : Env P K mg) : FnOk P w K mg base CX0 1 ev.f_size ev.d_size p_size (sp_size K) := by
  refine ev.A_size.F.ok sc_size (fun vs H Q E h => ?_) (fun cdv A outer s H0 vs Q E hr h => ?_)
  · obtain ⟨S, ⟨d_one, _⟩, y, _, ⟨v_one, _, rfl, h_one, rfl⟩, _⟩ := h
    rfl
  obtain ⟨S, ⟨d_one, _⟩, y, dm, ⟨v_one, _, rfl, h_one, rfl⟩, hm, q⟩ := h
  have ts : Sub [] S := fun a m => by simp at m
  have fr0 := Fr.refl (T := []) H0
  have sub0 : Sub S S := fun a m => m
  refine ⟨_, (pss_one (ps_ret (pe_tup (pa_cons (pe_callB call_abs (by rfl) ev.B.abs_ (by decide +kernel) (pa_cons (pe_ix ix_tup (pv 0) pe_int (fun _ _ => rfl)) pa_nil)) (pa_cons (pe_ix ix_tup (pv 0) pe_int (fun _ _ => rfl)) pa_nil))))), ?_⟩
  dsimp only [m_size] at hm
  have er := hm
  exact q_ret (T := []) dm (ev_p2r (ev_tup2 (ev_abs (ev_ixR0 (ev_var ts h_one rfl))) (ev_ixR1 (ev_var ts h_one rfl)))) er (fun v H1 s1 hv => q v H1 (fr0.trans (Fr.same s1)).toSame ((tRat : Ty K Rat).sub (S := S) (H := H1) sub0 hv))
def m_stretch (d_start : (Rat × Rat)) (d_end : (Rat × Rat)) : Option Rat :=
  (bd (bd (bd (bd (bd (bd (bd (some d_end) fun x => some x.1) fun x => bd (bd (bd (some d_start) fun x => some x.1) fun x => bd (some ()) fun y => some (x, y)) fun y => some (x, y)) fun a => m_minus a.1 a.2.1) fun x => bd (some ()) fun y => some (x, y)) fun a => m_size a.1) fun x => bd (bd (bd (bd (bd (bd (bd (some d_end) fun x => some x.2) fun x => bd (bd (bd (some d_start) fun x => some x.2) fun x => bd (some ()) fun y => some (x, y)) fun y => some (x, y)) fun a => m_minus a.1 a.2.1) fun x => bd (some ()) fun y => some (x, y)) fun a => m_size a.1) fun x => bd (some ()) fun y => some (x, y)) fun y => some (x, y)) fun a => m_plus a.1 a.2.1)
abbrev sp_stretch (K : PySem.W.Frag) : Sp := spF (K := K) (aCons (tT2 tRat tRat) (aCons (tT2 tRat tRat) aNil)) (fun S => of (K := K) tRat S) (fun a => m_stretch a.1 a.2.1)
theorem ok_stretch (ev : Env P K mg) : FnOk P w K mg base CX0 4 ev.f_stretch ev.d_stretch p_stretch (sp_stretch K) := by
  refine ev.A_stretch.F.ok sc_stretch (fun vs H Q E h => ?_) (fun cdv A outer s H0 vs Q E hr h => ?_)
  · obtain ⟨S, ⟨d_start, d_end, _⟩, y, _, ⟨v_start, _, rfl, h_start, v_end, _, rfl, h_end, rfl⟩, _⟩ := h
    rfl
  obtain ⟨S, ⟨d_start, d_end, _⟩, y, dm, ⟨v_start, _, rfl, h_start, v_end, _, rfl, h_end, rfl⟩, hm, q⟩ := h
  have ts : Sub [] S := fun a m => by simp at m
  have fr0 := Fr.refl (T := []) H0
  have sub0 : Sub S S := fun a m => m
  refine ⟨_, (pss_one (ps_ret (pe_call (ok_plus ev) (hr.mono (by decide)) (by rfl) ev.A_plus.m ev.A_plus.F.kp ev.A_plus.b .nil pass0 (pa_cons (pe_call (ok_size ev) (hr.mono (by decide)) (by rfl) ev.A_size.m ev.A_size.F.kp ev.A_size.b .nil pass0 (pa_cons (pe_call (ok_minus ev) (hr.mono (by decide)) (by rfl) ev.A_minus.m ev.A_minus.F.kp ev.A_minus.b .nil pass0 (pa_cons (pe_ix ix_tup (pv 1) pe_int (fun _ _ => rfl)) (pa_cons (pe_ix ix_tup (pv 0) pe_int (fun _ _ => rfl)) pa_nil))) pa_nil)) (pa_cons (pe_call (ok_size ev) (hr.mono (by decide)) (by rfl) ev.A_size.m ev.A_size.F.kp ev.A_size.b .nil pass0 (pa_cons (pe_call (ok_minus ev) (hr.mono (by decide)) (by rfl) ev.A_minus.m ev.A_minus.F.kp ev.A_minus.b .nil pass0 (pa_cons (pe_ix ix_tup (pv 1) pe_int (fun _ _ => rfl)) (pa_cons (pe_ix ix_tup (pv 0) pe_int (fun _ _ => rfl)) pa_nil))) pa_nil)) pa_nil))))), ?_⟩
  dsimp only [m_stretch] at hm
  have er := hm
  exact q_ret (T := []) dm (ev_call (ea_cons (ev_call (ea_cons (ev_call (ea_cons (ev_ix20 (ev_var ts h_end rfl)) (ea_cons (ev_ix20 (ev_var ts h_start rfl)) ea_nil))) ea_nil)) (ea_cons (ev_call (ea_cons (ev_call (ea_cons (ev_ix21 (ev_var ts h_end rfl)) (ea_cons (ev_ix21 (ev_var ts h_start rfl)) ea_nil))) ea_nil)) ea_nil))) er (fun v H1 s1 hv => q v H1 (fr0.trans (Fr.same s1)).toSame ((tRat : Ty K Rat).sub (S := S) (H := H1) sub0 hv))
def m_Land_known (d_self : Ld) : Option (List Str) :=
  (bd (bd (bd (some d_self) fun x => some x.2.1) ksS?) fun xs => filL? (fun name_1 => (bd (bd (bd (bd (bd (some d_self) fun x => some x.2.1) fun d => bd (some name_1) fun k => getK d k) fun x => some x.2) fun xs => mapL? (fun mark_2 => (bd (some mark_2) fun k => bd (bd (some d_self) fun x => some x.1) fun d => some ((getK d k).isSome))) xs) fun x => some (x.all id))) (fun name_1 => (some name_1)) xs)
abbrev sp_Land_known (K : PySem.W.Frag) (CS : Addr) : Sp := spF (K := K) (aCons (tO CS ldT) aNil) (fun S => nw (K := K) tStr S) (fun a => m_Land_known a.1)
theorem ok_Land_known (ev : Env P K mg) : FnOk P w K mg base CX0 1 ev.f_Land_known ev.d_Land_known p_Land_known (sp_Land_known K ev.C_Land) := by
  refine ev.A_Land_known.F.ok sc_Land_known (fun vs H Q E h => ?_) (fun cdv A outer s H0 vs Q E hr h => ?_)
  · obtain ⟨S, ⟨d_self, _⟩, y, _, ⟨v_self, _, rfl, h_self, rfl⟩, _⟩ := h
    rfl
  obtain ⟨S, ⟨d_self, _⟩, y, dm, ⟨v_self, _, rfl, h_self, rfl⟩, hm, q⟩ := h
  have ts : Sub [] S := fun a m => by simp at m
  have fr0 := Fr.refl (T := []) H0
  have sub0 : Sub S S := fun a m => m
  refine ⟨_, (pss_one (ps_ret (pe_lc (own := [("name", 1)]) (g := gName 1) (by rfl) sc_Land_known.nd (pi_list (pe_callB (cr_srtD rfl) (by rfl) ev.B.sorted_ (by decide +kernel) (pa_cons (pe_fld (pv 0) (by rfl)) pa_nil))) (blkOk_by (own := [("name", 1)]) (N := n_Land_known) (sc := defScope s_Land_known) (by decide +kernel)) (fun _ _ _ _ _ => pg_name (i := 1) sc_Land_known.nd rfl (Or.inl rfl)) (fun _ _ _ _ _ => (pts_one (pt_val (pe_callB (show CallR _ (.builtin "all") (rAll K) from cr_all rfl) (by rfl) ev.B.all_ (by decide +kernel) (pa_cons (pe_lc (own := [("mark", 2)]) (g := gName 2) (tt := tYes) (by rfl) sc_Land_known.nd (show PI _ _ _ (iTup K _) from (pi_tup (pe_ix (show IxR _ (rIxT K) from ix_tup) (pe_dget (hu_of hr) (show PE _ _ (tFld K _ _) from (pe_fld (pv 0) (by rfl))) (pv 1) (fun _ _ => rfl)) pe_int (fun _ _ => rfl)))) (blkOk_by (own := [("mark", 2)]) (N := n_Land_known) (sc := { kind := .function, names := [(".0", .local), ("name", .local), ("all", .globalImplicit), ("self", .cell)], isGenerator := false, isCoroutine := false }) (by decide +kernel)) (fun _ _ _ _ _ => pg_name (i := 2) sc_Land_known.nd rfl (Or.inl rfl)) (fun _ _ _ _ _ => pts_nil) (fun _ _ _ _ _ => (pe_cmp (pc_din (hu_of hr) (pv 2) (show PE _ _ (tFld K _ _) from (pe_fld (pv 0) (by rfl))))))) pa_nil))))) (fun _ _ _ _ _ => (pv 1))))), ?_⟩
  dsimp only [m_Land_known] at hm
  have er := hm
  exact q_ret (T := []) dm (ev_lcF (sr_list (ev_new (ev_srtD (ev_fldO (b' := ((tD Str (tT2 tStr (tTs tStr))) : Ty K (List (Str × (Str × (List Str)))))) ev.cl_Land ev.n_own_lines (fget_there (by decide +kernel) fget_here) (ev_var ts h_self rfl))))) (fun v => by rfl) (fun name_1 v_name H2'1 H'1 p'1 fr'1 nD'1 sm'1 h_name => by have h_self := ((tO ev.C_Land ldT) : Ty K Ld).mono (Fr.same sm'1) (((tO ev.C_Land ldT) : Ty K Ld).ext (S := S) nD'1 (((tO ev.C_Land ldT) : Ty K Ld).mono (Fr.sub ts fr'1) h_self)); have ts0' := ts; have ts : Sub [] (p'1 :: S) := (fun a m => by simp at m);  exact (eb_B (K := K) (ev_all (ev_new (ev_lc (sr_tup (ev_ix21 (ev_dget (ck := (tStr : Ty K Str)) (ev_fldO (b' := ((tD Str (tT2 tStr (tTs tStr))) : Ty K (List (Str × (Str × (List Str)))))) ev.cl_Land ev.n_own_lines (fget_there (by decide +kernel) fget_here) (ev_var ts h_self rfl)) (ev_var ts h_name rfl)))) (fun v => by rfl) (fun mark_2 v_mark H2'2 H'2 p'2 fr'2 nD'2 sm'2 h_mark => by have h_self := ((tO ev.C_Land ldT) : Ty K Ld).mono (Fr.same sm'2) (((tO ev.C_Land ldT) : Ty K Ld).ext (S := (p'1 :: S)) nD'2 (((tO ev.C_Land ldT) : Ty K Ld).mono (Fr.sub ts fr'2) h_self)); have h_name := (tStr : Ty K Str).mono (Fr.same sm'2) ((tStr : Ty K Str).ext (S := (p'1 :: S)) nD'2 ((tStr : Ty K Str).mono (Fr.sub ts fr'2) h_name)); have ts0' := ts; have ts : Sub [] (p'2 :: (p'1 :: S)) := (fun a m => by simp at m);  exact (ev_din (ck := (tStr : Ty K Str)) (ev_var ts h_mark rfl) (ev_fldO (b' := ((tD Str (tT2 tRat tRat)) : Ty K (List (Str × (Rat × Rat))))) ev.cl_Land ev.n_own_spots fget_here (ev_var ts h_self rfl))))))))) (fun name_1 v_name H2'1 H'1 p'1 fr'1 nD'1 sm'1 h_name => by have h_self := ((tO ev.C_Land ldT) : Ty K Ld).mono (Fr.same sm'1) (((tO ev.C_Land ldT) : Ty K Ld).ext (S := S) nD'1 (((tO ev.C_Land ldT) : Ty K Ld).mono (Fr.sub ts fr'1) h_self)); have ts0' := ts; have ts : Sub [] (p'1 :: S) := (fun a m => by simp at m);  exact (ev_var ts h_name rfl))) er (fun v H3 s3 hv => q v H3 (fr0.trans (Fr.same s3)).toSame (nwL.sub hv sub0 fr0 Dom.nil))
end
end G

namespace G
open PySem L2 M
section
variable {P : Program} {w : World} {K : PySem.W.Frag} {mg : Str → Option Value} {base : Heap}

def m_Land___init__ (d_spots : (List (Str × (Rat × Rat)))) (d_lines : (List (Str × (Str × (List Str))))) (d_sites : (List (Str × (Str × Int)))) : Option Ld :=
  (bd (bd (bd (some d_spots) ksS?) fun xs => dcL? (fun name_1 => (some name_1)) (fun name_1 => (bd (some d_spots) fun d => bd (some name_1) fun k => getK d k)) xs) fun y0 => (bd (bd (bd (some d_lines) ksS?) fun xs => dcL? (fun name_2 => (some name_2)) (fun name_2 => (bd (some d_lines) fun d => bd (some name_2) fun k => getK d k)) xs) fun y1 => (bd (bd (bd (some d_sites) ksS?) fun xs => dcL? (fun name_3 => (some name_3)) (fun name_3 => (bd (some d_sites) fun d => bd (some name_3) fun k => getK d k)) xs) fun y2 => some (y0, y1, y2, ()))))
abbrev sp_Land___init__ (K : PySem.W.Frag) (CS : Addr) : Sp := spInitO (K := K) CS (aCons (tD Str (tT2 tRat tRat)) (aCons (tD Str (tT2 tStr (tTs tStr))) (aCons (tD Str (tT2 tStr tInt)) aNil))) ldT (fun a => m_Land___init__ a.1 a.2.1 a.2.2.1)
theorem ok_Land___init__ (ev : Env P K mg) : FnOk P w K mg base CX0 1 ev.f_Land___init__ ev.d_Land___init__ p_Land___init__ (sp_Land___init__ K ev.C_Land) := by
  refine ev.A_Land___init__.F.ok sc_Land___init__ (fun vs H Q E h => ?_) (fun cdv A outer s H0 vs Q E hr h => ?_)
  · obtain ⟨S, p, dx, ws, ⟨d_spots, d_lines, d_sites, _⟩, y, rfl, _, _, ⟨v_spots, _, rfl, h_spots, v_lines, _, rfl, h_lines, v_sites, _, rfl, h_sites, rfl⟩, _⟩ := h
    rfl
  obtain ⟨S, p, dx, ws, ⟨d_spots, d_lines, d_sites, _⟩, y, rfl, hp, dm, ⟨v_spots, _, rfl, h_spots, v_lines, _, rfl, h_lines, v_sites, _, rfl, h_sites, rfl⟩, hm, q⟩ := h
  have ts : Sub [] (p :: S) := fun a m => by simp at m
  have im : p ∈ p :: S := List.mem_cons_self ..
  refine ⟨_, (pss_cons (ps_fld (pv 0) (pe_dc (own := [("name", 4)]) (g := gName 4) (tt := tYes) (by rfl) sc_Land___init__.nd (pi_list (pe_callB (cr_srtD rfl) (by rfl) ev.B.sorted_ (by decide +kernel) (pa_cons (pv 1) pa_nil))) (blkOk_by (own := [("name", 4)]) (N := n_Land___init__) (sc := defScope s_Land___init__) (by decide +kernel)) (fun _ _ _ _ _ => pg_name (i := 4) sc_Land___init__.nd rfl (Or.inl rfl)) (fun _ _ _ _ _ => pts_nil) (fun _ _ _ _ _ => (pv 4)) (fun _ _ _ _ _ => (pe_dget (hu_of hr) (pv 1) (pv 4) (fun _ _ => rfl)))) rfl) (pss_cons (ps_fld (pv 0) (pe_dc (own := [("name", 4)]) (g := gName 4) (tt := tYes) (by rfl) sc_Land___init__.nd (pi_list (pe_callB (cr_srtD rfl) (by rfl) ev.B.sorted_ (by decide +kernel) (pa_cons (pv 2) pa_nil))) (blkOk_by (own := [("name", 4)]) (N := n_Land___init__) (sc := defScope s_Land___init__) (by decide +kernel)) (fun _ _ _ _ _ => pg_name (i := 4) sc_Land___init__.nd rfl (Or.inl rfl)) (fun _ _ _ _ _ => pts_nil) (fun _ _ _ _ _ => (pv 4)) (fun _ _ _ _ _ => (pe_dget (hu_of hr) (pv 2) (pv 4) (fun _ _ => rfl)))) rfl) (pss_one (ps_fld (pv 0) (pe_dc (own := [("name", 4)]) (g := gName 4) (tt := tYes) (by rfl) sc_Land___init__.nd (pi_list (pe_callB (cr_srtD rfl) (by rfl) ev.B.sorted_ (by decide +kernel) (pa_cons (pv 3) pa_nil))) (blkOk_by (own := [("name", 4)]) (N := n_Land___init__) (sc := defScope s_Land___init__) (by decide +kernel)) (fun _ _ _ _ _ => pg_name (i := 4) sc_Land___init__.nd rfl (Or.inl rfl)) (fun _ _ _ _ _ => pts_nil) (fun _ _ _ _ _ => (pv 4)) (fun _ _ _ _ _ => (pe_dget (hu_of hr) (pv 3) (pv 4) (fun _ _ => rfl)))) rfl)))), ?_⟩
  dsimp only [m_Land___init__] at hm
  obtain ⟨y0, e0, hm⟩ := bd_some hm
  obtain ⟨y1, e1, hm⟩ := bd_some hm
  obtain ⟨y2, e2, hm⟩ := bd_some hm
  cases hm
  refine q_fldO dm im hp rfl ev.cl_Land ev.n_own_spots (Nat.lt_of_lt_of_le (show ([] : List (Str × V)).length < 1 from Nat.one_pos) (by decide)) (ev_newD (ev_dc (ck := (tStr : Ty K Str)) (sr_list (ev_new (ev_srtD (ev_var ts h_spots rfl)))) (fun v => by rfl) (fun name_1 v_name H2' H' p' fr' nD' sm' h_name => by have h_spots := ((tD Str (tT2 tRat tRat)) : Ty K (List (Str × (Rat × Rat)))).mono (Fr.same sm') (((tD Str (tT2 tRat tRat)) : Ty K (List (Str × (Rat × Rat)))).ext (S := (p :: S)) nD' (((tD Str (tT2 tRat tRat)) : Ty K (List (Str × (Rat × Rat)))).mono (Fr.sub ts fr') h_spots)); have h_lines := ((tD Str (tT2 tStr (tTs tStr))) : Ty K (List (Str × (Str × (List Str))))).mono (Fr.same sm') (((tD Str (tT2 tStr (tTs tStr))) : Ty K (List (Str × (Str × (List Str))))).ext (S := (p :: S)) nD' (((tD Str (tT2 tStr (tTs tStr))) : Ty K (List (Str × (Str × (List Str))))).mono (Fr.sub ts fr') h_lines)); have h_sites := ((tD Str (tT2 tStr tInt)) : Ty K (List (Str × (Str × Int)))).mono (Fr.same sm') (((tD Str (tT2 tStr tInt)) : Ty K (List (Str × (Str × Int)))).ext (S := (p :: S)) nD' (((tD Str (tT2 tStr tInt)) : Ty K (List (Str × (Str × Int)))).mono (Fr.sub ts fr') h_sites)); have ts0' := ts; have ts : Sub [] (p' :: (p :: S)) := (fun a m => by simp at m);  exact (ev_var ts h_name rfl)) (fun name_1 v_name H2' H' p' fr' nD' sm' h_name => by have h_spots := ((tD Str (tT2 tRat tRat)) : Ty K (List (Str × (Rat × Rat)))).mono (Fr.same sm') (((tD Str (tT2 tRat tRat)) : Ty K (List (Str × (Rat × Rat)))).ext (S := (p :: S)) nD' (((tD Str (tT2 tRat tRat)) : Ty K (List (Str × (Rat × Rat)))).mono (Fr.sub ts fr') h_spots)); have h_lines := ((tD Str (tT2 tStr (tTs tStr))) : Ty K (List (Str × (Str × (List Str))))).mono (Fr.same sm') (((tD Str (tT2 tStr (tTs tStr))) : Ty K (List (Str × (Str × (List Str))))).ext (S := (p :: S)) nD' (((tD Str (tT2 tStr (tTs tStr))) : Ty K (List (Str × (Str × (List Str))))).mono (Fr.sub ts fr') h_lines)); have h_sites := ((tD Str (tT2 tStr tInt)) : Ty K (List (Str × (Str × Int)))).mono (Fr.same sm') (((tD Str (tT2 tStr tInt)) : Ty K (List (Str × (Str × Int)))).ext (S := (p :: S)) nD' (((tD Str (tT2 tStr tInt)) : Ty K (List (Str × (Str × Int)))).mono (Fr.sub ts fr') h_sites)); have ts0' := ts; have ts : Sub [] (p' :: (p :: S)) := (fun a m => by simp at m);  exact (ev_dget (ck := (tStr : Ty K Str)) (ev_var ts h_spots rfl) (ev_var ts h_name rfl))))) e0 (fun H1 w_0 f1 k1 dm hp g_0 => ?_)
  have h_spots := ((tD Str (tT2 tRat tRat)) : Ty K (List (Str × (Rat × Rat)))).mono f1 h_spots
  have h_lines := ((tD Str (tT2 tStr (tTs tStr))) : Ty K (List (Str × (Str × (List Str))))).mono f1 h_lines
  have h_sites := ((tD Str (tT2 tStr tInt)) : Ty K (List (Str × (Str × Int)))).mono f1 h_sites
  refine q_fldO dm im hp rfl ev.cl_Land ev.n_own_lines (Nat.lt_of_lt_of_le (putF_lt (show ([] : List (Str × V)).length < 1 from Nat.one_pos)) (by decide)) (ev_newD (ev_dc (ck := (tStr : Ty K Str)) (sr_list (ev_new (ev_srtD (ev_var ts h_lines rfl)))) (fun v => by rfl) (fun name_2 v_name H2' H' p' fr' nD' sm' h_name => by have h_spots := ((tD Str (tT2 tRat tRat)) : Ty K (List (Str × (Rat × Rat)))).mono (Fr.same sm') (((tD Str (tT2 tRat tRat)) : Ty K (List (Str × (Rat × Rat)))).ext (S := (p :: S)) nD' (((tD Str (tT2 tRat tRat)) : Ty K (List (Str × (Rat × Rat)))).mono (Fr.sub ts fr') h_spots)); have h_lines := ((tD Str (tT2 tStr (tTs tStr))) : Ty K (List (Str × (Str × (List Str))))).mono (Fr.same sm') (((tD Str (tT2 tStr (tTs tStr))) : Ty K (List (Str × (Str × (List Str))))).ext (S := (p :: S)) nD' (((tD Str (tT2 tStr (tTs tStr))) : Ty K (List (Str × (Str × (List Str))))).mono (Fr.sub ts fr') h_lines)); have h_sites := ((tD Str (tT2 tStr tInt)) : Ty K (List (Str × (Str × Int)))).mono (Fr.same sm') (((tD Str (tT2 tStr tInt)) : Ty K (List (Str × (Str × Int)))).ext (S := (p :: S)) nD' (((tD Str (tT2 tStr tInt)) : Ty K (List (Str × (Str × Int)))).mono (Fr.sub ts fr') h_sites)); have ts0' := ts; have ts : Sub [] (p' :: (p :: S)) := (fun a m => by simp at m);  exact (ev_var ts h_name rfl)) (fun name_2 v_name H2' H' p' fr' nD' sm' h_name => by have h_spots := ((tD Str (tT2 tRat tRat)) : Ty K (List (Str × (Rat × Rat)))).mono (Fr.same sm') (((tD Str (tT2 tRat tRat)) : Ty K (List (Str × (Rat × Rat)))).ext (S := (p :: S)) nD' (((tD Str (tT2 tRat tRat)) : Ty K (List (Str × (Rat × Rat)))).mono (Fr.sub ts fr') h_spots)); have h_lines := ((tD Str (tT2 tStr (tTs tStr))) : Ty K (List (Str × (Str × (List Str))))).mono (Fr.same sm') (((tD Str (tT2 tStr (tTs tStr))) : Ty K (List (Str × (Str × (List Str))))).ext (S := (p :: S)) nD' (((tD Str (tT2 tStr (tTs tStr))) : Ty K (List (Str × (Str × (List Str))))).mono (Fr.sub ts fr') h_lines)); have h_sites := ((tD Str (tT2 tStr tInt)) : Ty K (List (Str × (Str × Int)))).mono (Fr.same sm') (((tD Str (tT2 tStr tInt)) : Ty K (List (Str × (Str × Int)))).ext (S := (p :: S)) nD' (((tD Str (tT2 tStr tInt)) : Ty K (List (Str × (Str × Int)))).mono (Fr.sub ts fr') h_sites)); have ts0' := ts; have ts : Sub [] (p' :: (p :: S)) := (fun a m => by simp at m);  exact (ev_dget (ck := (tStr : Ty K Str)) (ev_var ts h_lines rfl) (ev_var ts h_name rfl))))) e1 (fun H2 w_1 f2 k2 dm hp g_1 => ?_)
  have h_spots := ((tD Str (tT2 tRat tRat)) : Ty K (List (Str × (Rat × Rat)))).mono f2 h_spots
  have h_lines := ((tD Str (tT2 tStr (tTs tStr))) : Ty K (List (Str × (Str × (List Str))))).mono f2 h_lines
  have h_sites := ((tD Str (tT2 tStr tInt)) : Ty K (List (Str × (Str × Int)))).mono f2 h_sites
  have g_0 := ((tD Str (tT2 tRat tRat)) : Ty K (List (Str × (Rat × Rat)))).mono f2 g_0
  refine l_fldO dm im hp rfl ev.cl_Land ev.n_own_sites (Nat.lt_of_lt_of_le (putF_lt (putF_lt (show ([] : List (Str × V)).length < 1 from Nat.one_pos))) (by decide)) (ev_newD (ev_dc (ck := (tStr : Ty K Str)) (sr_list (ev_new (ev_srtD (ev_var ts h_sites rfl)))) (fun v => by rfl) (fun name_3 v_name H2' H' p' fr' nD' sm' h_name => by have h_spots := ((tD Str (tT2 tRat tRat)) : Ty K (List (Str × (Rat × Rat)))).mono (Fr.same sm') (((tD Str (tT2 tRat tRat)) : Ty K (List (Str × (Rat × Rat)))).ext (S := (p :: S)) nD' (((tD Str (tT2 tRat tRat)) : Ty K (List (Str × (Rat × Rat)))).mono (Fr.sub ts fr') h_spots)); have h_lines := ((tD Str (tT2 tStr (tTs tStr))) : Ty K (List (Str × (Str × (List Str))))).mono (Fr.same sm') (((tD Str (tT2 tStr (tTs tStr))) : Ty K (List (Str × (Str × (List Str))))).ext (S := (p :: S)) nD' (((tD Str (tT2 tStr (tTs tStr))) : Ty K (List (Str × (Str × (List Str))))).mono (Fr.sub ts fr') h_lines)); have h_sites := ((tD Str (tT2 tStr tInt)) : Ty K (List (Str × (Str × Int)))).mono (Fr.same sm') (((tD Str (tT2 tStr tInt)) : Ty K (List (Str × (Str × Int)))).ext (S := (p :: S)) nD' (((tD Str (tT2 tStr tInt)) : Ty K (List (Str × (Str × Int)))).mono (Fr.sub ts fr') h_sites)); have ts0' := ts; have ts : Sub [] (p' :: (p :: S)) := (fun a m => by simp at m);  exact (ev_var ts h_name rfl)) (fun name_3 v_name H2' H' p' fr' nD' sm' h_name => by have h_spots := ((tD Str (tT2 tRat tRat)) : Ty K (List (Str × (Rat × Rat)))).mono (Fr.same sm') (((tD Str (tT2 tRat tRat)) : Ty K (List (Str × (Rat × Rat)))).ext (S := (p :: S)) nD' (((tD Str (tT2 tRat tRat)) : Ty K (List (Str × (Rat × Rat)))).mono (Fr.sub ts fr') h_spots)); have h_lines := ((tD Str (tT2 tStr (tTs tStr))) : Ty K (List (Str × (Str × (List Str))))).mono (Fr.same sm') (((tD Str (tT2 tStr (tTs tStr))) : Ty K (List (Str × (Str × (List Str))))).ext (S := (p :: S)) nD' (((tD Str (tT2 tStr (tTs tStr))) : Ty K (List (Str × (Str × (List Str))))).mono (Fr.sub ts fr') h_lines)); have h_sites := ((tD Str (tT2 tStr tInt)) : Ty K (List (Str × (Str × Int)))).mono (Fr.same sm') (((tD Str (tT2 tStr tInt)) : Ty K (List (Str × (Str × Int)))).ext (S := (p :: S)) nD' (((tD Str (tT2 tStr tInt)) : Ty K (List (Str × (Str × Int)))).mono (Fr.sub ts fr') h_sites)); have ts0' := ts; have ts : Sub [] (p' :: (p :: S)) := (fun a m => by simp at m);  exact (ev_dget (ck := (tStr : Ty K Str)) (ev_var ts h_sites rfl) (ev_var ts h_name rfl))))) e2 (fun H3 w_2 f3 k3 dm hp g_2 => ?_)
  have h_spots := ((tD Str (tT2 tRat tRat)) : Ty K (List (Str × (Rat × Rat)))).mono f3 h_spots
  have h_lines := ((tD Str (tT2 tStr (tTs tStr))) : Ty K (List (Str × (Str × (List Str))))).mono f3 h_lines
  have h_sites := ((tD Str (tT2 tStr tInt)) : Ty K (List (Str × (Str × Int)))).mono f3 h_sites
  have g_0 := ((tD Str (tT2 tRat tRat)) : Ty K (List (Str × (Rat × Rat)))).mono f3 g_0
  have g_1 := ((tD Str (tT2 tStr (tTs tStr))) : Ty K (List (Str × (Str × (List Str))))).mono f3 g_1
  skip
  refine q H3 _ (fun q o eq n => (k3 _ _ (k2 _ _ (k1 _ _ eq n) n) n)) hp ?_
  skip
  skip
  repeat rw [putF_nil]; repeat rw [putF_ne (by decide +kernel)]; repeat rw [putF_nil]; repeat rw [putF_ne (by decide +kernel)]; repeat rw [putF_nil]
  exact ⟨w_0, _, rfl, ((tD Str (tT2 tRat tRat)) : Ty K (List (Str × (Rat × Rat)))).sub (fun a m => List.mem_cons_of_mem _ m) g_0, w_1, _, rfl, ((tD Str (tT2 tStr (tTs tStr))) : Ty K (List (Str × (Str × (List Str))))).sub (fun a m => List.mem_cons_of_mem _ m) g_1, w_2, _, rfl, ((tD Str (tT2 tStr tInt)) : Ty K (List (Str × (Str × Int)))).sub (fun a m => List.mem_cons_of_mem _ m) g_2, rfl⟩
end
end G

namespace G
open PySem L2 M
section
variable {P : Program} {w : World} {K : PySem.W.Frag} {mg : Str → Option Value} {base : Heap}

/-- the refusals by their numbers -/
def Env.cl {P : Program} {K : PySem.W.Frag} {mg : Str → Option Value} (ev : Env P K mg) : Nat → Addr × Str
  | 0 => (ev.C_NoLine, "name")
  | _ => (ev.C_Loose, "name")

def m_Land_row (d_self : Ld) (d_name : Str) : Option (Rf ⊕ (List (Rat × Rat))) :=
  (bd (bd (some d_name) fun k => bd (bd (some d_self) fun x => some x.2.1) fun d => some (!(getK d k).isSome)) fun c1 => if c1 then (bd (bd (some d_name) rfs?) fun z => some (Sum.inl (0, z))) else (bd (some []) fun told_2 => (bd (bd (bd (bd (some d_self) fun x => some x.2.1) fun d => bd (some d_name) fun k => getK d k) fun x => some x.2) fun xs7 => bd (loopC (ρ := Rf ⊕ (List (Rat × Rat))) (fun s_3 mark_3 => (bd (bd (some mark_3) fun k => bd (bd (some d_self) fun x => some x.1) fun d => some (!(getK d k).isSome)) fun c4 => if c4 then (bd (bd (bd (some mark_3) rfs?) fun z => some (Sum.inl (1, z))) fun y => some (Ct.ret y)) else (bd (bd (bd (some d_self) fun x => some x.1) fun d => bd (some mark_3) fun k => getK d k) fun a5 => (bd (app? s_3 a5) fun told_6 => some (Ct.go told_6))))) xs7 told_2) fun r_3 => match r_3 with | .ret y => some y | .go t_3 => (bd (some t_3) fun z => some (Sum.inr z)) | .brk _ => none)))
abbrev sp_Land_row (K : PySem.W.Frag) (CS : Addr) (cl : Nat → Addr × Str) : Sp := spX (K := K) (aCons (tO CS ldT) (aCons tStr aNil)) (fun S => nw (K := K) (tT2 tRat tRat) S) cl (fun a => m_Land_row a.1 a.2.1)
theorem ok_Land_row (ev : Env P K mg) : FnOk P w K mg base (L2.CX P w) 5 ev.f_Land_row ev.d_Land_row p_Land_row (sp_Land_row K ev.C_Land ev.cl) := by
  refine ev.A_Land_row.F.okX sc_Land_row (fun vs H Q E h => ?_) (fun cdv A outer s H0 vs Q E hr h => ?_)
  · obtain ⟨S, ⟨d_self, d_name, _⟩, y, _, ⟨v_self, _, rfl, h_self, v_name, _, rfl, h_name, rfl⟩, _⟩ := h
    rfl
  obtain ⟨S, ⟨d_self, d_name, _⟩, y, dm, ⟨v_self, _, rfl, h_self, v_name, _, rfl, h_name, rfl⟩, hm, q, qx⟩ := h
  have ts : Sub [] S := fun a m => by simp at m
  have fr0 := Fr.refl (T := []) H0
  have sub0 : Sub S S := fun a m => m
  refine ⟨_, (pss_cons (ps_if (pt_cmp (pc_dnotin (hu_of hr) (pv 1) (pe_fld (pv 0) (by rfl))))
    (pss_one (ps_raiseE rfl ev.X_NoLine hr (takes_of rfl rfl rfl rfl) (pa_cons (pv 1) pa_nil) (by exact rfl))) pss_nil)
    (pss_cons (ps_set (i := 2) sc_Land_row.nd rfl (Or.inl rfl) (pe_lst pa_nil))
    (pss_cons (ps_for (passes_of rfl) rfl (pi_tup (pe_ix ix_tup (pe_dget (hu_of hr) (pe_fld (pv 0) (by rfl)) (pv 1) (fun _ _ => rfl)) pe_int (fun _ _ => rfl))) (pg_name (i := 3) sc_Land_row.nd rfl (Or.inl rfl))
    (pss_cons (ps_if (pt_cmp (pc_dnotin (hu_of hr) (pv 3) (pe_fld (pv 0) (by rfl))))
    (pss_one (ps_raiseE rfl ev.X_Loose hr (takes_of rfl rfl rfl rfl) (pa_cons (pv 3) pa_nil) (by exact rfl))) pss_nil)
    (pss_one (ps_expr (pe_bm PySem.F.plainAttrs_list PySem.F.slot_list_append PySem.F.type_list_append mt_append (pv 2) (pa_cons (pe_dget (hu_of hr) (pe_fld (pv 0) (by rfl)) (pv 3) (fun _ _ => rfl)) pa_nil))))))
    (pss_one (ps_ret (pv 2)))))), ?_⟩
  dsimp only [m_Land_row] at hm
  obtain ⟨c1, e1, hm⟩ := bd_some hm
  refine q_if (T := []) dm (eb_test (K := K) (ev_dnotin (ck := (tStr : Ty K Str)) (ev_var ts h_name rfl) (ev_fldO (b' := ((tD Str (tT2 tStr (tTs tStr))) : Ty K (List (Str × (Str × (List Str)))))) ev.cl_Land ev.n_own_lines (fget_there (by decide +kernel) fget_here) (ev_var ts h_self rfl)))) e1 (fun hc H1 s1 => ?_) (fun hc H1 s1 => ?_)
  · skip
    subst hc
    have hm := if_t hm
    have fr0 := fr0.trans (Fr.same s1)
    have dm := dm.same s1
    have h_self := ((tO ev.C_Land ldT) : Ty K Ld).mono (S := S) (Fr.same s1) h_self
    have h_name := (tStr : Ty K Str).mono (S := S) (Fr.same s1) h_name
    have er := hm
    obtain ⟨z8, er8, ez⟩ := bd_some er
    clear er
    cases ez
    have er := er8
    exact l_raiseE (K := K) (fun z h => .inl ⟨z, rfl, h⟩) (T := []) dm (ev_var ts h_name rfl) er (fun H1 dd s1 nd => qx _ rfl H1 dd (fr0.toSame.trans s1) nd)
  subst hc
  have hm := if_f hm
  have fr0 := fr0.trans (Fr.same s1)
  have dm := dm.same s1
  have h_self := ((tO ev.C_Land ldT) : Ty K Ld).mono (S := S) (Fr.same s1) h_self
  have h_name := (tStr : Ty K Str).mono (S := S) (Fr.same s1) h_name
  refine q_next ?_
  obtain ⟨told_2, e2, hm⟩ := bd_some hm
  refine q_asg (T := []) dm (ev_lst0 (a := ((tT2 tRat tRat) : Ty K (Rat × Rat)))) e2 (fun v_told H2 s2 hx => ?_)
  obtain ⟨p_told, rfl, np_told, o_told⟩ := hx
  have ns_told : p_told ∉ S := dm.not_mem np_told
  have nb_told : p_told ∉ S := fun m => ns_told (sub0 _ m)
  have n0_told := fr_back fr0 Dom.nil np_told
  have nt_told := (Dom.nil (H := H0)).not_mem n0_told
  have fr0 := fr0.trans (Fr.same s2)
  have h_self := ((tO ev.C_Land ldT) : Ty K Ld).mono (Fr.same s2) (((tO ev.C_Land ldT) : Ty K Ld).ext (S := S) np_told h_self)
  have h_name := (tStr : Ty K Str).mono (Fr.same s2) ((tStr : Ty K Str).ext (S := S) np_told h_name)
  have dm := (dm.same s2).cons o_told.choose_spec.1
  have ts := sub_cons (p := p_told) ts
  have sub0 := sub_cons (p := p_told) sub0
  have im_told : p_told ∈ p_told :: S := List.mem_cons_self ..
  obtain ⟨xs7, e_xs7, hm⟩ := bd_some hm
  obtain ⟨r_3, el3, hm3⟩ := bd_some hm
  refine q_for_s (T := []) dm (sr_tup (ev_ix21 (ev_dget (ck := (tStr : Ty K Str)) (ev_fldO (b' := ((tD Str (tT2 tStr (tTs tStr))) : Ty K (List (Str × (Str × (List Str)))))) ev.cl_Land ev.n_own_lines (fget_there (by decide +kernel) fget_here) (ev_var ts h_self rfl)) (ev_var ts h_name rfl)))) e_xs7 el3 (fun s_3 σ' H' => ∃ v_self : V, ∃ v_name : V, ∃ f_3 : Option V, σ' = [some v_self, some v_name, some (.ref p_told), f_3] ∧ Fr [] H0 H' ∧ Dom (p_told :: S) H' ∧ ((tO ev.C_Land ldT) : Ty K Ld).rp (p_told :: S) H' v_self d_self ∧ (tStr : Ty K Str).rp (p_told :: S) H' v_name d_name ∧ Own ((tT2 tRat tRat) : Ty K (Rat × Rat)) (p_told :: S) H' p_told s_3) (fun H3 s3 => ?_) (fun hd3 s_3 mark_3 cr3 v_mark σ' H' hI h_mark hx3 hm hret3 hbrk3 => ?_) (fun t_3 σ' H' er hI => ?_)
  · skip
    have fr0 := fr0.trans (Fr.same s3)
    have dm := dm.same s3
    have h_self := ((tO ev.C_Land ldT) : Ty K Ld).mono (S := (p_told :: S)) (Fr.same s3) h_self
    have h_name := (tStr : Ty K Str).mono (S := (p_told :: S)) (Fr.same s3) h_name
    have o_told := o_told.same s3
    exact ⟨v_self, v_name, _, rfl, fr0, dm, h_self, h_name, o_told⟩
  · skip
    obtain ⟨v_self, v_name, f_3, rfl, fr0, dm, h_self, h_name, o_told⟩ := hI
    let HL := H'
    have freshl : ∀ a ∈ (p_told :: S), a ∉ (p_told :: S) → H' a = none := fun a m n => absurd m n
    have frl : Fr (p_told :: S) HL H' := Fr.refl (T := (p_told :: S)) H'
    have tsl := ts
    have subl : Sub (p_told :: S) (p_told :: S) := fun a m => m
    have iml_told := im_told
    have h_mark : (tStr : Ty K Str).rp (p_told :: S) H' v_mark mark_3 := h_mark
    obtain ⟨c4, e4, hm⟩ := bd_some hm
    refine q_if (T := []) dm (eb_test (K := K) (ev_dnotin (ck := (tStr : Ty K Str)) (ev_var ts h_mark rfl) (ev_fldO (b' := ((tD Str (tT2 tRat tRat)) : Ty K (List (Str × (Rat × Rat))))) ev.cl_Land ev.n_own_spots fget_here (ev_var ts h_self rfl)))) e4 (fun hc H4 s4 => ?_) (fun hc H4 s4 => ?_)
    · skip
      subst hc
      have hm := if_t hm
      have fr0 := fr0.trans (Fr.same s4)
      have dm := dm.same s4
      have frl := frl.trans (Fr.same s4)
      have h_self := ((tO ev.C_Land ldT) : Ty K Ld).mono (S := (p_told :: S)) (Fr.same s4) h_self
      have h_name := (tStr : Ty K Str).mono (S := (p_told :: S)) (Fr.same s4) h_name
      have o_told := o_told.same s4
      have h_mark := (tStr : Ty K Str).mono (S := (p_told :: S)) (Fr.same s4) h_mark
      obtain ⟨z9, er, hm⟩ := bd_some hm
      cases hm
      have er3 := hret3 _ rfl
      subst er3
      cases hm3
      obtain ⟨z8, er8, ez⟩ := bd_some er
      clear er
      cases ez
      have er := er8
      exact l_raiseE (K := K) (fun z h => .inl ⟨z, rfl, h⟩) (T := []) dm (ev_var ts h_mark rfl) er (fun H1 dd s1 nd => qx _ rfl H1 dd (fr0.toSame.trans s1) nd)
    subst hc
    have hm := if_f hm
    have fr0 := fr0.trans (Fr.same s4)
    have dm := dm.same s4
    have frl := frl.trans (Fr.same s4)
    have h_self := ((tO ev.C_Land ldT) : Ty K Ld).mono (S := (p_told :: S)) (Fr.same s4) h_self
    have h_name := (tStr : Ty K Str).mono (S := (p_told :: S)) (Fr.same s4) h_name
    have o_told := o_told.same s4
    have h_mark := (tStr : Ty K Str).mono (S := (p_told :: S)) (Fr.same s4) h_mark
    refine q_next ?_
    obtain ⟨a5, e5, hm⟩ := bd_some hm
    obtain ⟨told_6, f5, hm⟩ := bd_some hm
    refine l_app (T := []) dm o_told im_told nt_told ts rfl (ev_dget (ck := (tStr : Ty K Str)) (ev_fldO (b' := ((tD Str (tT2 tRat tRat)) : Ty K (List (Str × (Rat × Rat))))) ev.cl_Land ev.n_own_spots fget_here (ev_var ts h_self rfl)) (ev_var ts h_mark rfl)) e5 f5 (fun H5 s5 frx5 o_told => ?_)
    have fr0 := fr0.mut Dom.nil n0_told s5
    have frl := frl.trans (s5.fr iml_told)
    have dm := dm.fx frx5 s5
    have h_self := ((tO ev.C_Land ldT) : Ty K Ld).mono (S := (p_told :: S)) frx5 h_self
    have h_name := (tStr : Ty K Str).mono (S := (p_told :: S)) frx5 h_name
    have h_mark := (tStr : Ty K Str).mono (S := (p_told :: S)) frx5 h_mark
    cases hm
    exact ⟨_, rfl, frl, ⟨v_self, v_name, _, rfl, fr0, dm, h_self, h_name, o_told⟩⟩
  subst er
  have hm := hm3
  obtain ⟨v_self, v_name, f_3, rfl, fr0, dm, h_self, h_name, o_told⟩ := hI
  have er := hm
  obtain ⟨z8, er8, ez⟩ := bd_some er
  clear er
  cases ez
  have er := er8
  cases er
  exact ⟨_, rfl, q _ rfl _ _ fr0.toSame ⟨p_told, rfl, n0_told, o_told.sub (cons_sub im_told sub0)⟩⟩
def m_Land_length (d_self : Ld) (d_name : Str) : Option (Rf ⊕ Rat) :=
  (bd (bd (some d_self) fun x => bd (some d_name) fun y => m_Land_row x y) fun r => match r with | .inl e9 => (some (Sum.inl e9)) | .inr spots_1 => (bd (some (0 : Rat)) fun total_2 => (bd (bd (some (1 : Int)) fun x => bd (bd (some spots_1) fun x => some (x.length : Int)) fun y => rng2? x y) fun xs5 => bd (loopC (ρ := Rf ⊕ Rat) (fun s_3 at_3 => (bd (bd (bd (some s_3) fun x => bd (bd (bd (bd (bd (some spots_1) fun x => bd (bd (some at_3) fun x => bd (some (1 : Int)) fun y => some (x - y)) fun y => atI x y) fun x => bd (bd (bd (some spots_1) fun x => bd (some at_3) fun y => atI x y) fun x => bd (some ()) fun y => some (x, y)) fun y => some (x, y)) fun a => m_stretch a.1 a.2.1) fun x => bd (some ()) fun y => some (x, y)) fun y => some (x, y)) fun a => m_plus a.1 a.2.1) fun total_4 => some (Ct.go total_4))) xs5 total_2) fun r_3 => match r_3 with | .ret y => some y | .go t_3 => (bd (some t_3) fun z => some (Sum.inr z)) | .brk _ => none)))
abbrev sp_Land_length (K : PySem.W.Frag) (CS : Addr) (cl : Nat → Addr × Str) : Sp := spX (K := K) (aCons (tO CS ldT) (aCons tStr aNil)) (fun S => of (K := K) tRat S) cl (fun a => m_Land_length a.1 a.2.1)
theorem ok_Land_length (ev : Env P K mg) : FnOk P w K mg base (L2.CX P w) 7 ev.f_Land_length ev.d_Land_length p_Land_length (sp_Land_length K ev.C_Land ev.cl) := by
  refine ev.A_Land_length.F.okX sc_Land_length (fun vs H Q E h => ?_) (fun cdv A outer s H0 vs Q E hr h => ?_)
  · obtain ⟨S, ⟨d_self, d_name, _⟩, y, _, ⟨v_self, _, rfl, h_self, v_name, _, rfl, h_name, rfl⟩, _⟩ := h
    rfl
  obtain ⟨S, ⟨d_self, d_name, _⟩, y, dm, ⟨v_self, _, rfl, h_self, v_name, _, rfl, h_name, rfl⟩, hm, q, qx⟩ := h
  have ts : Sub [] S := fun a m => by simp at m
  have fr0 := Fr.refl (T := []) H0
  have sub0 : Sub S S := fun a m => m
  refine ⟨_, (pss_cons (ps_set (i := 2) sc_Land_length.nd rfl (Or.inl rfl) (pe_methX (pv 0) ev.cl_Land ev.A_Land_row.me (ok_Land_row ev) (hr.mono (by decide)) ev.A_Land_row.b (fun σ => passAt (takes_of rfl rfl rfl rfl) σ) (pa_cons (pv 1) pa_nil)))
    (pss_cons (ps_set (i := 3) sc_Land_length.nd rfl (Or.inl rfl) (pe_glob (v := .ref ev.a_NOUGHT) (by rfl) ev.c_NOUGHT rfl))
    (pss_cons (ps_for (passes_of rfl) rfl (pi_range2 rfl ev.B.range_ (pa_cons pe_int (pa_cons (pe_callB call_len_seq (by rfl) ev.B.len_ PySem.boot_len (pa_cons (pv 2) pa_nil)) pa_nil))) (pg_name (i := 4) sc_Land_length.nd rfl (Or.inl rfl))
    (pss_one (ps_set (i := 3) sc_Land_length.nd rfl (Or.inl rfl) (pe_call (ok_plus ev) (hr.mono (by decide)) (by rfl) ev.A_plus.m ev.A_plus.F.kp ev.A_plus.b .nil pass0 (pa_cons (pv 3) (pa_cons (pe_call (ok_stretch ev) (hr.mono (by decide)) (by rfl) ev.A_stretch.m ev.A_stretch.F.kp ev.A_stretch.b .nil pass0 (pa_cons (pe_ix ix_list (pv 2) (pe_op op_sub (pv 4) pe_int) (fun _ _ => rfl)) (pa_cons (pe_ix ix_list (pv 2) (pv 4) (fun _ _ => rfl)) pa_nil))) pa_nil))))))
    (pss_one (ps_ret (pv 3)))))), ?_⟩
  dsimp only [m_Land_length] at hm
  obtain ⟨r1, e1, hm⟩ := bd_some hm
  refine q_asgX (T := []) dm (ev_fnX1 (f := fun a => m_Land_row a.1 a.2.1) (fno_cons (by decide +kernel) (fno_cons (by decide +kernel) (fno_cons (by decide +kernel) fno_nil))) (ev_var ts h_self rfl) (ev_var ts h_name rfl)) e1 (fun spots_1 er1 v_spots H1 s1 h_spots => ?_) (fun e9 er1 => ?_)
  rotate_left
  · skip
    subst er1
    dsimp only at hm
    have er := hm
    cases er
    exact (qx _ rfl).same fr0.toSame
  subst er1
  dsimp only at hm
  have h_spots := nwL.rp h_spots dm
  have fr0 := fr0.trans (Fr.same s1)
  have dm := dm.same s1
  have h_self := ((tO ev.C_Land ldT) : Ty K Ld).mono (S := S) (Fr.same s1) h_self
  have h_name := (tStr : Ty K Str).mono (S := S) (Fr.same s1) h_name
  have h_spots : ((tL (tT2 tRat tRat)) : Ty K (List (Rat × Rat))).rp S H1 v_spots spots_1 := h_spots
  obtain ⟨total_2, e2, hm⟩ := bd_some hm
  refine q_asg (T := []) dm (ev_c (a := tRat) fun H => ⟨_, rfl, .inr (ev.q_NOUGHT _)⟩) e2 (fun v_total H2 s2 h_total => ?_)
  have fr0 := fr0.trans (Fr.same s2)
  have dm := dm.same s2
  have h_self := ((tO ev.C_Land ldT) : Ty K Ld).mono (S := S) (Fr.same s2) h_self
  have h_name := (tStr : Ty K Str).mono (S := S) (Fr.same s2) h_name
  have h_spots := ((tL (tT2 tRat tRat)) : Ty K (List (Rat × Rat))).mono (S := S) (Fr.same s2) h_spots
  have h_total : (tRat : Ty K Rat).rp S H2 v_total total_2 := h_total
  obtain ⟨xs5, e_xs5, hm⟩ := bd_some hm
  obtain ⟨r_3, el3, hm3⟩ := bd_some hm
  refine q_for_s (T := []) dm (sr_r2 (K := K) (ev_int (K := K)) (ev_lenL (ev_var ts h_spots rfl))) e_xs5 el3 (fun s_3 σ' H' => ∃ v_self : V, ∃ v_name : V, ∃ v_spots : V, ∃ v_total : V, ∃ f_4 : Option V, σ' = [some v_self, some v_name, some v_spots, some v_total, f_4] ∧ Fr [] H0 H' ∧ Dom S H' ∧ ((tO ev.C_Land ldT) : Ty K Ld).rp S H' v_self d_self ∧ (tStr : Ty K Str).rp S H' v_name d_name ∧ ((tL (tT2 tRat tRat)) : Ty K (List (Rat × Rat))).rp S H' v_spots spots_1 ∧ (tRat : Ty K Rat).rp S H' v_total s_3) (fun H3 s3 => ?_) (fun hd3 s_3 at_3 cr3 v_at σ' H' hI h_at hx3 hm hret3 hbrk3 => ?_) (fun t_3 σ' H' er hI => ?_)
  · skip
    have fr0 := fr0.trans (Fr.same s3)
    have dm := dm.same s3
    have h_self := ((tO ev.C_Land ldT) : Ty K Ld).mono (S := S) (Fr.same s3) h_self
    have h_name := (tStr : Ty K Str).mono (S := S) (Fr.same s3) h_name
    have h_spots := ((tL (tT2 tRat tRat)) : Ty K (List (Rat × Rat))).mono (S := S) (Fr.same s3) h_spots
    have h_total := (tRat : Ty K Rat).mono (S := S) (Fr.same s3) h_total
    exact ⟨v_self, v_name, v_spots, v_total, _, rfl, fr0, dm, h_self, h_name, h_spots, h_total⟩
  · skip
    obtain ⟨v_self, v_name, v_spots, v_total, f_4, rfl, fr0, dm, h_self, h_name, h_spots, h_total⟩ := hI
    let HL := H'
    have freshl : ∀ a ∈ S, a ∉ S → H' a = none := fun a m n => absurd m n
    have frl : Fr S HL H' := Fr.refl (T := S) H'
    have tsl := ts
    have subl : Sub S S := fun a m => m
    have h_at : (tInt : Ty K Int).rp S H' v_at at_3 := h_at
    obtain ⟨total_4, e4, hm⟩ := bd_some hm
    refine l_asg (T := []) dm (ev_call (ea_cons (ev_var ts h_total rfl) (ea_cons (ev_call (ea_cons (ev_op od_ixL (ev_var ts h_spots rfl) (ev_op (od_sub (K := K)) (ev_var ts h_at rfl) (ev_int (K := K)))) (ea_cons (ev_op od_ixL (ev_var ts h_spots rfl) (ev_var ts h_at rfl)) ea_nil))) ea_nil))) e4 (fun v_total H4 s4 h_total => ?_)
    have fr0 := fr0.trans (Fr.same s4)
    have dm := dm.same s4
    have frl := frl.trans (Fr.same s4)
    have h_self := ((tO ev.C_Land ldT) : Ty K Ld).mono (S := S) (Fr.same s4) h_self
    have h_name := (tStr : Ty K Str).mono (S := S) (Fr.same s4) h_name
    have h_spots := ((tL (tT2 tRat tRat)) : Ty K (List (Rat × Rat))).mono (S := S) (Fr.same s4) h_spots
    have h_at := (tInt : Ty K Int).mono (S := S) (Fr.same s4) h_at
    have h_total : (tRat : Ty K Rat).rp S H4 v_total total_4 := h_total
    cases hm
    exact ⟨_, rfl, frl, ⟨v_self, v_name, v_spots, v_total, _, rfl, fr0, dm, h_self, h_name, h_spots, h_total⟩⟩
  subst er
  have hm := hm3
  obtain ⟨v_self, v_name, v_spots, v_total, f_4, rfl, fr0, dm, h_self, h_name, h_spots, h_total⟩ := hI
  have er := hm
  obtain ⟨z8, er8, ez⟩ := bd_some er
  clear er
  cases ez
  have er := er8
  exact q_ret (T := []) dm (ev_var ts h_total rfl) er (fun v H6 s6 hv => q _ rfl v H6 (fr0.trans (Fr.same s6)).toSame ((tRat : Ty K Rat).sub (S := S) (H := H6) sub0 hv))
end
end G

namespace G
open PySem L2 M
section
variable {P : Program} {w : World} {K : PySem.W.Frag} {mg : Str → Option Value} {base : Heap}
open PySem.Spec PyProof.Rows in
section
/-! ### a try with any number of clauses 'except x as n' (n in slot i) -/
abbrev Cl : Type := Value × (Addr → Value → Option Addr → TS)
def wManyAs (K : PySem.W.Frag) (i : Nat) (Wout : WX) (D : Ends) (l : List Cl) : WX := l.foldr (fun p W => wAs K p.1 i p.2 W D) Wout
/-- the clause h: its class is p's, its suite does what p says -/
inductive ClAs (X : Cx) (n : Str) : ExceptHandler → Cl → Prop
  | mk {x np c ts st sts pos} : Names X x c →
      (∀ a o cls d pn, Zc cls d o → (∃ vs, o.data = .fields vs) → PSs (X.suite a ((a, o) :: pn)) (st :: sts) (ts a cls d)) →
      ClAs X n (.ExceptHandler (some (.Name x np)) (some n) (st :: sts) pos) (c, ts)
inductive HdsAs (X : Cx) (n : Str) : List ExceptHandler → List Cl → Prop
  | nil : HdsAs X n [] []
  | more {h p hs ps} : ClAs X n h p → HdsAs X n hs ps → HdsAs X n (h :: hs) (p :: ps)
theorem HdsAs.cons {X : Cx} {n x : Str} {np pos : Pos} {c : Value} {ts : Addr → Value → Option Addr → TS} {st : Stmt} {sts : List Stmt} {hs : List ExceptHandler} {ps : List Cl} (hc : Names X x c)
    (hsu : ∀ a o cls d pn, Zc cls d o → (∃ vs, o.data = .fields vs) → PSs (X.suite a ((a, o) :: pn)) (st :: sts) (ts a cls d)) (r : HdsAs X n hs ps) :
    HdsAs X n (.ExceptHandler (some (.Name x np)) (some n) (st :: sts) pos :: hs) ((c, ts) :: ps) := .more (.mk hc hsu) r
/-- what is known once the exception a (of the class cls, its fields at d) has come down: g is the heap now, sI the state it was thrown in -/
structure Down (X : Cx) (pins : List (Addr × Obj)) (σ : L2.St) (H : Hp) (B : Heap) (sI t : Shared) (a : Addr) (cls : Value) (d : Option Addr) : Prop where
  ok : X.Ok
  fr : X.stack = X.env :: X.outer
  loc : X.env.frame = some X.env.locals
  inv : Inv X pins σ H sI
  gnd : ∀ b o, sI.heap.get? b = some o → b ∉ frs X.stack → B.get? b = some o
  up : sI.heap.UpToSlots t.heap
  fly : HandSPX.FlyingZ B (X.env :: X.outer) a (Zc cls d) t.heap
  na : H a = none
  os : t.os = sI.os
  bare : AllBare t.gens
section
variable {X : Cx} {pins : List (Addr × Obj)} {σ : L2.St} {H : Hp} {B : Heap} {sI t : Shared} {a : Addr} {cls : Value} {d : Option Addr}
theorem Down.here (L : Down X pins σ H B sI t a cls d) : Inv X pins σ H t := L.inv.landed L.gnd L.fly.1 L.up L.os L.bare
theorem Down.step (L : Down X pins σ H B sI t a cls d) {g : Heap} (f : HandSPX.FlyingZ B (X.env :: X.outer) a (Zc cls d) g) (u : t.heap.UpToSlots g) : Down X pins σ H B sI { t with heap := g } a cls d :=
  { L with up := L.up.trans u, fly := f }
theorem Down.apart (L : Down X pins σ H B sI t a cls d) : a ∉ frs (X.env :: X.outer) := by
  intro m
  have ⟨o, vs, e, _, dat⟩ := L.fly.there
  have ⟨_, o', e', no⟩ := L.fly.2.2.1.mem m
  exact no vs (Option.some.inj (e'.symm.trans e) ▸ dat)
theorem Down.notL (L : Down X pins σ H B sI t a cls d) : a ≠ X.env.locals := by
  intro e
  refine L.apart (List.mem_filterMap.mpr ⟨X.env, .head _, ?_⟩)
  rw [L.loc, e]
theorem Down.notF (L : Down X pins σ H B sI t a cls d) : a ∉ X.fs := by
  intro m
  have ⟨e, he, q⟩ := List.mem_filterMap.mp m
  exact L.apart (List.mem_filterMap.mpr ⟨e, .tail _ he, q⟩)
/-- the state of a clause's suite -/
theorem Down.insuite (L : Down X pins σ H B sI t a cls d) : ∃ o, t.heap.get? a = some o ∧ Zc cls d o ∧ (∃ vs, o.data = .fields vs) ∧ Inv (X.suite a ((a, o) :: (X.pn ++ pins))) [] σ H t :=
  have ⟨o, vs, e, z, dat⟩ := L.fly.there
  ⟨o, e, z, ⟨vs, dat⟩, L.here.suite e dat L.na L.notL L.notF⟩
/-- the clause's class is looked up, and the exception held against it -/
theorem Down.test (L : Down X pins σ H B sI t a cls d) {x : Str} {np : Pos} {c : Value} {b : Bool} {Q : Bool → Shared → Prop} {E E' : Value → Shared → Prop} (hc : Names X x c) (hb : PySem.W.exmOne X.K cls c = some b) (q : Q b t) :
    wpAny (model X.prog X.w) (X.A.mark (some (.ref a))) (eval (.Name x np) X.env) (fun v s => wpAny (model X.prog X.w) (X.A.mark (some (.ref a))) (excMatches (.ref a) v) Q E s) E' t := by
  have ⟨o, e, z, _, S⟩ := L.insuite
  have LM := PySem.W.exm_one (M := model X.prog X.w) (e := a) L.here.kIn (fun _ _ _ _ k w => wpAny_typeOf_ref (k _ _ e) (z.1 ▸ w)) hb
  rcases hc with ⟨gl, ndb, g | ⟨g, bt, ne⟩⟩
  · exact ld_glob (X := X.suite a _) S gl g (LM.here q) ndb
  · exact ld_blt (X := X.suite a _) S gl g bt (LM.here q) ne ndb
/-- no clause is left: it flies on -/
theorem Down.off (L : Down X pins σ H B sI t a cls d) {W : WX} {D : Ends} (tk : Takes X W) (w : W cls d σ H) : wpAny (model X.prog X.w) X.A (handleBy (.ref a) X.env []) (SP X pins D) X.xe t := by
  have away : wpAny (model X.prog X.w) X.A (setFlight (.ref a) X.env.frame) (fun _ u => wpAny (model X.prog X.w) X.A (throw (.ref a) : Sem Flow) (SP X pins D) X.xe u) X.xe t := by
    rw [L.loc]
    exact HandSPX.setFlight_upZ L.fly fun g held u => wpAny_throw (tk _ _ ⟨a, B, sI, pins, σ, H, cls, d, rfl, L.inv, L.gnd, L.up.trans u, .inr (.inr (L.fr ▸ held)), L.na, L.os, L.bare, w⟩)
  have ⟨_, _, _, o, vs, T, _, _, e, _, dat, tb, _⟩ := id L.fly
  apply wpAny_handleBy_nil
  unfold PySem.passOn
  apply wpAny_bind
  apply wpAny_field e dat tb
  rw [if_neg (by simp)]
  first
    | exact wpAny_bind (wpAny_pure (wpAny_bind away))
    | exact wpAny_bind away
/-- the clauses, one after the other -/
theorem Down.clauses {n : Str} {i : Nat} {W : WX} {D : Ends} (hN : X.N.Nodup) (hi : X.N[i]? = some n) (hln : X.env.kindOf n = some .local) (tk : Takes X W) :
    ∀ {hs : List ExceptHandler} {l : List Cl}, HdsAs X n hs l → ∀ {t : Shared}, Down X pins σ H B sI t a cls d → wManyAs X.K i W D l cls d σ H → wpAny (model X.prog X.w) X.A (handleBy (.ref a) X.env hs) (SP X pins D) X.xe t
  | _, _, .nil, _, L, w => L.off tk w
  | _, _, .more (.mk hc hsu) r, t, L, w => by
    obtain ⟨b, hb, yes, no⟩ := w
    apply wpAny_handleBy_cons _ (fun z => by cases z)
    apply codeAny_handlers_test
    refine L.test hc hb ?_
    cases b
    · exact Down.clauses hN hi hln tk r L (no rfl)
    · apply codeAny_handlers_suite_as
      refine HandSPX.lands_againZ L.fly fun g f u => ?_
      have L' := L.step f u
      have ⟨o, e, z, dat, S⟩ := L'.insuite
      refine store_ok (X := X.suite a _) (v := .ref a) S hN hi (.inl hln) rfl (fun s5 S5 => ?_) (.inr hln)
      have run := (hsu a o cls d (X.pn ++ pins) z dat).run [] s5 _ H _ S5 (yes rfl a L.na)
      refine wpAny_mono run (fun fl s6 told => ?_) (fun _ _ => False.elim)
      cases fl
      case ret => exact told.elim fun v told => told.elim fun σ6 told => told.elim fun H6 told => gone_ok (told.1.unsuite L.ok) hN hi hln fun s7 I => ⟨v, _, H6, I, told.2⟩
      all_goals exact told.elim fun σ6 told => told.elim fun H6 told => gone_ok (told.1.unsuite L.ok) hN hi hln fun s7 I => ⟨_, H6, I, told.2⟩
variable {n : Str} {i : Nat} {body : List Stmt} {h₀ : ExceptHandler} {hds : List ExceptHandler} {l : List Cl} {pos : Pos} {tb : WX → TS} {Wout : WX}
theorem ps_try_manyAs (hs : X.stack = X.env :: X.outer) (hf : X.env.frame = some X.env.locals) (hN : X.N.Nodup) (hi : X.N[i]? = some n) (hln : X.env.kindOf n = some .local) (tk : Takes X Wout)
    (hb : ∀ W pn xe, Takes (X.tr pn xe) W → PassesOwn (model X.prog X.w) X.A X.env xe → PSs (X.tr pn xe) body (tb W))
    (hh : HdsAs X n (h₀ :: hds) l) : PS X (.Try body (h₀ :: hds) [] [] pos) (fun D σ H => tb (wManyAs X.K i Wout D l) D σ H) := by
  constructor
  intro pins s σ H D I h
  have A1 : X.A.frames = some (X.env :: X.outer) := hs ▸ I.ok.frames
  apply wpAny_Try_except
  refine wpAny_mono ((hb _ (X.pn ++ pins) _ ?_ PassesOwn.looking).run [] s σ H D (I.toTry _) h) (fun fl s1 told => ?_) (fun _ _ x => x)
  · rintro _ t ⟨a, B, sI, pins', σ', H', cls, d, rfl, J, gnd, up, sky, na, os, ag, w⟩
    have sky : Sky B (X.env :: X.outer) a (Zc cls d) X.env.locals t.heap := hs ▸ sky
    exact Sky.land Zc.steady A1 hf sky fun g f u => Down.clauses hN hi hln tk hh ⟨I.ok, hs, hf, J.ofTry I.ok, gnd, up.trans u, f, na, os, ag⟩ w
  · cases fl
    case next => exact wpAny_execs_nil (told.elim fun σ' told => told.elim fun H' told => ⟨σ', H', told.1.ofTry I.ok, told.2⟩)
    case ret => exact told.elim fun v told => told.elim fun σ' told => told.elim fun H' told => ⟨v, σ', H', told.1.ofTry I.ok, told.2⟩
    all_goals exact told.elim fun σ' told => told.elim fun H' told => ⟨σ', H', told.1.ofTry I.ok, told.2⟩
end

end

theorem look1 (f : Str) (v : V) : List.lookup f [(f, v)] = some v := by simp [List.lookup]
abbrev Td : Type := (Str × Str) ⊕ (List (Rat × Rat) ⊕ Rat)
def tdR {K : PySem.W.Frag} (S : AS) : Rl Td := ⟨fun H0 H v y => match y with
    | .inl x => (tT2 (K := K) tStr tStr).rp S H v x
    | .inr (.inl z) => nwL (tT2 (K := K) tRat tRat) S H0 H v z
    | .inr (.inr q) => (tRat (K := K)).rp S H v q, fun {_ _ _ _ _ y} f d h => by
    match y, h with
    | .inl _, h => exact h
    | .inr (.inl _), h => exact (nw (K := K) (tT2 tRat tRat) S).back f d h
    | .inr (.inr _), h => exact h⟩
def word : Nat → Str
  | 0 => "noline"
  | _ => "loose"
def sok? (z : Str) : Option Str := if PyData.strOk z = true then some z else none
def m_law_told (x : Ld) (nm : Str) (door : Int) : Option Td :=
  if door = 0 then bd (m_Land_row x nm) fun r => match r with
    | .inl e => bd (sok? e.2) fun z => some (.inl (word e.1, z))
    | .inr z => some (.inr (.inl z))
  else bd (m_Land_length x nm) fun r => match r with
    | .inl e => bd (sok? e.2) fun z => some (.inl (word e.1, z))
    | .inr z => some (.inr (.inr z))
abbrev sp_law_told (K : PySem.W.Frag) (CS : Addr) : Sp := spF (K := K) (aCons (tO CS ldT) (aCons tStr (aCons tInt aNil))) (fun S => tdR (K := K) S) (fun a => m_law_told a.1 a.2.1 a.2.2.1)
theorem sok_some {z y : Str} (h : sok? z = some y) : PyData.strOk z = true ∧ y = z := by
  unfold sok? at h
  split at h
  · rename_i c; cases h; exact ⟨c, rfl⟩
  · cases h
theorem word_ok (k : Nat) : PyData.strOk (word k) = true := by
  cases k with
  | zero => exact (show PyData.strOk ("noline" : Str) = true by decide +kernel)
  | succ n => exact (show PyData.strOk ("loose" : Str) = true by decide +kernel)
theorem ok_law_told (ev : Env P K mg) : FnOk P w K mg base CX0 8 ev.f_law_told ev.d_law_told p_law_told (sp_law_told K ev.C_Land) := by
  refine ev.A_law_told.F.ok sc_law_told (fun vs H Q E h => ?_) (fun cdv A outer s H0 vs Q E hr h => ?_)
  · obtain ⟨S, ⟨x, nm, door, _⟩, y, _, ⟨v0, _, rfl, _, v1, _, rfl, _, v2, _, rfl, _, rfl⟩, _⟩ := h
    rfl
  obtain ⟨S, ⟨x, nm, door, _⟩, y, dm, ⟨v_l, _, rfl, h_l, v_n, _, rfl, h_n, v_d, _, rfl, h_d, rfl⟩, hm, q⟩ := h
  obtain ⟨_, _, _, _, _, _, _, _, X0⟩ := ev.X_NoLine
  obtain ⟨_, _, _, _, _, _, _, _, X1⟩ := ev.X_Loose
  refine ⟨_, pss_cons (ps_set (i := 3) sc_law_told.nd rfl (Or.inl rfl) pe_non)
    (pss_cons (ps_try_manyAs (i := 4) (n := "e") (l := [(.ref ev.C_NoLine, fun a cls d => tAsg (tTup (tCons (tC (.str "noline")) (tCons (tXf a cls d ev.C_NoLine "name" (tVar 4)) tNil))) (gName 3)), (.ref ev.C_Loose, fun a cls d => tAsg (tTup (tCons (tC (.str "loose")) (tCons (tXf a cls d ev.C_Loose "name" (tVar 4)) tNil))) (gName 3))]) (Wout := fun _ _ _ _ => False) rfl rfl sc_law_told.nd rfl rfl takes0
      (fun W pn xe tk po => pss_one (ps_if (pt_cmpR op_eq (pv 2) pe_int (nomark _))
        (pss_one (ps_set (i := 3) sc_law_told.nd rfl (Or.inl rfl) (pe_methX (pv 0) ev.cl_Land ev.A_Land_row.me (ok_Land_row ev) (hr.mono (by decide)) ev.A_Land_row.b (fun σ => passAt tk σ) (pa_cons (pv 1) pa_nil))))
        (pss_one (ps_set (i := 3) sc_law_told.nd rfl (Or.inl rfl) (pe_methX (pv 0) ev.cl_Land ev.A_Land_length.me (ok_Land_length ev) (hr.mono (by decide)) ev.A_Land_length.b (fun σ => passAt tk σ) (pa_cons (pv 1) pa_nil))))))
      (.cons ⟨rfl, by decide, Or.inl X0.2.1.gC⟩ (fun a oe cls d pn hz hf => pss_one (ps_set (i := 3) sc_law_told.nd rfl (Or.inl rfl) (pe_tup (pa_cons pe_str (pa_cons (pe_xf (C := ev.C_NoLine) X0.2.2.1 X0.2.2.2.1 hz hf (pv 4)) pa_nil)))))
        (.cons ⟨rfl, by decide, Or.inl X1.2.1.gC⟩ (fun a oe cls d pn hz hf => pss_one (ps_set (i := 3) sc_law_told.nd rfl (Or.inl rfl) (pe_tup (pa_cons pe_str (pa_cons (pe_xf (C := ev.C_Loose) X1.2.2.1 X1.2.2.2.1 hz hf (pv 4)) pa_nil))))) .nil)))
    (pss_one (ps_ret (pv 3)))), ?_⟩
  refine seq_c ?_
  have ts : Sub [] S := fun a m => by simp at m
  have tel : ∀ (H1 : Hp), Same H0 H1 → ∀ (k : Nat) (z : Str), y = .inl (word k, z) → PyData.strOk z = true → ∀ (H' : Hp) (d a : Addr), Same H1 H' → H' d = none → ∀ p, (upd H' d (.xd [("name", .str z)])) p = none → Q (.ref p) (upd (upd H' d (.xd [("name", .str z)])) p (.tup [.str (word k), .str z])) := by
    intro H1 s1 k z ey oz H' d a s' nd p np
    subst ey
    refine q _ _ (s1.trans (s'.trans ((same_upd nd).trans (same_upd np)))) ?_
    exact ⟨p, _, _, rfl, .inl ⟨.inl upd_same, ((dm.same (s1.trans s')).same (same_upd nd)).not_mem np⟩, ⟨rfl, word_ok k⟩, ⟨rfl, oz⟩⟩
  dsimp only at hm h_l h_n h_d
  refine l_if (S := S) (T := []) (b := decide (door = 0)) dm (eb_test (K := K) (ev_op (od_eqI (K := K)) (ev_var ts h_d rfl) (ev_int (K := K)))) (by simp [bd]) (fun hc H1 s1 => ?_) (fun hc H1 s1 => ?_)
  · have d0 : door = 0 := of_decide_eq_true hc
    unfold m_law_told at hm
    rw [if_pos d0] at hm
    obtain ⟨r, er, hm⟩ := bd_some hm
    have h_l := (tO ev.C_Land ldT).mono (Fr.same s1) h_l
    have h_n := (tStr (K := K)).mono (S := S) (Fr.same s1) h_n
    refine (ev_fnX1 (f := fun a => m_Land_row a.1 a.2.1) (fno_cons (by decide +kernel) (fno_cons (by decide +kernel) (fno_cons (by decide +kernel) fno_nil))) (ev_var ts h_l rfl) (ev_var ts h_n rfl)) r er H1 (Fr.refl _) (dm.same s1) _ (fun z ez v H2 s2 hv => ?_) (fun e ee => ?_)
    · subst ez
      cases hm
      exact ⟨_, rfl, q _ _ (s1.trans s2) ((nw (K := K) (tT2 tRat tRat) S).same s1 hv)⟩
    · subst ee
      dsimp only at hm
      obtain ⟨z, ez, hm⟩ := bd_some hm
      obtain ⟨oz, rfl⟩ := sok_some ez
      cases hm
      intro H' d s' nd
      obtain ⟨k, z⟩ := e
      cases k with
      | zero =>
        refine ⟨true, ev.xm_NoLine_NoLine, fun _ a na => ?_, fun z => Bool.noConfusion z⟩
        exact ⟨_, rfl, rfl, rfl, d, _, _, rfl, upd_same, look1 _ _, (by show 2 ≤ sizeLine; decide), fun p np => ⟨_, rfl, tel H1 s1 0 _ rfl oz H' d a s' nd p np⟩⟩
      | succ k =>
        refine ⟨false, ev.xm_Loose_NoLine, fun z => Bool.noConfusion z, fun _ => ⟨true, ev.xm_Loose_Loose, fun _ a na => ?_, fun z => Bool.noConfusion z⟩⟩
        exact ⟨_, rfl, rfl, rfl, d, _, _, rfl, upd_same, look1 _ _, (by show 2 ≤ sizeLine; decide), fun p np => ⟨_, rfl, tel H1 s1 (k + 1) _ rfl oz H' d a s' nd p np⟩⟩
  · have d0 : ¬ door = 0 := of_decide_eq_false hc
    unfold m_law_told at hm
    rw [if_neg d0] at hm
    obtain ⟨r, er, hm⟩ := bd_some hm
    have h_l := (tO ev.C_Land ldT).mono (Fr.same s1) h_l
    have h_n := (tStr (K := K)).mono (S := S) (Fr.same s1) h_n
    refine (ev_fnX1 (f := fun a => m_Land_length a.1 a.2.1) (fno_cons (by decide +kernel) (fno_cons (by decide +kernel) (fno_cons (by decide +kernel) fno_nil))) (ev_var ts h_l rfl) (ev_var ts h_n rfl)) r er H1 (Fr.refl _) (dm.same s1) _ (fun z ez v H2 s2 hv => ?_) (fun e ee => ?_)
    · subst ez
      cases hm
      exact ⟨_, rfl, q _ _ (s1.trans s2) hv⟩
    · subst ee
      dsimp only at hm
      obtain ⟨z, ez, hm⟩ := bd_some hm
      obtain ⟨oz, rfl⟩ := sok_some ez
      cases hm
      intro H' d s' nd
      obtain ⟨k, z⟩ := e
      cases k with
      | zero =>
        refine ⟨true, ev.xm_NoLine_NoLine, fun _ a na => ?_, fun z => Bool.noConfusion z⟩
        exact ⟨_, rfl, rfl, rfl, d, _, _, rfl, upd_same, look1 _ _, (by show 2 ≤ sizeLine; decide), fun p np => ⟨_, rfl, tel H1 s1 0 _ rfl oz H' d a s' nd p np⟩⟩
      | succ k =>
        refine ⟨false, ev.xm_Loose_NoLine, fun z => Bool.noConfusion z, fun _ => ⟨true, ev.xm_Loose_Loose, fun _ a na => ?_, fun z => Bool.noConfusion z⟩⟩
        exact ⟨_, rfl, rfl, rfl, d, _, _, rfl, upd_same, look1 _ _, (by show 2 ≤ sizeLine; decide), fun p np => ⟨_, rfl, tel H1 s1 (k + 1) _ rfl oz H' d a s' nd p np⟩⟩

end
end G

namespace G
open PySem L2 M
section
variable {P : Program} {w : World} {K : PySem.W.Frag} {mg : Str → Option Value} {base : Heap}

/-! ### the bag -/
def spBag (K : PySem.W.Frag) : Sp := fun vs H Q _ => ∃ (a : Addr) (ns : List Int), vs = [.ref a] ∧ SqL K H a (ns.map V.int) ∧ ns.length ≤ 63 ∧ ∀ b c H', Bag H' b c → H b = none → H c = none → Same H H' → Q (.ref b) H'
theorem ok_law_bag (ev : Env P K mg) : FnOk P w K mg base CX0 1 ev.f_law_bag ev.d_law_bag p_law_bag (spBag K) := by
  refine ev.A_law_bag.F.ok sc_law_bag (fun vs H Q E h => ?_) (fun cdv A outer s H vs Q E hr h => ?_)
  · obtain ⟨a, ns, rfl, _⟩ := h
    rfl
  obtain ⟨a, ns, rfl, hS, hl, q⟩ := h
  refine ⟨_, (pss_one (ps_ret (pe_lst (pa_cons (pe_callTy call_list_of (by rfl) ev.B.list_ (by decide +kernel) (pa_cons (pe_slice sl_list (pv 0) po_none (po_some pe_int)) pa_nil)) (pa_cons pe_int (pa_cons pe_int pa_nil)))))), ?_⟩
  obtain ⟨ms, em, lm⟩ := cut_ints ns none (some 63)
  refine ⟨_, rfl, _, rfl, a, _, rfl, hS, fun d nd => ?_⟩
  have s1 : Same H (upd H d (.lst (cutV (ns.map V.int) none (some 63)))) := same_upd nd
  refine ⟨d, _, rfl, .inl (SqL.of upd_same), fun c nc => ?_⟩
  have s2 := s1.trans (same_upd (o := .lst (cutV (ns.map V.int) none (some 63))) nc)
  refine ⟨(by show 3 ≤ sizeLine; decide), fun b nb => ?_⟩
  have ne : b ≠ c := fun z => by
    rw [z, upd_same] at nb
    cases nb
  refine q b c _ ⟨ne, ms, 0, 11, upd_same, ?_, by omega, by decide, by decide, by decide⟩ (s2.free nb) (s1.free nc) (s2.trans (same_upd nb))
  rw [upd_ne ne.symm, upd_same, em]

/-! ### a draw -/
def Els (b c : Addr) (H H' : Hp) : Prop := ∀ p, p ≠ b → p ≠ c → H' p = H p
theorem Els.trans {b c : Addr} {H H' H'' : Hp} (h : Els b c H H') (h' : Els b c H' H'') : Els b c H H'' := fun p n m => (h' p n m).trans (h p n m)
theorem Els.kept {b c : Addr} {H H' : Hp} (h : Els b c H H') : Kept b c H H' := fun p _ e n m => (h p n m).trans e
theorem Els.tup {b c p : Addr} {H H' : Hp} {xs : List V} (h : Els b c H H') (hB : Bag H b c) (e : H p = some (.tup xs)) : H' p = some (.tup xs) := by
  obtain ⟨n1, n2⟩ := hB.tup e
  exact (h p n1 n2).trans e
def spDraw : Sp := fun vs H Q _ => ∃ (b c : Addr) (m : Int), vs = [.ref b, .int m] ∧ Bag H b c ∧ 0 < m ∧ m < 1073741824 ∧ ∀ (r : Int) (H' : Hp), 0 ≤ r → r < m → Bag H' b c → Els b c H H' → Q (.int r) H'
theorem ok_law_draw (ev : Env P K mg) : FnOk P w K mg base CX0 1 ev.f_law_draw ev.d_law_draw p_law_draw spDraw := by
  refine ev.A_law_draw.F.ok sc_law_draw (fun vs H Q E h => ?_) (fun cdv A outer s H vs Q E hr h => ?_)
  · obtain ⟨b, c, m, rfl, _⟩ := h
    rfl
  obtain ⟨b, c, m, rfl, ⟨ne, ns, slot, seed, hb, hc, hn, h0, h1, h2⟩, m0, m1, q⟩ := h
  refine ⟨_, (pss_cons (ps_set (i := 2) sc_law_draw.nd rfl (Or.inl rfl) (pe_ix ix_list (pv 0) pe_int (fun _ _ => rfl)))
    (pss_cons (ps_set (i := 3) sc_law_draw.nd rfl (Or.inl rfl) (pe_ix ix_list (pv 0) pe_int (fun _ _ => rfl)))
    (pss_cons (ps_set (i := 4) sc_law_draw.nd rfl (Or.inl rfl) pe_int)
    (pss_cons (ps_if (pt_cmpR op_gt (pe_callB call_len_seq (by rfl) ev.B.len_ PySem.boot_len (pa_cons (pv 2) pa_nil)) pe_int (nomark _))
    (pss_one (ps_set (i := 4) sc_law_draw.nd rfl (Or.inl rfl) (pe_ix ix_list (pv 2) (pe_op op_mod (pv 3) (pe_callB call_len_seq (by rfl) ev.B.len_ PySem.boot_len (pa_cons (pv 2) pa_nil))) (fun _ _ => rfl)))) pss_nil)
    (pss_cons (ps_if (pt_cmpR op_lt (pv 4) pe_int (nomark _))
    (pss_one (ps_set (i := 4) sc_law_draw.nd rfl (Or.inl rfl) (pe_op op_sub pe_int (pv 4)))) pss_nil)
    (pss_cons (ps_if (pt_cmpR op_ge (pv 4) (pe_op op_pow pe_int pe_int) (nomark _))
    (pss_cons (ps_asg (pe_op op_fdiv (pv 4) (pv 1)) (pg_sub (pv 2) (pe_op op_mod (pv 3) (pe_callB call_len_seq (by rfl) ev.B.len_ PySem.boot_len (pa_cons (pv 2) pa_nil))) set_list))
    (pss_one (ps_ret (pe_op op_mod (pv 4) (pv 1))))) pss_nil)
    (pss_cons (ps_asg (pe_op op_add (pv 3) pe_int) (pg_sub (pv 0) pe_int set_list))
    (pss_cons (ps_set (i := 5) sc_law_draw.nd rfl (Or.inl rfl) (pe_ix ix_list (pv 0) pe_int (fun _ _ => rfl)))
    (pss_cons (ps_set (i := 5) sc_law_draw.nd rfl (Or.inl rfl) (pe_op op_add (pe_op op_mul (pe_op op_mod (pe_op op_mul (pv 5) (pv 5)) pe_int) pe_int) (pe_op op_mul (pv 5) pe_int)))
    (pss_cons (ps_asg (pe_op op_mod (pe_op op_add (pe_op op_add (pe_op op_add (pv 5) (pe_op op_mul (pv 4) pe_int)) (pe_op op_mul (pv 3) pe_int)) pe_int) pe_int) (pg_sub (pv 0) pe_int set_list))
    (pss_one (ps_ret (pe_op op_mod (pe_op op_fdiv (pe_op op_mod (pe_op op_mul (pe_ix ix_list (pv 0) pe_int (fun _ _ => rfl)) pe_int) pe_int) pe_int) (pv 1)))))))))))))), ?_⟩
  refine seq_asg ⟨_, rfl, b, _, _, _, rfl, rfl, SqL.of hb, atI_nat (j := 0) rfl, ?_⟩
  refine seq_asg ⟨_, rfl, b, _, _, _, rfl, rfl, SqL.of hb, atI_nat (j := 1) rfl, ?_⟩
  have hlm : (ns.map V.int).length = ns.length := List.length_map _
  have len0 : ns ≠ [] → (0 : Int) < (((ns.map V.int).length : Nat) : Int) := fun z => by
    rw [hlm]
    have := List.length_pos_iff.mpr z
    omega
  refine seq_c ?_
  refine seq_by (fun σ H' => H' = H ∧ ∃ cell : Int, σ = [some (.ref b), some (.int m), some (.ref c), some (.int slot), some (.int cell), none] ∧ (cell ≠ 0 → ns ≠ [])) ?_ (fun k => ?_)
  rotate_left
  · refine ⟨_, rfl, c, _, rfl, .inl (SqL.of hc), _, _, rfl, rfl, _, rfl, ?_⟩
    refine ite2 (fun z => ?_) (fun z => ?_)
    · have z' : (0 : Int) < (((ns.map V.int).length : Nat) : Int) := of_decide_eq_true z
      obtain ⟨v, hv⟩ := int_at (ns := ns) (i := slot % (((ns.map V.int).length : Nat) : Int)) (Int.emod_nonneg _ (by omega)) (by rw [← hlm]; exact Int.emod_lt_of_pos _ z')
      refine ⟨_, rfl, _, rfl, _, rfl, c, _, rfl, .inl (SqL.of hc), _, _, rfl, rfl, z', c, _, _, _, rfl, rfl, SqL.of hc, hv, ?_⟩
      refine k _ _ ⟨rfl, v, rfl, fun _ e => ?_⟩
      rw [hlm, e] at z'
      exact absurd z' (by decide)
    · exact k _ _ ⟨rfl, 0, rfl, fun e => absurd rfl e⟩
  rintro σ H' ⟨rfl, cell, rfl, hcell⟩
  refine seq_by (fun σ H2 => H2 = H' ∧ ∃ cell : Int, σ = [some (.ref b), some (.int m), some (.ref c), some (.int slot), some (.int cell), none] ∧ 0 ≤ cell ∧ (cell ≠ 0 → ns ≠ [])) ?_ (fun k => ?_)
  rotate_left
  · refine ⟨_, rfl, _, _, rfl, rfl, _, rfl, ?_⟩
    refine ite2 (fun z => ?_) (fun z => ?_)
    · have z' : cell < 0 := of_decide_eq_true z
      exact ⟨_, rfl, _, _, rfl, rfl, k _ _ ⟨rfl, 1 - cell, rfl, by omega, fun _ => hcell (by omega)⟩⟩
    · have z' : ¬ cell < 0 := fun e => z (decide_eq_true e)
      exact k _ _ ⟨rfl, cell, rfl, by omega, hcell⟩
  rintro σ H' ⟨rfl, cell, rfl, hc0, hcell⟩
  refine ⟨_, rfl, _, _, rfl, rfl, ⟨by decide, by decide, by decide⟩, _, _, rfl, rfl, _, rfl, ?_⟩
  refine ite2 (fun z => ?_) (fun z => ?_)
  · have z' : cell ≥ (10 : Int) ^ (18 : Int).toNat := of_decide_eq_true z
    have zz : cell ≠ 0 := fun e => by
      rw [e] at z'
      exact absurd z' (by decide)
    have z2 := len0 (hcell zz)
    have b0 := Int.emod_nonneg slot (show (((ns.map V.int).length : Nat) : Int) ≠ 0 by omega)
    have b1 := Int.emod_lt_of_pos slot z2
    refine ⟨_, rfl, _, rfl, _, _, rfl, rfl, ⟨m0, m1⟩, _, rfl, _, rfl, _, rfl, c, _, rfl, .inl (SqL.of hc), _, _, rfl, rfl, z2, c, _, _, _, rfl, rfl, hc, ix_at b0 b1, ?_⟩
    refine ⟨_, rfl, _, rfl, _, _, rfl, rfl, m0, ?_⟩
    refine q _ _ (Int.emod_nonneg _ (by omega)) (Int.emod_lt_of_pos _ m0) ⟨ne, ns.set (slot % (((ns.map V.int).length : Nat) : Int)).toNat (cell / m), slot, seed, ?_, ?_, ?_, h0, h1, h2⟩ (fun p n1 n2 => ?_)
    · rw [upd_ne ne]
      exact hb
    · rw [upd_same, set_ints]
    · rw [List.length_set]
      exact hn
    · rw [upd_ne n2]
  · refine next_u ?_
    refine seq_sub ⟨_, rfl, _, _, rfl, rfl, _, rfl, b, _, _, _, rfl, rfl, hb, rfl, ?_⟩
    refine seq_asg ⟨_, rfl, b, _, _, _, rfl, rfl, SqL.of upd_same, atI_nat (j := 2) rfl, ?_⟩
    refine seq_asg ⟨_, rfl, _, rfl, _, _, rfl, rfl, .inl ⟨by omega, by omega⟩, _, _, rfl, rfl, (show (0 : Int) < 2147483629 by decide), _, _, rfl, rfl, .inr ⟨by decide, by decide⟩, _, rfl, _, _, rfl, rfl, .inr ⟨by decide, by decide⟩, _, _, rfl, rfl, ?_⟩
    refine seq_sub ⟨_, rfl, _, rfl, _, _, rfl, rfl, .inr ⟨by decide, by decide⟩, _, _, rfl, rfl, _, rfl, _, _, rfl, rfl, .inr ⟨by decide, by decide⟩, _, _, rfl, rfl, _, _, rfl, rfl, _, _, rfl, rfl, (show (0 : Int) < 2147483647 by decide), _, rfl, b, _, _, _, rfl, rfl, upd_same, rfl, ?_⟩
    generalize hn2 : seed * seed % 2147483629 * 3 + seed * 48271 + cell * 9973 + slot * 31 + 13 = big
    have g0 := Int.emod_nonneg big (show (2147483647 : Int) ≠ 0 by decide)
    have g1 := Int.emod_lt_of_pos big (show (0 : Int) < 2147483647 by decide)
    refine ⟨_, rfl, b, _, _, _, rfl, rfl, SqL.of upd_same, atI_nat (j := 2) rfl, _, _, rfl, rfl, .inr ⟨by decide, by decide⟩, _, _, rfl, rfl, (show (0 : Int) < 2147483629 by decide), _, _, rfl, rfl, ⟨by decide, by decide⟩, _, rfl, _, _, rfl, rfl, m0, ?_⟩
    refine q _ _ (Int.emod_nonneg _ (by omega)) (Int.emod_lt_of_pos _ m0) ⟨ne, ns, slot + 1, big % 2147483647, ?_, ?_, hn, by omega, g0, g1⟩ (fun p n1 n2 => ?_)
    · rw [upd_same]
      all_goals rfl
    · rw [upd_ne ne.symm, upd_ne ne.symm]
      exact hc
    · rw [upd_ne n1, upd_ne n1]

/-! ### whole numbers, things alike -/
def spWhole : Sp := fun vs H Q _ => ∃ i : Int, vs = [.int i] ∧ Q (.bl true) H
theorem ok_law_whole (ev : Env P K mg) : FnOk P w K mg base CX0 1 ev.f_law_whole ev.d_law_whole p_law_whole spWhole := by
  refine ev.A_law_whole.F.ok sc_law_whole (fun vs H Q E h => ?_) (fun cdv A outer s H vs Q E hr h => ?_)
  · obtain ⟨i, rfl, _⟩ := h
    rfl
  obtain ⟨i, rfl, q⟩ := h
  refine ⟨_, (pss_one (ps_ret (pe_and (pe_callB call_isi (by rfl) ev.B.isinstance_ (by decide +kernel) (pa_cons (pv 0) (pa_cons (pe_bltn (v := .ty "int") (by rfl) ev.B.int_ (by decide +kernel) rfl) pa_nil))) (pe_one (pe_not (pe_callB call_isi (by rfl) ev.B.isinstance_ (by decide +kernel) (pa_cons (pv 0) (pa_cons (pe_bltn (v := .ty "bool") (by rfl) ev.B.bool_ (by decide +kernel) rfl) pa_nil)))))))), ?_⟩
  refine ⟨_, rfl, _, _, _, _, true, rfl, .ty _, .base (.int i), kit_ty (by decide +kernel), true, rfl, ?_⟩
  refine iteT ?_
  exact ⟨_, rfl, _, _, _, _, false, rfl, .ty _, .base (.int i), kit_ty (by decide +kernel), false, rfl, q⟩

/-- a comprehension's walk over I from the heap H0 on: each item does Step, the end is Qd -/
def Wlk (I : It) (H0 : Hp) (Step : V → Hp → (Hp → Prop) → Prop) (Qd : Hp → Prop) : Prop := ∃ W : Nat → Nat → Hp → Prop, (∃ m, W 0 m H0) ∧
  ∀ i m H, W i m H → (I.stop i H ∧ Qd H) ∨ (I.go i H ∧ ∃ N : Hp → Prop, (∀ G, N G → ∃ m', m' < m ∧ W (i + 1) m' G) ∧ ∀ y G, I.yld i H y G → Step y G N)
theorem wlk {I : It} {H0 : Hp} {Step : V → Hp → (Hp → Prop) → Prop} {Qd : Hp → Prop} (n : Nat) (Pv : Nat → Hp → Prop) (h0 : Pv 0 H0) (done : ∀ H, Pv n H → I.stop n H ∧ Qd H) (step : ∀ i H, i < n → Pv i H → I.go i H ∧ ∀ y G, I.yld i H y G → Step y G (Pv (i + 1))) :
    Wlk I H0 Step Qd := by
  refine ⟨fun i m H => i + m = n ∧ Pv i H, ⟨n, Nat.zero_add n, h0⟩, fun i m H w => ?_⟩
  cases m with
  | zero =>
    have e : i = n := w.1
    exact .inl (e ▸ done H (e ▸ w.2))
  | succ m =>
    have s := step i H (by have := w.1; omega) w.2
    exact .inr ⟨s.1, Pv (i + 1), fun G g => ⟨m, Nat.lt_succ_self m, by have := w.1; omega, g⟩, s.2⟩
/-- what one item does in [e for x in .. if t] and in {k: v for x in .. if t}, N behind it -/
abbrev LcStep (g : TG) (tt : TT) (te : TE) (vs : List Nat) (σ : L2.St) (D : Addr) (y : V) (G : Hp) (N : Hp → Prop) : Prop :=
  g y (wipe σ vs) G fun σ' G2 => wipe σ' vs = wipe σ vs ∧ tt σ' G2 fun b G3 => if b = true then te σ' G3 (fun z G4 => ∃ l, G4 D = some (.lst l) ∧ l.length < sizeLine ∧ N (upd G4 D (.lst (l ++ [z])))) else N G3
abbrev DcStep (g : TG) (tt : TT) (tk tv : TE) (vs : List Nat) (σ : L2.St) (D : Addr) (y : V) (G : Hp) (N : Hp → Prop) : Prop :=
  g y (wipe σ vs) G fun σ' G2 => wipe σ' vs = wipe σ vs ∧ tt σ' G2 fun b G3 => if b = true then tk σ' G3 (fun a G4 => tv σ' G4 fun z G5 => ∃ l k, a = kV k ∧ G5 D = some (.dK l) ∧ l.length < sizeLine ∧ N (upd G5 D (.dK (putK l k z)))) else N G3
theorem lc_keys {d : Addr} {o : Obj} {kvs : List (Key × V)} {g : TG} {tt : TT} {te : TE} {vs : List Nat} {σ : L2.St} {H0 : Hp} {D : Addr} {Qd : Hp → Prop} (Pv : Nat → Hp → Prop) (h0 : Pv 0 (upd H0 D (.lst []))) (hl : ∀ i H, i ≤ kvs.length → Pv i H → H d = some (.frz o (.dK kvs)))
    (hs : ∀ i k v H, kvs[i]? = some (k, v) → Pv i H → LcStep g tt te vs σ D (kV k) H (Pv (i + 1))) (hd : ∀ H, Pv kvs.length H → Qd H) : Wlk (Itk d o kvs) (upd H0 D (.lst [])) (LcStep g tt te vs σ D) Qd :=
  wlk kvs.length Pv h0 (fun H p => ⟨⟨hl _ H (Nat.le_refl _) p, Nat.le_refl _⟩, hd H p⟩) fun i H c p => ⟨⟨hl i H (Nat.le_of_lt c) p, c⟩, fun y G z => by
    obtain ⟨rfl, k, v, e, rfl⟩ := z
    exact hs i k v _ e p⟩
/-- sorted(d): keys that are texts, or numbers -/
theorem call_srtK {X : Cx} (hc : X.calm = true) : CallR X (.builtin "sorted") (fun xs H Q => (∃ (a : Addr) (kvs : List (Key × V)) (ks : List Str), xs = [.ref a] ∧ Rd H a (.dK kvs) ∧ kvs.map (·.1) = ks.map Sum.inr ∧ ks.length < 64 ∧
      ∀ ys p, ys.Perm ks → PyProof.Rows.sortedS ys = true → H p = none → Q (.ref p) (upd H p (.lst (ys.map V.str)))) ∨
    ∃ (a : Addr) (kvs : List (Key × V)) (ks : List Int), xs = [.ref a] ∧ Rd H a (.dK kvs) ∧ kvs.map (·.1) = ks.map Sum.inl ∧ ks.length < 64 ∧
      ∀ (ys : List Int) (p : Addr), ys.Perm ks → ys.Pairwise (· ≤ ·) → H p = none → Q (.ref p) (upd H p (.lst (ys.map V.int)))) := by
  intro pins s σ H xs us Q I r h
  rcases h with h | h
  · exact call_sortedD hc pins s σ H xs us Q I r h
  · exact call_sortedDI hc pins s σ H xs us Q I r h
/-- the heaps from H on: what was to be read there is to be read there -/
def Up (H H' : Hp) : Prop := ∀ a u, Rd H a u → Rd H' a u
theorem up_same {H H' : Hp} (s : Same H H') : Up H H' := fun a u h => by
  rcases h with h | ⟨o, h⟩
  · exact .inl (s _ _ h)
  · exact .inr ⟨o, s _ _ h⟩
theorem Up.trans {H H' H'' : Hp} (h : Up H H') (h' : Up H' H'') : Up H H'' := fun a u r => h' a u (h a u r)
theorem up_lock {H : Hp} {d : Addr} {u : HO} {od : Obj} (h : H d = some u) (nf : ∀ o v, u ≠ .frz o v) : Up H (upd H d (.frz od u)) := fun a v r => by
  by_cases e : a = d
  · subst e
    rcases r with r | ⟨o, r⟩
    · rw [h] at r
      cases r
      exact .inr ⟨od, upd_same⟩
    · rw [h] at r
      exact absurd (Option.some.inj r) (nf _ _)
  · rcases r with r | ⟨o, r⟩
    · exact .inl (by rw [upd_ne e]; exact r)
    · exact .inr ⟨o, by rw [upd_ne e]; exact r⟩
theorem tyT {K : PySem.W.Frag} {H : Hp} {a : Addr} {xs : List V} (h : SqT K H a xs) : TyX K H (.ref a) (.type "tuple") := by
  rcases h with (h | ⟨o, h⟩) | ⟨o, _, _, h, hc, _⟩
  · exact .base (.tup h)
  · exact .fTuple h
  · exact .kTuple h hc
theorem tyL {K : PySem.W.Frag} {H : Hp} {a : Addr} {xs : List V} (h : SqL K H a xs) : TyX K H (.ref a) (.type "list") := by
  rcases h with (h | ⟨o, h⟩) | ⟨o, _, _, h, hc, _⟩
  · exact .base (.lst h)
  · exact .base (.frz h)
  · exact .kList h hc
theorem sqT_up {K : PySem.W.Frag} {H H' : Hp} {a : Addr} {xs : List V} (u : Up H H') (h : SqT K H a xs) : SqT K H' a xs := by
  rcases h with h | h
  · exact .inl (u _ _ h)
  · exact .inr h
theorem sqL_up {K : PySem.W.Frag} {H H' : Hp} {a : Addr} {xs : List V} (u : Up H H') (h : SqL K H a xs) : SqL K H' a xs := by
  rcases h with h | h
  · exact .inl (u _ _ h)
  · exact .inr h
theorem tyD {K : PySem.W.Frag} {H : Hp} {a : Addr} {xs : List (Key × V)} (h : Rd H a (.dK xs)) : TyX K H (.ref a) (.type "dict") := by
  rcases h with h | ⟨o, h⟩
  · exact .base (.dK h)
  · exact .fDict h
def flat1 : V → Bool
  | .non => true
  | .bl _ => true
  | .int _ => true
  | .str _ => true
  | _ => false
/-- alike, without dicts -/
def SmT (K : PySem.W.Frag) (H : Hp) : Nat → V → V → Prop
  | 0, x, y => flat1 x = true ∧ x = y
  | n + 1, x, y => (flat1 x = true ∧ x = y) ∨
    (∃ a b xs ys, x = .ref a ∧ y = .ref b ∧ SqT K H a xs ∧ SqT K H b ys ∧ xs.length = ys.length ∧ xs.length ≤ 1000 ∧ ∀ (i : Nat) u v, xs[i]? = some u → ys[i]? = some v → SmT K H n u v) ∨
    (∃ a b xs ys, x = .ref a ∧ y = .ref b ∧ SqL K H a xs ∧ SqL K H b ys ∧ xs.length = ys.length ∧ xs.length ≤ 1000 ∧ ∀ (i : Nat) u v, xs[i]? = some u → ys[i]? = some v → SmT K H n u v)
/-- keys that sorted takes -/
def KOk (ks : List Key) : Prop := (∃ l : List Int, ks = l.map Sum.inl) ∨ ∃ l : List Str, ks = l.map Sum.inr ∧ ∀ z ∈ l, PyData.strOk z = true
def Sm (K : PySem.W.Frag) (H : Hp) : Nat → V → V → Prop
  | 0, x, y => flat1 x = true ∧ x = y
  | n + 1, x, y => (flat1 x = true ∧ x = y) ∨
    (∃ a b xs ys, x = .ref a ∧ y = .ref b ∧ SqT K H a xs ∧ SqT K H b ys ∧ xs.length = ys.length ∧ xs.length ≤ 1000 ∧ ∀ (i : Nat) u v, xs[i]? = some u → ys[i]? = some v → Sm K H n u v) ∨
    (∃ a b xs ys, x = .ref a ∧ y = .ref b ∧ SqL K H a xs ∧ SqL K H b ys ∧ xs.length = ys.length ∧ xs.length ≤ 1000 ∧ ∀ (i : Nat) u v, xs[i]? = some u → ys[i]? = some v → Sm K H n u v) ∨
    (∃ a b ks ls, x = .ref a ∧ y = .ref b ∧ H a = some (.dK ks) ∧ H b = some (.dK ls) ∧ (ks.map (·.1)).Perm (ls.map (·.1)) ∧ (ls.map (·.1)).Nodup ∧ ls.length < 64 ∧ KOk (ls.map (·.1)) ∧ KOk (ks.map (·.1)) ∧ ∀ k u v, valV ks k = some u → valV ls k = some v → SmT K H n u v)
theorem SmT.up {K : PySem.W.Frag} {H H' : Hp} (s : Up H H') : ∀ {n : Nat} {x y : V}, SmT K H n x y → SmT K H' n x y
  | 0, _, _, h => h
  | n + 1, x, y, h => by
    rcases h with h | ⟨a, b, xs, ys, h1, h2, h3, h4, h5, h6, h7⟩ | ⟨a, b, xs, ys, h1, h2, h3, h4, h5, h6, h7⟩
    · exact .inl h
    · exact .inr (.inl ⟨a, b, xs, ys, h1, h2, sqT_up s h3, sqT_up s h4, h5, h6, fun i u v e e' => (h7 i u v e e').up s⟩)
    · exact .inr (.inr ⟨a, b, xs, ys, h1, h2, sqL_up s h3, sqL_up s h4, h5, h6, fun i u v e e' => (h7 i u v e e').up s⟩)
theorem SmT.sm {K : PySem.W.Frag} {H : Hp} : ∀ {n : Nat} {x y : V}, SmT K H n x y → Sm K H n x y
  | 0, _, _, h => h
  | n + 1, x, y, h => by
    rcases h with h | ⟨a, b, xs, ys, h1, h2, h3, h4, h5, h6, h7⟩ | ⟨a, b, xs, ys, h1, h2, h3, h4, h5, h6, h7⟩
    · exact .inl h
    · exact .inr (.inl ⟨a, b, xs, ys, h1, h2, h3, h4, h5, h6, fun i u v e e' => (h7 i u v e e').sm⟩)
    · exact .inr (.inr (.inl ⟨a, b, xs, ys, h1, h2, h3, h4, h5, h6, fun i u v e e' => (h7 i u v e e').sm⟩))
theorem Sm.same {K : PySem.W.Frag} {H H' : Hp} (s : Same H H') : ∀ {n : Nat} {x y : V}, Sm K H n x y → Sm K H' n x y
  | 0, _, _, h => h
  | n + 1, x, y, h => by
    rcases h with h | ⟨a, b, xs, ys, h1, h2, h3, h4, h5, h6, h7⟩ | ⟨a, b, xs, ys, h1, h2, h3, h4, h5, h6, h7⟩ | ⟨a, b, ks, ls, h1, h2, h3, h4, h5, h6, h7, h8, h8', h9⟩
    · exact .inl h
    · exact .inr (.inl ⟨a, b, xs, ys, h1, h2, sqT_up (up_same s) h3, sqT_up (up_same s) h4, h5, h6, fun i u v e e' => (h7 i u v e e').same s⟩)
    · exact .inr (.inr (.inl ⟨a, b, xs, ys, h1, h2, sqL_up (up_same s) h3, sqL_up (up_same s) h4, h5, h6, fun i u v e e' => (h7 i u v e e').same s⟩))
    · exact .inr (.inr (.inr ⟨a, b, ks, ls, h1, h2, s _ _ h3, s _ _ h4, h5, h6, h7, h8, h8', fun k u v e e' => (h9 k u v e e').up (up_same s)⟩))
theorem SmT.flat {K : PySem.W.Frag} {H : Hp} {x : V} (h : flat1 x = true) : ∀ n, SmT K H n x x
  | 0 => ⟨h, rfl⟩
  | _ + 1 => .inl ⟨h, rfl⟩
theorem Sm.flat {K : PySem.W.Frag} {H : Hp} {x : V} (h : flat1 x = true) (n : Nat) : Sm K H n x x := (SmT.flat h n).sm
theorem SmT.tup {K : PySem.W.Frag} {H : Hp} {a b : Addr} {xs ys : List V} {n : Nat} (ha : SqT K H a xs) (hb : SqT K H b ys) (hl : xs.length = ys.length) (h1 : xs.length ≤ 1000) (hf : ∀ (i : Nat) u v, xs[i]? = some u → ys[i]? = some v → SmT K H n u v) : SmT K H (n + 1) (.ref a) (.ref b) :=
  .inr (.inl ⟨a, b, xs, ys, rfl, rfl, ha, hb, hl, h1, hf⟩)
theorem SmT.tup2 {K : PySem.W.Frag} {H : Hp} {a b : Addr} {x y x' y' : V} {n : Nat} (ha : SqT K H a [x, y]) (hb : SqT K H b [x', y']) (hx : SmT K H n x x') (hy : SmT K H n y y') : SmT K H (n + 1) (.ref a) (.ref b) :=
  SmT.tup ha hb rfl (by show 2 ≤ 1000; decide) fun i u v e e' => by
    match i, e, e' with
    | 0, e, e' => cases e; cases e'; exact hx
    | 1, e, e' => cases e; cases e'; exact hy
    | _ + 2, e, _ => cases e
theorem kA {K : PySem.W.Frag} {t : String} (h1 : kitB t "bool" = some false) (h2 : kitB t "str" = some false) : PySem.W.kitAny K (.type t) [.type "bool", .type "str"] = some false :=
  kitAny_cons (kit_ty h1) (fun _ => kitAny_cons (kit_ty h2) (fun _ => rfl) (fun z => nomatch z)) (fun z => nomatch z)
theorem kBool {K : PySem.W.Frag} : PySem.W.kitAny K (.type "bool") [.type "bool", .type "str"] = some true :=
  kitAny_cons (b := true) (kit_ty (by decide +kernel)) (fun z => nomatch z) (fun _ => rfl)
theorem kStr {K : PySem.W.Frag} : PySem.W.kitAny K (.type "str") [.type "bool", .type "str"] = some true :=
  kitAny_cons (b := false) (kit_ty (by decide +kernel)) (fun _ => kitAny_cons (b := true) (kit_ty (by decide +kernel)) (fun z => nomatch z) (fun _ => rfl)) (fun z => nomatch z)
theorem prBS : Paired ClsV [V.ty "bool", V.ty "str"] [.type "bool", .type "str"] := .cons (.ty _) (.cons (.ty _) .nil)
theorem dpS {K : PySem.W.Frag} {H : Hp} : ∀ l : List Str, DpAll K H (l.map V.str) (l.map PyData.str)
  | [] => .nil
  | z :: r => .cons (.str z) (dpS r)
theorem dpI {K : PySem.W.Frag} {H : Hp} : ∀ l : List Int, DpAll K H (l.map V.int) (l.map PyData.int)
  | [] => .nil
  | z :: r => .cons (.int z) (dpI r)
theorem shS {l : List Str} (h : ∀ z ∈ l, PyData.strOk z = true) : SeqAt.shaped (.list (l.map PyData.str)) = true := by
  unfold SeqAt.shaped
  rw [Bool.and_eq_true]
  refine ⟨?_, decide_eq_true ?_⟩
  · show PyData.canLayAll0 (l.map PyData.str) = true
    refine lay_all fun d hd => ?_
    obtain ⟨z, hz, rfl⟩ := List.mem_map.mp hd
    exact h z hz
  · have := depth_all (ds := l.map PyData.str) (n := 2) fun d hd => by
      obtain ⟨z, hz, rfl⟩ := List.mem_map.mp hd
      show PyData.depth (.str z) ≤ 2
      unfold PyData.depth
      omega
    unfold PyData.depth
    omega
theorem shI (l : List Int) : SeqAt.shaped (.list (l.map PyData.int)) = true := by
  unfold SeqAt.shaped
  rw [Bool.and_eq_true]
  refine ⟨?_, decide_eq_true ?_⟩
  · show PyData.canLayAll0 (l.map PyData.int) = true
    refine lay_all fun d hd => ?_
    obtain ⟨z, hz, rfl⟩ := List.mem_map.mp hd
    rfl
  · have := depth_all (ds := l.map PyData.int) (n := 2) fun d hd => by
      obtain ⟨z, hz, rfl⟩ := List.mem_map.mp hd
      show PyData.depth (.int z) ≤ 2
      unfold PyData.depth
      omega
    unfold PyData.depth
    omega
theorem perm_inl {a b : List Int} (h : (a.map (Sum.inl : Int → Key)).Perm (b.map Sum.inl)) : a.Perm b := by
  have e : ∀ l : List Int, (l.map (Sum.inl : Int → Key)).filterMap Sum.getLeft? = l := fun l => by
    induction l with
    | nil => rfl
    | cons x r ih =>
      rw [List.map_cons, List.filterMap_cons]
      simp [ih]
  have q := h.filterMap Sum.getLeft?
  rw [e, e] at q
  exact q
theorem perm_inr {a b : List Str} (h : (a.map (Sum.inr : Str → Key)).Perm (b.map Sum.inr)) : a.Perm b := by
  have e : ∀ l : List Str, (l.map (Sum.inr : Str → Key)).filterMap Sum.getRight? = l := fun l => by
    induction l with
    | nil => rfl
    | cons x r ih =>
      rw [List.map_cons, List.filterMap_cons]
      simp [ih]
  have q := h.filterMap Sum.getRight?
  rw [e, e] at q
  exact q
def spSame (K : PySem.W.Frag) : Nat → Sp
  | 0 => fun _ _ _ _ => False
  | n + 1 => fun vs H Q _ => ∃ x y : V, vs = [x, y] ∧ Sm K H n x y ∧ ∀ H', Same H H' → Q (.bl true) H'
theorem ok_same1 {n : Nat} (ev : Env P K mg) (GS : FnOk P w K mg base CX0 (n + 1) ev.f_law_same ev.d_law_same p_law_same (spSame K n)) : FnOk P w K mg base CX0 (n + 2) ev.f_law_same ev.d_law_same p_law_same (spSame K (n + 1)) := by
  refine ev.A_law_same.F.ok sc_law_same (fun vs H Q E h => ?_) (fun cdv A outer s H vs Q E hr h => ?_)
  · obtain ⟨x, y, rfl, _⟩ := h
    rfl
  obtain ⟨x, y, rfl, hS, q⟩ := h
  have hr1 : Room 1 _ := hr.mono (by omega)
  have hu := hu_of hr
  refine ⟨_, (pss_cons (ps_if (PW.pt (pw_or (pt_cmpR op_isN (pv 1) pe_non (nomark _)) (pw_or1 (pt_val (pe_callB call_isiT (by rfl) ev.B.isinstance_ (by decide +kernel) (pa_cons (pv 1) (pa_cons (pe_tup (pa_cons (pe_bltn (v := .ty "bool") (by rfl) ev.B.bool_ (by decide +kernel) rfl) (pa_cons (pe_bltn (v := .ty "str") (by rfl) ev.B.str_ (by decide +kernel) rfl) pa_nil))) pa_nil)))))))
    (pss_cons (ps_if (pt_cmpR op_isN (pv 1) pe_non (nomark _))
    (pss_one (ps_ret (pe_cmpR op_isN (pv 0) pe_non (nomark _)))) pss_nil)
    (pss_one (ps_ret (pe_and (pe_callB call_isiT (by rfl) ev.B.isinstance_ (by decide +kernel) (pa_cons (pv 0) (pa_cons (pe_tup (pa_cons (pe_bltn (v := .ty "bool") (by rfl) ev.B.bool_ (by decide +kernel) rfl) (pa_cons (pe_bltn (v := .ty "str") (by rfl) ev.B.str_ (by decide +kernel) rfl) pa_nil))) pa_nil))) (pe_one (pe_cmpR op_eq (pv 0) (pv 1) (nomark _))))))) pss_nil)
    (pss_cons (ps_if (pt_val (pe_callB call_isi (by rfl) ev.B.isinstance_ (by decide +kernel) (pa_cons (pv 1) (pa_cons (pe_bltn (v := .ty "int") (by rfl) ev.B.int_ (by decide +kernel) rfl) pa_nil))))
    (pss_one (ps_ret (pe_and (pe_call (ok_law_whole ev) hr1 (by rfl) ev.A_law_whole.m ev.A_law_whole.F.kp ev.A_law_whole.b .nil pass0 (pa_cons (pv 0) pa_nil)) (pe_one (pe_cmpR op_eq (pv 0) (pv 1) (nomark _)))))) pss_nil)
    (pss_cons (ps_if (pt_val (pe_callB call_isi (by rfl) ev.B.isinstance_ (by decide +kernel) (pa_cons (pv 1) (pa_cons (pe_bltn (v := .ty "dict") (by rfl) ev.B.dict_ (by decide +kernel) rfl) pa_nil))))
    (pss_cons (ps_if (PW.pt (pw_or (pt_not (pt_val (pe_callB call_isi (by rfl) ev.B.isinstance_ (by decide +kernel) (pa_cons (pv 0) (pa_cons (pe_bltn (v := .ty "dict") (by rfl) ev.B.dict_ (by decide +kernel) rfl) pa_nil))))) (pw_or1 (pt_cmpR (op_neD hr.units) (pe_callB (call_srtK rfl) (by rfl) ev.B.sorted_ (by decide +kernel) (pa_cons (pv 0) pa_nil)) (pe_callB (call_srtK rfl) (by rfl) ev.B.sorted_ (by decide +kernel) (pa_cons (pv 1) pa_nil)) (nomark _)))))
    (pss_one (ps_ret pe_bl)) pss_nil)
    (pss_one (ps_ret (pe_callB (cr_all rfl) (by rfl) ev.B.all_ (by decide +kernel) (pa_cons (pe_lock (pe_lc (own := [("_law_name_here", 2)]) (g := gName 2) (tt := tYes) (by rfl) sc_law_same.nd (pi_keys (pv 1)) (blkOk_by (own := [("_law_name_here", 2)]) (N := n_law_same) (sc := defScope s_law_same) (by decide +kernel)) (fun _ _ _ _ _ => pg_name (i := 2) sc_law_same.nd rfl (Or.inl rfl)) (fun _ _ _ _ _ => pts_nil) (fun _ _ _ _ _ => (pe_call GS hr (by rfl) ev.A_law_same.m ev.A_law_same.F.kp ev.A_law_same.b .nil pass0 (pa_cons (pe_dget hu (pv 0) (pv 2) (fun _ _ => rfl)) (pa_cons (pe_dget hu (pv 1) (pv 2) (fun _ _ => rfl)) pa_nil)))))) pa_nil))))) pss_nil)
    (pss_cons (ps_if (pt_cmpR op_ne (pe_callB call_isi (by rfl) ev.B.isinstance_ (by decide +kernel) (pa_cons (pv 1) (pa_cons (pe_bltn (v := .ty "tuple") (by rfl) ev.B.tuple_ (by decide +kernel) rfl) pa_nil))) (pe_callB call_isi (by rfl) ev.B.isinstance_ (by decide +kernel) (pa_cons (pv 0) (pa_cons (pe_bltn (v := .ty "tuple") (by rfl) ev.B.tuple_ (by decide +kernel) rfl) pa_nil))) (nomark _))
    (pss_one (ps_ret pe_bl)) pss_nil)
    (pss_cons (ps_if (PW.pt (pw_or (pt_cmpR op_ne (pe_callB call_isi (by rfl) ev.B.isinstance_ (by decide +kernel) (pa_cons (pv 1) (pa_cons (pe_bltn (v := .ty "list") (by rfl) ev.B.list_ (by decide +kernel) rfl) pa_nil))) (pe_callB call_isi (by rfl) ev.B.isinstance_ (by decide +kernel) (pa_cons (pv 0) (pa_cons (pe_bltn (v := .ty "list") (by rfl) ev.B.list_ (by decide +kernel) rfl) pa_nil))) (nomark _)) (pw_or1 (pt_cmpR op_ne (pe_callB call_len_seq (by rfl) ev.B.len_ PySem.boot_len (pa_cons (pv 0) pa_nil)) (pe_callB call_len_seq (by rfl) ev.B.len_ PySem.boot_len (pa_cons (pv 1) pa_nil)) (nomark _)))))
    (pss_one (ps_ret pe_bl)) pss_nil)
    (pss_one (ps_ret (pe_callB (cr_all rfl) (by rfl) ev.B.all_ (by decide +kernel) (pa_cons (pe_lc (own := [("_law_k", 3)]) (g := gName 3) (tt := tYes) (by rfl) sc_law_same.nd (pi_range1 rfl ev.B.range_ (pa_cons (pe_callB call_len_seq (by rfl) ev.B.len_ PySem.boot_len (pa_cons (pv 1) pa_nil)) pa_nil)) (blkOk_by (own := [("_law_k", 3)]) (N := n_law_same) (sc := defScope s_law_same) (by decide +kernel)) (fun _ _ _ _ _ => pg_name (i := 3) sc_law_same.nd rfl (Or.inl rfl)) (fun _ _ _ _ _ => pts_nil) (fun _ _ _ _ _ => (pe_call GS hr (by rfl) ev.A_law_same.m ev.A_law_same.F.kp ev.A_law_same.b .nil pass0 (pa_cons (pe_ix (show IxR _ (rIx K) from ix_seq) (pv 0) (pv 3) (fun _ _ => rfl)) (pa_cons (pe_ix (show IxR _ (rIx K) from ix_seq) (pv 1) (pv 3) (fun _ _ => rfl)) pa_nil))))) pa_nil))))))))), ?_⟩
  by_cases hf : flat1 x = true ∧ x = y
  · obtain ⟨hf, rfl⟩ := hf
    cases x with
    | non =>
      refine ⟨_, rfl, rfl, _, rfl, iteT (iteT ?_)⟩
      refine ⟨_, rfl, rfl, _, rfl, iteT ?_⟩
      exact ⟨_, rfl, rfl, q H fun _ _ e => e⟩
    | bl b =>
      refine ⟨_, rfl, rfl, _, rfl, iteF ⟨_, rfl, two, fun tp htp => ⟨_, tp, _, _, _, true, rfl, upd_same, prBS, .base (.bl b), kBool, true, rfl, iteT ?_⟩⟩⟩
      refine ⟨_, rfl, rfl, _, rfl, iteF ?_⟩
      refine ⟨_, rfl, two, fun tq htq => ⟨_, tq, _, _, _, true, rfl, upd_same, prBS, .base (.bl b), kBool, true, rfl, iteT ?_⟩⟩
      refine ⟨_, rfl, _, rfl, rfl, ?_⟩
      rw [decide_eq_true rfl]
      exact q _ ((same_upd htp).trans (same_upd htq))
    | int i =>
      refine ⟨_, rfl, rfl, _, rfl, iteF ⟨_, rfl, two, fun tp htp => ⟨_, tp, _, _, _, false, rfl, upd_same, prBS, .base (.int i), kA (by decide +kernel) (by decide +kernel), false, rfl, iteF ?_⟩⟩⟩
      refine ⟨_, rfl, _, _, _, _, true, rfl, .ty _, .base (.int i), kit_ty (by decide +kernel), true, rfl, iteT ?_⟩
      refine ⟨_, rfl, i, rfl, true, rfl, iteT ?_⟩
      refine ⟨_, rfl, _, rfl, rfl, ?_⟩
      rw [decide_eq_true rfl]
      exact q _ (same_upd htp)
    | str z =>
      refine ⟨_, rfl, rfl, _, rfl, iteF ⟨_, rfl, two, fun tp htp => ⟨_, tp, _, _, _, true, rfl, upd_same, prBS, .base (.str z), kStr, true, rfl, iteT ?_⟩⟩⟩
      refine ⟨_, rfl, rfl, _, rfl, iteF ?_⟩
      refine ⟨_, rfl, two, fun tq htq => ⟨_, tq, _, _, _, true, rfl, upd_same, prBS, .base (.str z), kStr, true, rfl, iteT ?_⟩⟩
      refine ⟨_, rfl, _, rfl, rfl, ?_⟩
      rw [decide_eq_true rfl]
      exact q _ ((same_upd htp).trans (same_upd htq))
    | _ => cases hf
  · cases n with
    | zero => exact absurd hS hf
    | succ m =>
      rcases hS with hS | ⟨a, b, xs, ys, rfl, rfl, ha, hb, hl, h1000, he⟩ | ⟨a, b, xs, ys, rfl, rfl, ha, hb, hl, h1000, he⟩ | ⟨a, b, ks, ls, rfl, rfl, ha, hb, hpm, hnd, h64, ok1, ok2, he⟩
      · exact absurd hS hf
      · refine ⟨_, rfl, rfl, _, rfl, iteF ⟨_, rfl, two, fun tp htp => ⟨_, tp, _, _, _, false, rfl, upd_same, prBS, tyT (xs := ys) ?_, kA (by decide +kernel) (by decide +kernel), false, rfl, iteF ?_⟩⟩⟩
        · exact sqT_up (up_same (same_upd htp)) hb
        have s1 : Same H (upd H tp (.tup [V.ty "bool", V.ty "str"])) := same_upd htp
        generalize upd H tp (.tup [V.ty "bool", V.ty "str"]) = H1 at s1
        have ha' := sqT_up (up_same s1) ha
        have hb' := sqT_up (up_same s1) hb
        refine ⟨_, rfl, _, _, _, _, false, rfl, .ty _, tyT hb', kit_ty (by decide +kernel), false, rfl, iteF ?_⟩
        refine ⟨_, rfl, _, _, _, _, false, rfl, .ty _, tyT hb', kit_ty (by decide +kernel), false, rfl, iteF ?_⟩
        refine ⟨_, rfl, _, _, _, _, true, rfl, .ty _, tyT hb', kit_ty (by decide +kernel), _, rfl, _, _, _, _, true, rfl, .ty _, tyT ha', kit_ty (by decide +kernel), rfl, _, rfl, iteF ?_⟩
        refine ⟨_, rfl, _, _, _, _, false, rfl, .ty _, tyT hb', kit_ty (by decide +kernel), _, rfl, _, _, _, _, false, rfl, .ty _, tyT ha', kit_ty (by decide +kernel), rfl, _, rfl, iteF ?_⟩
        refine ⟨_, rfl, a, _, rfl, .inr ha', _, rfl, b, _, rfl, .inr hb', rfl, _, rfl, ?_⟩
        refine iteNS (by rw [hl]) ?_
        refine ⟨_, rfl, b, _, rfl, .inr hb', _, rfl, by omega, by omega, fun D hD => ?_⟩
        refine lc_range (lo := 0) (n := ys.length) (fun i H2 => Same H1 H2 ∧ H2 D = some (.lst ((List.replicate i true).map V.bl))) ⟨same_upd hD, upd_same⟩ ?_ ?_
        · rintro i H2 hi ⟨s2, hD2⟩
          have e1 : atI xs (0 + (i : Int)) = some xs[i] := by
            rw [Int.zero_add]
            exact atI_nat (List.getElem?_eq_getElem (by omega))
          have e2 : atI ys (0 + (i : Int)) = some ys[i] := by
            rw [Int.zero_add]
            exact atI_nat (List.getElem?_eq_getElem hi)
          refine ⟨rfl, yes_ ?_⟩
          refine ⟨_, rfl, _, rfl, .inr <| .inl ⟨a, xs, _, _, rfl, rfl, sqT_up (up_same s2) ha', e1, ?_⟩⟩
          refine ⟨_, rfl, _, rfl, .inr <| .inl ⟨b, ys, _, _, rfl, rfl, sqT_up (up_same s2) hb', e2, ?_⟩⟩
          refine ⟨_, _, rfl, (he i _ _ (List.getElem?_eq_getElem (by omega)) (List.getElem?_eq_getElem hi)).same (s1.trans s2), fun H3 s3 => ?_⟩
          refine ⟨_, s3 _ _ hD2, ?_, fun p o e => ?_, ?_⟩
          · rw [List.length_map, List.length_replicate]
            exact small1000 (by omega)
          · have np : p ≠ D := ne_of_none e hD
            rw [upd_ne np]
            exact s3 _ _ (s2 _ _ e)
          · rw [upd_same, List.replicate_succ', List.map_append]
            rfl
        · rintro H2 ⟨s2, hD2⟩
          refine ⟨D, _, rfl, SqL.of hD2, ?_⟩
          rw [show (List.replicate ys.length true).all id = true by simp]
          exact q H2 (s1.trans s2)
      · refine ⟨_, rfl, rfl, _, rfl, iteF ⟨_, rfl, two, fun tp htp => ⟨_, tp, _, _, _, false, rfl, upd_same, prBS, tyL (xs := ys) ?_, kA (by decide +kernel) (by decide +kernel), false, rfl, iteF ?_⟩⟩⟩
        · exact sqL_up (up_same (same_upd htp)) hb
        have s1 : Same H (upd H tp (.tup [V.ty "bool", V.ty "str"])) := same_upd htp
        generalize upd H tp (.tup [V.ty "bool", V.ty "str"]) = H1 at s1
        have ha' := sqL_up (up_same s1) ha
        have hb' := sqL_up (up_same s1) hb
        refine ⟨_, rfl, _, _, _, _, false, rfl, .ty _, tyL hb', kit_ty (by decide +kernel), false, rfl, iteF ?_⟩
        refine ⟨_, rfl, _, _, _, _, false, rfl, .ty _, tyL hb', kit_ty (by decide +kernel), false, rfl, iteF ?_⟩
        refine ⟨_, rfl, _, _, _, _, false, rfl, .ty _, tyL hb', kit_ty (by decide +kernel), _, rfl, _, _, _, _, false, rfl, .ty _, tyL ha', kit_ty (by decide +kernel), rfl, _, rfl, iteF ?_⟩
        refine ⟨_, rfl, _, _, _, _, true, rfl, .ty _, tyL hb', kit_ty (by decide +kernel), _, rfl, _, _, _, _, true, rfl, .ty _, tyL ha', kit_ty (by decide +kernel), rfl, _, rfl, iteF ?_⟩
        refine ⟨_, rfl, a, _, rfl, .inl ha', _, rfl, b, _, rfl, .inl hb', rfl, _, rfl, ?_⟩
        refine iteNS (by rw [hl]) ?_
        refine ⟨_, rfl, b, _, rfl, .inl hb', _, rfl, by omega, by omega, fun D hD => ?_⟩
        refine lc_range (lo := 0) (n := ys.length) (fun i H2 => Same H1 H2 ∧ H2 D = some (.lst ((List.replicate i true).map V.bl))) ⟨same_upd hD, upd_same⟩ ?_ ?_
        · rintro i H2 hi ⟨s2, hD2⟩
          have e1 : atI xs (0 + (i : Int)) = some xs[i] := by
            rw [Int.zero_add]
            exact atI_nat (List.getElem?_eq_getElem (by omega))
          have e2 : atI ys (0 + (i : Int)) = some ys[i] := by
            rw [Int.zero_add]
            exact atI_nat (List.getElem?_eq_getElem hi)
          refine ⟨rfl, yes_ ?_⟩
          refine ⟨_, rfl, _, rfl, .inl ⟨a, xs, _, _, rfl, rfl, sqL_up (up_same s2) ha', e1, ?_⟩⟩
          refine ⟨_, rfl, _, rfl, .inl ⟨b, ys, _, _, rfl, rfl, sqL_up (up_same s2) hb', e2, ?_⟩⟩
          refine ⟨_, _, rfl, (he i _ _ (List.getElem?_eq_getElem (by omega)) (List.getElem?_eq_getElem hi)).same (s1.trans s2), fun H3 s3 => ?_⟩
          refine ⟨_, s3 _ _ hD2, ?_, fun p o e => ?_, ?_⟩
          · rw [List.length_map, List.length_replicate]
            exact small1000 (by omega)
          · have np : p ≠ D := ne_of_none e hD
            rw [upd_ne np]
            exact s3 _ _ (s2 _ _ e)
          · rw [upd_same, List.replicate_succ', List.map_append]
            rfl
        · rintro H2 ⟨s2, hD2⟩
          refine ⟨D, _, rfl, SqL.of hD2, ?_⟩
          rw [show (List.replicate ys.length true).all id = true by simp]
          exact q H2 (s1.trans s2)
      · have nb : ∀ o v, HO.dK ls ≠ .frz o v := fun o v z => nomatch z
        refine ⟨_, rfl, rfl, _, rfl, iteF ⟨_, rfl, two, fun tp htp => ⟨_, tp, _, _, _, false, rfl, upd_same, prBS, tyD (xs := ls) ?_, kA (by decide +kernel) (by decide +kernel), false, rfl, iteF ?_⟩⟩⟩
        · exact up_same (same_upd htp) _ _ (.inl hb)
        have s1 : Same H (upd H tp (.tup [V.ty "bool", V.ty "str"])) := same_upd htp
        generalize upd H tp (.tup [V.ty "bool", V.ty "str"]) = H1 at s1
        have ha' := s1 _ _ ha
        have hb' := s1 _ _ hb
        refine ⟨_, rfl, _, _, _, _, false, rfl, .ty _, tyD (.inl hb'), kit_ty (by decide +kernel), false, rfl, iteF ?_⟩
        refine ⟨_, rfl, _, _, _, _, true, rfl, .ty _, tyD (.inl hb'), kit_ty (by decide +kernel), true, rfl, iteT ?_⟩
        refine seq_by (fun σ H2 => σ = [some (.ref a), some (.ref b), none, none] ∧ Same H1 H2) ?_ (fun k => ?_)
        rotate_left
        · refine ⟨_, rfl, _, _, _, _, true, rfl, .ty _, tyD (.inl ha'), kit_ty (by decide +kernel), true, rfl, iteF ?_⟩
          have lk : ks.length = ls.length := by
            have := hpm.length_eq
            rw [List.length_map, List.length_map] at this
            exact this
          rcases ok1 with ⟨li, eli⟩ | ⟨lt, elt, lok⟩
          · obtain ⟨ki, eki⟩ : ∃ l : List Int, ks.map (·.1) = l.map Sum.inl := by
              rcases ok2 with ⟨l, e⟩ | ⟨l, e, _⟩
              · exact ⟨l, e⟩
              · cases l with
                | nil => exact ⟨[], e⟩
                | cons z r =>
                  rw [e, eli] at hpm
                  have := hpm.mem_iff.mp (List.mem_cons_self (a := (Sum.inr z : Key)) (l := r.map Sum.inr))
                  obtain ⟨i, _, hi⟩ := List.mem_map.mp this
                  cases hi
            have pki : ki.Perm li := by
              rw [eki, eli] at hpm
              exact perm_inl hpm
            refine ⟨_, rfl, .inr ⟨a, ks, ki, rfl, .inl ha', eki, ?_, fun ys p pm pw np => ?_⟩⟩
            · have := congrArg List.length eki
              rw [List.length_map, List.length_map] at this
              omega
            have s2 : Same H1 (upd H1 p (.lst (ys.map V.int))) := same_upd np
            refine ⟨_, rfl, .inr ⟨b, ls, li, rfl, .inl (s2 _ _ hb'), eli, ?_, fun zs p2 pm2 pw2 np2 => ?_⟩⟩
            · have := congrArg List.length eli
              rw [List.length_map, List.length_map] at this
              omega
            have e : ys = zs := srtI_same (pm.trans (pki.trans pm2.symm)) pw pw2
            subst e
            refine ⟨_, _, .lst (SqL.of (same_upd np2 _ _ upd_same)) (dpI ys), .lst (SqL.of upd_same) (dpI ys), shI ys, shI ys, _, rfl, ?_⟩
            rw [PySem.SeqAt.eqv_refl _ (SeqAt.canLay_of_shaped (shI ys))]
            exact iteF (k _ _ ⟨rfl, s2.trans (same_upd np2)⟩)
          · obtain ⟨kt, ekt, kok⟩ : ∃ l : List Str, ks.map (·.1) = l.map Sum.inr ∧ ∀ z ∈ l, PyData.strOk z = true := by
              rcases ok2 with ⟨l, e⟩ | h
              · cases l with
                | nil => exact ⟨[], e, (fun z hz => nomatch hz)⟩
                | cons z r =>
                  rw [e, elt] at hpm
                  have := hpm.mem_iff.mp (List.mem_cons_self (a := (Sum.inl z : Key)) (l := r.map Sum.inl))
                  obtain ⟨i, _, hi⟩ := List.mem_map.mp this
                  cases hi
              · exact h
            have pki : kt.Perm lt := by
              rw [ekt, elt] at hpm
              exact perm_inr hpm
            refine ⟨_, rfl, .inl ⟨a, ks, kt, rfl, .inl ha', ekt, ?_, fun ys p pm pw np => ?_⟩⟩
            · have := congrArg List.length ekt
              rw [List.length_map, List.length_map] at this
              omega
            have s2 : Same H1 (upd H1 p (.lst (ys.map V.str))) := same_upd np
            refine ⟨_, rfl, .inl ⟨b, ls, lt, rfl, .inl (s2 _ _ hb'), elt, ?_, fun zs p2 pm2 pw2 np2 => ?_⟩⟩
            · have := congrArg List.length elt
              rw [List.length_map, List.length_map] at this
              omega
            have e : ys = zs := srt_same (pm.trans (pki.trans pm2.symm)) pw pw2
            subst e
            have yok : ∀ z ∈ ys, PyData.strOk z = true := fun z hz => kok z (pm.mem_iff.mp hz)
            refine ⟨_, _, .lst (SqL.of (same_upd np2 _ _ upd_same)) (dpS ys), .lst (SqL.of upd_same) (dpS ys), shS yok, shS yok, _, rfl, ?_⟩
            rw [PySem.SeqAt.eqv_refl _ (SeqAt.canLay_of_shaped (shS yok))]
            exact iteF (k _ _ ⟨rfl, s2.trans (same_upd np2)⟩)
        rintro σ H2 ⟨rfl, s2⟩
        have hb2 := s2 _ _ hb'
        refine ⟨b, .dK ls, hb2, trivial, fun od => ?_⟩
        refine ⟨_, rfl, b, od, rfl, .inl ⟨ls, upd_same, fun D hD => ?_⟩⟩
        have nbD : D ≠ b := fun z => by
          rw [z, upd_same] at hD
          cases hD
        have ul : Up H (upd H2 b (.frz od (.dK ls))) := (up_same (s1.trans s2)).trans (up_lock hb2 nb)
        refine lc_keys (fun i H3 => Same (upd H2 b (.frz od (.dK ls))) H3 ∧ H3 D = some (.lst ((List.replicate i true).map V.bl))) ⟨same_upd hD, upd_same⟩ (fun i H3 _ h => h.1 _ _ upd_same) ?_ ?_
        · rintro i k v H3 hi ⟨s3, hD3⟩
          have u3 : Up H H3 := ul.trans (up_same s3)
          have evl : valV ls k = some v := val_nodup hnd (k, v) (List.mem_of_getElem? hi)
          obtain ⟨u, eu⟩ : ∃ u, valV ks k = some u := by
            have mk : k ∈ ks.map (·.1) := hpm.mem_iff.mpr (List.mem_map.mpr ⟨(k, v), List.mem_of_getElem? hi, rfl⟩)
            obtain ⟨p, hp, rfl⟩ := List.mem_map.mp mk
            exact ⟨_, val_nodup (hpm.nodup_iff.mpr hnd) p hp⟩
          refine ⟨rfl, yes_ ?_⟩
          refine ⟨_, rfl, _, rfl, a, u, rfl, .inl ⟨ks, k, u3 _ _ (.inl ha), rfl, eu.symm⟩, ?_⟩
          refine ⟨_, rfl, _, rfl, b, v, rfl, .inl ⟨ls, k, u3 _ _ (.inl hb), rfl, evl.symm⟩, ?_⟩
          refine ⟨_, _, rfl, ((he k u v eu evl).up u3).sm, fun H4 s4 => ?_⟩
          refine ⟨_, s4 _ _ hD3, ?_, fun p o e => ?_, ?_⟩
          · rw [List.length_map, List.length_replicate]
            have := (List.getElem?_eq_some_iff.mp hi).1
            exact small1000 (by omega)
          · have np : p ≠ D := ne_of_none e hD
            rw [upd_ne np]
            exact s4 _ _ (s3 _ _ e)
          · rw [upd_same, List.replicate_succ', List.map_append]
            rfl
        · rintro H3 ⟨s3, hD3⟩
          refine ⟨s3 _ _ upd_same, D, _, rfl, SqL.of (by rw [upd_ne nbD]; exact hD3), ?_⟩
          rw [show (List.replicate ls.length true).all id = true by simp]
          refine q _ fun p o e => ?_
          by_cases z : p = b
          · rw [z, upd_same, ← hb, ← z, e]
          · rw [upd_ne z]
            exact s3 _ _ (by rw [upd_ne z]; exact s2 _ _ (s1 _ _ e))
theorem same_none {f : Addr} {fd : FuncData} : FnOk P w K mg base CX0 1 f fd p_law_same (spSame K 0) :=
  ⟨fun _ _ _ _ h => h.elim, fun _ _ _ _ _ _ _ _ _ _ _ _ _ h => h.elim⟩
theorem ok_same (ev : Env P K mg) : ∀ n, FnOk P w K mg base CX0 (n + 1) ev.f_law_same ev.d_law_same p_law_same (spSame K n)
  | 0 => same_none
  | n + 1 => ok_same1 ev (ok_same ev n)

/-! ### one of several -/
def spAnyK (K : PySem.W.Frag) : Sp := fun vs H Q _ => ∃ (b c l : Addr) (xs : List V), vs = [.ref b, .ref l] ∧ Bag H b c ∧ nL K [b, c] H l xs ∧ xs ≠ [] ∧ xs.length ≤ 1000 ∧ ∀ (v : V) (H' : Hp), v ∈ xs → Bag H' b c → Els b c H H' → Q v H'
theorem ok_law_any (ev : Env P K mg) : FnOk P w K mg base CX0 2 ev.f_law_any ev.d_law_any p_law_any (spAnyK K) := by
  refine ev.A_law_any.F.ok sc_law_any (fun vs H Q E h => ?_) (fun cdv A outer s H vs Q E hr h => ?_)
  · obtain ⟨b, c, l, xs, rfl, _⟩ := h
    rfl
  obtain ⟨b, c, l, xs, rfl, hB, hl, hx, h1000, q⟩ := h
  refine ⟨_, (pss_one (ps_ret (pe_ix ix_list (pv 1) (pe_call (ok_law_draw ev) (hr.mono (by decide)) (by rfl) ev.A_law_draw.m ev.A_law_draw.F.kp ev.A_law_draw.b .nil pass0 (pa_cons (pv 0) (pa_cons (pe_callB call_len_seq (by rfl) ev.B.len_ PySem.boot_len (pa_cons (pv 1) pa_nil)) pa_nil))) (fun _ _ => rfl)))), ?_⟩
  have l0 := List.length_pos_iff.mpr hx
  refine ⟨_, rfl, _, rfl, _, rfl, l, _, rfl, .inl hl.sq, b, c, _, rfl, hB, by omega, by omega, fun r H' r0 r1 hB' ex => ?_⟩
  have hl' := hl.mono (show Fr [b, c] H H' from fun p o e n => by
    simp only [List.mem_cons, List.not_mem_nil, or_false, not_or] at n
    exact (ex p n.1 n.2).trans e)
  obtain ⟨v, hv, e⟩ := at_mem (xs := xs) r0 r1
  exact ⟨l, _, _, _, rfl, rfl, hl'.sq, e, q _ _ hv hB' ex⟩

/-! ### the law's own ratio -/
def spRat : Sp := fun vs H Q _ => ∃ o u : Int, vs = [.int o, .int u] ∧ u.natAbs < 2 ^ 9000 ∧ u ≠ 0 ∧ ∀ p, H p = none → Q (.ref p) (upd H p (.tup [.int (rN o u), .int (rD o u)]))
theorem ok_law_rat (ev : Env P K mg) : FnOk P w K mg base CX0 1 ev.f_law_rat ev.d_law_rat p_law_rat spRat := by
  refine ev.A_law_rat.F.ok sc_law_rat (fun vs H Q E h => ?_) (fun cdv A outer s H vs Q E hr h => ?_)
  · obtain ⟨o, u, rfl, _⟩ := h
    rfl
  obtain ⟨o, u, rfl, hb, hu0, q⟩ := h
  refine ⟨_, (pss_cons (ps_par (i := 2) (j := 3) (by rfl) sc_law_rat.nd rfl rfl (by decide) rfl rfl (pa_cons (pe_callB call_abs (by rfl) ev.B.abs_ (by decide +kernel) (pa_cons (pv 0) pa_nil)) (pa_cons (pe_callB call_abs (by rfl) ev.B.abs_ (by decide +kernel) (pa_cons (pv 1) pa_nil)) pa_nil)) (by rfl))
    (pss_cons (ps_while PassesOwn.never (pt_cmpR op_gt (pv 3) pe_int (nomark _))
    (pss_one (ps_par (i := 2) (j := 3) (by rfl) sc_law_rat.nd rfl rfl (by decide) rfl rfl (pa_cons (pv 3) (pa_cons (pe_op op_modN (pv 2) (pv 3)) pa_nil)) (by rfl))))
    (pss_cons (ps_if (pt_cmpR op_lt (pv 1) pe_int (nomark _))
    (pss_one (ps_set (i := 2) sc_law_rat.nd rfl (Or.inl rfl) (pe_op op_sub pe_int (pv 2)))) pss_nil)
    (pss_one (ps_ret (pe_tup (pa_cons (pe_op op_fdivZ (pv 0) (pv 2)) (pa_cons (pe_op op_fdivZ (pv 1) (pv 2)) pa_nil)))))))), ?_⟩
  refine ⟨_, rfl, _, rfl, _, rfl, _, rfl, _, _, rfl, ?_⟩
  rw [abs_if, abs_if]
  refine ⟨fun m σ H' => H' = H ∧ ∃ x y : Int, σ = [some (.int o), some (.int u), some (.int x), some (.int y)] ∧ 0 ≤ x ∧ 0 ≤ y ∧ m = y.natAbs ∧ Int.gcd x y = Int.gcd o u, ⟨_, rfl, o.natAbs, u.natAbs, rfl, by omega, by omega, rfl, ?_⟩, ?_⟩
  · unfold Int.gcd
    rw [Int.natAbs_natCast, Int.natAbs_natCast]
  rintro m σ H' ⟨rfl, x, y, rfl, x0, y0, rfl, e⟩
  refine ⟨_, rfl, _, _, rfl, rfl, _, rfl, ?_⟩
  refine ite2 (fun c => ?_) (fun c => ?_)
  · have hy : 0 < y := of_decide_eq_true c
    refine ⟨fun σ' H2 => H2 = H' ∧ σ' = [some (.int o), some (.int u), some (.int y), some (.int (x.fmod y))], ?_, ?_⟩
    · rintro σ' H2 ⟨rfl, rfl⟩
      exact ⟨_, fmod_abs_lt x (by omega), rfl, y, _, rfl, y0, Int.fmod_nonneg_of_pos x hy, rfl, (gcd_fmod x y).trans e⟩
    · exact ⟨_, rfl, _, rfl, _, rfl, _, _, rfl, rfl, (by show y ≠ 0; omega), _, _, rfl, rfl, rfl⟩
  · have hy : y = 0 := by
      have : ¬ 0 < y := fun z => c (decide_eq_true z)
      omega
    subst hy
    rw [Int.gcd_zero_right] at e
    have ex : x = ((Int.gcd o u : Nat) : Int) := by omega
    subst ex
    refine nx_u ?_
    refine seq_by (fun σ H2 => H2 = H' ∧ ∃ y, σ = [some (.int o), some (.int u), some (.int (cOf o u)), y]) ?_ (fun k => ?_)
    rotate_left
    · refine ⟨_, rfl, _, _, rfl, rfl, _, rfl, ?_⟩
      refine ite2 (fun z => ?_) (fun z => ?_)
      · have z' : u < 0 := of_decide_eq_true z
        refine ⟨_, rfl, _, _, rfl, rfl, k _ _ ⟨rfl, some (.int 0), ?_⟩⟩
        unfold cOf
        rw [if_pos z', ← Int.zero_sub]
        all_goals rfl
      · have z' : ¬ u < 0 := fun e => z (decide_eq_true e)
        refine k _ _ ⟨rfl, some (.int 0), ?_⟩
        unfold cOf
        rw [if_neg z']
        all_goals rfl
    rintro σ H' ⟨rfl, y, rfl⟩
    exact ⟨_, rfl, _, rfl, _, _, rfl, rfl, cOf_ok hu0 hb _, _, rfl, _, rfl, _, _, rfl, rfl, cOf_ok hu0 hb _, (by show 2 ≤ sizeLine; decide), fun p hp => q p hp⟩

theorem ev_law_rat {S T : AS} {σ : St} {H : Hp} {E : XK} {ta : TA} {r : Option (Int × Int × Unit)} (h : EvA S T ta σ H (K := K) (aCons tInt (aCons tInt aNil)) r) :
    Ev S T (tCall spRat [] E ta) σ H (of (K := K) tRat S) (bd r fun a => ratio? a.1 a.2.1) := by
  intro z e H1 f1 d Q q
  obtain ⟨x, ex, e⟩ := bd_some e
  unfold ratio? at e
  split at e
  · rename_i hc
    cases e
    refine h x ex H1 f1 d _ fun vs H2 s2 hv => ?_
    obtain ⟨v, _, rfl, h1, w, _, rfl, h2, rfl⟩ := hv
    cases h1
    cases h2
    refine ⟨x.1, x.2.1, rfl, hc.2, hc.1, fun p hp => q _ _ (s2.trans (same_new hp)) ⟨p, rfl, .inl ⟨.inl ?_, (d.same s2).not_mem hp⟩⟩⟩
    rw [upd_same, (rat_rND hc.1).1, (rat_rND hc.1).2]
  · cases e
theorem ew_law_rat {b c : Addr} {S : AS} {σ : St} {H : Hp} {E : XK} {ta : TA} {w : Wp (Int × Int × Unit)} (h : EvWA b c S ta σ H (K := K) (aCons tInt (aCons tInt aNil)) w) :
    EvW b c S (tCall spRat [] E ta) σ H (of (K := K) tRat S) (unW (fun a => ratio? a.1 a.2.1) w) := fun ts P hP H1 f d hB Q q => by
  refine h ts _ hP H1 f d hB _ fun vs H2 x ⟨z, e, hz⟩ f2 d2 hB2 hv => ?_
  dsimp only [ratio?] at e
  split at e
  · rename_i hc
    cases e
    obtain ⟨v, _, rfl, h1, w, _, rfl, h2, rfl⟩ := hv
    cases h1
    cases h2
    refine ⟨x.1, x.2.1, rfl, hc.2, hc.1, fun p hp => q _ _ _ hz (f2.trans (Fr.same (same_new hp))) (d2.same (same_new hp)) (hB2.same (same_new hp)) ⟨p, rfl, .inl ⟨.inl ?_, d2.not_mem hp⟩⟩⟩
    rw [upd_same, (rat_rND hc.1).1, (rat_rND hc.1).2]
  · cases e

/-! ### draws, mirrored -/
theorem els_fr {b c : Addr} {H H' : Hp} (ex : Els b c H H') : Fr [b, c] H H' := fun p o e n => by
  simp only [List.mem_cons, List.not_mem_nil, or_false, not_or] at n
  exact (ex p n.1 n.2).trans e
def drawW (n : Int) : Wp Int := fun P => 0 < n ∧ n < 1073741824 ∧ ∀ r, 0 ≤ r → r < n → P r
def sameW {α : Type} (p : α → Prop) (wa wb : Wp α) : Wp Bool := fun P => wa fun x => wb fun y => x = y ∧ p y ∧ P true
def noSz {α : Type} : α → Prop := fun _ => True
def szT2 {α β : Type} (p : α → Prop) (q : β → Prop) : α × β → Prop := fun x => p x.1 ∧ q x.2
def szT4 {α β γ δ : Type} (p : α → Prop) (q : β → Prop) (r : γ → Prop) (s : δ → Prop) : α × β × γ × δ → Prop := fun x => p x.1 ∧ q x.2.1 ∧ r x.2.2.1 ∧ s x.2.2.2
def szO {α : Type} (p : α → Prop) : Option α → Prop := fun o => ∀ x, o = some x → p x
def szL {α : Type} (p : α → Prop) : List α → Prop := fun xs => xs.length ≤ 1000 ∧ ∀ x ∈ xs, p x
def anyW {α : Type} (xs : List α) : Wp α := fun P => xs ≠ [] ∧ xs.length ≤ 1000 ∧ ∀ x ∈ xs, P x
section
variable {α : Type} {a : Ty K α} {b c : Addr} {S : AS} {σ : St} {H : Hp} {te : TE} {E : XK} {i : Nat}
theorem ew_draw {w : Wp Int} (hi : σ[i]? = some (some (.ref b))) (h : EvW b c S te σ H (of (K := K) tInt S) w) : EvW b c S (tCall spDraw [] E (tCons (tVar i) (tCons te tNil))) σ H (of (K := K) tInt S) (callBW drawW w) := fun ts P hP H1 f d hB Q q => by
  refine ⟨_, hi, h ts _ hP H1 f d hB _ fun v H2 n ⟨n0, n1, hn⟩ f2 d2 hB2 hv => ?_⟩
  cases hv
  exact ⟨b, c, n, rfl, hB2, n0, n1, fun r H' r0 r1 hB' ex => q _ H' r (hn r r0 r1) (f2.trans (els_fr ex)) (dom_fr d2 (els_fr ex) hB') hB' rfl⟩
theorem all2_mem {F : V → α → Prop} : ∀ {vs : List V} {xs : List α} {v : V}, All2 F vs xs → v ∈ vs → ∃ x ∈ xs, F v x
  | _, _, v, .nil, h => by simp at h
  | _, _, v, .cons h r, m => by
    rcases List.mem_cons.mp m with rfl | m
    · exact ⟨_, List.mem_cons_self .., h⟩
    · obtain ⟨x, hx, hv⟩ := all2_mem r m
      exact ⟨x, List.mem_cons_of_mem _ hx, hv⟩
theorem ew_any {w : Wp (List α)} (hi : σ[i]? = some (some (.ref b))) (h : EvW b c S te σ H (of (tL a) S) w) : EvW b c S (tCall (spAnyK K) [] E (tCons (tVar i) (tCons te tNil))) σ H (of a S) (callBW anyW w) := fun ts P hP H1 f d hB Q q => by
  refine ⟨_, hi, h ts _ hP H1 f d hB _ fun v H2 xs ⟨x0, x1, hx⟩ f2 d2 hB2 hv => ?_⟩
  obtain ⟨p, vs, rfl, hp, ha⟩ := hv
  refine ⟨b, c, p, vs, rfl, hB2, hp.sub ts, fun z => x0 (List.length_eq_zero_iff.mp (by rw [← ha.len, z]; rfl)), by rw [ha.len]; exact x1, fun v H' hv hB' ex => ?_⟩
  obtain ⟨x, mx, rx⟩ := all2_mem ha hv
  exact q _ H' x (hx x mx) (f2.trans (els_fr ex)) (dom_fr d2 (els_fr ex) hB') hB' (a.mono ((els_fr ex).sub ts) rx)
theorem ew_anyO {p : Addr} {xs : List α} {j : Nat} (hi : σ[i]? = some (some (.ref b))) (o : Own a S H p xs) (nt : p ∉ [b, c]) (hj : σ[j]? = some (some (.ref p))) : EvW b c S (tCall (spAnyK K) [] E (tCons (tVar i) (tCons (tVar j) tNil))) σ H (of a S) (anyW xs) := fun ts P ⟨x0, x1, hx⟩ H1 f d hB Q q => by
  obtain ⟨vs, hv, ha⟩ := o.fr f ts nt
  refine ⟨_, hi, _, hj, b, c, p, vs, rfl, hB, ⟨hv, nt⟩, fun z => x0 (List.length_eq_zero_iff.mp (by rw [← ha.len, z]; rfl)), by rw [ha.len]; exact x1, fun v H' hv hB' ex => ?_⟩
  obtain ⟨x, mx, rx⟩ := all2_mem ha hv
  exact q _ H' x (hx x mx) (els_fr ex) (dom_fr d (els_fr ex) hB') hB' (a.mono ((els_fr ex).sub ts) rx)
end
/-! ### things that the law finds the same -/
def SmOf {α : Type} (a : Ty K α) (k : Nat) (p : α → Prop) : Prop := ∀ {S S' H v w x}, a.rp S H v x → a.rp S' H w x → p x → ∀ n, k ≤ n → SmT K H n v w
theorem sm_int : SmOf (K := K) tInt 0 noSz := fun h1 h2 _ n _ => by cases h1; cases h2; exact SmT.flat rfl n
theorem sm_bool : SmOf (K := K) tBool 0 noSz := fun h1 h2 _ n _ => by cases h1; cases h2; exact SmT.flat rfl n
theorem sm_none : SmOf (K := K) tNone 0 noSz := fun h1 h2 _ n _ => by cases h1; cases h2; exact SmT.flat rfl n
theorem sm_str : SmOf (K := K) tStr 0 noSz := fun h1 h2 _ n _ => by rw [h1.1, h2.1]; exact SmT.flat rfl n
theorem sm_rat : SmOf (K := K) tRat 1 noSz := fun ⟨p, e, h⟩ ⟨p', e', h'⟩ _ n hn => by
  subst e; subst e'
  obtain ⟨m, rfl⟩ : ∃ m, n = m + 1 := ⟨n - 1, by omega⟩
  exact SmT.tup2 h.sq h'.sq (SmT.flat rfl m) (SmT.flat rfl m)
theorem sm_opt {α : Type} {a : Ty K α} {k : Nat} {p : α → Prop} (h : SmOf a k p) : SmOf (tOpt a) k (szO p) := fun {S S' H v w x} h1 h2 hp n hn => by
  cases x with
  | none => rw [show v = _ from h1, show w = _ from h2]; exact SmT.flat rfl n
  | some y => exact h h1.2 h2.2 (hp y rfl) n hn
theorem sm_t2 {α β : Type} {a : Ty K α} {b : Ty K β} {k l : Nat} {p : α → Prop} {q : β → Prop} (h : SmOf a k p) (h' : SmOf b l q) : SmOf (tT2 a b) (1 + max k l) (szT2 p q) := fun ⟨p, u, w, e, hp, h1, h2⟩ ⟨p', u', w', e', hp', h1', h2'⟩ sz n hn => by
  subst e; subst e'
  obtain ⟨m, rfl⟩ : ∃ m, n = m + 1 := ⟨n - 1, by omega⟩
  exact SmT.tup2 hp.sq hp'.sq (h h1 h1' sz.1 m (by omega)) (h' h2 h2' sz.2 m (by omega))
theorem sm_t4 {α β γ δ : Type} {a : Ty K α} {b : Ty K β} {c : Ty K γ} {d : Ty K δ} {k l i j : Nat} {p : α → Prop} {q : β → Prop} {r : γ → Prop} {s : δ → Prop} (ha : SmOf a k p) (hb : SmOf b l q) (hc : SmOf c i r) (hd : SmOf d j s) : SmOf (tT4 a b c d) (1 + max (max k l) (max i j)) (szT4 p q r s) := fun ⟨p, u1, u2, u3, u4, e, hp, h1, h2, h3, h4⟩ ⟨p', w1, w2, w3, w4, e', hp', g1, g2, g3, g4⟩ sz n hn => by
  subst e; subst e'
  obtain ⟨m, rfl⟩ : ∃ m, n = m + 1 := ⟨n - 1, by omega⟩
  refine SmT.tup hp.sq hp'.sq rfl (by show 4 ≤ 1000; decide) fun i x y ex ey => ?_
  match i, ex, ey with
  | 0, ex, ey => cases ex; cases ey; exact ha h1 g1 sz.1 m (by omega)
  | 1, ex, ey => cases ex; cases ey; exact hb h2 g2 sz.2.1 m (by omega)
  | 2, ex, ey => cases ex; cases ey; exact hc h3 g3 sz.2.2.1 m (by omega)
  | 3, ex, ey => cases ex; cases ey; exact hd h4 g4 sz.2.2.2 m (by omega)
theorem sm_items {α : Type} {a : Ty K α} {k : Nat} {p : α → Prop} (h : SmOf a k p) {S S' : AS} {H : Hp} {vs ws : List V} {xs : List α} (h1 : All2 (a.rp S H) vs xs) (h2 : All2 (a.rp S' H) ws xs) (hp : ∀ x ∈ xs, p x) {m : Nat} (hm : k ≤ m) : ∀ (i : Nat) u v, vs[i]? = some u → ws[i]? = some v → SmT K H m u v := fun i u v eu ev => by
  obtain ⟨x, hx, r1⟩ := h1.getL i eu
  obtain ⟨y, hy, r2⟩ := h2.getL i ev
  rw [hx] at hy
  cases hy
  exact h r1 r2 (hp x (List.mem_of_getElem? hx)) m hm
theorem sm_L {α : Type} {a : Ty K α} {k : Nat} {p : α → Prop} (h : SmOf a k p) : SmOf (tL a) (1 + k) (szL p) := fun ⟨q, vs, e, hq, h1⟩ ⟨q', ws, e', hq', h2⟩ sz n hn => by
  subst e; subst e'
  obtain ⟨m, rfl⟩ : ∃ m, n = m + 1 := ⟨n - 1, by omega⟩
  exact .inr (.inr ⟨q, q', vs, ws, rfl, rfl, hq.sq, hq'.sq, h1.len.trans h2.len.symm, by rw [h1.len]; exact sz.1, sm_items h h1 h2 sz.2 (by omega)⟩)
theorem sm_Ts {α : Type} {a : Ty K α} {k : Nat} {p : α → Prop} (h : SmOf a k p) : SmOf (tTs a) (1 + k) (szL p) := fun ⟨q, vs, e, hq, h1⟩ ⟨q', ws, e', hq', h2⟩ sz n hn => by
  subst e; subst e'
  obtain ⟨m, rfl⟩ : ∃ m, n = m + 1 := ⟨n - 1, by omega⟩
  exact .inr (.inl ⟨q, q', vs, ws, rfl, rfl, hq.sq, hq'.sq, h1.len.trans h2.len.symm, by rw [h1.len]; exact sz.1, sm_items h h1 h2 sz.2 (by omega)⟩)
theorem ew_same {α : Type} {a : Ty K α} {n : Nat} {p : α → Prop} {b c : Addr} {S : AS} {σ : St} {H : Hp} {ta tb : TE} {E : XK} {wa wb : Wp α} (hs : SmOf a n p) (ha : EvW b c S ta σ H (of a S) wa) (hb : EvW b c S tb σ H (of a S) wb) :
    EvW b c S (tCall (spSame K (n + 1)) [] E (tCons ta (tCons tb tNil))) σ H (of (K := K) tBool S) (sameW p wa wb) := fun ts P hP H1 f d hB Q q => by
  refine ha ts _ hP H1 f d hB _ fun v H2 x hx f2 d2 hB2 hv => hb ts _ hx H2 (f.trans f2) d2 hB2 _ fun w H3 y ⟨e, hp, hy⟩ f3 d3 hB3 hw => ?_
  subst e
  exact ⟨_, _, rfl, (hs (a.mono (f3.sub ts) hv) hw hp n (Nat.le_refl _)).sm, fun H' s => q _ H' true hy ((f2.trans f3).trans (Fr.same s)) (d3.same s) (hB3.same s) rfl⟩
theorem ew_sameO {α : Type} {a : Ty K α} {n : Nat} {p : List α → Prop} {b c q : Addr} {S : AS} {σ : St} {H : Hp} {ta : TE} {E : XK} {wa : Wp (List α)} {ys : List α} {i : Nat} (hs : SmOf (tL a) n p) (o : Own a S H q ys) (nt : q ∉ [b, c]) (hi : σ[i]? = some (some (.ref q))) (ha : EvW b c S ta σ H (of (tL a) S) wa) :
    EvW b c S (tCall (spSame K (n + 1)) [] E (tCons ta (tCons (tVar i) tNil))) σ H (of (K := K) tBool S) (sameW p wa (lf (some ys))) := fun ts P hP H1 f d hB Q qq => by
  refine ha ts _ hP H1 f d hB _ fun v H2 x ⟨y, ey, e, hp, hy⟩ f2 d2 hB2 hv => ⟨_, hi, ?_⟩
  cases ey
  subst e
  obtain ⟨vs, hvs, hall⟩ := (o.fr f ts nt).fr f2 ts nt
  have rp0 : (tL a).rp [] H2 (.ref q) x := ⟨q, vs, rfl, ⟨hvs, by simp⟩, hall.imp fun _ _ => a.sub fun _ m => by simp at m⟩
  exact ⟨_, _, rfl, (hs hv rp0 hp n (Nat.le_refl _)).sm, fun H' s => qq _ H' true hy (f2.trans (Fr.same s)) (d2.same s) (hB2.same s) rfl⟩

/-! ### names -/
def lowB (z : Str) : Bool := decide (1 ≤ z.cps.toList.length) && decide (z.cps.toList.length ≤ 6) && z.cps.toList.all fun c => decide (97 ≤ c) && decide (c ≤ 122)
theorem lowB_mk {z : Str} (h1 : 1 ≤ z.cps.toList.length) (h2 : z.cps.toList.length ≤ 6) (h : ∀ c ∈ z.cps.toList, 97 ≤ c ∧ c ≤ 122) : lowB z = true := by
  unfold lowB
  rw [decide_eq_true h1, decide_eq_true h2, Bool.true_and, Bool.true_and, List.all_eq_true]
  intro c hc
  rw [decide_eq_true (h c hc).1, decide_eq_true (h c hc).2]
  rfl
theorem lowB_all {z : Str} (h : lowB z = true) : (1 ≤ z.cps.toList.length ∧ z.cps.toList.length ≤ 6) ∧ ∀ c ∈ z.cps.toList, 97 ≤ c ∧ c ≤ 122 := by
  unfold lowB at h
  rw [Bool.and_eq_true, Bool.and_eq_true, List.all_eq_true] at h
  refine ⟨⟨of_decide_eq_true h.1.1, of_decide_eq_true h.1.2⟩, fun c hc => ?_⟩
  have := h.2 c hc
  rw [Bool.and_eq_true] at this
  exact ⟨of_decide_eq_true this.1, of_decide_eq_true this.2⟩
theorem low_ok {z : Str} (h : lowB z = true) : PyData.strOk z = true := by
  unfold PyData.strOk
  rw [← Array.all_toList, List.all_eq_true]
  intro c hc
  have := ((lowB_all h).2 c hc).2
  exact decide_eq_true (by omega)
theorem at_memA {α : Type} {xs : List α} {r : Int} (h0 : 0 ≤ r) (h : r < (xs.length : Int)) : ∃ v, v ∈ xs ∧ atI xs r = some v := by
  have hk : r.toNat < xs.length := by omega
  have e := atI_nat (xs := xs) (j := r.toNat) (List.getElem?_eq_getElem hk)
  rw [show ((r.toNat : Nat) : Int) = r by omega] at e
  exact ⟨_, List.getElem_mem hk, e⟩
/-- texts of one letter each, glued -/
theorem glue_low : ∀ (zs : List Str), (∀ z ∈ zs, ∃ c : Nat, z = ⟨#[c]⟩ ∧ 97 ≤ c ∧ c ≤ 122) → (Str.join (Str.ofString "") zs).cps.toList.length = zs.length ∧ ∀ c ∈ (Str.join (Str.ofString "") zs).cps.toList, 97 ≤ c ∧ c ≤ 122 := by
  intro zs h
  have e : (Str.join (Str.ofString "") zs).cps.toList = TL.joinL [] (zs.map TL.tl) := TL.tl_join (Str.ofString "") zs
  rw [e]
  clear e
  induction zs with
  | nil => exact ⟨rfl, (fun _ hc => nomatch hc)⟩
  | cons z r ih =>
    obtain ⟨c, rfl, c1, c2⟩ := h z List.mem_cons_self
    have ih' := ih fun x hx => h x (List.mem_cons_of_mem _ hx)
    have e : TL.joinL [] (((⟨#[c]⟩ : Str) :: r).map TL.tl) = c :: TL.joinL [] (r.map TL.tl) := by
      cases r with
      | nil => rfl
      | cons y s => rfl
    rw [e]
    refine ⟨by rw [List.length_cons, ih'.1, List.length_cons], fun x hx => ?_⟩
    rcases List.mem_cons.mp hx with rfl | hx
    · exact ⟨c1, c2⟩
    · exact ih'.2 x hx
theorem lens1 : ∀ (zs : List Str), (∀ z ∈ zs, ∃ c : Nat, z = ⟨#[c]⟩ ∧ 97 ≤ c ∧ c ≤ 122) → (zs.map (·.length)).sum = zs.length
  | [], _ => rfl
  | z :: r, h => by
    obtain ⟨c, rfl, _⟩ := h z List.mem_cons_self
    rw [List.map_cons, List.sum_cons, lens1 r fun x hx => h x (List.mem_cons_of_mem _ hx), List.length_cons]
    show 1 + r.length = r.length + 1
    omega
def spName : Sp := fun vs H Q _ => ∃ (b c : Addr), vs = [.ref b] ∧ Bag H b c ∧ ∀ (z : Str) (H' : Hp), lowB z = true → Bag H' b c → Kept b c H H' → Q (.str z) H'
theorem ok_law_name (ev : Env P K mg) : FnOk P w K mg base CX0 3 ev.f_law_name ev.d_law_name p_law_name spName := by
  refine ev.A_law_name.F.ok sc_law_name (fun vs H Q E h => ?_) (fun cdv A outer s H vs Q E hr h => ?_)
  · obtain ⟨b, c, rfl, _⟩ := h
    rfl
  obtain ⟨b, c, rfl, hB, q⟩ := h
  refine ⟨_, (pss_cons (ps_if (pt_cmpR op_gt (pe_call (ok_law_draw ev) (hr.mono (by decide)) (by rfl) ev.A_law_draw.m ev.A_law_draw.F.kp ev.A_law_draw.b .nil pass0 (pa_cons (pv 0) (pa_cons pe_int pa_nil))) pe_int (nomark _))
    (pss_one (ps_ret (pe_call (ok_law_any ev) (hr.mono (by decide)) (by rfl) ev.A_law_any.m ev.A_law_any.F.kp ev.A_law_any.b .nil pass0 (pa_cons (pv 0) (pa_cons (pe_lst (pa_cons pe_str (pa_cons pe_str (pa_cons pe_str (pa_cons pe_str (pa_cons pe_str (pa_cons pe_str (pa_cons pe_str (pa_cons pe_str pa_nil))))))))) pa_nil))))) pss_nil)
    (pss_cons (ps_set (i := 1) sc_law_name.nd rfl (Or.inr rfl) pe_str)
    (pss_one (ps_ret (pe_join pe_str (pe_lc (own := [("_law_k", 2)]) (g := gName 2) (tt := tYes) (by rfl) sc_law_name.nd (pi_range1 rfl ev.B.range_ (pa_cons (pe_op op_add pe_int (pe_call (ok_law_draw ev) (hr.mono (by decide)) (by rfl) ev.A_law_draw.m ev.A_law_draw.F.kp ev.A_law_draw.b .nil pass0 (pa_cons (pv 0) (pa_cons pe_int pa_nil)))) pa_nil)) (blkOk_by (own := [("_law_k", 2)]) (N := n_law_name) (sc := defScope s_law_name) (by decide +kernel)) (fun _ _ _ _ _ => pg_name (i := 2) sc_law_name.nd rfl (Or.inl rfl)) (fun _ _ _ _ _ => pts_nil) (fun _ _ _ _ _ => (pe_ix ix_str (pv 1) (pe_call (ok_law_draw ev) (hr.mono (by decide)) (by rfl) ev.A_law_draw.m ev.A_law_draw.F.kp ev.A_law_draw.b .nil pass0 (pa_cons (pv 0) (pa_cons pe_int pa_nil))) (fun _ _ => rfl))))))))), ?_⟩
  refine ⟨_, rfl, b, c, 4, rfl, hB, by decide, by decide, fun r H1 r0 r1 hB1 ex1 => ⟨_, _, rfl, rfl, _, rfl, ite2 (fun _ => ?_) (fun _ => ?_)⟩⟩
  · refine ⟨_, rfl, (by show 8 ≤ sizeLine; decide), fun l nl => ?_⟩
    obtain ⟨lb, lc⟩ := hB1.off nl
    refine ⟨b, c, l, _, rfl, hB1.upd nl, ⟨upd_same, by simp [lb, lc]⟩, (fun z => nomatch z), (by show 8 ≤ 1000; decide), fun v H2 hv hB2 ex2 => ?_⟩
    obtain ⟨z, rfl, hz⟩ : ∃ z : Str, v = .str z ∧ lowB z = true := by
      simp only [List.mem_cons, List.not_mem_nil, or_false] at hv
      rcases hv with rfl | rfl | rfl | rfl | rfl | rfl | rfl | rfl <;> exact ⟨_, rfl, by decide +kernel⟩
    exact q z H2 hz hB2 (ex1.kept.trans ((kept_same (same_upd nl)).trans ex2.kept))
  refine next_u ?_
  refine seq_c ?_
  refine ⟨⟨_, rfl⟩, _, rfl, b, c, 6, rfl, hB1, by decide, by decide, fun r2 H2 g0 g1 hB2 ex2 => ⟨_, _, rfl, rfl, _, rfl, by omega, by omega, fun D hD => ?_⟩⟩
  obtain ⟨Db, Dc⟩ := hB2.off hD
  refine lc_range (lo := 0) (n := (1 + r2).toNat) (fun i H3 => Bag H3 b c ∧ Kept b c H2 H3 ∧ ∃ zs : List Str, H3 D = some (.lst (zs.map V.str)) ∧ zs.length = i ∧ ∀ z ∈ zs, ∃ ch : Nat, z = ⟨#[ch]⟩ ∧ 97 ≤ ch ∧ ch ≤ 122)
    ⟨hB2.upd hD, kept_same (same_upd hD), [], upd_same, rfl, (fun _ hz => nomatch hz)⟩ ?_ ?_
  · rintro i H3 hi ⟨hB3, kp3, zs, hD3, hl, hz⟩
    refine ⟨rfl, yes_ ?_⟩
    refine ⟨_, rfl, _, rfl, b, c, 26, rfl, hB3, by decide, by decide, fun r3 H4 f0 f1 hB4 ex4 => ?_⟩
    have hD4 : H4 D = some (.lst (zs.map V.str)) := (ex4 D Db Dc).trans hD3
    have all26 : ∀ ch ∈ (Str.ofString "abcdefghijklmnopqrstuvwxyz").cps.toList, 97 ≤ ch ∧ ch ≤ 122 := by decide +kernel
    obtain ⟨ch, hc, e⟩ := at_memA (xs := (Str.ofString "abcdefghijklmnopqrstuvwxyz").cps.toList) f0 (show r3 < ((Str.ofString "abcdefghijklmnopqrstuvwxyz").cps.toList.length : Int) from f1)
    refine ⟨_, _, ch, rfl, rfl, (by decide), e, _, hD4, ?_, ?_, ?_, zs ++ [⟨#[ch]⟩], ?_, ?_, ?_⟩
    · rw [List.length_map, hl]
      exact small1000 (by omega)
    · obtain ⟨ne, ns, sl, sd, h1, h2, rr⟩ := hB4
      exact ⟨ne, ns, sl, sd, by rw [upd_ne Db.symm]; exact h1, by rw [upd_ne Dc.symm]; exact h2, rr⟩
    · intro p o e1 n1 n2
      have z := kp3 p o e1 n1 n2
      have np : p ≠ D := ne_of_none e1 hD
      rw [upd_ne np]
      exact ex4.kept p o z n1 n2
    · rw [upd_same, List.map_append]
      rfl
    · rw [List.length_append, hl]
      rfl
    · intro z hzz
      rcases List.mem_append.mp hzz with hzz | hzz
      · exact hz z hzz
      · rw [List.mem_singleton.mp hzz]
        exact ⟨ch, rfl, all26 ch hc⟩
  · rintro H3 ⟨hB3, kp3, zs, hD3, hl, hz⟩
    have g := glue_low zs hz
    have ln : zs.length ≤ 6 ∧ 1 ≤ zs.length := by omega
    refine ⟨_, D, zs, rfl, rfl, .inl (SqL.of hD3), ?_, ?_⟩
    · rw [lens1 zs hz]
      show zs.length + zs.length * 0 ≤ 16777216
      omega
    · rw [TL.join_eq]
      exact q _ H3 (lowB_mk (by rw [g.1]; exact ln.2) (by rw [g.1]; exact ln.1) g.2) hB3 (ex1.kept.trans (ex2.kept.trans kp3))
def nameW : Wp Str := fun P => ∀ z : Str, lowB z = true → P z
theorem kept_fr {b c : Addr} {H H' : Hp} (k : Kept b c H H') : Fr [b, c] H H' := fun p o e n => by
  simp only [List.mem_cons, List.not_mem_nil, or_false, not_or] at n
  exact k p o e n.1 n.2
theorem ew_name {b c : Addr} {S : AS} {σ : St} {H : Hp} {E : XK} {i : Nat} (hi : σ[i]? = some (some (.ref b))) : EvW b c S (tCall spName [] E (tCons (tVar i) tNil)) σ H (of (K := K) tStr S) nameW := fun ts P hP H1 f d hB Q q =>
  ⟨_, hi, b, c, rfl, hB, fun z H' hz hB' kp => q _ H' z (hP z hz) (kept_fr kp) (dom_fr d (kept_fr kp) hB') hB' ⟨rfl, low_ok hz⟩⟩

end
end G

namespace G
open PySem L2 M
section
variable {P : Program} {w : World} {K : PySem.W.Frag} {mg : Str → Option Value} {base : Heap}

def m_law_sum (d_law_one : Rat) (d_law_two : Rat) : Option Rat :=
  (bd (bd (bd (bd (bd (some d_law_one) fun x => some x.num) fun x => bd (bd (some d_law_two) fun x => some (x.den : Int)) fun y => mul? x y) fun x => bd (bd (bd (some d_law_two) fun x => some x.num) fun x => bd (bd (some d_law_one) fun x => some (x.den : Int)) fun y => mul? x y) fun y => some (x + y)) fun x => bd (bd (bd (bd (some d_law_one) fun x => some (x.den : Int)) fun x => bd (bd (some d_law_two) fun x => some (x.den : Int)) fun y => mul? x y) fun x => bd (some ()) fun y => some (x, y)) fun y => some (x, y)) fun a => ratio? a.1 a.2.1)
abbrev sp_law_sum (K : PySem.W.Frag) : Sp := spF (K := K) (aCons tRat (aCons tRat aNil)) (fun S => of (K := K) tRat S) (fun a => m_law_sum a.1 a.2.1)
theorem ok_law_sum (ev : Env P K mg) : FnOk P w K mg base CX0 2 ev.f_law_sum ev.d_law_sum p_law_sum (sp_law_sum K) := by
  refine ev.A_law_sum.F.ok sc_law_sum (fun vs H Q E h => ?_) (fun cdv A outer s H0 vs Q E hr h => ?_)
  · obtain ⟨S, ⟨d_law_one, d_law_two, _⟩, y, _, ⟨v_law_one, _, rfl, h_law_one, v_law_two, _, rfl, h_law_two, rfl⟩, _⟩ := h
    rfl
  obtain ⟨S, ⟨d_law_one, d_law_two, _⟩, y, dm, ⟨v_law_one, _, rfl, h_law_one, v_law_two, _, rfl, h_law_two, rfl⟩, hm, q⟩ := h
  have ts : Sub [] S := fun a m => by simp at m
  have fr0 := Fr.refl (T := []) H0
  have sub0 : Sub S S := fun a m => m
  refine ⟨_, (pss_one (ps_ret (pe_call (ok_law_rat ev) (hr.mono (by decide)) (by rfl) ev.A_law_rat.m ev.A_law_rat.F.kp ev.A_law_rat.b .nil pass0 (pa_cons (pe_op op_add (pe_op op_mulW (pe_ix ix_tup (pv 0) pe_int (fun _ _ => rfl)) (pe_ix ix_tup (pv 1) pe_int (fun _ _ => rfl))) (pe_op op_mulW (pe_ix ix_tup (pv 1) pe_int (fun _ _ => rfl)) (pe_ix ix_tup (pv 0) pe_int (fun _ _ => rfl)))) (pa_cons (pe_op op_mulW (pe_ix ix_tup (pv 0) pe_int (fun _ _ => rfl)) (pe_ix ix_tup (pv 1) pe_int (fun _ _ => rfl))) pa_nil))))), ?_⟩
  dsimp only [m_law_sum] at hm
  have er := hm
  exact q_ret (T := []) dm (ev_law_rat (ea_cons (ev_op (od_add (K := K)) (ev_op (od_mul (K := K)) (ev_ixR0 (ev_var ts h_law_one rfl)) (ev_ixR1 (ev_var ts h_law_two rfl))) (ev_op (od_mul (K := K)) (ev_ixR0 (ev_var ts h_law_two rfl)) (ev_ixR1 (ev_var ts h_law_one rfl)))) (ea_cons (ev_op (od_mul (K := K)) (ev_ixR1 (ev_var ts h_law_one rfl)) (ev_ixR1 (ev_var ts h_law_two rfl))) ea_nil))) er (fun v H1 s1 hv => q v H1 (fr0.trans (Fr.same s1)).toSame ((tRat : Ty K Rat).sub (S := S) (H := H1) sub0 hv))
def m_law_dif (d_law_one : Rat) (d_law_two : Rat) : Option Rat :=
  (bd (bd (bd (bd (bd (some d_law_one) fun x => some x.num) fun x => bd (bd (some d_law_two) fun x => some (x.den : Int)) fun y => mul? x y) fun x => bd (bd (bd (some d_law_two) fun x => some x.num) fun x => bd (bd (some d_law_one) fun x => some (x.den : Int)) fun y => mul? x y) fun y => some (x - y)) fun x => bd (bd (bd (bd (some d_law_one) fun x => some (x.den : Int)) fun x => bd (bd (some d_law_two) fun x => some (x.den : Int)) fun y => mul? x y) fun x => bd (some ()) fun y => some (x, y)) fun y => some (x, y)) fun a => ratio? a.1 a.2.1)
abbrev sp_law_dif (K : PySem.W.Frag) : Sp := spF (K := K) (aCons tRat (aCons tRat aNil)) (fun S => of (K := K) tRat S) (fun a => m_law_dif a.1 a.2.1)
theorem ok_law_dif (ev : Env P K mg) : FnOk P w K mg base CX0 2 ev.f_law_dif ev.d_law_dif p_law_dif (sp_law_dif K) := by
  refine ev.A_law_dif.F.ok sc_law_dif (fun vs H Q E h => ?_) (fun cdv A outer s H0 vs Q E hr h => ?_)
  · obtain ⟨S, ⟨d_law_one, d_law_two, _⟩, y, _, ⟨v_law_one, _, rfl, h_law_one, v_law_two, _, rfl, h_law_two, rfl⟩, _⟩ := h
    rfl
  obtain ⟨S, ⟨d_law_one, d_law_two, _⟩, y, dm, ⟨v_law_one, _, rfl, h_law_one, v_law_two, _, rfl, h_law_two, rfl⟩, hm, q⟩ := h
  have ts : Sub [] S := fun a m => by simp at m
  have fr0 := Fr.refl (T := []) H0
  have sub0 : Sub S S := fun a m => m
  refine ⟨_, (pss_one (ps_ret (pe_call (ok_law_rat ev) (hr.mono (by decide)) (by rfl) ev.A_law_rat.m ev.A_law_rat.F.kp ev.A_law_rat.b .nil pass0 (pa_cons (pe_op op_sub (pe_op op_mulW (pe_ix ix_tup (pv 0) pe_int (fun _ _ => rfl)) (pe_ix ix_tup (pv 1) pe_int (fun _ _ => rfl))) (pe_op op_mulW (pe_ix ix_tup (pv 1) pe_int (fun _ _ => rfl)) (pe_ix ix_tup (pv 0) pe_int (fun _ _ => rfl)))) (pa_cons (pe_op op_mulW (pe_ix ix_tup (pv 0) pe_int (fun _ _ => rfl)) (pe_ix ix_tup (pv 1) pe_int (fun _ _ => rfl))) pa_nil))))), ?_⟩
  dsimp only [m_law_dif] at hm
  have er := hm
  exact q_ret (T := []) dm (ev_law_rat (ea_cons (ev_op (od_sub (K := K)) (ev_op (od_mul (K := K)) (ev_ixR0 (ev_var ts h_law_one rfl)) (ev_ixR1 (ev_var ts h_law_two rfl))) (ev_op (od_mul (K := K)) (ev_ixR0 (ev_var ts h_law_two rfl)) (ev_ixR1 (ev_var ts h_law_one rfl)))) (ea_cons (ev_op (od_mul (K := K)) (ev_ixR1 (ev_var ts h_law_one rfl)) (ev_ixR1 (ev_var ts h_law_two rfl))) ea_nil))) er (fun v H1 s1 hv => q v H1 (fr0.trans (Fr.same s1)).toSame ((tRat : Ty K Rat).sub (S := S) (H := H1) sub0 hv))
def m_law_ratio (d_law_reach : Int) (P : Rat → Prop) : Prop :=
  ((callBW anyW (lf (bd (some (1 : Int)) fun x => bd (bd (some (1 : Int)) fun x => bd (bd (some (2 : Int)) fun x => bd (bd (some (2 : Int)) fun x => bd (bd (some (3 : Int)) fun x => bd (bd (some (4 : Int)) fun x => bd (bd (some (7 : Int)) fun x => bd (bd (some (60 : Int)) fun x => bd (some []) fun y => some (x :: y)) fun y => some (x :: y)) fun y => some (x :: y)) fun y => some (x :: y)) fun y => some (x :: y)) fun y => some (x :: y)) fun y => some (x :: y)) fun y => some (x :: y)))) fun law_low_1 => (lf (bd (some d_law_reach) fun x => bd (some law_low_1) fun y => mul? x y) fun law_room_2 => ((unW (fun a => ratio? a.1 a.2.1) (tup2W (opW (fun x y => some (x - y)) (callBW drawW (lf (bd (bd (some (2 : Int)) fun x => bd (some law_room_2) fun y => mul? x y) fun x => bd (some (1 : Int)) fun y => some (x + y)))) (lf (some law_room_2))) (tup2W (lf (some law_low_1)) (lf (some ()))))) P)))
abbrev sp_law_ratio (K : PySem.W.Frag) : Sp := spB (K := K) (aCons tInt aNil) (fun S => of (K := K) tRat S) (fun a => m_law_ratio a.1)
theorem ok_law_ratio (ev : Env P K mg) : FnOk P w K mg base CX0 3 ev.f_law_ratio ev.d_law_ratio p_law_ratio (sp_law_ratio K) := by
  refine ev.A_law_ratio.F.ok sc_law_ratio (fun vs H Q E h => ?_) (fun cdv A outer s H0 vs Q E hr h => ?_)
  · obtain ⟨S, b, c, r, ⟨d_law_reach, _⟩, P, rfl, _, _, _, ⟨v_law_reach, _, rfl, h_law_reach, rfl⟩, _⟩ := h
    rfl
  obtain ⟨S, b, c, r, ⟨d_law_reach, _⟩, P, rfl, dm, ts, hB, ⟨v_law_reach, _, rfl, h_law_reach, rfl⟩, hm, q⟩ := h
  have fr0 := Fr.refl (T := [b, c]) H0
  have sub0 : Sub S S := fun a m => m
  refine ⟨_, (pss_cons (ps_set (i := 2) sc_law_ratio.nd rfl (Or.inl rfl) (pe_call (ok_law_any ev) (hr.mono (by decide)) (by rfl) ev.A_law_any.m ev.A_law_any.F.kp ev.A_law_any.b .nil pass0 (pa_cons (pv 0) (pa_cons (pe_lst (pa_cons pe_int (pa_cons pe_int (pa_cons pe_int (pa_cons pe_int (pa_cons pe_int (pa_cons pe_int (pa_cons pe_int (pa_cons pe_int pa_nil))))))))) pa_nil))))
    (pss_cons (ps_set (i := 3) sc_law_ratio.nd rfl (Or.inl rfl) (pe_op op_mulW (pv 1) (pv 2)))
    (pss_one (ps_ret (pe_call (ok_law_rat ev) (hr.mono (by decide)) (by rfl) ev.A_law_rat.m ev.A_law_rat.F.kp ev.A_law_rat.b .nil pass0 (pa_cons (pe_op op_sub (pe_call (ok_law_draw ev) (hr.mono (by decide)) (by rfl) ev.A_law_draw.m ev.A_law_draw.F.kp ev.A_law_draw.b .nil pass0 (pa_cons (pv 0) (pa_cons (pe_op op_add (pe_op op_mulW pe_int (pv 3)) pe_int) pa_nil))) (pv 3)) (pa_cons (pv 2) pa_nil))))))), ?_⟩
  dsimp only [m_law_ratio] at hm
  refine qw_asg dm hB ts (ew_any rfl (ew_pure (ev_new (ev_lst (el_cons (ev_int (K := K)) (el_cons (ev_int (K := K)) (el_cons (ev_int (K := K)) (el_cons (ev_int (K := K)) (el_cons (ev_int (K := K)) (el_cons (ev_int (K := K)) (el_cons (ev_int (K := K)) (el_cons (ev_int (K := K)) el_nil)))))))) (by decide))))) hm (fun v_law_low H1 law_low_1 hm fr1 dm1 hB1 h_law_low => ?_)
  have fr0 := fr0.trans fr1
  have h_law_reach := (tInt : Ty K Int).mono (S := S) (fr1.sub ts) h_law_reach
  have dm := dm1
  have hB := hB1
  have h_law_low : (tInt : Ty K Int).rp S H1 v_law_low law_low_1 := h_law_low
  obtain ⟨law_room_2, e2, hm⟩ := hm
  refine q_asg (T := [b, c]) dm (ev_op (od_mul (K := K)) (ev_var ts h_law_reach rfl) (ev_var ts h_law_low rfl)) e2 (fun v_law_room H2 s2 h_law_room => ?_)
  have fr0 := fr0.trans (Fr.same s2)
  have dm := dm.same s2
  have h_law_reach := (tInt : Ty K Int).mono (S := S) (Fr.same s2) h_law_reach
  have h_law_low := (tInt : Ty K Int).mono (S := S) (Fr.same s2) h_law_low
  have hB := hB.same s2
  have h_law_room : (tInt : Ty K Int).rp S H2 v_law_room law_room_2 := h_law_room
  exact qw_ret dm hB ts (ew_law_rat (wa_cons (ew_op (od_sub (K := K)) (ew_draw (K := K) rfl (ew_pure (ev_op (od_add (K := K)) (ev_op (od_mul (K := K)) (ev_int (K := K)) (ev_var ts h_law_room rfl)) (ev_int (K := K))))) (ew_pure (ev_var ts h_law_room rfl))) (wa_cons (ew_pure (ev_var ts h_law_low rfl)) wa_nil))) hm (fun v H3 z hm fr3 dm3 hB3 hv => q v H3 z hm (fr0.trans fr3) hB3 ((tRat : Ty K Rat).sub (S := S) (H := H3) sub0 hv))
def m_law_spot (d_law_reach : Int) (P : (Rat × Rat) → Prop) : Prop :=
  ((tup2W (callBW (fun a => m_law_ratio a.1) (tup2W (lf (some d_law_reach)) (lf (some ())))) (callBW (fun a => m_law_ratio a.1) (tup2W (lf (some d_law_reach)) (lf (some ()))))) P)
abbrev sp_law_spot (K : PySem.W.Frag) : Sp := spB (K := K) (aCons tInt aNil) (fun S => of (K := K) (tT2 tRat tRat) S) (fun a => m_law_spot a.1)
theorem ok_law_spot (ev : Env P K mg) : FnOk P w K mg base CX0 4 ev.f_law_spot ev.d_law_spot p_law_spot (sp_law_spot K) := by
  refine ev.A_law_spot.F.ok sc_law_spot (fun vs H Q E h => ?_) (fun cdv A outer s H0 vs Q E hr h => ?_)
  · obtain ⟨S, b, c, r, ⟨d_law_reach, _⟩, P, rfl, _, _, _, ⟨v_law_reach, _, rfl, h_law_reach, rfl⟩, _⟩ := h
    rfl
  obtain ⟨S, b, c, r, ⟨d_law_reach, _⟩, P, rfl, dm, ts, hB, ⟨v_law_reach, _, rfl, h_law_reach, rfl⟩, hm, q⟩ := h
  have fr0 := Fr.refl (T := [b, c]) H0
  have sub0 : Sub S S := fun a m => m
  refine ⟨_, (pss_one (ps_ret (pe_tup (pa_cons (pe_call (ok_law_ratio ev) (hr.mono (by decide)) (by rfl) ev.A_law_ratio.m ev.A_law_ratio.F.kp ev.A_law_ratio.b .nil pass0 (pa_cons (pv 0) (pa_cons (pv 1) pa_nil))) (pa_cons (pe_call (ok_law_ratio ev) (hr.mono (by decide)) (by rfl) ev.A_law_ratio.m ev.A_law_ratio.F.kp ev.A_law_ratio.b .nil pass0 (pa_cons (pv 0) (pa_cons (pv 1) pa_nil))) pa_nil))))), ?_⟩
  dsimp only [m_law_spot] at hm
  exact qw_ret dm hB ts (ew_tup2 (ew_callB rfl (wa_cons (ew_pure (ev_var ts h_law_reach rfl)) wa_nil)) (ew_callB rfl (wa_cons (ew_pure (ev_var ts h_law_reach rfl)) wa_nil))) hm (fun v H1 z hm fr1 dm1 hB1 hv => q v H1 z hm (fr0.trans fr1) hB1 (((tT2 tRat tRat) : Ty K (Rat × Rat)).sub (S := S) (H := H1) sub0 hv))
def m_law_names (d_law_many : Int) (P : (List Str) → Prop) : Prop :=
  (lf (some []) fun law_found_1 => ((lf (bd (some d_law_many) rng1?)) fun xs8 => loopW (fun s_2 law_k_2 K2 => (nameW fun law_name_here_3 => (jn (fun J4 => (lf (bd (some law_name_here_3) fun x => bd (some s_2) fun y => some (!memD x y)) fun c4 => if c4 then (lf (some law_name_here_3) fun a5 => (lf (app? s_2 a5) fun law_found_6 => J4 law_found_6)) else J4 s_2)) fun j7 => K2 (Ct.go j7)))) xs8 law_found_1 fun r_2 => match r_2 with | .ret y => P y | .go t_2 => (lf (some t_2) P) | .brk _ => False))
abbrev sp_law_names (K : PySem.W.Frag) : Sp := spB (K := K) (aCons tInt aNil) (fun S => nw (K := K) tStr S) (fun a => m_law_names a.1)
theorem ok_law_names (ev : Env P K mg) : FnOk P w K mg base CX0 4 ev.f_law_names ev.d_law_names p_law_names (sp_law_names K) := by
  refine ev.A_law_names.F.ok sc_law_names (fun vs H Q E h => ?_) (fun cdv A outer s H0 vs Q E hr h => ?_)
  · obtain ⟨S, b, c, r, ⟨d_law_many, _⟩, P, rfl, _, _, _, ⟨v_law_many, _, rfl, h_law_many, rfl⟩, _⟩ := h
    rfl
  obtain ⟨S, b, c, r, ⟨d_law_many, _⟩, P, rfl, dm, ts, hB, ⟨v_law_many, _, rfl, h_law_many, rfl⟩, hm, q⟩ := h
  have fr0 := Fr.refl (T := [b, c]) H0
  have sub0 : Sub S S := fun a m => m
  refine ⟨_, (pss_cons (ps_set (i := 2) sc_law_names.nd rfl (Or.inl rfl) (pe_lst pa_nil))
    (pss_cons (ps_for PassesOwn.never rfl (pi_range1 rfl ev.B.range_ (pa_cons (pv 1) pa_nil)) (pg_name (i := 3) sc_law_names.nd rfl (Or.inl rfl))
    (pss_cons (ps_set (i := 4) sc_law_names.nd rfl (Or.inl rfl) (pe_call (ok_law_name ev) (hr.mono (by decide)) (by rfl) ev.A_law_name.m ev.A_law_name.F.kp ev.A_law_name.b .nil pass0 (pa_cons (pv 0) pa_nil)))
    (pss_one (ps_if (pt_cmpR (op_notInD hr.units65) (pv 4) (pv 2) (by rfl))
    (pss_one (ps_expr (pe_bm PySem.F.plainAttrs_list PySem.F.slot_list_append PySem.F.type_list_append mt_append (pv 2) (pa_cons (pv 4) pa_nil)))) pss_nil))))
    (pss_one (ps_ret (pv 2))))), ?_⟩
  dsimp only [m_law_names] at hm
  obtain ⟨law_found_1, e1, hm⟩ := hm
  refine q_asg (T := [b, c]) dm (ev_lst0 (a := (tStr : Ty K Str))) e1 (fun v_law_found H1 s1 hx => ?_)
  obtain ⟨p_law_found, rfl, np_law_found, o_law_found⟩ := hx
  have ns_law_found : p_law_found ∉ S := dm.not_mem np_law_found
  have nb_law_found : p_law_found ∉ S := fun m => ns_law_found (sub0 _ m)
  have n0_law_found := fr_back fr0 hB.dom np_law_found
  have nt_law_found := hB.dom.not_mem np_law_found
  have fr0 := fr0.trans (Fr.same s1)
  have h_law_many := (tInt : Ty K Int).mono (Fr.same s1) ((tInt : Ty K Int).ext (S := S) np_law_found h_law_many)
  have dm := (dm.same s1).cons o_law_found.choose_spec.1
  have ts := sub_cons (p := p_law_found) ts
  have sub0 := sub_cons (p := p_law_found) sub0
  have im_law_found : p_law_found ∈ p_law_found :: S := List.mem_cons_self ..
  have hB := hB.same s1
  refine qw_for_s dm hB ts (srw_pure (sr_r1 (K := K) (ev_var ts h_law_many rfl))) hm (fun s_2 σ' H' => ∃ v_law_many : V, ∃ f_3 : Option V, ∃ f_4 : Option V, σ' = [some (.ref b), some v_law_many, some (.ref p_law_found), f_3, f_4] ∧ Fr [b, c] H0 H' ∧ Dom (p_law_found :: S) H' ∧ Bag H' b c ∧ (tInt : Ty K Int).rp (p_law_found :: S) H' v_law_many d_law_many ∧ Own (tStr : Ty K Str) (p_law_found :: S) H' p_law_found s_2) (fun H2 fr2 dm2 hB2 => ?_) (fun hd2 s_2 law_k_2 C2 v_law_k σ' H' hI h_law_k hm hret2 hbrk2 => ?_) (fun t_2 σ' H' hm hI => ?_)
  · skip
    have fr0 := fr0.trans fr2
    have h_law_many := (tInt : Ty K Int).mono (S := (p_law_found :: S)) (fr2.sub ts) h_law_many
    have o_law_found := o_law_found.fr fr2 ts nt_law_found
    have dm := dm2
    have hB := hB2
    exact ⟨v_law_many, _, _, rfl, fr0, dm, hB, h_law_many, o_law_found⟩
  · skip
    obtain ⟨v_law_many, f_3, f_4, rfl, fr0, dm, hB, h_law_many, o_law_found⟩ := hI
    let HL := H'
    have freshl : ∀ a ∈ (p_law_found :: S), a ∉ (p_law_found :: S) → H' a = none := fun a m n => absurd m n
    have frl : Fr (p_law_found :: S) HL H' := Fr.refl (T := (p_law_found :: S)) H'
    have tsl := ts
    have subl : Sub (p_law_found :: S) (p_law_found :: S) := fun a m => m
    have iml_law_found := im_law_found
    have h_law_k : (tInt : Ty K Int).rp (p_law_found :: S) H' v_law_k law_k_2 := h_law_k
    refine qw_asg dm hB ts (ew_name (K := K) rfl) hm (fun v_law_name_here H3 law_name_here_3 hm fr3 dm3 hB3 h_law_name_here => ?_)
    have fr0 := fr0.trans fr3
    have frl := frl.trans (fr3.sub tsl)
    have h_law_many := (tInt : Ty K Int).mono (S := (p_law_found :: S)) (fr3.sub ts) h_law_many
    have o_law_found := o_law_found.fr fr3 ts nt_law_found
    have h_law_k := (tInt : Ty K Int).mono (S := (p_law_found :: S)) (fr3.sub ts) h_law_k
    have dm := dm3
    have hB := hB3
    have h_law_name_here : (tStr : Ty K Str).rp (p_law_found :: S) H3 v_law_name_here law_name_here_3 := h_law_name_here
    obtain ⟨J4, hK4, hm⟩ := jn_open hm
    refine seq_last (fun σ' H' => ∃ j7, J4 j7 ∧ Fr (p_law_found :: S) HL H' ∧ ∃ v_law_many : V, ∃ v_law_k : V, ∃ v_law_name_here : V, σ' = [some (.ref b), some v_law_many, some (.ref p_law_found), some v_law_k, some v_law_name_here] ∧ Fr [b, c] H0 H' ∧ Dom (p_law_found :: S) H' ∧ Bag H' b c ∧ (tInt : Ty K Int).rp (p_law_found :: S) H' v_law_many d_law_many ∧ (tInt : Ty K Int).rp (p_law_found :: S) H' v_law_k law_k_2 ∧ (tStr : Ty K Str).rp (p_law_found :: S) H' v_law_name_here law_name_here_3 ∧ Own (tStr : Ty K Str) (p_law_found :: S) H' p_law_found j7) (fun σ' H' hI => ?_) (fun rest4 => ?_)
    · skip
      obtain ⟨j7, hj, ⟨frl, v_law_many, v_law_k, v_law_name_here, rfl, fr0, dm, hB, h_law_many, h_law_k, h_law_name_here, o_law_found⟩⟩ := hI
      have hm := hK4 j7 hj
      exact ⟨_, hm, frl, ⟨v_law_many, _, _, rfl, fr0, dm, hB, h_law_many, o_law_found⟩⟩
    obtain ⟨c4, e4, hm⟩ := hm
    refine l_if (T := [b, c]) dm (by refine eb_shr (S' := S) (sub_cons (fun a m => m)) ?_; have sbz : Sub S (p_law_found :: S) := (sub_cons (fun a m => m)); (have nfz : p_law_found ∉ S := by first | exact ns_law_found | (have h := ns_law_found; simp only [List.mem_cons, not_or] at h ⊢; grind)); have h_law_found := o_law_found.frz sbz nfz; have h_law_many := (tInt : Ty K Int).sub sbz h_law_many; have h_law_k := (tInt : Ty K Int).sub sbz h_law_k; have h_law_name_here := (tStr : Ty K Str).sub sbz h_law_name_here; (have ts : Sub [b, c] S := fun a m => by have h1 := ts a m; have h2 : a ≠ p_law_found := (fun e => nt_law_found (e ▸ m)); simp only [List.mem_cons] at h1 ⊢; grind); exact (eb_test (K := K) (ev_op (od_notInD (K := K) dStr (Nat.le_of_ble_eq_true rfl)) (ev_var ts h_law_name_here rfl) (ev_var ts h_law_found rfl)))) e4 (fun hc H4 s4 => ?_) (fun hc H4 s4 => ?_)
    · skip
      subst hc
      have fr0 := fr0.trans (Fr.same s4)
      have dm := dm.same s4
      have frl := frl.trans (Fr.same s4)
      have h_law_many := (tInt : Ty K Int).mono (S := (p_law_found :: S)) (Fr.same s4) h_law_many
      have o_law_found := o_law_found.same s4
      have h_law_k := (tInt : Ty K Int).mono (S := (p_law_found :: S)) (Fr.same s4) h_law_k
      have h_law_name_here := (tStr : Ty K Str).mono (S := (p_law_found :: S)) (Fr.same s4) h_law_name_here
      have hB := hB.same s4
      have hm := ifp_t hm
      obtain ⟨a5, e5, hm⟩ := hm
      obtain ⟨law_found_6, f5, hm⟩ := hm
      refine l_app (T := [b, c]) dm o_law_found im_law_found nt_law_found ts rfl (ev_var ts h_law_name_here rfl) e5 f5 (fun H5 s5 frx5 o_law_found => ?_)
      have fr0 := fr0.mut hB.dom n0_law_found s5
      have frl := frl.trans (s5.fr iml_law_found)
      have dm := dm.fx frx5 s5
      have h_law_many := (tInt : Ty K Int).mono (S := (p_law_found :: S)) frx5 h_law_many
      have h_law_k := (tInt : Ty K Int).mono (S := (p_law_found :: S)) frx5 h_law_k
      have h_law_name_here := (tStr : Ty K Str).mono (S := (p_law_found :: S)) frx5 h_law_name_here
      have hB := hB.mut s5 nt_law_found
      exact rest4 _ _ ⟨_, hm, ⟨frl, v_law_many, v_law_k, v_law_name_here, rfl, fr0, dm, hB, h_law_many, h_law_k, h_law_name_here, o_law_found⟩⟩
    · skip
      subst hc
      have fr0 := fr0.trans (Fr.same s4)
      have dm := dm.same s4
      have frl := frl.trans (Fr.same s4)
      have h_law_many := (tInt : Ty K Int).mono (S := (p_law_found :: S)) (Fr.same s4) h_law_many
      have o_law_found := o_law_found.same s4
      have h_law_k := (tInt : Ty K Int).mono (S := (p_law_found :: S)) (Fr.same s4) h_law_k
      have h_law_name_here := (tStr : Ty K Str).mono (S := (p_law_found :: S)) (Fr.same s4) h_law_name_here
      have hB := hB.same s4
      have hm := ifp_f hm
      exact rest4 _ _ ⟨_, hm, ⟨frl, v_law_many, v_law_k, v_law_name_here, rfl, fr0, dm, hB, h_law_many, h_law_k, h_law_name_here, o_law_found⟩⟩
  obtain ⟨v_law_many, f_3, f_4, rfl, fr0, dm, hB, h_law_many, o_law_found⟩ := hI
  obtain ⟨z, er, hm⟩ := hm
  cases er
  exact ⟨_, rfl, q _ _ _ hm fr0 hB ⟨p_law_found, rfl, n0_law_found, o_law_found.sub (cons_sub im_law_found sub0)⟩⟩
def m_law_known (d_law_ground_here : ((List (Str × (Rat × Rat))) × (List (Str × (Str × (List Str)))) × (List (Str × (Str × Int))))) : Option (List Str) :=
  (bd (some d_law_ground_here) fun u_1 => (bd (some []) fun law_found_2 => (bd (bd (some u_1.2.1) ksS?) fun xs9 => bd (loopC (ρ := (List Str)) (fun s_3 law_name_here_3 => (bd (bd (bd (bd (bd (some u_1.2.1) fun d => bd (some law_name_here_3) fun k => getK d k) fun x => some x.2) fun xs => mapL? (fun law_mark_4 => (bd (some law_mark_4) fun k => bd (some u_1.1) fun d => some ((getK d k).isSome))) xs) fun x => some (x.all id)) fun c5 => (bd (if c5 then (bd (some law_name_here_3) fun a6 => (bd (app? s_3 a6) fun law_found_7 => some law_found_7)) else some s_3) fun j8 => some (Ct.go j8)))) xs9 law_found_2) fun r_3 => match r_3 with | .ret y => some y | .go t_3 => (some t_3) | .brk _ => none)))
abbrev sp_law_known (K : PySem.W.Frag) : Sp := spF (K := K) (aCons (tL3 (tD Str (tT2 tRat tRat)) (tD Str (tT2 tStr (tTs tStr))) (tD Str (tT2 tStr tInt))) aNil) (fun S => nw (K := K) tStr S) (fun a => m_law_known a.1)
theorem ok_law_known (ev : Env P K mg) : FnOk P w K mg base CX0 1 ev.f_law_known ev.d_law_known p_law_known (sp_law_known K) := by
  refine ev.A_law_known.F.ok sc_law_known (fun vs H Q E h => ?_) (fun cdv A outer s H0 vs Q E hr h => ?_)
  · obtain ⟨S, ⟨d_law_ground_here, _⟩, y, _, ⟨v_law_ground_here, _, rfl, h_law_ground_here, rfl⟩, _⟩ := h
    rfl
  obtain ⟨S, ⟨d_law_ground_here, _⟩, y, dm, ⟨v_law_ground_here, _, rfl, h_law_ground_here, rfl⟩, hm, q⟩ := h
  have ts : Sub [] S := fun a m => by simp at m
  have fr0 := Fr.refl (T := []) H0
  have sub0 : Sub S S := fun a m => m
  refine ⟨_, (pss_cons (ps_asg (pv 0) (pg_lst rfl (pgs_cons (pg_name (i := 1) sc_law_known.nd rfl (Or.inr rfl)) (pgs_cons (pg_name (i := 2) sc_law_known.nd rfl (Or.inl rfl)) (pgs_cons (pg_name (i := 3) sc_law_known.nd rfl (Or.inl rfl)) pgs_nil)))))
    (pss_cons (ps_set (i := 4) sc_law_known.nd rfl (Or.inl rfl) (pe_lst pa_nil))
    (pss_cons (ps_for PassesOwn.never rfl (pi_list (pe_callB (cr_srtD rfl) (by rfl) ev.B.sorted_ (by decide +kernel) (pa_cons (pv 2) pa_nil))) (pg_name (i := 5) sc_law_known.nd rfl (Or.inl rfl))
    (pss_one (ps_if (pt_val (pe_callB (cr_all rfl) (by rfl) ev.B.all_ (by decide +kernel) (pa_cons (pe_lc (own := [("_law_mark", 6)]) (g := gName 6) (tt := tYes) (by rfl) sc_law_known.nd (pi_tup (pe_ix ix_tup (pe_dget (hu_of hr) (pv 2) (pv 5) (fun _ _ => rfl)) pe_int (fun _ _ => rfl))) (blkOk_by (own := [("_law_mark", 6)]) (N := n_law_known) (sc := defScope s_law_known) (by decide +kernel)) (fun _ _ _ _ _ => pg_name (i := 6) sc_law_known.nd rfl (Or.inl rfl)) (fun _ _ _ _ _ => pts_nil) (fun _ _ _ _ _ => (pe_cmp (pc_din (hu_of hr) (pv 6) (pv 1))))) pa_nil)))
    (pss_one (ps_expr (pe_bm PySem.F.plainAttrs_list PySem.F.slot_list_append PySem.F.type_list_append mt_append (pv 4) (pa_cons (pv 5) pa_nil)))) pss_nil)))
    (pss_one (ps_ret (pv 4)))))), ?_⟩
  dsimp only [m_law_known] at hm
  obtain ⟨u_1, e1, hm⟩ := bd_some hm
  refine q_unpL3 (T := []) dm (ev_var ts h_law_ground_here rfl) e1 (fun v_law_spots v_law_lines v_law_sites H1 s1 h_law_spots h_law_lines h_law_sites => ?_)
  have fr0 := fr0.trans (Fr.same s1)
  have dm := dm.same s1
  have h_law_ground_here := ((tL3 (tD Str (tT2 tRat tRat)) (tD Str (tT2 tStr (tTs tStr))) (tD Str (tT2 tStr tInt))) : Ty K ((List (Str × (Rat × Rat))) × (List (Str × (Str × (List Str)))) × (List (Str × (Str × Int))))).mono (S := S) (Fr.same s1) h_law_ground_here
  obtain ⟨law_found_2, e2, hm⟩ := bd_some hm
  refine q_asg (T := []) dm (ev_lst0 (a := (tStr : Ty K Str))) e2 (fun v_law_found H2 s2 hx => ?_)
  obtain ⟨p_law_found, rfl, np_law_found, o_law_found⟩ := hx
  have ns_law_found : p_law_found ∉ S := dm.not_mem np_law_found
  have nb_law_found : p_law_found ∉ S := fun m => ns_law_found (sub0 _ m)
  have n0_law_found := fr_back fr0 Dom.nil np_law_found
  have nt_law_found := (Dom.nil (H := H0)).not_mem n0_law_found
  have fr0 := fr0.trans (Fr.same s2)
  have h_law_ground_here := ((tL3 (tD Str (tT2 tRat tRat)) (tD Str (tT2 tStr (tTs tStr))) (tD Str (tT2 tStr tInt))) : Ty K ((List (Str × (Rat × Rat))) × (List (Str × (Str × (List Str)))) × (List (Str × (Str × Int))))).mono (Fr.same s2) (((tL3 (tD Str (tT2 tRat tRat)) (tD Str (tT2 tStr (tTs tStr))) (tD Str (tT2 tStr tInt))) : Ty K ((List (Str × (Rat × Rat))) × (List (Str × (Str × (List Str)))) × (List (Str × (Str × Int))))).ext (S := S) np_law_found h_law_ground_here)
  have h_law_spots := ((tD Str (tT2 tRat tRat)) : Ty K (List (Str × (Rat × Rat)))).mono (Fr.same s2) (((tD Str (tT2 tRat tRat)) : Ty K (List (Str × (Rat × Rat)))).ext (S := S) np_law_found h_law_spots)
  have h_law_lines := ((tD Str (tT2 tStr (tTs tStr))) : Ty K (List (Str × (Str × (List Str))))).mono (Fr.same s2) (((tD Str (tT2 tStr (tTs tStr))) : Ty K (List (Str × (Str × (List Str))))).ext (S := S) np_law_found h_law_lines)
  have h_law_sites := ((tD Str (tT2 tStr tInt)) : Ty K (List (Str × (Str × Int)))).mono (Fr.same s2) (((tD Str (tT2 tStr tInt)) : Ty K (List (Str × (Str × Int)))).ext (S := S) np_law_found h_law_sites)
  have dm := (dm.same s2).cons o_law_found.choose_spec.1
  have ts := sub_cons (p := p_law_found) ts
  have sub0 := sub_cons (p := p_law_found) sub0
  have im_law_found : p_law_found ∈ p_law_found :: S := List.mem_cons_self ..
  obtain ⟨xs9, e_xs9, hm⟩ := bd_some hm
  obtain ⟨r_3, el3, hm3⟩ := bd_some hm
  refine q_for_s (T := []) dm (sr_list (ev_new (ev_srtD (ev_var ts h_law_lines rfl)))) e_xs9 el3 (fun s_3 σ' H' => ∃ v_law_ground_here : V, ∃ v_law_spots : V, ∃ v_law_lines : V, ∃ v_law_sites : V, ∃ f_5 : Option V, ∃ f_6 : Option V, σ' = [some v_law_ground_here, some v_law_spots, some v_law_lines, some v_law_sites, some (.ref p_law_found), f_5, f_6] ∧ Fr [] H0 H' ∧ Dom (p_law_found :: S) H' ∧ ((tL3 (tD Str (tT2 tRat tRat)) (tD Str (tT2 tStr (tTs tStr))) (tD Str (tT2 tStr tInt))) : Ty K ((List (Str × (Rat × Rat))) × (List (Str × (Str × (List Str)))) × (List (Str × (Str × Int))))).rp (p_law_found :: S) H' v_law_ground_here d_law_ground_here ∧ ((tD Str (tT2 tRat tRat)) : Ty K (List (Str × (Rat × Rat)))).rp (p_law_found :: S) H' v_law_spots u_1.1 ∧ ((tD Str (tT2 tStr (tTs tStr))) : Ty K (List (Str × (Str × (List Str))))).rp (p_law_found :: S) H' v_law_lines u_1.2.1 ∧ ((tD Str (tT2 tStr tInt)) : Ty K (List (Str × (Str × Int)))).rp (p_law_found :: S) H' v_law_sites u_1.2.2 ∧ Own (tStr : Ty K Str) (p_law_found :: S) H' p_law_found s_3) (fun H3 s3 => ?_) (fun hd3 s_3 law_name_here_3 cr3 v_law_name_here σ' H' hI h_law_name_here hx3 hm hret3 hbrk3 => ?_) (fun t_3 σ' H' er hI => ?_)
  · skip
    have fr0 := fr0.trans (Fr.same s3)
    have dm := dm.same s3
    have h_law_ground_here := ((tL3 (tD Str (tT2 tRat tRat)) (tD Str (tT2 tStr (tTs tStr))) (tD Str (tT2 tStr tInt))) : Ty K ((List (Str × (Rat × Rat))) × (List (Str × (Str × (List Str)))) × (List (Str × (Str × Int))))).mono (S := (p_law_found :: S)) (Fr.same s3) h_law_ground_here
    have h_law_spots := ((tD Str (tT2 tRat tRat)) : Ty K (List (Str × (Rat × Rat)))).mono (S := (p_law_found :: S)) (Fr.same s3) h_law_spots
    have h_law_lines := ((tD Str (tT2 tStr (tTs tStr))) : Ty K (List (Str × (Str × (List Str))))).mono (S := (p_law_found :: S)) (Fr.same s3) h_law_lines
    have h_law_sites := ((tD Str (tT2 tStr tInt)) : Ty K (List (Str × (Str × Int)))).mono (S := (p_law_found :: S)) (Fr.same s3) h_law_sites
    have o_law_found := o_law_found.same s3
    exact ⟨v_law_ground_here, v_law_spots, v_law_lines, v_law_sites, _, _, rfl, fr0, dm, h_law_ground_here, h_law_spots, h_law_lines, h_law_sites, o_law_found⟩
  · skip
    obtain ⟨v_law_ground_here, v_law_spots, v_law_lines, v_law_sites, f_5, f_6, rfl, fr0, dm, h_law_ground_here, h_law_spots, h_law_lines, h_law_sites, o_law_found⟩ := hI
    let HL := H'
    have freshl : ∀ a ∈ (p_law_found :: S), a ∉ (p_law_found :: S) → H' a = none := fun a m n => absurd m n
    have frl : Fr (p_law_found :: S) HL H' := Fr.refl (T := (p_law_found :: S)) H'
    have tsl := ts
    have subl : Sub (p_law_found :: S) (p_law_found :: S) := fun a m => m
    have iml_law_found := im_law_found
    have h_law_name_here : (tStr : Ty K Str).rp (p_law_found :: S) H' v_law_name_here law_name_here_3 := h_law_name_here
    obtain ⟨c5, e5, hm⟩ := bd_some hm
    obtain ⟨j8, ej5, hm⟩ := bd_some hm
    refine seq_last (fun σ' H' => Fr (p_law_found :: S) HL H' ∧ ∃ v_law_ground_here : V, ∃ v_law_spots : V, ∃ v_law_lines : V, ∃ v_law_sites : V, ∃ v_law_name_here : V, ∃ f_6 : Option V, σ' = [some v_law_ground_here, some v_law_spots, some v_law_lines, some v_law_sites, some (.ref p_law_found), some v_law_name_here, f_6] ∧ Fr [] H0 H' ∧ Dom (p_law_found :: S) H' ∧ ((tL3 (tD Str (tT2 tRat tRat)) (tD Str (tT2 tStr (tTs tStr))) (tD Str (tT2 tStr tInt))) : Ty K ((List (Str × (Rat × Rat))) × (List (Str × (Str × (List Str)))) × (List (Str × (Str × Int))))).rp (p_law_found :: S) H' v_law_ground_here d_law_ground_here ∧ ((tD Str (tT2 tRat tRat)) : Ty K (List (Str × (Rat × Rat)))).rp (p_law_found :: S) H' v_law_spots u_1.1 ∧ ((tD Str (tT2 tStr (tTs tStr))) : Ty K (List (Str × (Str × (List Str))))).rp (p_law_found :: S) H' v_law_lines u_1.2.1 ∧ ((tD Str (tT2 tStr tInt)) : Ty K (List (Str × (Str × Int)))).rp (p_law_found :: S) H' v_law_sites u_1.2.2 ∧ (tStr : Ty K Str).rp (p_law_found :: S) H' v_law_name_here law_name_here_3 ∧ Own (tStr : Ty K Str) (p_law_found :: S) H' p_law_found j8) (fun σ' H' hI => ?_) (fun rest => ?_)
    · skip
      obtain ⟨frl, v_law_ground_here, v_law_spots, v_law_lines, v_law_sites, v_law_name_here, f_6, rfl, fr0, dm, h_law_ground_here, h_law_spots, h_law_lines, h_law_sites, h_law_name_here, o_law_found⟩ := hI
      cases hm
      exact ⟨_, rfl, frl, ⟨v_law_ground_here, v_law_spots, v_law_lines, v_law_sites, _, _, rfl, fr0, dm, h_law_ground_here, h_law_spots, h_law_lines, h_law_sites, o_law_found⟩⟩
    have hm := ej5
    refine l_if (T := []) dm (eb_B (K := K) (ev_all (ev_new (ev_lc (sr_tup (ev_ix21 (ev_dget (ck := (tStr : Ty K Str)) (ev_var ts h_law_lines rfl) (ev_var ts h_law_name_here rfl)))) (fun v => by rfl) (fun law_mark_4 v_law_mark H2' H' p' fr' nD' sm' h_law_mark => by have h_law_ground_here := ((tL3 (tD Str (tT2 tRat tRat)) (tD Str (tT2 tStr (tTs tStr))) (tD Str (tT2 tStr tInt))) : Ty K ((List (Str × (Rat × Rat))) × (List (Str × (Str × (List Str)))) × (List (Str × (Str × Int))))).mono (Fr.same sm') (((tL3 (tD Str (tT2 tRat tRat)) (tD Str (tT2 tStr (tTs tStr))) (tD Str (tT2 tStr tInt))) : Ty K ((List (Str × (Rat × Rat))) × (List (Str × (Str × (List Str)))) × (List (Str × (Str × Int))))).ext (S := (p_law_found :: S)) nD' (((tL3 (tD Str (tT2 tRat tRat)) (tD Str (tT2 tStr (tTs tStr))) (tD Str (tT2 tStr tInt))) : Ty K ((List (Str × (Rat × Rat))) × (List (Str × (Str × (List Str)))) × (List (Str × (Str × Int))))).mono (Fr.sub ts fr') h_law_ground_here)); have h_law_spots := ((tD Str (tT2 tRat tRat)) : Ty K (List (Str × (Rat × Rat)))).mono (Fr.same sm') (((tD Str (tT2 tRat tRat)) : Ty K (List (Str × (Rat × Rat)))).ext (S := (p_law_found :: S)) nD' (((tD Str (tT2 tRat tRat)) : Ty K (List (Str × (Rat × Rat)))).mono (Fr.sub ts fr') h_law_spots)); have h_law_lines := ((tD Str (tT2 tStr (tTs tStr))) : Ty K (List (Str × (Str × (List Str))))).mono (Fr.same sm') (((tD Str (tT2 tStr (tTs tStr))) : Ty K (List (Str × (Str × (List Str))))).ext (S := (p_law_found :: S)) nD' (((tD Str (tT2 tStr (tTs tStr))) : Ty K (List (Str × (Str × (List Str))))).mono (Fr.sub ts fr') h_law_lines)); have h_law_sites := ((tD Str (tT2 tStr tInt)) : Ty K (List (Str × (Str × Int)))).mono (Fr.same sm') (((tD Str (tT2 tStr tInt)) : Ty K (List (Str × (Str × Int)))).ext (S := (p_law_found :: S)) nD' (((tD Str (tT2 tStr tInt)) : Ty K (List (Str × (Str × Int)))).mono (Fr.sub ts fr') h_law_sites)); have h_law_name_here := (tStr : Ty K Str).mono (Fr.same sm') ((tStr : Ty K Str).ext (S := (p_law_found :: S)) nD' ((tStr : Ty K Str).mono (Fr.sub ts fr') h_law_name_here)); have ts0' := ts; have ts : Sub [] (p' :: (p_law_found :: S)) := (fun a m => by simp at m);  have o_law_found := ((o_law_found.fr fr' ts0' nt_law_found).ext nD').same sm'; have nt_law_found : p_law_found ∉ [] := (by simp); exact (ev_din (ck := (tStr : Ty K Str)) (ev_var ts h_law_mark rfl) (ev_var ts h_law_spots rfl))))))) e5 (fun hc H5 s5 => ?_) (fun hc H5 s5 => ?_)
    · skip
      subst hc
      have hm := if_t hm
      have fr0 := fr0.trans (Fr.same s5)
      have dm := dm.same s5
      have frl := frl.trans (Fr.same s5)
      have h_law_ground_here := ((tL3 (tD Str (tT2 tRat tRat)) (tD Str (tT2 tStr (tTs tStr))) (tD Str (tT2 tStr tInt))) : Ty K ((List (Str × (Rat × Rat))) × (List (Str × (Str × (List Str)))) × (List (Str × (Str × Int))))).mono (S := (p_law_found :: S)) (Fr.same s5) h_law_ground_here
      have h_law_spots := ((tD Str (tT2 tRat tRat)) : Ty K (List (Str × (Rat × Rat)))).mono (S := (p_law_found :: S)) (Fr.same s5) h_law_spots
      have h_law_lines := ((tD Str (tT2 tStr (tTs tStr))) : Ty K (List (Str × (Str × (List Str))))).mono (S := (p_law_found :: S)) (Fr.same s5) h_law_lines
      have h_law_sites := ((tD Str (tT2 tStr tInt)) : Ty K (List (Str × (Str × Int)))).mono (S := (p_law_found :: S)) (Fr.same s5) h_law_sites
      have o_law_found := o_law_found.same s5
      have h_law_name_here := (tStr : Ty K Str).mono (S := (p_law_found :: S)) (Fr.same s5) h_law_name_here
      obtain ⟨a6, e6, hm⟩ := bd_some hm
      obtain ⟨law_found_7, f6, hm⟩ := bd_some hm
      refine l_app (T := []) dm o_law_found im_law_found nt_law_found ts rfl (ev_var ts h_law_name_here rfl) e6 f6 (fun H6 s6 frx6 o_law_found => ?_)
      have fr0 := fr0.mut Dom.nil n0_law_found s6
      have frl := frl.trans (s6.fr iml_law_found)
      have dm := dm.fx frx6 s6
      have h_law_ground_here := ((tL3 (tD Str (tT2 tRat tRat)) (tD Str (tT2 tStr (tTs tStr))) (tD Str (tT2 tStr tInt))) : Ty K ((List (Str × (Rat × Rat))) × (List (Str × (Str × (List Str)))) × (List (Str × (Str × Int))))).mono (S := (p_law_found :: S)) frx6 h_law_ground_here
      have h_law_spots := ((tD Str (tT2 tRat tRat)) : Ty K (List (Str × (Rat × Rat)))).mono (S := (p_law_found :: S)) frx6 h_law_spots
      have h_law_lines := ((tD Str (tT2 tStr (tTs tStr))) : Ty K (List (Str × (Str × (List Str))))).mono (S := (p_law_found :: S)) frx6 h_law_lines
      have h_law_sites := ((tD Str (tT2 tStr tInt)) : Ty K (List (Str × (Str × Int)))).mono (S := (p_law_found :: S)) frx6 h_law_sites
      have h_law_name_here := (tStr : Ty K Str).mono (S := (p_law_found :: S)) frx6 h_law_name_here
      cases hm
      exact rest _ _ ⟨frl, v_law_ground_here, v_law_spots, v_law_lines, v_law_sites, v_law_name_here, _, rfl, fr0, dm, h_law_ground_here, h_law_spots, h_law_lines, h_law_sites, h_law_name_here, o_law_found⟩
    · skip
      subst hc
      have hm := if_f hm
      have fr0 := fr0.trans (Fr.same s5)
      have dm := dm.same s5
      have frl := frl.trans (Fr.same s5)
      have h_law_ground_here := ((tL3 (tD Str (tT2 tRat tRat)) (tD Str (tT2 tStr (tTs tStr))) (tD Str (tT2 tStr tInt))) : Ty K ((List (Str × (Rat × Rat))) × (List (Str × (Str × (List Str)))) × (List (Str × (Str × Int))))).mono (S := (p_law_found :: S)) (Fr.same s5) h_law_ground_here
      have h_law_spots := ((tD Str (tT2 tRat tRat)) : Ty K (List (Str × (Rat × Rat)))).mono (S := (p_law_found :: S)) (Fr.same s5) h_law_spots
      have h_law_lines := ((tD Str (tT2 tStr (tTs tStr))) : Ty K (List (Str × (Str × (List Str))))).mono (S := (p_law_found :: S)) (Fr.same s5) h_law_lines
      have h_law_sites := ((tD Str (tT2 tStr tInt)) : Ty K (List (Str × (Str × Int)))).mono (S := (p_law_found :: S)) (Fr.same s5) h_law_sites
      have o_law_found := o_law_found.same s5
      have h_law_name_here := (tStr : Ty K Str).mono (S := (p_law_found :: S)) (Fr.same s5) h_law_name_here
      cases hm
      exact rest _ _ ⟨frl, v_law_ground_here, v_law_spots, v_law_lines, v_law_sites, v_law_name_here, _, rfl, fr0, dm, h_law_ground_here, h_law_spots, h_law_lines, h_law_sites, h_law_name_here, o_law_found⟩
  subst er
  have hm := hm3
  obtain ⟨v_law_ground_here, v_law_spots, v_law_lines, v_law_sites, f_5, f_6, rfl, fr0, dm, h_law_ground_here, h_law_spots, h_law_lines, h_law_sites, o_law_found⟩ := hI
  have er := hm
  cases er
  exact ⟨_, rfl, q _ _ fr0.toSame ⟨p_law_found, rfl, n0_law_found, o_law_found.sub (cons_sub im_law_found sub0)⟩⟩
def m_law_row (d_law_ground_here : ((List (Str × (Rat × Rat))) × (List (Str × (Str × (List Str)))) × (List (Str × (Str × Int))))) (d_law_name_here : Str) : Option (List (Rat × Rat)) :=
  (bd (bd (bd (bd (some d_law_ground_here) fun x => some x.2.1) fun d => bd (some d_law_name_here) fun k => getK d k) fun x => some x.2) fun xs => mapL? (fun law_mark_1 => (bd (bd (some d_law_ground_here) fun x => some x.1) fun d => bd (some law_mark_1) fun k => getK d k)) xs)
abbrev sp_law_row (K : PySem.W.Frag) : Sp := spF (K := K) (aCons (tL3 (tD Str (tT2 tRat tRat)) (tD Str (tT2 tStr (tTs tStr))) (tD Str (tT2 tStr tInt))) (aCons tStr aNil)) (fun S => nw (K := K) (tT2 tRat tRat) S) (fun a => m_law_row a.1 a.2.1)
theorem ok_law_row (ev : Env P K mg) : FnOk P w K mg base CX0 1 ev.f_law_row ev.d_law_row p_law_row (sp_law_row K) := by
  refine ev.A_law_row.F.ok sc_law_row (fun vs H Q E h => ?_) (fun cdv A outer s H0 vs Q E hr h => ?_)
  · obtain ⟨S, ⟨d_law_ground_here, d_law_name_here, _⟩, y, _, ⟨v_law_ground_here, _, rfl, h_law_ground_here, v_law_name_here, _, rfl, h_law_name_here, rfl⟩, _⟩ := h
    rfl
  obtain ⟨S, ⟨d_law_ground_here, d_law_name_here, _⟩, y, dm, ⟨v_law_ground_here, _, rfl, h_law_ground_here, v_law_name_here, _, rfl, h_law_name_here, rfl⟩, hm, q⟩ := h
  have ts : Sub [] S := fun a m => by simp at m
  have fr0 := Fr.refl (T := []) H0
  have sub0 : Sub S S := fun a m => m
  refine ⟨_, (pss_one (ps_ret (pe_lc (own := [("_law_mark", 2)]) (g := gName 2) (tt := tYes) (by rfl) sc_law_row.nd (pi_tup (pe_ix ix_tup (pe_dget (hu_of hr) (pe_ix ix_list (pv 0) pe_int (fun _ _ => rfl)) (pv 1) (fun _ _ => rfl)) pe_int (fun _ _ => rfl))) (blkOk_by (own := [("_law_mark", 2)]) (N := n_law_row) (sc := defScope s_law_row) (by decide +kernel)) (fun _ _ _ _ _ => pg_name (i := 2) sc_law_row.nd rfl (Or.inl rfl)) (fun _ _ _ _ _ => pts_nil) (fun _ _ _ _ _ => (pe_dget (hu_of hr) (pe_ix (show IxR _ (rIxL K) from ix_list) (pv 0) pe_int (fun _ _ => rfl)) (pv 2) (fun _ _ => rfl)))))), ?_⟩
  dsimp only [m_law_row] at hm
  have er := hm
  exact q_ret (T := []) dm (ev_lc (sr_tup (ev_ix21 (ev_dget (ck := (tStr : Ty K Str)) (ev_ixL31 (ev_var ts h_law_ground_here rfl)) (ev_var ts h_law_name_here rfl)))) (fun v => by rfl) (fun law_mark_1 v_law_mark H2' H' p' fr' nD' sm' h_law_mark => by have h_law_ground_here := ((tL3 (tD Str (tT2 tRat tRat)) (tD Str (tT2 tStr (tTs tStr))) (tD Str (tT2 tStr tInt))) : Ty K ((List (Str × (Rat × Rat))) × (List (Str × (Str × (List Str)))) × (List (Str × (Str × Int))))).mono (Fr.same sm') (((tL3 (tD Str (tT2 tRat tRat)) (tD Str (tT2 tStr (tTs tStr))) (tD Str (tT2 tStr tInt))) : Ty K ((List (Str × (Rat × Rat))) × (List (Str × (Str × (List Str)))) × (List (Str × (Str × Int))))).ext (S := S) nD' (((tL3 (tD Str (tT2 tRat tRat)) (tD Str (tT2 tStr (tTs tStr))) (tD Str (tT2 tStr tInt))) : Ty K ((List (Str × (Rat × Rat))) × (List (Str × (Str × (List Str)))) × (List (Str × (Str × Int))))).mono (Fr.sub ts fr') h_law_ground_here)); have h_law_name_here := (tStr : Ty K Str).mono (Fr.same sm') ((tStr : Ty K Str).ext (S := S) nD' ((tStr : Ty K Str).mono (Fr.sub ts fr') h_law_name_here)); have ts0' := ts; have ts : Sub [] (p' :: S) := (fun a m => by simp at m);  exact (ev_dget (ck := (tStr : Ty K Str)) (ev_ixL30 (ev_var ts h_law_ground_here rfl)) (ev_var ts h_law_mark rfl)))) er (fun v H2 s2 hv => q v H2 (fr0.trans (Fr.same s2)).toSame (nwL.sub hv sub0 fr0 Dom.nil))
end
end G

namespace G
open PySem L2 M
section
variable {P : Program} {w : World} {K : PySem.W.Frag} {mg : Str → Option Value} {base : Heap}

def m_law_ground (d_law_reach : Int) (P : ((List (Str × (Rat × Rat))) × (List (Str × (Str × (List Str)))) × (List (Str × (Str × Int)))) → Prop) : Prop :=
  (lf (some []) fun law_spots_1 => ((callBW (fun a => m_law_names a.1) (tup2W (opW (fun x y => some (x + y)) (lf (some (2 : Int))) (callBW drawW (lf (some (5 : Int))))) (lf (some ())))) fun law_names_here_2 => ((lf (some law_names_here_2)) fun xs42 => loopW (fun s_3 law_name_here_3 K3 => ((callBW (fun a => m_law_spot a.1) (tup2W (lf (some d_law_reach)) (lf (some ())))) fun a4 => lf (some law_name_here_3) fun i5 => lf (putL? s_3 i5 a4) fun law_spots_6 => (jn (fun J7 => ((opW (fun x y => some (decide (x = y))) (callBW drawW (lf (some (5 : Int)))) (lf (some (0 : Int)))) fun c7 => if c7 then ((callBW anyW (lf (ksS? law_spots_6))) fun law_two_8 => ((tup2W (unW p2r (tup2W (opW (fun x y => some (x - y)) (callBW drawW (lf (bd (bd (some (2 : Int)) fun x => bd (some d_law_reach) fun y => mul? x y) fun x => bd (some (1 : Int)) fun y => some (x + y)))) (lf (some d_law_reach))) (lf (some (1 : Int))))) (lf (bd (bd (some law_two_8) fun y => getK law_spots_6 y) fun x => some x.2))) fun a9 => lf (some law_name_here_3) fun i10 => lf (putL? law_spots_6 i10 a9) fun law_spots_11 => J7 law_spots_11)) else (jn (fun J12 => ((opW (fun x y => some (decide (x = y))) (callBW drawW (lf (some (8 : Int)))) (lf (some (0 : Int)))) fun c12 => if c12 then ((unW (fun y => getK law_spots_6 y) (callBW anyW (lf (ksS? law_spots_6)))) fun a13 => lf (some law_name_here_3) fun i14 => lf (putL? law_spots_6 i14 a13) fun law_spots_15 => J12 law_spots_15) else J12 law_spots_6)) fun j16 => J7 j16))) fun j17 => K3 (Ct.go j17)))) xs42 law_spots_1 fun r_3 => match r_3 with | .ret y => P y | .go t_3 => (lf (some []) fun law_lines_18 => ((unW rng1? (callBW drawW (lf (some (4 : Int))))) fun xs41 => loopW (fun s_19 law_k_19 K19 => ((consW (callBW anyW (lf (bd (bd (some law_names_here_2) fun x => bd (some law_names_here_2) fun y => cat? x y) fun x => bd (bd (some ("loose" : Str)) fun x => bd (some []) fun y => some (x :: y)) fun y => cat? x y))) (lf (some []))) fun law_row_here_20 => ((unW rng1? (opW (fun x y => some (x + y)) (lf (some (1 : Int))) (callBW drawW (lf (some (5 : Int)))))) fun xs33 => loopW (fun s_21 law_turn_21 K21 => ((callBW anyW (lf (some law_names_here_2))) fun law_more_22 => (jn (fun J23 => (lf (bd (some law_more_22) fun x => bd (bd (some s_21) fun x => bd (bd (some (1 : Int)) fun x => some (-x)) fun y => atI x y) fun y => some (!decide (x = y))) fun c23 => if c23 then (lf (some law_more_22) fun a24 => (lf (app? s_21 a24) fun law_row_here_25 => J23 law_row_here_25)) else J23 s_21)) fun j26 => K21 (Ct.go j26)))) xs33 law_row_here_20 fun r_21 => match r_21 with | .ret y => K19 (Ct.ret y) | .go t_21 => (jn (fun J27 => (lf (bd (bd (some t_21) fun x => some (x.length : Int)) fun x => bd (some (1 : Int)) fun y => some (decide (y < x))) fun c27 => if c27 then ((callBW anyW (lf (bd (some ("road" : Str)) fun x => bd (bd (some ("road" : Str)) fun x => bd (bd (some ("shore" : Str)) fun x => bd (bd (some ("border" : Str)) fun x => bd (some []) fun y => some (x :: y)) fun y => some (x :: y)) fun y => some (x :: y)) fun y => some (x :: y)))) fun law_kind_28 => ((lf (bd (some law_kind_28) fun x => bd (some t_21) fun y => some (x, y))) fun a29 => (opW (fun x y => mulS? x y) (lf (bd (some ("rstu" : Str)) fun x => bd (some law_k_19) fun y => ixS? x y)) (opW (fun x y => some (x + y)) (lf (some (1 : Int))) (callBW drawW (lf (some (2 : Int)))))) fun i30 => lf (putL? s_19 i30 a29) fun law_lines_31 => J27 law_lines_31)) else J27 s_19)) fun j32 => K19 (Ct.go j32)) | .brk _ => False))) xs41 law_lines_18 fun r_19 => match r_19 with | .ret y => P y | .go t_19 => (lf (some []) fun law_sites_34 => ((unW rng1? (callBW drawW (lf (some (4 : Int))))) fun xs40 => loopW (fun s_35 law_k_35 K35 => ((callBW anyW (lf (bd (some ("x" : Str)) fun x => bd (bd (some ("mill" : Str)) fun x => bd (bd (some ("y" : Str)) fun x => bd (bd (some ("ford" : Str)) fun x => bd (bd (some ("zzzzzz" : Str)) fun x => bd (some []) fun y => some (x :: y)) fun y => some (x :: y)) fun y => some (x :: y)) fun y => some (x :: y)) fun y => some (x :: y)))) fun law_name_here_36 => ((tup2W (callBW anyW (lf (bd (some law_names_here_2) fun x => bd (bd (some ("loose" : Str)) fun x => bd (some []) fun y => some (x :: y)) fun y => cat? x y))) (opW (fun x y => some (x + y)) (lf (some (1 : Int))) (callBW drawW (lf (some (9 : Int)))))) fun a37 => lf (some law_name_here_36) fun i38 => lf (putL? s_35 i38 a37) fun law_sites_39 => K35 (Ct.go law_sites_39)))) xs40 law_sites_34 fun r_35 => match r_35 with | .ret y => P y | .go t_35 => (lf (bd (some t_3) fun x => bd (some t_19) fun y => bd (some t_35) fun z => some (x, y, z)) P) | .brk _ => False)) | .brk _ => False)) | .brk _ => False)))
abbrev sp_law_ground (K : PySem.W.Frag) : Sp := spB (K := K) (aCons tInt aNil) (fun S => of (K := K) (tL3 (tD Str (tT2 tRat tRat)) (tD Str (tT2 tStr (tTs tStr))) (tD Str (tT2 tStr tInt))) S) (fun a => m_law_ground a.1)
theorem ok_law_ground (ev : Env P K mg) : FnOk P w K mg base CX0 6 ev.f_law_ground ev.d_law_ground p_law_ground (sp_law_ground K) := by
  refine ev.A_law_ground.F.ok sc_law_ground (fun vs H Q E h => ?_) (fun cdv A outer s H0 vs Q E hr h => ?_)
  · obtain ⟨S, b, c, r, ⟨d_law_reach, _⟩, P, rfl, _, _, _, ⟨v_law_reach, _, rfl, h_law_reach, rfl⟩, _⟩ := h
    rfl
  obtain ⟨S, b, c, r, ⟨d_law_reach, _⟩, P, rfl, dm, ts, hB, ⟨v_law_reach, _, rfl, h_law_reach, rfl⟩, hm, q⟩ := h
  have fr0 := Fr.refl (T := [b, c]) H0
  have sub0 : Sub S S := fun a m => m
  refine ⟨_, (pss_cons (ps_set (i := 2) sc_law_ground.nd rfl (Or.inl rfl) pe_dnewK)
    (pss_cons (ps_set (i := 3) sc_law_ground.nd rfl (Or.inl rfl) (pe_call (ok_law_names ev) (hr.mono (by decide)) (by rfl) ev.A_law_names.m ev.A_law_names.F.kp ev.A_law_names.b .nil pass0 (pa_cons (pv 0) (pa_cons (pe_op op_add pe_int (pe_call (ok_law_draw ev) (hr.mono (by decide)) (by rfl) ev.A_law_draw.m ev.A_law_draw.F.kp ev.A_law_draw.b .nil pass0 (pa_cons (pv 0) (pa_cons pe_int pa_nil)))) pa_nil))))
    (pss_cons (ps_for PassesOwn.never rfl (pi_list (pv 3)) (pg_name (i := 4) sc_law_ground.nd rfl (Or.inl rfl))
    (pss_cons (ps_dput (hu_of hr) (pv 2) (pv 4) (pe_call (ok_law_spot ev) (hr.mono (by decide)) (by rfl) ev.A_law_spot.m ev.A_law_spot.F.kp ev.A_law_spot.b .nil pass0 (pa_cons (pv 0) (pa_cons (pv 1) pa_nil))) (by rfl))
    (pss_one (ps_if (pt_cmpR op_eq (pe_call (ok_law_draw ev) (hr.mono (by decide)) (by rfl) ev.A_law_draw.m ev.A_law_draw.F.kp ev.A_law_draw.b .nil pass0 (pa_cons (pv 0) (pa_cons pe_int pa_nil))) pe_int (nomark _))
    (pss_cons (ps_set (i := 5) sc_law_ground.nd rfl (Or.inl rfl) (pe_call (ok_law_any ev) (hr.mono (by decide)) (by rfl) ev.A_law_any.m ev.A_law_any.F.kp ev.A_law_any.b .nil pass0 (pa_cons (pv 0) (pa_cons (pe_callB (cr_srtD rfl) (by rfl) ev.B.sorted_ (by decide +kernel) (pa_cons (pv 2) pa_nil)) pa_nil))))
    (pss_one (ps_dput (hu_of hr) (pv 2) (pv 4) (pe_tup (pa_cons (pe_tup (pa_cons (pe_op op_sub (pe_call (ok_law_draw ev) (hr.mono (by decide)) (by rfl) ev.A_law_draw.m ev.A_law_draw.F.kp ev.A_law_draw.b .nil pass0 (pa_cons (pv 0) (pa_cons (pe_op op_add (pe_op op_mulW pe_int (pv 1)) pe_int) pa_nil))) (pv 1)) (pa_cons pe_int pa_nil))) (pa_cons (pe_ix ix_tup (pe_dget (hu_of hr) (pv 2) (pv 5) (fun _ _ => rfl)) pe_int (fun _ _ => rfl)) pa_nil))) (by rfl)))) (pss_one (ps_if (pt_cmpR op_eq (pe_call (ok_law_draw ev) (hr.mono (by decide)) (by rfl) ev.A_law_draw.m ev.A_law_draw.F.kp ev.A_law_draw.b .nil pass0 (pa_cons (pv 0) (pa_cons pe_int pa_nil))) pe_int (nomark _))
    (pss_one (ps_dput (hu_of hr) (pv 2) (pv 4) (pe_dget (hu_of hr) (pv 2) (pe_call (ok_law_any ev) (hr.mono (by decide)) (by rfl) ev.A_law_any.m ev.A_law_any.F.kp ev.A_law_any.b .nil pass0 (pa_cons (pv 0) (pa_cons (pe_callB (cr_srtD rfl) (by rfl) ev.B.sorted_ (by decide +kernel) (pa_cons (pv 2) pa_nil)) pa_nil))) (fun _ _ => rfl)) (by rfl))) pss_nil))))))
    (pss_cons (ps_set (i := 6) sc_law_ground.nd rfl (Or.inl rfl) pe_dnewK)
    (pss_cons (ps_for PassesOwn.never rfl (pi_range1 rfl ev.B.range_ (pa_cons (pe_call (ok_law_draw ev) (hr.mono (by decide)) (by rfl) ev.A_law_draw.m ev.A_law_draw.F.kp ev.A_law_draw.b .nil pass0 (pa_cons (pv 0) (pa_cons pe_int pa_nil))) pa_nil)) (pg_name (i := 7) sc_law_ground.nd rfl (Or.inl rfl))
    (pss_cons (ps_set (i := 8) sc_law_ground.nd rfl (Or.inl rfl) (pe_lst (pa_cons (pe_call (ok_law_any ev) (hr.mono (by decide)) (by rfl) ev.A_law_any.m ev.A_law_any.F.kp ev.A_law_any.b .nil pass0 (pa_cons (pv 0) (pa_cons (pe_op op_cat (pe_op op_cat (pv 3) (pv 3)) (pe_lst (pa_cons pe_str pa_nil))) pa_nil))) pa_nil)))
    (pss_cons (ps_for PassesOwn.never rfl (pi_range1 rfl ev.B.range_ (pa_cons (pe_op op_add pe_int (pe_call (ok_law_draw ev) (hr.mono (by decide)) (by rfl) ev.A_law_draw.m ev.A_law_draw.F.kp ev.A_law_draw.b .nil pass0 (pa_cons (pv 0) (pa_cons pe_int pa_nil)))) pa_nil)) (pg_name (i := 9) sc_law_ground.nd rfl (Or.inl rfl))
    (pss_cons (ps_set (i := 10) sc_law_ground.nd rfl (Or.inl rfl) (pe_call (ok_law_any ev) (hr.mono (by decide)) (by rfl) ev.A_law_any.m ev.A_law_any.F.kp ev.A_law_any.b .nil pass0 (pa_cons (pv 0) (pa_cons (pv 3) pa_nil))))
    (pss_one (ps_if (pt_cmpR op_ne (pv 10) (pe_ix ix_list (pv 8) (pe_un un_neg pe_int) (fun _ _ => rfl)) (nomark _))
    (pss_one (ps_expr (pe_bm PySem.F.plainAttrs_list PySem.F.slot_list_append PySem.F.type_list_append mt_append (pv 8) (pa_cons (pv 10) pa_nil)))) pss_nil))))
    (pss_one (ps_if (pt_cmpR op_gt (pe_callB call_len_seq (by rfl) ev.B.len_ PySem.boot_len (pa_cons (pv 8) pa_nil)) pe_int (nomark _))
    (pss_cons (ps_set (i := 11) sc_law_ground.nd rfl (Or.inl rfl) (pe_call (ok_law_any ev) (hr.mono (by decide)) (by rfl) ev.A_law_any.m ev.A_law_any.F.kp ev.A_law_any.b .nil pass0 (pa_cons (pv 0) (pa_cons (pe_lst (pa_cons pe_str (pa_cons pe_str (pa_cons pe_str (pa_cons pe_str pa_nil))))) pa_nil))))
    (pss_one (ps_dput (hu_of hr) (pv 6) (pe_op op_mulS (pe_ix ix_str pe_str (pv 7) (fun _ _ => rfl)) (pe_op op_add pe_int (pe_call (ok_law_draw ev) (hr.mono (by decide)) (by rfl) ev.A_law_draw.m ev.A_law_draw.F.kp ev.A_law_draw.b .nil pass0 (pa_cons (pv 0) (pa_cons pe_int pa_nil))))) (pe_tup (pa_cons (pv 11) (pa_cons (pe_callTy call_tuple_of (by rfl) ev.B.tuple_ (by decide +kernel) (pa_cons (pv 8) pa_nil)) pa_nil))) (by rfl)))) pss_nil)))))
    (pss_cons (ps_set (i := 12) sc_law_ground.nd rfl (Or.inl rfl) pe_dnewK)
    (pss_cons (ps_for PassesOwn.never rfl (pi_range1 rfl ev.B.range_ (pa_cons (pe_call (ok_law_draw ev) (hr.mono (by decide)) (by rfl) ev.A_law_draw.m ev.A_law_draw.F.kp ev.A_law_draw.b .nil pass0 (pa_cons (pv 0) (pa_cons pe_int pa_nil))) pa_nil)) (pg_name (i := 7) sc_law_ground.nd rfl (Or.inl rfl))
    (pss_cons (ps_set (i := 4) sc_law_ground.nd rfl (Or.inl rfl) (pe_call (ok_law_any ev) (hr.mono (by decide)) (by rfl) ev.A_law_any.m ev.A_law_any.F.kp ev.A_law_any.b .nil pass0 (pa_cons (pv 0) (pa_cons (pe_lst (pa_cons pe_str (pa_cons pe_str (pa_cons pe_str (pa_cons pe_str (pa_cons pe_str pa_nil)))))) pa_nil))))
    (pss_one (ps_dput (hu_of hr) (pv 12) (pv 4) (pe_tup (pa_cons (pe_call (ok_law_any ev) (hr.mono (by decide)) (by rfl) ev.A_law_any.m ev.A_law_any.F.kp ev.A_law_any.b .nil pass0 (pa_cons (pv 0) (pa_cons (pe_op op_cat (pv 3) (pe_lst (pa_cons pe_str pa_nil))) pa_nil))) (pa_cons (pe_op op_add pe_int (pe_call (ok_law_draw ev) (hr.mono (by decide)) (by rfl) ev.A_law_draw.m ev.A_law_draw.F.kp ev.A_law_draw.b .nil pass0 (pa_cons (pv 0) (pa_cons pe_int pa_nil)))) pa_nil))) (by rfl)))))
    (pss_one (ps_ret (pe_lst (pa_cons (pv 2) (pa_cons (pv 6) (pa_cons (pv 12) pa_nil))))))))))))), ?_⟩
  dsimp only [m_law_ground] at hm
  obtain ⟨law_spots_1, e1, hm⟩ := hm
  refine q_asg (T := [b, c]) dm (ev_dnew (κ := Str) (b' := ((tT2 tRat tRat) : Ty K (Rat × Rat)))) e1 (fun v_law_spots H1 s1 hx => ?_)
  obtain ⟨p_law_spots, rfl, np_law_spots, o_law_spots⟩ := hx
  have ns_law_spots : p_law_spots ∉ S := dm.not_mem np_law_spots
  have nb_law_spots : p_law_spots ∉ S := fun m => ns_law_spots (sub0 _ m)
  have n0_law_spots := fr_back fr0 hB.dom np_law_spots
  have nt_law_spots := hB.dom.not_mem np_law_spots
  have fr0 := fr0.trans (Fr.same s1)
  have h_law_reach := (tInt : Ty K Int).mono (Fr.same s1) ((tInt : Ty K Int).ext (S := S) np_law_spots h_law_reach)
  have dm := (dm.same s1).cons o_law_spots.choose_spec.1
  have ts := sub_cons (p := p_law_spots) ts
  have sub0 := sub_cons (p := p_law_spots) sub0
  have im_law_spots : p_law_spots ∈ p_law_spots :: S := List.mem_cons_self ..
  have hB := hB.same s1
  refine qw_asg dm hB ts (ew_new (ew_callB rfl (wa_cons (ew_op (od_add (K := K)) (ew_pure (ev_int (K := K))) (ew_draw (K := K) rfl (ew_pure (ev_int (K := K))))) wa_nil))) hm (fun v_law_names_here H2 law_names_here_2 hm fr2 dm2 hB2 h_law_names_here => ?_)
  have fr0 := fr0.trans fr2
  have h_law_reach := (tInt : Ty K Int).mono (S := (p_law_spots :: S)) (fr2.sub ts) h_law_reach
  have o_law_spots := o_law_spots.fr fr2 ts nt_law_spots
  have dm := dm2
  have hB := hB2
  have h_law_names_here : ((tL tStr) : Ty K (List Str)).rp (p_law_spots :: S) H2 v_law_names_here law_names_here_2 := h_law_names_here
  refine qw_for_s dm hB ts (srw_pure (sr_list (ev_var ts h_law_names_here rfl))) hm (fun s_3 σ' H' => ∃ v_law_reach : V, ∃ v_law_names_here : V, ∃ f_4 : Option V, ∃ f_5 : Option V, ∃ f_6 : Option V, ∃ f_7 : Option V, ∃ f_8 : Option V, ∃ f_9 : Option V, ∃ f_10 : Option V, ∃ f_11 : Option V, ∃ f_12 : Option V, σ' = [some (.ref b), some v_law_reach, some (.ref p_law_spots), some v_law_names_here, f_4, f_5, f_6, f_7, f_8, f_9, f_10, f_11, f_12] ∧ Fr [b, c] H0 H' ∧ Dom (p_law_spots :: S) H' ∧ Bag H' b c ∧ (tInt : Ty K Int).rp (p_law_spots :: S) H' v_law_reach d_law_reach ∧ ((tL tStr) : Ty K (List Str)).rp (p_law_spots :: S) H' v_law_names_here law_names_here_2 ∧ OwnD ((tT2 tRat tRat) : Ty K (Rat × Rat)) (p_law_spots :: S) H' p_law_spots s_3) (fun H3 fr3 dm3 hB3 => ?_) (fun hd3 s_3 law_name_here_3 C3 v_law_name_here σ' H' hI h_law_name_here hm hret3 hbrk3 => ?_) (fun t_3 σ' H' hm hI => ?_)
  · skip
    have fr0 := fr0.trans fr3
    have h_law_reach := (tInt : Ty K Int).mono (S := (p_law_spots :: S)) (fr3.sub ts) h_law_reach
    have h_law_names_here := ((tL tStr) : Ty K (List Str)).mono (S := (p_law_spots :: S)) (fr3.sub ts) h_law_names_here
    have o_law_spots := o_law_spots.fr fr3 ts nt_law_spots
    have dm := dm3
    have hB := hB3
    exact ⟨v_law_reach, v_law_names_here, _, _, _, _, _, _, _, _, _, rfl, fr0, dm, hB, h_law_reach, h_law_names_here, o_law_spots⟩
  · skip
    obtain ⟨v_law_reach, v_law_names_here, f_4, f_5, f_6, f_7, f_8, f_9, f_10, f_11, f_12, rfl, fr0, dm, hB, h_law_reach, h_law_names_here, o_law_spots⟩ := hI
    let HL := H'
    have freshl : ∀ a ∈ (p_law_spots :: S), a ∉ (p_law_spots :: S) → H' a = none := fun a m n => absurd m n
    have frl : Fr (p_law_spots :: S) HL H' := Fr.refl (T := (p_law_spots :: S)) H'
    have tsl := ts
    have subl : Sub (p_law_spots :: S) (p_law_spots :: S) := fun a m => m
    have iml_law_spots := im_law_spots
    have h_law_name_here : (tStr : Ty K Str).rp (p_law_spots :: S) H' v_law_name_here law_name_here_3 := h_law_name_here
    refine qw_dput (ck := (tStr : Ty K Str)) dm hB ts o_law_spots im_law_spots nt_law_spots rfl (ew_callB rfl (wa_cons (ew_pure (ev_var ts h_law_reach rfl)) wa_nil)) (ev_var ts h_law_name_here rfl) hm (fun law_spots_6 Hd5 H5 hm fr5 dm5 hB5 s5 frx5 ox_law_spots => ?_)
    have fr0 := fr0.trans fr5
    have frl := frl.trans (fr5.sub tsl)
    have h_law_reach := (tInt : Ty K Int).mono (S := (p_law_spots :: S)) (fr5.sub ts) h_law_reach
    have h_law_names_here := ((tL tStr) : Ty K (List Str)).mono (S := (p_law_spots :: S)) (fr5.sub ts) h_law_names_here
    have o_law_spots := o_law_spots.fr fr5 ts nt_law_spots
    have h_law_name_here := (tStr : Ty K Str).mono (S := (p_law_spots :: S)) (fr5.sub ts) h_law_name_here
    have dm := dm5
    have hB := hB5
    have fr0 := fr0.mut hB.dom n0_law_spots s5
    have frl := frl.trans (s5.fr iml_law_spots)
    have dm := dm.fx frx5 s5
    have h_law_reach := (tInt : Ty K Int).mono (S := (p_law_spots :: S)) frx5 h_law_reach
    have h_law_names_here := ((tL tStr) : Ty K (List Str)).mono (S := (p_law_spots :: S)) frx5 h_law_names_here
    have h_law_name_here := (tStr : Ty K Str).mono (S := (p_law_spots :: S)) frx5 h_law_name_here
    have hB := hB.mut s5 nt_law_spots
    have o_law_spots := ox_law_spots
    obtain ⟨J7, hK7, hm⟩ := jn_open hm
    refine seq_last (fun σ' H' => ∃ j17, J7 j17 ∧ Fr (p_law_spots :: S) HL H' ∧ ∃ v_law_reach : V, ∃ v_law_names_here : V, ∃ v_law_name_here : V, ∃ f_5 : Option V, ∃ f_6 : Option V, ∃ f_7 : Option V, ∃ f_8 : Option V, ∃ f_9 : Option V, ∃ f_10 : Option V, ∃ f_11 : Option V, ∃ f_12 : Option V, σ' = [some (.ref b), some v_law_reach, some (.ref p_law_spots), some v_law_names_here, some v_law_name_here, f_5, f_6, f_7, f_8, f_9, f_10, f_11, f_12] ∧ Fr [b, c] H0 H' ∧ Dom (p_law_spots :: S) H' ∧ Bag H' b c ∧ (tInt : Ty K Int).rp (p_law_spots :: S) H' v_law_reach d_law_reach ∧ ((tL tStr) : Ty K (List Str)).rp (p_law_spots :: S) H' v_law_names_here law_names_here_2 ∧ (tStr : Ty K Str).rp (p_law_spots :: S) H' v_law_name_here law_name_here_3 ∧ OwnD ((tT2 tRat tRat) : Ty K (Rat × Rat)) (p_law_spots :: S) H' p_law_spots j17) (fun σ' H' hI => ?_) (fun rest7 => ?_)
    · skip
      obtain ⟨j17, hj, ⟨frl, v_law_reach, v_law_names_here, v_law_name_here, f_5, f_6, f_7, f_8, f_9, f_10, f_11, f_12, rfl, fr0, dm, hB, h_law_reach, h_law_names_here, h_law_name_here, o_law_spots⟩⟩ := hI
      have hm := hK7 j17 hj
      exact ⟨_, hm, frl, ⟨v_law_reach, v_law_names_here, _, _, _, _, _, _, _, _, _, rfl, fr0, dm, hB, h_law_reach, h_law_names_here, o_law_spots⟩⟩
    refine lw_if dm hB ts (bw_test (K := K) (ew_op (od_eqI (K := K)) (ew_draw (K := K) rfl (ew_pure (ev_int (K := K)))) (ew_pure (ev_int (K := K))))) hm (fun H7 hm fr7 dm7 hB7 => ?_) (fun H7 hm fr7 dm7 hB7 => ?_)
    · skip
      have fr0 := fr0.trans fr7
      have frl := frl.trans (fr7.sub tsl)
      have h_law_reach := (tInt : Ty K Int).mono (S := (p_law_spots :: S)) (fr7.sub ts) h_law_reach
      have h_law_names_here := ((tL tStr) : Ty K (List Str)).mono (S := (p_law_spots :: S)) (fr7.sub ts) h_law_names_here
      have o_law_spots := o_law_spots.fr fr7 ts nt_law_spots
      have h_law_name_here := (tStr : Ty K Str).mono (S := (p_law_spots :: S)) (fr7.sub ts) h_law_name_here
      have dm := dm7
      have hB := hB7
      have hm := ifp_t hm
      refine qw_asg dm hB ts (ew_any rfl (ew_pure (ev_new (ev_ownSrtD o_law_spots nt_law_spots ts rfl)))) hm (fun v_law_two H8 law_two_8 hm fr8 dm8 hB8 h_law_two => ?_)
      have fr0 := fr0.trans fr8
      have frl := frl.trans (fr8.sub tsl)
      have h_law_reach := (tInt : Ty K Int).mono (S := (p_law_spots :: S)) (fr8.sub ts) h_law_reach
      have h_law_names_here := ((tL tStr) : Ty K (List Str)).mono (S := (p_law_spots :: S)) (fr8.sub ts) h_law_names_here
      have o_law_spots := o_law_spots.fr fr8 ts nt_law_spots
      have h_law_name_here := (tStr : Ty K Str).mono (S := (p_law_spots :: S)) (fr8.sub ts) h_law_name_here
      have dm := dm8
      have hB := hB8
      have h_law_two : (tStr : Ty K Str).rp (p_law_spots :: S) H8 v_law_two law_two_8 := h_law_two
      refine lw_dput (ck := (tStr : Ty K Str)) dm hB ts o_law_spots im_law_spots nt_law_spots rfl (ew_tup2 (ew_p2r (ew_tup2 (ew_op (od_sub (K := K)) (ew_draw (K := K) rfl (ew_pure (ev_op (od_add (K := K)) (ev_op (od_mul (K := K)) (ev_int (K := K)) (ev_var ts h_law_reach rfl)) (ev_int (K := K))))) (ew_pure (ev_var ts h_law_reach rfl))) (ew_pure (ev_int (K := K))))) (ew_pure (ev_ix21 (ev_ownDGet (ck := (tStr : Ty K Str)) o_law_spots nt_law_spots ts rfl (ev_var ts h_law_two rfl))))) (ev_var ts h_law_name_here rfl) hm (fun law_spots_11 Hd10 H10 hm fr10 dm10 hB10 s10 frx10 ox_law_spots => ?_)
      have fr0 := fr0.trans fr10
      have frl := frl.trans (fr10.sub tsl)
      have h_law_reach := (tInt : Ty K Int).mono (S := (p_law_spots :: S)) (fr10.sub ts) h_law_reach
      have h_law_names_here := ((tL tStr) : Ty K (List Str)).mono (S := (p_law_spots :: S)) (fr10.sub ts) h_law_names_here
      have o_law_spots := o_law_spots.fr fr10 ts nt_law_spots
      have h_law_name_here := (tStr : Ty K Str).mono (S := (p_law_spots :: S)) (fr10.sub ts) h_law_name_here
      have h_law_two := (tStr : Ty K Str).mono (S := (p_law_spots :: S)) (fr10.sub ts) h_law_two
      have dm := dm10
      have hB := hB10
      have fr0 := fr0.mut hB.dom n0_law_spots s10
      have frl := frl.trans (s10.fr iml_law_spots)
      have dm := dm.fx frx10 s10
      have h_law_reach := (tInt : Ty K Int).mono (S := (p_law_spots :: S)) frx10 h_law_reach
      have h_law_names_here := ((tL tStr) : Ty K (List Str)).mono (S := (p_law_spots :: S)) frx10 h_law_names_here
      have h_law_name_here := (tStr : Ty K Str).mono (S := (p_law_spots :: S)) frx10 h_law_name_here
      have h_law_two := (tStr : Ty K Str).mono (S := (p_law_spots :: S)) frx10 h_law_two
      have hB := hB.mut s10 nt_law_spots
      have o_law_spots := ox_law_spots
      exact rest7 _ _ ⟨_, hm, ⟨frl, v_law_reach, v_law_names_here, v_law_name_here, _, _, _, _, _, _, _, _, rfl, fr0, dm, hB, h_law_reach, h_law_names_here, h_law_name_here, o_law_spots⟩⟩
    · skip
      have fr0 := fr0.trans fr7
      have frl := frl.trans (fr7.sub tsl)
      have h_law_reach := (tInt : Ty K Int).mono (S := (p_law_spots :: S)) (fr7.sub ts) h_law_reach
      have h_law_names_here := ((tL tStr) : Ty K (List Str)).mono (S := (p_law_spots :: S)) (fr7.sub ts) h_law_names_here
      have o_law_spots := o_law_spots.fr fr7 ts nt_law_spots
      have h_law_name_here := (tStr : Ty K Str).mono (S := (p_law_spots :: S)) (fr7.sub ts) h_law_name_here
      have dm := dm7
      have hB := hB7
      have hm := ifp_f hm
      obtain ⟨J12, hK12, hm⟩ := jn_open hm
      refine seq_last (fun σ' H' => ∃ j16, J12 j16 ∧ Fr (p_law_spots :: S) HL H' ∧ ∃ v_law_reach : V, ∃ v_law_names_here : V, ∃ v_law_name_here : V, ∃ f_5 : Option V, ∃ f_6 : Option V, ∃ f_7 : Option V, ∃ f_8 : Option V, ∃ f_9 : Option V, ∃ f_10 : Option V, ∃ f_11 : Option V, ∃ f_12 : Option V, σ' = [some (.ref b), some v_law_reach, some (.ref p_law_spots), some v_law_names_here, some v_law_name_here, f_5, f_6, f_7, f_8, f_9, f_10, f_11, f_12] ∧ Fr [b, c] H0 H' ∧ Dom (p_law_spots :: S) H' ∧ Bag H' b c ∧ (tInt : Ty K Int).rp (p_law_spots :: S) H' v_law_reach d_law_reach ∧ ((tL tStr) : Ty K (List Str)).rp (p_law_spots :: S) H' v_law_names_here law_names_here_2 ∧ (tStr : Ty K Str).rp (p_law_spots :: S) H' v_law_name_here law_name_here_3 ∧ OwnD ((tT2 tRat tRat) : Ty K (Rat × Rat)) (p_law_spots :: S) H' p_law_spots j16) (fun σ' H' hI => ?_) (fun rest12 => ?_)
      · skip
        obtain ⟨j16, hj, ⟨frl, v_law_reach, v_law_names_here, v_law_name_here, f_5, f_6, f_7, f_8, f_9, f_10, f_11, f_12, rfl, fr0, dm, hB, h_law_reach, h_law_names_here, h_law_name_here, o_law_spots⟩⟩ := hI
        have hm := hK12 j16 hj
        exact rest7 _ _ ⟨_, hm, ⟨frl, v_law_reach, v_law_names_here, v_law_name_here, _, _, _, _, _, _, _, _, rfl, fr0, dm, hB, h_law_reach, h_law_names_here, h_law_name_here, o_law_spots⟩⟩
      refine lw_if dm hB ts (bw_test (K := K) (ew_op (od_eqI (K := K)) (ew_draw (K := K) rfl (ew_pure (ev_int (K := K)))) (ew_pure (ev_int (K := K))))) hm (fun H12 hm fr12 dm12 hB12 => ?_) (fun H12 hm fr12 dm12 hB12 => ?_)
      · skip
        have fr0 := fr0.trans fr12
        have frl := frl.trans (fr12.sub tsl)
        have h_law_reach := (tInt : Ty K Int).mono (S := (p_law_spots :: S)) (fr12.sub ts) h_law_reach
        have h_law_names_here := ((tL tStr) : Ty K (List Str)).mono (S := (p_law_spots :: S)) (fr12.sub ts) h_law_names_here
        have o_law_spots := o_law_spots.fr fr12 ts nt_law_spots
        have h_law_name_here := (tStr : Ty K Str).mono (S := (p_law_spots :: S)) (fr12.sub ts) h_law_name_here
        have dm := dm12
        have hB := hB12
        have hm := ifp_t hm
        refine lw_dput (ck := (tStr : Ty K Str)) dm hB ts o_law_spots im_law_spots nt_law_spots rfl (ew_ownDGet (ck := (tStr : Ty K Str)) o_law_spots nt_law_spots rfl (ew_any rfl (ew_pure (ev_new (ev_ownSrtD o_law_spots nt_law_spots ts rfl))))) (ev_var ts h_law_name_here rfl) hm (fun law_spots_15 Hd14 H14 hm fr14 dm14 hB14 s14 frx14 ox_law_spots => ?_)
        have fr0 := fr0.trans fr14
        have frl := frl.trans (fr14.sub tsl)
        have h_law_reach := (tInt : Ty K Int).mono (S := (p_law_spots :: S)) (fr14.sub ts) h_law_reach
        have h_law_names_here := ((tL tStr) : Ty K (List Str)).mono (S := (p_law_spots :: S)) (fr14.sub ts) h_law_names_here
        have o_law_spots := o_law_spots.fr fr14 ts nt_law_spots
        have h_law_name_here := (tStr : Ty K Str).mono (S := (p_law_spots :: S)) (fr14.sub ts) h_law_name_here
        have dm := dm14
        have hB := hB14
        have fr0 := fr0.mut hB.dom n0_law_spots s14
        have frl := frl.trans (s14.fr iml_law_spots)
        have dm := dm.fx frx14 s14
        have h_law_reach := (tInt : Ty K Int).mono (S := (p_law_spots :: S)) frx14 h_law_reach
        have h_law_names_here := ((tL tStr) : Ty K (List Str)).mono (S := (p_law_spots :: S)) frx14 h_law_names_here
        have h_law_name_here := (tStr : Ty K Str).mono (S := (p_law_spots :: S)) frx14 h_law_name_here
        have hB := hB.mut s14 nt_law_spots
        have o_law_spots := ox_law_spots
        exact rest12 _ _ ⟨_, hm, ⟨frl, v_law_reach, v_law_names_here, v_law_name_here, _, _, _, _, _, _, _, _, rfl, fr0, dm, hB, h_law_reach, h_law_names_here, h_law_name_here, o_law_spots⟩⟩
      · skip
        have fr0 := fr0.trans fr12
        have frl := frl.trans (fr12.sub tsl)
        have h_law_reach := (tInt : Ty K Int).mono (S := (p_law_spots :: S)) (fr12.sub ts) h_law_reach
        have h_law_names_here := ((tL tStr) : Ty K (List Str)).mono (S := (p_law_spots :: S)) (fr12.sub ts) h_law_names_here
        have o_law_spots := o_law_spots.fr fr12 ts nt_law_spots
        have h_law_name_here := (tStr : Ty K Str).mono (S := (p_law_spots :: S)) (fr12.sub ts) h_law_name_here
        have dm := dm12
        have hB := hB12
        have hm := ifp_f hm
        exact rest12 _ _ ⟨_, hm, ⟨frl, v_law_reach, v_law_names_here, v_law_name_here, _, _, _, _, _, _, _, _, rfl, fr0, dm, hB, h_law_reach, h_law_names_here, h_law_name_here, o_law_spots⟩⟩
  obtain ⟨v_law_reach, v_law_names_here, f_4, f_5, f_6, f_7, f_8, f_9, f_10, f_11, f_12, rfl, fr0, dm, hB, h_law_reach, h_law_names_here, o_law_spots⟩ := hI
  obtain ⟨law_lines_18, e18, hm⟩ := hm
  refine q_asg (T := [b, c]) dm (ev_dnew (κ := Str) (b' := ((tT2 tStr (tTs tStr)) : Ty K (Str × (List Str))))) e18 (fun v_law_lines H18 s18 hx => ?_)
  obtain ⟨p_law_lines, rfl, np_law_lines, o_law_lines⟩ := hx
  have ns_law_lines : p_law_lines ∉ (p_law_spots :: S) := dm.not_mem np_law_lines
  have nb_law_lines : p_law_lines ∉ S := fun m => ns_law_lines (sub0 _ m)
  have n0_law_lines := fr_back fr0 hB.dom np_law_lines
  have nt_law_lines := hB.dom.not_mem np_law_lines
  have fr0 := fr0.trans (Fr.same s18)
  have h_law_reach := (tInt : Ty K Int).mono (Fr.same s18) ((tInt : Ty K Int).ext (S := (p_law_spots :: S)) np_law_lines h_law_reach)
  have h_law_names_here := ((tL tStr) : Ty K (List Str)).mono (Fr.same s18) (((tL tStr) : Ty K (List Str)).ext (S := (p_law_spots :: S)) np_law_lines h_law_names_here)
  have ne_law_spots_law_lines := o_law_spots.ne np_law_lines
  have o_law_spots := (o_law_spots.ext np_law_lines).same s18
  have im_law_spots := List.mem_cons_of_mem p_law_lines im_law_spots
  have dm := (dm.same s18).cons o_law_lines.choose_spec.1
  have ts := sub_cons (p := p_law_lines) ts
  have sub0 := sub_cons (p := p_law_lines) sub0
  have im_law_lines : p_law_lines ∈ p_law_lines :: (p_law_spots :: S) := List.mem_cons_self ..
  have hB := hB.same s18
  have ne_law_lines_law_spots := Ne.symm ne_law_spots_law_lines
  refine qw_for_s dm hB ts (srw_r1 (K := K) (ew_draw (K := K) rfl (ew_pure (ev_int (K := K))))) hm (fun s_19 σ' H' => ∃ v_law_reach : V, ∃ v_law_names_here : V, ∃ f_4 : Option V, ∃ f_5 : Option V, ∃ f_7 : Option V, ∃ f_8 : Option V, ∃ f_9 : Option V, ∃ f_10 : Option V, ∃ f_11 : Option V, ∃ f_12 : Option V, σ' = [some (.ref b), some v_law_reach, some (.ref p_law_spots), some v_law_names_here, f_4, f_5, some (.ref p_law_lines), f_7, f_8, f_9, f_10, f_11, f_12] ∧ Fr [b, c] H0 H' ∧ Dom (p_law_lines :: (p_law_spots :: S)) H' ∧ Bag H' b c ∧ (tInt : Ty K Int).rp (p_law_lines :: (p_law_spots :: S)) H' v_law_reach d_law_reach ∧ ((tL tStr) : Ty K (List Str)).rp (p_law_lines :: (p_law_spots :: S)) H' v_law_names_here law_names_here_2 ∧ OwnD ((tT2 tRat tRat) : Ty K (Rat × Rat)) (p_law_lines :: (p_law_spots :: S)) H' p_law_spots t_3 ∧ OwnD ((tT2 tStr (tTs tStr)) : Ty K (Str × (List Str))) (p_law_lines :: (p_law_spots :: S)) H' p_law_lines s_19) (fun H19 fr19 dm19 hB19 => ?_) (fun hd19 s_19 law_k_19 C19 v_law_k σ' H' hI h_law_k hm hret19 hbrk19 => ?_) (fun t_19 σ' H' hm hI => ?_)
  · skip
    have fr0 := fr0.trans fr19
    have h_law_reach := (tInt : Ty K Int).mono (S := (p_law_lines :: (p_law_spots :: S))) (fr19.sub ts) h_law_reach
    have h_law_names_here := ((tL tStr) : Ty K (List Str)).mono (S := (p_law_lines :: (p_law_spots :: S))) (fr19.sub ts) h_law_names_here
    have o_law_spots := o_law_spots.fr fr19 ts nt_law_spots
    have o_law_lines := o_law_lines.fr fr19 ts nt_law_lines
    have dm := dm19
    have hB := hB19
    exact ⟨v_law_reach, v_law_names_here, _, _, _, _, _, _, _, _, rfl, fr0, dm, hB, h_law_reach, h_law_names_here, o_law_spots, o_law_lines⟩
  · skip
    obtain ⟨v_law_reach, v_law_names_here, f_4, f_5, f_7, f_8, f_9, f_10, f_11, f_12, rfl, fr0, dm, hB, h_law_reach, h_law_names_here, o_law_spots, o_law_lines⟩ := hI
    let HL := H'
    have freshl : ∀ a ∈ (p_law_lines :: (p_law_spots :: S)), a ∉ (p_law_lines :: (p_law_spots :: S)) → H' a = none := fun a m n => absurd m n
    have frl : Fr (p_law_lines :: (p_law_spots :: S)) HL H' := Fr.refl (T := (p_law_lines :: (p_law_spots :: S))) H'
    have tsl := ts
    have subl : Sub (p_law_lines :: (p_law_spots :: S)) (p_law_lines :: (p_law_spots :: S)) := fun a m => m
    have iml_law_spots := im_law_spots
    have iml_law_lines := im_law_lines
    have h_law_k : (tInt : Ty K Int).rp (p_law_lines :: (p_law_spots :: S)) H' v_law_k law_k_19 := h_law_k
    refine qw_asg dm hB ts (ew_lst (wl_cons (ew_any rfl (ew_pure (ev_new (ev_op od_cat (ev_new (ev_op od_cat (ev_var ts h_law_names_here rfl) (ev_var ts h_law_names_here rfl))) (ev_new (ev_lst (el_cons (ev_str (K := K)) el_nil) (by decide))))))) wl_nil) (by decide)) hm (fun v_law_row_here H20 law_row_here_20 hm fr20 dm20 hB20 hx => ?_)
    obtain ⟨p_law_row_here, rfl, np_law_row_here, o_law_row_here⟩ := hx
    have ns_law_row_here : p_law_row_here ∉ (p_law_lines :: (p_law_spots :: S)) := dm.not_mem np_law_row_here
    have nb_law_row_here : p_law_row_here ∉ S := fun m => ns_law_row_here (sub0 _ m)
    have nbl_law_row_here : p_law_row_here ∉ (p_law_lines :: (p_law_spots :: S)) := fun m => ns_law_row_here (subl _ m)
    have n0_law_row_here := fr_back fr0 hB.dom np_law_row_here
    have nt_law_row_here := hB.dom.not_mem np_law_row_here
    have fr0 := fr0.trans fr20
    have nl_law_row_here := fr_back frl (dm.sub subl) np_law_row_here
    have frl := frl.trans (fr20.sub tsl)
    have subl := sub_cons (p := p_law_row_here) subl
    have freshl := fresh_cons freshl nl_law_row_here
    have h_law_reach := (tInt : Ty K Int).mono (fr20.sub (sub_cons ts)) ((tInt : Ty K Int).ext (S := (p_law_lines :: (p_law_spots :: S))) np_law_row_here h_law_reach)
    have h_law_names_here := ((tL tStr) : Ty K (List Str)).mono (fr20.sub (sub_cons ts)) (((tL tStr) : Ty K (List Str)).ext (S := (p_law_lines :: (p_law_spots :: S))) np_law_row_here h_law_names_here)
    have ne_law_spots_law_row_here := o_law_spots.ne np_law_row_here
    have o_law_spots := (o_law_spots.ext np_law_row_here).fr fr20 (sub_cons ts) nt_law_spots
    have im_law_spots := List.mem_cons_of_mem p_law_row_here im_law_spots
    have ne_law_lines_law_row_here := o_law_lines.ne np_law_row_here
    have o_law_lines := (o_law_lines.ext np_law_row_here).fr fr20 (sub_cons ts) nt_law_lines
    have im_law_lines := List.mem_cons_of_mem p_law_row_here im_law_lines
    have h_law_k := (tInt : Ty K Int).mono (fr20.sub (sub_cons ts)) ((tInt : Ty K Int).ext (S := (p_law_lines :: (p_law_spots :: S))) np_law_row_here h_law_k)
    have dm := (dm20).cons o_law_row_here.choose_spec.1
    have ts := sub_cons (p := p_law_row_here) ts
    have sub0 := sub_cons (p := p_law_row_here) sub0
    have im_law_row_here : p_law_row_here ∈ p_law_row_here :: (p_law_lines :: (p_law_spots :: S)) := List.mem_cons_self ..
    have ne_law_row_here_law_spots := Ne.symm ne_law_spots_law_row_here
    have ne_law_row_here_law_lines := Ne.symm ne_law_lines_law_row_here
    skip
    have hB := hB20
    refine qw_for_s dm hB ts (srw_r1 (K := K) (ew_op (od_add (K := K)) (ew_pure (ev_int (K := K))) (ew_draw (K := K) rfl (ew_pure (ev_int (K := K)))))) hm (fun s_21 σ' H' => Fr (p_law_lines :: (p_law_spots :: S)) HL H' ∧ ∃ v_law_reach : V, ∃ v_law_names_here : V, ∃ v_law_k : V, ∃ f_4 : Option V, ∃ f_5 : Option V, ∃ f_9 : Option V, ∃ f_10 : Option V, ∃ f_11 : Option V, ∃ f_12 : Option V, σ' = [some (.ref b), some v_law_reach, some (.ref p_law_spots), some v_law_names_here, f_4, f_5, some (.ref p_law_lines), some v_law_k, some (.ref p_law_row_here), f_9, f_10, f_11, f_12] ∧ Fr [b, c] H0 H' ∧ Dom (p_law_row_here :: (p_law_lines :: (p_law_spots :: S))) H' ∧ Bag H' b c ∧ (tInt : Ty K Int).rp (p_law_row_here :: (p_law_lines :: (p_law_spots :: S))) H' v_law_reach d_law_reach ∧ ((tL tStr) : Ty K (List Str)).rp (p_law_row_here :: (p_law_lines :: (p_law_spots :: S))) H' v_law_names_here law_names_here_2 ∧ OwnD ((tT2 tRat tRat) : Ty K (Rat × Rat)) (p_law_row_here :: (p_law_lines :: (p_law_spots :: S))) H' p_law_spots t_3 ∧ OwnD ((tT2 tStr (tTs tStr)) : Ty K (Str × (List Str))) (p_law_row_here :: (p_law_lines :: (p_law_spots :: S))) H' p_law_lines s_19 ∧ (tInt : Ty K Int).rp (p_law_row_here :: (p_law_lines :: (p_law_spots :: S))) H' v_law_k law_k_19 ∧ Own (tStr : Ty K Str) (p_law_row_here :: (p_law_lines :: (p_law_spots :: S))) H' p_law_row_here s_21) (fun H21 fr21 dm21 hB21 => ?_) (fun hd21 s_21 law_turn_21 C21 v_law_turn σ' H' hI h_law_turn hm hret21 hbrk21 => ?_) (fun t_21 σ' H' hm hI => ?_)
    · skip
      have fr0 := fr0.trans fr21
      have frl := frl.trans (fr21.sub tsl)
      have h_law_reach := (tInt : Ty K Int).mono (S := (p_law_row_here :: (p_law_lines :: (p_law_spots :: S)))) (fr21.sub ts) h_law_reach
      have h_law_names_here := ((tL tStr) : Ty K (List Str)).mono (S := (p_law_row_here :: (p_law_lines :: (p_law_spots :: S)))) (fr21.sub ts) h_law_names_here
      have o_law_spots := o_law_spots.fr fr21 ts nt_law_spots
      have o_law_lines := o_law_lines.fr fr21 ts nt_law_lines
      have h_law_k := (tInt : Ty K Int).mono (S := (p_law_row_here :: (p_law_lines :: (p_law_spots :: S)))) (fr21.sub ts) h_law_k
      have o_law_row_here := o_law_row_here.fr fr21 ts nt_law_row_here
      have dm := dm21
      have hB := hB21
      exact ⟨frl, v_law_reach, v_law_names_here, v_law_k, _, _, _, _, _, _, rfl, fr0, dm, hB, h_law_reach, h_law_names_here, o_law_spots, o_law_lines, h_law_k, o_law_row_here⟩
    · skip
      obtain ⟨frl, v_law_reach, v_law_names_here, v_law_k, f_4, f_5, f_9, f_10, f_11, f_12, rfl, fr0, dm, hB, h_law_reach, h_law_names_here, o_law_spots, o_law_lines, h_law_k, o_law_row_here⟩ := hI
      have frlo := frl
      have freshlo := freshl
      let HL := H'
      have freshl : ∀ a ∈ (p_law_row_here :: (p_law_lines :: (p_law_spots :: S))), a ∉ (p_law_row_here :: (p_law_lines :: (p_law_spots :: S))) → H' a = none := fun a m n => absurd m n
      have frl : Fr (p_law_row_here :: (p_law_lines :: (p_law_spots :: S))) HL H' := Fr.refl (T := (p_law_row_here :: (p_law_lines :: (p_law_spots :: S)))) H'
      have tsl := ts
      have subl : Sub (p_law_row_here :: (p_law_lines :: (p_law_spots :: S))) (p_law_row_here :: (p_law_lines :: (p_law_spots :: S))) := fun a m => m
      have iml_law_spots := im_law_spots
      have iml_law_lines := im_law_lines
      have iml_law_row_here := im_law_row_here
      have h_law_turn : (tInt : Ty K Int).rp (p_law_row_here :: (p_law_lines :: (p_law_spots :: S))) H' v_law_turn law_turn_21 := h_law_turn
      refine qw_asg dm hB ts (ew_any rfl (ew_pure (ev_var ts h_law_names_here rfl))) hm (fun v_law_more H22 law_more_22 hm fr22 dm22 hB22 h_law_more => ?_)
      have fr0 := fr0.trans fr22
      have frl := frl.trans (fr22.sub tsl)
      have h_law_reach := (tInt : Ty K Int).mono (S := (p_law_row_here :: (p_law_lines :: (p_law_spots :: S)))) (fr22.sub ts) h_law_reach
      have h_law_names_here := ((tL tStr) : Ty K (List Str)).mono (S := (p_law_row_here :: (p_law_lines :: (p_law_spots :: S)))) (fr22.sub ts) h_law_names_here
      have o_law_spots := o_law_spots.fr fr22 ts nt_law_spots
      have o_law_lines := o_law_lines.fr fr22 ts nt_law_lines
      have h_law_k := (tInt : Ty K Int).mono (S := (p_law_row_here :: (p_law_lines :: (p_law_spots :: S)))) (fr22.sub ts) h_law_k
      have o_law_row_here := o_law_row_here.fr fr22 ts nt_law_row_here
      have h_law_turn := (tInt : Ty K Int).mono (S := (p_law_row_here :: (p_law_lines :: (p_law_spots :: S)))) (fr22.sub ts) h_law_turn
      have dm := dm22
      have hB := hB22
      have h_law_more : (tStr : Ty K Str).rp (p_law_row_here :: (p_law_lines :: (p_law_spots :: S))) H22 v_law_more law_more_22 := h_law_more
      obtain ⟨J23, hK23, hm⟩ := jn_open hm
      refine seq_last (fun σ' H' => ∃ j26, J23 j26 ∧ Fr (p_law_row_here :: (p_law_lines :: (p_law_spots :: S))) HL H' ∧ ∃ v_law_reach : V, ∃ v_law_names_here : V, ∃ v_law_k : V, ∃ v_law_turn : V, ∃ v_law_more : V, ∃ f_4 : Option V, ∃ f_5 : Option V, ∃ f_11 : Option V, ∃ f_12 : Option V, σ' = [some (.ref b), some v_law_reach, some (.ref p_law_spots), some v_law_names_here, f_4, f_5, some (.ref p_law_lines), some v_law_k, some (.ref p_law_row_here), some v_law_turn, some v_law_more, f_11, f_12] ∧ Fr [b, c] H0 H' ∧ Dom (p_law_row_here :: (p_law_lines :: (p_law_spots :: S))) H' ∧ Bag H' b c ∧ (tInt : Ty K Int).rp (p_law_row_here :: (p_law_lines :: (p_law_spots :: S))) H' v_law_reach d_law_reach ∧ ((tL tStr) : Ty K (List Str)).rp (p_law_row_here :: (p_law_lines :: (p_law_spots :: S))) H' v_law_names_here law_names_here_2 ∧ OwnD ((tT2 tRat tRat) : Ty K (Rat × Rat)) (p_law_row_here :: (p_law_lines :: (p_law_spots :: S))) H' p_law_spots t_3 ∧ OwnD ((tT2 tStr (tTs tStr)) : Ty K (Str × (List Str))) (p_law_row_here :: (p_law_lines :: (p_law_spots :: S))) H' p_law_lines s_19 ∧ (tInt : Ty K Int).rp (p_law_row_here :: (p_law_lines :: (p_law_spots :: S))) H' v_law_k law_k_19 ∧ (tInt : Ty K Int).rp (p_law_row_here :: (p_law_lines :: (p_law_spots :: S))) H' v_law_turn law_turn_21 ∧ (tStr : Ty K Str).rp (p_law_row_here :: (p_law_lines :: (p_law_spots :: S))) H' v_law_more law_more_22 ∧ Own (tStr : Ty K Str) (p_law_row_here :: (p_law_lines :: (p_law_spots :: S))) H' p_law_row_here j26) (fun σ' H' hI => ?_) (fun rest23 => ?_)
      · skip
        obtain ⟨j26, hj, ⟨frl, v_law_reach, v_law_names_here, v_law_k, v_law_turn, v_law_more, f_4, f_5, f_11, f_12, rfl, fr0, dm, hB, h_law_reach, h_law_names_here, o_law_spots, o_law_lines, h_law_k, h_law_turn, h_law_more, o_law_row_here⟩⟩ := hI
        have hm := hK23 j26 hj
        exact ⟨_, hm, frl, ⟨frlo.transx frl freshlo, v_law_reach, v_law_names_here, v_law_k, _, _, _, _, _, _, rfl, fr0, dm, hB, h_law_reach, h_law_names_here, o_law_spots, o_law_lines, h_law_k, o_law_row_here⟩⟩
      obtain ⟨c23, e23, hm⟩ := hm
      refine l_if (T := [b, c]) dm (by refine eb_shr (S' := (p_law_lines :: (p_law_spots :: S))) (sub_cons (fun a m => m)) ?_; have sbz : Sub (p_law_lines :: (p_law_spots :: S)) (p_law_row_here :: (p_law_lines :: (p_law_spots :: S))) := (sub_cons (fun a m => m)); (have nfz : p_law_row_here ∉ (p_law_lines :: (p_law_spots :: S)) := by first | exact ns_law_row_here | (have h := ns_law_row_here; simp only [List.mem_cons, not_or] at h ⊢; grind)); have h_law_row_here := o_law_row_here.frz sbz nfz; have h_law_reach := (tInt : Ty K Int).sub sbz h_law_reach; have h_law_names_here := ((tL tStr) : Ty K (List Str)).sub sbz h_law_names_here; have o_law_spots := o_law_spots.sub sbz; have o_law_lines := o_law_lines.sub sbz; have h_law_k := (tInt : Ty K Int).sub sbz h_law_k; have h_law_turn := (tInt : Ty K Int).sub sbz h_law_turn; have h_law_more := (tStr : Ty K Str).sub sbz h_law_more; (have ts : Sub [b, c] (p_law_lines :: (p_law_spots :: S)) := fun a m => by have h1 := ts a m; have h2 : a ≠ p_law_row_here := (fun e => nt_law_row_here (e ▸ m)); simp only [List.mem_cons] at h1 ⊢; grind); exact (eb_test (K := K) (ev_op (od_neS (K := K)) (ev_var ts h_law_more rfl) (ev_op od_ixL (ev_var ts h_law_row_here rfl) (ev_neg (ev_int (K := K))))))) e23 (fun hc H23 s23 => ?_) (fun hc H23 s23 => ?_)
      · skip
        subst hc
        have fr0 := fr0.trans (Fr.same s23)
        have dm := dm.same s23
        have frl := frl.trans (Fr.same s23)
        have h_law_reach := (tInt : Ty K Int).mono (S := (p_law_row_here :: (p_law_lines :: (p_law_spots :: S)))) (Fr.same s23) h_law_reach
        have h_law_names_here := ((tL tStr) : Ty K (List Str)).mono (S := (p_law_row_here :: (p_law_lines :: (p_law_spots :: S)))) (Fr.same s23) h_law_names_here
        have o_law_spots := o_law_spots.same s23
        have o_law_lines := o_law_lines.same s23
        have h_law_k := (tInt : Ty K Int).mono (S := (p_law_row_here :: (p_law_lines :: (p_law_spots :: S)))) (Fr.same s23) h_law_k
        have o_law_row_here := o_law_row_here.same s23
        have h_law_turn := (tInt : Ty K Int).mono (S := (p_law_row_here :: (p_law_lines :: (p_law_spots :: S)))) (Fr.same s23) h_law_turn
        have h_law_more := (tStr : Ty K Str).mono (S := (p_law_row_here :: (p_law_lines :: (p_law_spots :: S)))) (Fr.same s23) h_law_more
        have hB := hB.same s23
        have hm := ifp_t hm
        obtain ⟨a24, e24, hm⟩ := hm
        obtain ⟨law_row_here_25, f24, hm⟩ := hm
        refine l_app (T := [b, c]) dm o_law_row_here im_law_row_here nt_law_row_here ts rfl (ev_var ts h_law_more rfl) e24 f24 (fun H24 s24 frx24 o_law_row_here => ?_)
        have fr0 := fr0.mut hB.dom n0_law_row_here s24
        have frl := frl.trans (s24.fr iml_law_row_here)
        have dm := dm.fx frx24 s24
        have h_law_reach := (tInt : Ty K Int).mono (S := (p_law_row_here :: (p_law_lines :: (p_law_spots :: S)))) frx24 h_law_reach
        have h_law_names_here := ((tL tStr) : Ty K (List Str)).mono (S := (p_law_row_here :: (p_law_lines :: (p_law_spots :: S)))) frx24 h_law_names_here
        have o_law_spots := o_law_spots.mut frx24 s24 ne_law_spots_law_row_here
        have o_law_lines := o_law_lines.mut frx24 s24 ne_law_lines_law_row_here
        have h_law_k := (tInt : Ty K Int).mono (S := (p_law_row_here :: (p_law_lines :: (p_law_spots :: S)))) frx24 h_law_k
        have h_law_turn := (tInt : Ty K Int).mono (S := (p_law_row_here :: (p_law_lines :: (p_law_spots :: S)))) frx24 h_law_turn
        have h_law_more := (tStr : Ty K Str).mono (S := (p_law_row_here :: (p_law_lines :: (p_law_spots :: S)))) frx24 h_law_more
        have hB := hB.mut s24 nt_law_row_here
        exact rest23 _ _ ⟨_, hm, ⟨frl, v_law_reach, v_law_names_here, v_law_k, v_law_turn, v_law_more, _, _, _, _, rfl, fr0, dm, hB, h_law_reach, h_law_names_here, o_law_spots, o_law_lines, h_law_k, h_law_turn, h_law_more, o_law_row_here⟩⟩
      · skip
        subst hc
        have fr0 := fr0.trans (Fr.same s23)
        have dm := dm.same s23
        have frl := frl.trans (Fr.same s23)
        have h_law_reach := (tInt : Ty K Int).mono (S := (p_law_row_here :: (p_law_lines :: (p_law_spots :: S)))) (Fr.same s23) h_law_reach
        have h_law_names_here := ((tL tStr) : Ty K (List Str)).mono (S := (p_law_row_here :: (p_law_lines :: (p_law_spots :: S)))) (Fr.same s23) h_law_names_here
        have o_law_spots := o_law_spots.same s23
        have o_law_lines := o_law_lines.same s23
        have h_law_k := (tInt : Ty K Int).mono (S := (p_law_row_here :: (p_law_lines :: (p_law_spots :: S)))) (Fr.same s23) h_law_k
        have o_law_row_here := o_law_row_here.same s23
        have h_law_turn := (tInt : Ty K Int).mono (S := (p_law_row_here :: (p_law_lines :: (p_law_spots :: S)))) (Fr.same s23) h_law_turn
        have h_law_more := (tStr : Ty K Str).mono (S := (p_law_row_here :: (p_law_lines :: (p_law_spots :: S)))) (Fr.same s23) h_law_more
        have hB := hB.same s23
        have hm := ifp_f hm
        exact rest23 _ _ ⟨_, hm, ⟨frl, v_law_reach, v_law_names_here, v_law_k, v_law_turn, v_law_more, _, _, _, _, rfl, fr0, dm, hB, h_law_reach, h_law_names_here, o_law_spots, o_law_lines, h_law_k, h_law_turn, h_law_more, o_law_row_here⟩⟩
    obtain ⟨frl, v_law_reach, v_law_names_here, v_law_k, f_4, f_5, f_9, f_10, f_11, f_12, rfl, fr0, dm, hB, h_law_reach, h_law_names_here, o_law_spots, o_law_lines, h_law_k, o_law_row_here⟩ := hI
    have sbz : Sub (p_law_lines :: (p_law_spots :: S)) (p_law_row_here :: (p_law_lines :: (p_law_spots :: S))) := (sub_cons (fun a m => m))
    have nfz : p_law_row_here ∉ (p_law_lines :: (p_law_spots :: S)) := by first | exact ns_law_row_here | (have h := ns_law_row_here; simp only [List.mem_cons, not_or] at h ⊢; grind)
    have h_law_row_here := o_law_row_here.frz sbz nfz
    have dm := dm.sub sbz
    have h_law_reach := (tInt : Ty K Int).sub sbz h_law_reach
    have h_law_names_here := ((tL tStr) : Ty K (List Str)).sub sbz h_law_names_here
    have o_law_spots := o_law_spots.sub sbz
    have im_law_spots : p_law_spots ∈ (p_law_lines :: (p_law_spots :: S)) := (List.mem_cons_of_mem _ (List.mem_cons_self ..))
    have o_law_lines := o_law_lines.sub sbz
    have im_law_lines : p_law_lines ∈ (p_law_lines :: (p_law_spots :: S)) := (List.mem_cons_self ..)
    have h_law_k := (tInt : Ty K Int).sub sbz h_law_k
    have ts : Sub [b, c] (p_law_lines :: (p_law_spots :: S)) := fun a m => by have h1 := ts a m; have h2 : a ≠ p_law_row_here := (fun e => nt_law_row_here (e ▸ m)); simp only [List.mem_cons] at h1 ⊢; grind
    have sub0 : Sub S (p_law_lines :: (p_law_spots :: S)) := fun a m => by have h1 := sub0 a m; have h2 : a ≠ p_law_row_here := (fun e => nb_law_row_here (e ▸ m)); simp only [List.mem_cons] at h1 ⊢; grind
    have subl : Sub (p_law_lines :: (p_law_spots :: S)) (p_law_lines :: (p_law_spots :: S)) := fun a m => by have h1 := subl a m; have h2 : a ≠ p_law_row_here := (fun e => nbl_law_row_here (e ▸ m)); simp only [List.mem_cons] at h1 ⊢; grind
    have freshl := fun a m n => freshl a (sbz a m) n
    obtain ⟨J27, hK27, hm⟩ := jn_open hm
    refine seq_last (fun σ' H' => ∃ j32, J27 j32 ∧ Fr (p_law_lines :: (p_law_spots :: S)) HL H' ∧ ∃ v_law_reach : V, ∃ v_law_names_here : V, ∃ v_law_k : V, ∃ f_4 : Option V, ∃ f_5 : Option V, ∃ f_9 : Option V, ∃ f_10 : Option V, ∃ f_11 : Option V, ∃ f_12 : Option V, σ' = [some (.ref b), some v_law_reach, some (.ref p_law_spots), some v_law_names_here, f_4, f_5, some (.ref p_law_lines), some v_law_k, some (.ref p_law_row_here), f_9, f_10, f_11, f_12] ∧ Fr [b, c] H0 H' ∧ Dom (p_law_lines :: (p_law_spots :: S)) H' ∧ Bag H' b c ∧ (tInt : Ty K Int).rp (p_law_lines :: (p_law_spots :: S)) H' v_law_reach d_law_reach ∧ ((tL tStr) : Ty K (List Str)).rp (p_law_lines :: (p_law_spots :: S)) H' v_law_names_here law_names_here_2 ∧ OwnD ((tT2 tRat tRat) : Ty K (Rat × Rat)) (p_law_lines :: (p_law_spots :: S)) H' p_law_spots t_3 ∧ (tInt : Ty K Int).rp (p_law_lines :: (p_law_spots :: S)) H' v_law_k law_k_19 ∧ ((tL tStr) : Ty K (List Str)).rp (p_law_lines :: (p_law_spots :: S)) H' (.ref p_law_row_here) t_21 ∧ OwnD ((tT2 tStr (tTs tStr)) : Ty K (Str × (List Str))) (p_law_lines :: (p_law_spots :: S)) H' p_law_lines j32) (fun σ' H' hI => ?_) (fun rest27 => ?_)
    · skip
      obtain ⟨j32, hj, ⟨frl, v_law_reach, v_law_names_here, v_law_k, f_4, f_5, f_9, f_10, f_11, f_12, rfl, fr0, dm, hB, h_law_reach, h_law_names_here, o_law_spots, h_law_k, h_law_row_here, o_law_lines⟩⟩ := hI
      have hm := hK27 j32 hj
      exact ⟨_, hm, frl, ⟨v_law_reach, v_law_names_here, _, _, _, _, _, _, _, _, rfl, fr0, dm, hB, h_law_reach, h_law_names_here, o_law_spots, o_law_lines⟩⟩
    obtain ⟨c27, e27, hm⟩ := hm
    refine l_if (T := [b, c]) dm (eb_test (K := K) (ev_op (od_gt (K := K)) (ev_lenL (ev_var ts h_law_row_here rfl)) (ev_int (K := K)))) e27 (fun hc H27 s27 => ?_) (fun hc H27 s27 => ?_)
    · skip
      subst hc
      have fr0 := fr0.trans (Fr.same s27)
      have dm := dm.same s27
      have frl := frl.trans (Fr.same s27)
      have h_law_reach := (tInt : Ty K Int).mono (S := (p_law_lines :: (p_law_spots :: S))) (Fr.same s27) h_law_reach
      have h_law_names_here := ((tL tStr) : Ty K (List Str)).mono (S := (p_law_lines :: (p_law_spots :: S))) (Fr.same s27) h_law_names_here
      have o_law_spots := o_law_spots.same s27
      have o_law_lines := o_law_lines.same s27
      have h_law_k := (tInt : Ty K Int).mono (S := (p_law_lines :: (p_law_spots :: S))) (Fr.same s27) h_law_k
      have h_law_row_here := ((tL tStr) : Ty K (List Str)).mono (S := (p_law_lines :: (p_law_spots :: S))) (Fr.same s27) h_law_row_here
      have hB := hB.same s27
      have hm := ifp_t hm
      refine qw_asg dm hB ts (ew_any rfl (ew_pure (ev_new (ev_lst (el_cons (ev_str (K := K)) (el_cons (ev_str (K := K)) (el_cons (ev_str (K := K)) (el_cons (ev_str (K := K)) el_nil)))) (by decide))))) hm (fun v_law_kind H28 law_kind_28 hm fr28 dm28 hB28 h_law_kind => ?_)
      have fr0 := fr0.trans fr28
      have frl := frl.trans (fr28.sub tsl)
      have h_law_reach := (tInt : Ty K Int).mono (S := (p_law_lines :: (p_law_spots :: S))) (fr28.sub ts) h_law_reach
      have h_law_names_here := ((tL tStr) : Ty K (List Str)).mono (S := (p_law_lines :: (p_law_spots :: S))) (fr28.sub ts) h_law_names_here
      have o_law_spots := o_law_spots.fr fr28 ts nt_law_spots
      have o_law_lines := o_law_lines.fr fr28 ts nt_law_lines
      have h_law_k := (tInt : Ty K Int).mono (S := (p_law_lines :: (p_law_spots :: S))) (fr28.sub ts) h_law_k
      have h_law_row_here := ((tL tStr) : Ty K (List Str)).mono (S := (p_law_lines :: (p_law_spots :: S))) (fr28.sub ts) h_law_row_here
      have dm := dm28
      have hB := hB28
      have h_law_kind : (tStr : Ty K Str).rp (p_law_lines :: (p_law_spots :: S)) H28 v_law_kind law_kind_28 := h_law_kind
      refine lw_dputK (ck := (tStr : Ty K Str)) dm hB ts o_law_lines im_law_lines nt_law_lines rfl (ew_pure (ev_tup2 (ev_var ts h_law_kind rfl) (ev_tupleL (ev_var ts h_law_row_here rfl)))) (ew_op (od_mulS (K := K)) (ew_pure (ev_op (od_ixS (K := K)) (ev_str (K := K)) (ev_var ts h_law_k rfl))) (ew_op (od_add (K := K)) (ew_pure (ev_int (K := K))) (ew_draw (K := K) rfl (ew_pure (ev_int (K := K)))))) hm (fun law_lines_31 Hd30 H30 hm fr30 dm30 hB30 s30 frx30 ox_law_lines => ?_)
      have fr0 := fr0.trans fr30
      have frl := frl.trans (fr30.sub tsl)
      have h_law_reach := (tInt : Ty K Int).mono (S := (p_law_lines :: (p_law_spots :: S))) (fr30.sub ts) h_law_reach
      have h_law_names_here := ((tL tStr) : Ty K (List Str)).mono (S := (p_law_lines :: (p_law_spots :: S))) (fr30.sub ts) h_law_names_here
      have o_law_spots := o_law_spots.fr fr30 ts nt_law_spots
      have o_law_lines := o_law_lines.fr fr30 ts nt_law_lines
      have h_law_k := (tInt : Ty K Int).mono (S := (p_law_lines :: (p_law_spots :: S))) (fr30.sub ts) h_law_k
      have h_law_row_here := ((tL tStr) : Ty K (List Str)).mono (S := (p_law_lines :: (p_law_spots :: S))) (fr30.sub ts) h_law_row_here
      have h_law_kind := (tStr : Ty K Str).mono (S := (p_law_lines :: (p_law_spots :: S))) (fr30.sub ts) h_law_kind
      have dm := dm30
      have hB := hB30
      have fr0 := fr0.mut hB.dom n0_law_lines s30
      have frl := frl.trans (s30.fr iml_law_lines)
      have dm := dm.fx frx30 s30
      have h_law_reach := (tInt : Ty K Int).mono (S := (p_law_lines :: (p_law_spots :: S))) frx30 h_law_reach
      have h_law_names_here := ((tL tStr) : Ty K (List Str)).mono (S := (p_law_lines :: (p_law_spots :: S))) frx30 h_law_names_here
      have o_law_spots := o_law_spots.mut frx30 s30 ne_law_spots_law_lines
      have h_law_k := (tInt : Ty K Int).mono (S := (p_law_lines :: (p_law_spots :: S))) frx30 h_law_k
      have h_law_row_here := ((tL tStr) : Ty K (List Str)).mono (S := (p_law_lines :: (p_law_spots :: S))) frx30 h_law_row_here
      have h_law_kind := (tStr : Ty K Str).mono (S := (p_law_lines :: (p_law_spots :: S))) frx30 h_law_kind
      have hB := hB.mut s30 nt_law_lines
      have o_law_lines := ox_law_lines
      exact rest27 _ _ ⟨_, hm, ⟨frl, v_law_reach, v_law_names_here, v_law_k, _, _, _, _, _, _, rfl, fr0, dm, hB, h_law_reach, h_law_names_here, o_law_spots, h_law_k, h_law_row_here, o_law_lines⟩⟩
    · skip
      subst hc
      have fr0 := fr0.trans (Fr.same s27)
      have dm := dm.same s27
      have frl := frl.trans (Fr.same s27)
      have h_law_reach := (tInt : Ty K Int).mono (S := (p_law_lines :: (p_law_spots :: S))) (Fr.same s27) h_law_reach
      have h_law_names_here := ((tL tStr) : Ty K (List Str)).mono (S := (p_law_lines :: (p_law_spots :: S))) (Fr.same s27) h_law_names_here
      have o_law_spots := o_law_spots.same s27
      have o_law_lines := o_law_lines.same s27
      have h_law_k := (tInt : Ty K Int).mono (S := (p_law_lines :: (p_law_spots :: S))) (Fr.same s27) h_law_k
      have h_law_row_here := ((tL tStr) : Ty K (List Str)).mono (S := (p_law_lines :: (p_law_spots :: S))) (Fr.same s27) h_law_row_here
      have hB := hB.same s27
      have hm := ifp_f hm
      exact rest27 _ _ ⟨_, hm, ⟨frl, v_law_reach, v_law_names_here, v_law_k, _, _, _, _, _, _, rfl, fr0, dm, hB, h_law_reach, h_law_names_here, o_law_spots, h_law_k, h_law_row_here, o_law_lines⟩⟩
  obtain ⟨v_law_reach, v_law_names_here, f_4, f_5, f_7, f_8, f_9, f_10, f_11, f_12, rfl, fr0, dm, hB, h_law_reach, h_law_names_here, o_law_spots, o_law_lines⟩ := hI
  obtain ⟨law_sites_34, e34, hm⟩ := hm
  refine q_asg (T := [b, c]) dm (ev_dnew (κ := Str) (b' := ((tT2 tStr tInt) : Ty K (Str × Int)))) e34 (fun v_law_sites H34 s34 hx => ?_)
  obtain ⟨p_law_sites, rfl, np_law_sites, o_law_sites⟩ := hx
  have ns_law_sites : p_law_sites ∉ (p_law_lines :: (p_law_spots :: S)) := dm.not_mem np_law_sites
  have nb_law_sites : p_law_sites ∉ S := fun m => ns_law_sites (sub0 _ m)
  have n0_law_sites := fr_back fr0 hB.dom np_law_sites
  have nt_law_sites := hB.dom.not_mem np_law_sites
  have fr0 := fr0.trans (Fr.same s34)
  have h_law_reach := (tInt : Ty K Int).mono (Fr.same s34) ((tInt : Ty K Int).ext (S := (p_law_lines :: (p_law_spots :: S))) np_law_sites h_law_reach)
  have h_law_names_here := ((tL tStr) : Ty K (List Str)).mono (Fr.same s34) (((tL tStr) : Ty K (List Str)).ext (S := (p_law_lines :: (p_law_spots :: S))) np_law_sites h_law_names_here)
  have ne_law_spots_law_sites := o_law_spots.ne np_law_sites
  have o_law_spots := (o_law_spots.ext np_law_sites).same s34
  have im_law_spots := List.mem_cons_of_mem p_law_sites im_law_spots
  have ne_law_lines_law_sites := o_law_lines.ne np_law_sites
  have o_law_lines := (o_law_lines.ext np_law_sites).same s34
  have im_law_lines := List.mem_cons_of_mem p_law_sites im_law_lines
  have dm := (dm.same s34).cons o_law_sites.choose_spec.1
  have ts := sub_cons (p := p_law_sites) ts
  have sub0 := sub_cons (p := p_law_sites) sub0
  have im_law_sites : p_law_sites ∈ p_law_sites :: (p_law_lines :: (p_law_spots :: S)) := List.mem_cons_self ..
  have hB := hB.same s34
  have ne_law_sites_law_spots := Ne.symm ne_law_spots_law_sites
  have ne_law_sites_law_lines := Ne.symm ne_law_lines_law_sites
  refine qw_for_s dm hB ts (srw_r1 (K := K) (ew_draw (K := K) rfl (ew_pure (ev_int (K := K))))) hm (fun s_35 σ' H' => ∃ v_law_reach : V, ∃ v_law_names_here : V, ∃ f_4 : Option V, ∃ f_5 : Option V, ∃ f_7 : Option V, ∃ f_8 : Option V, ∃ f_9 : Option V, ∃ f_10 : Option V, ∃ f_11 : Option V, σ' = [some (.ref b), some v_law_reach, some (.ref p_law_spots), some v_law_names_here, f_4, f_5, some (.ref p_law_lines), f_7, f_8, f_9, f_10, f_11, some (.ref p_law_sites)] ∧ Fr [b, c] H0 H' ∧ Dom (p_law_sites :: (p_law_lines :: (p_law_spots :: S))) H' ∧ Bag H' b c ∧ (tInt : Ty K Int).rp (p_law_sites :: (p_law_lines :: (p_law_spots :: S))) H' v_law_reach d_law_reach ∧ ((tL tStr) : Ty K (List Str)).rp (p_law_sites :: (p_law_lines :: (p_law_spots :: S))) H' v_law_names_here law_names_here_2 ∧ OwnD ((tT2 tRat tRat) : Ty K (Rat × Rat)) (p_law_sites :: (p_law_lines :: (p_law_spots :: S))) H' p_law_spots t_3 ∧ OwnD ((tT2 tStr (tTs tStr)) : Ty K (Str × (List Str))) (p_law_sites :: (p_law_lines :: (p_law_spots :: S))) H' p_law_lines t_19 ∧ OwnD ((tT2 tStr tInt) : Ty K (Str × Int)) (p_law_sites :: (p_law_lines :: (p_law_spots :: S))) H' p_law_sites s_35) (fun H35 fr35 dm35 hB35 => ?_) (fun hd35 s_35 law_k_35 C35 v_law_k σ' H' hI h_law_k hm hret35 hbrk35 => ?_) (fun t_35 σ' H' hm hI => ?_)
  · skip
    have fr0 := fr0.trans fr35
    have h_law_reach := (tInt : Ty K Int).mono (S := (p_law_sites :: (p_law_lines :: (p_law_spots :: S)))) (fr35.sub ts) h_law_reach
    have h_law_names_here := ((tL tStr) : Ty K (List Str)).mono (S := (p_law_sites :: (p_law_lines :: (p_law_spots :: S)))) (fr35.sub ts) h_law_names_here
    have o_law_spots := o_law_spots.fr fr35 ts nt_law_spots
    have o_law_lines := o_law_lines.fr fr35 ts nt_law_lines
    have o_law_sites := o_law_sites.fr fr35 ts nt_law_sites
    have dm := dm35
    have hB := hB35
    exact ⟨v_law_reach, v_law_names_here, _, _, _, _, _, _, _, rfl, fr0, dm, hB, h_law_reach, h_law_names_here, o_law_spots, o_law_lines, o_law_sites⟩
  · skip
    obtain ⟨v_law_reach, v_law_names_here, f_4, f_5, f_7, f_8, f_9, f_10, f_11, rfl, fr0, dm, hB, h_law_reach, h_law_names_here, o_law_spots, o_law_lines, o_law_sites⟩ := hI
    let HL := H'
    have freshl : ∀ a ∈ (p_law_sites :: (p_law_lines :: (p_law_spots :: S))), a ∉ (p_law_sites :: (p_law_lines :: (p_law_spots :: S))) → H' a = none := fun a m n => absurd m n
    have frl : Fr (p_law_sites :: (p_law_lines :: (p_law_spots :: S))) HL H' := Fr.refl (T := (p_law_sites :: (p_law_lines :: (p_law_spots :: S)))) H'
    have tsl := ts
    have subl : Sub (p_law_sites :: (p_law_lines :: (p_law_spots :: S))) (p_law_sites :: (p_law_lines :: (p_law_spots :: S))) := fun a m => m
    have iml_law_spots := im_law_spots
    have iml_law_lines := im_law_lines
    have iml_law_sites := im_law_sites
    have h_law_k : (tInt : Ty K Int).rp (p_law_sites :: (p_law_lines :: (p_law_spots :: S))) H' v_law_k law_k_35 := h_law_k
    refine qw_asg dm hB ts (ew_any rfl (ew_pure (ev_new (ev_lst (el_cons (ev_str (K := K)) (el_cons (ev_str (K := K)) (el_cons (ev_str (K := K)) (el_cons (ev_str (K := K)) (el_cons (ev_str (K := K)) el_nil))))) (by decide))))) hm (fun v_law_name_here H36 law_name_here_36 hm fr36 dm36 hB36 h_law_name_here => ?_)
    have fr0 := fr0.trans fr36
    have frl := frl.trans (fr36.sub tsl)
    have h_law_reach := (tInt : Ty K Int).mono (S := (p_law_sites :: (p_law_lines :: (p_law_spots :: S)))) (fr36.sub ts) h_law_reach
    have h_law_names_here := ((tL tStr) : Ty K (List Str)).mono (S := (p_law_sites :: (p_law_lines :: (p_law_spots :: S)))) (fr36.sub ts) h_law_names_here
    have o_law_spots := o_law_spots.fr fr36 ts nt_law_spots
    have o_law_lines := o_law_lines.fr fr36 ts nt_law_lines
    have o_law_sites := o_law_sites.fr fr36 ts nt_law_sites
    have h_law_k := (tInt : Ty K Int).mono (S := (p_law_sites :: (p_law_lines :: (p_law_spots :: S)))) (fr36.sub ts) h_law_k
    have dm := dm36
    have hB := hB36
    have h_law_name_here : (tStr : Ty K Str).rp (p_law_sites :: (p_law_lines :: (p_law_spots :: S))) H36 v_law_name_here law_name_here_36 := h_law_name_here
    refine lw_dput (ck := (tStr : Ty K Str)) dm hB ts o_law_sites im_law_sites nt_law_sites rfl (ew_tup2 (ew_any rfl (ew_pure (ev_new (ev_op od_cat (ev_var ts h_law_names_here rfl) (ev_new (ev_lst (el_cons (ev_str (K := K)) el_nil) (by decide))))))) (ew_op (od_add (K := K)) (ew_pure (ev_int (K := K))) (ew_draw (K := K) rfl (ew_pure (ev_int (K := K)))))) (ev_var ts h_law_name_here rfl) hm (fun law_sites_39 Hd38 H38 hm fr38 dm38 hB38 s38 frx38 ox_law_sites => ?_)
    have fr0 := fr0.trans fr38
    have frl := frl.trans (fr38.sub tsl)
    have h_law_reach := (tInt : Ty K Int).mono (S := (p_law_sites :: (p_law_lines :: (p_law_spots :: S)))) (fr38.sub ts) h_law_reach
    have h_law_names_here := ((tL tStr) : Ty K (List Str)).mono (S := (p_law_sites :: (p_law_lines :: (p_law_spots :: S)))) (fr38.sub ts) h_law_names_here
    have o_law_spots := o_law_spots.fr fr38 ts nt_law_spots
    have o_law_lines := o_law_lines.fr fr38 ts nt_law_lines
    have o_law_sites := o_law_sites.fr fr38 ts nt_law_sites
    have h_law_k := (tInt : Ty K Int).mono (S := (p_law_sites :: (p_law_lines :: (p_law_spots :: S)))) (fr38.sub ts) h_law_k
    have h_law_name_here := (tStr : Ty K Str).mono (S := (p_law_sites :: (p_law_lines :: (p_law_spots :: S)))) (fr38.sub ts) h_law_name_here
    have dm := dm38
    have hB := hB38
    have fr0 := fr0.mut hB.dom n0_law_sites s38
    have frl := frl.trans (s38.fr iml_law_sites)
    have dm := dm.fx frx38 s38
    have h_law_reach := (tInt : Ty K Int).mono (S := (p_law_sites :: (p_law_lines :: (p_law_spots :: S)))) frx38 h_law_reach
    have h_law_names_here := ((tL tStr) : Ty K (List Str)).mono (S := (p_law_sites :: (p_law_lines :: (p_law_spots :: S)))) frx38 h_law_names_here
    have o_law_spots := o_law_spots.mut frx38 s38 ne_law_spots_law_sites
    have o_law_lines := o_law_lines.mut frx38 s38 ne_law_lines_law_sites
    have h_law_k := (tInt : Ty K Int).mono (S := (p_law_sites :: (p_law_lines :: (p_law_spots :: S)))) frx38 h_law_k
    have h_law_name_here := (tStr : Ty K Str).mono (S := (p_law_sites :: (p_law_lines :: (p_law_spots :: S)))) frx38 h_law_name_here
    have hB := hB.mut s38 nt_law_sites
    have o_law_sites := ox_law_sites
    exact ⟨_, hm, frl, ⟨v_law_reach, v_law_names_here, _, _, _, _, _, _, _, rfl, fr0, dm, hB, h_law_reach, h_law_names_here, o_law_spots, o_law_lines, o_law_sites⟩⟩
  obtain ⟨v_law_reach, v_law_names_here, f_4, f_5, f_7, f_8, f_9, f_10, f_11, rfl, fr0, dm, hB, h_law_reach, h_law_names_here, o_law_spots, o_law_lines, o_law_sites⟩ := hI
  have sbz : Sub (p_law_sites :: (p_law_lines :: S)) (p_law_sites :: (p_law_lines :: (p_law_spots :: S))) := (sub_keep (sub_keep (sub_cons (fun a m => m))))
  have nfz : p_law_spots ∉ (p_law_sites :: (p_law_lines :: S)) := by first | exact (nmc ne_law_spots_law_sites (nmc ne_law_spots_law_lines ns_law_spots)) | (have h := ns_law_spots; simp only [List.mem_cons, not_or] at h ⊢; grind)
  have h_law_spots := o_law_spots.frz sbz nfz
  have dm := dm.sub sbz
  have h_law_reach := (tInt : Ty K Int).sub sbz h_law_reach
  have h_law_names_here := ((tL tStr) : Ty K (List Str)).sub sbz h_law_names_here
  have o_law_lines := o_law_lines.sub sbz
  have im_law_lines : p_law_lines ∈ (p_law_sites :: (p_law_lines :: S)) := (List.mem_cons_of_mem _ (List.mem_cons_self ..))
  have o_law_sites := o_law_sites.sub sbz
  have im_law_sites : p_law_sites ∈ (p_law_sites :: (p_law_lines :: S)) := (List.mem_cons_self ..)
  have ts : Sub [b, c] (p_law_sites :: (p_law_lines :: S)) := fun a m => by have h1 := ts a m; have h2 : a ≠ p_law_spots := (fun e => nt_law_spots (e ▸ m)); simp only [List.mem_cons] at h1 ⊢; grind
  have sub0 : Sub S (p_law_sites :: (p_law_lines :: S)) := fun a m => by have h1 := sub0 a m; have h2 : a ≠ p_law_spots := (fun e => nb_law_spots (e ▸ m)); simp only [List.mem_cons] at h1 ⊢; grind
  have sbz : Sub (p_law_sites :: S) (p_law_sites :: (p_law_lines :: S)) := (sub_keep (sub_cons (fun a m => m)))
  have nfz : p_law_lines ∉ (p_law_sites :: S) := by first | exact (nmc ne_law_lines_law_sites ns_law_lines) | (have h := ns_law_lines; simp only [List.mem_cons, not_or] at h ⊢; grind)
  have h_law_lines := o_law_lines.frz sbz nfz
  have dm := dm.sub sbz
  have h_law_reach := (tInt : Ty K Int).sub sbz h_law_reach
  have h_law_names_here := ((tL tStr) : Ty K (List Str)).sub sbz h_law_names_here
  have h_law_spots := ((tD Str (tT2 tRat tRat)) : Ty K (List (Str × (Rat × Rat)))).sub sbz h_law_spots
  have o_law_sites := o_law_sites.sub sbz
  have im_law_sites : p_law_sites ∈ (p_law_sites :: S) := (List.mem_cons_self ..)
  have ts : Sub [b, c] (p_law_sites :: S) := fun a m => by have h1 := ts a m; have h2 : a ≠ p_law_lines := (fun e => nt_law_lines (e ▸ m)); simp only [List.mem_cons] at h1 ⊢; grind
  have sub0 : Sub S (p_law_sites :: S) := fun a m => by have h1 := sub0 a m; have h2 : a ≠ p_law_lines := (fun e => nb_law_lines (e ▸ m)); simp only [List.mem_cons] at h1 ⊢; grind
  have sbz : Sub S (p_law_sites :: S) := (sub_cons (fun a m => m))
  have nfz : p_law_sites ∉ S := by first | exact ns_law_sites | (have h := ns_law_sites; simp only [List.mem_cons, not_or] at h ⊢; grind)
  have h_law_sites := o_law_sites.frz sbz nfz
  have dm := dm.sub sbz
  have h_law_reach := (tInt : Ty K Int).sub sbz h_law_reach
  have h_law_names_here := ((tL tStr) : Ty K (List Str)).sub sbz h_law_names_here
  have h_law_spots := ((tD Str (tT2 tRat tRat)) : Ty K (List (Str × (Rat × Rat)))).sub sbz h_law_spots
  have h_law_lines := ((tD Str (tT2 tStr (tTs tStr))) : Ty K (List (Str × (Str × (List Str))))).sub sbz h_law_lines
  have ts : Sub [b, c] S := fun a m => by have h1 := ts a m; have h2 : a ≠ p_law_sites := (fun e => nt_law_sites (e ▸ m)); simp only [List.mem_cons] at h1 ⊢; grind
  have sub0 : Sub S S := fun a m => by have h1 := sub0 a m; have h2 : a ≠ p_law_sites := (fun e => nb_law_sites (e ▸ m)); simp only [List.mem_cons] at h1 ⊢; grind
  obtain ⟨z, er, hm⟩ := hm
  exact q_ret (T := [b, c]) dm (ev_lst3 (ev_var ts h_law_spots rfl) (ev_var ts h_law_lines rfl) (ev_var ts h_law_sites rfl)) er (fun v H43 s43 hv => q v H43 _ hm (fr0.trans (Fr.same s43)) (hB.same s43) (((tL3 (tD Str (tT2 tRat tRat)) (tD Str (tT2 tStr (tTs tStr))) (tD Str (tT2 tStr tInt))) : Ty K ((List (Str × (Rat × Rat))) × (List (Str × (Str × (List Str)))) × (List (Str × (Str × Int))))).sub (S := S) (H := H43) sub0 hv))
end
end G

namespace G
open PySem L2 M
section
variable {P : Program} {w : World} {K : PySem.W.Frag} {mg : Str → Option Value} {base : Heap}

/-! ### a list that is spoilt -/
def spSpoil : Sp := fun vs H Q _ => ∃ (p : Addr) (xs : List V), vs = [.ref p] ∧ H p = some (.lst xs) ∧ xs.length ≤ 1000 ∧ ∀ ys, Q .non (upd H p (.lst ys))
theorem ok_law_spoil (ev : Env P K mg) : FnOk P w K mg base CX0 1 ev.f_law_spoil ev.d_law_spoil p_law_spoil spSpoil := by
  refine ev.A_law_spoil.F.ok sc_law_spoil (fun vs H Q E h => ?_) (fun cdv A outer s H vs Q E hr h => ?_)
  · obtain ⟨p, xs, rfl, _⟩ := h
    rfl
  obtain ⟨p, xs, rfl, hp, hl, q⟩ := h
  refine ⟨_, pss_cons (ps_if (pt_cmpR op_gt (pe_callB call_len_seq (by rfl) ev.B.len_ PySem.boot_len (pa_cons (pv 0) pa_nil)) pe_int (nomark _))
      (pss_cons (ps_asg (pe_ix ix_list (pv 0) (pe_un un_neg pe_int) (fun _ _ => rfl)) (pg_sub (pv 0) pe_int set_list))
        (pss_one (ps_expr (pe_bm0 PySem.F.plainAttrs_list PySem.F.slot_list_pop PySem.F.type_list_pop mt_pop (pv 0)))))
      pss_nil)
    (pss_one (ps_expr (pe_bm PySem.F.plainAttrs_list PySem.F.slot_list_append PySem.F.type_list_append mt_append (pv 0) (pa_cons pe_non pa_nil)))), ?_⟩
  have uu : ∀ (H1 : Hp) (x y : HO), upd (upd H1 p x) p y = upd H1 p y := fun H1 x y => by
    funext r
    by_cases c : r = p
    · subst c; rw [upd_same, upd_same]
    · rw [upd_ne c, upd_ne c, upd_ne c]
  refine ⟨_, rfl, p, _, rfl, .inl (SqL.of hp), _, _, rfl, rfl, _, rfl, ?_⟩
  refine ite2 (fun z => ?_) (fun z => ?_)
  · have z' : (0 : Int) < ((xs.length : Nat) : Int) := of_decide_eq_true z
    have hx : xs ≠ [] := fun e => by subst e; simp at z'
    obtain ⟨y, hy, _⟩ := last_at hx
    have h0 : ixN xs.length 0 = some 0 := by
      unfold ixN
      rw [if_pos (by decide), if_pos z']
      rfl
    have hl2 : (xs.set 0 y).length = xs.length := List.length_set
    have hp1 : (xs.set 0 y)[(xs.set 0 y).length - 1]? = some ((xs.set 0 y)[(xs.set 0 y).length - 1]'(by rw [hl2]; omega)) := List.getElem?_eq_getElem _
    refine ⟨_, rfl, 1, rfl, p, xs, -1, y, rfl, rfl, SqL.of hp, hy, _, rfl, p, xs, 0, 0, rfl, rfl, hp, h0, ?_⟩
    refine ⟨_, rfl, .inl ⟨rfl, _, SqL.of upd_same⟩, p, _, _, rfl, rfl, upd_same, hp1, ?_⟩
    refine ⟨_, rfl, .inl ⟨rfl, _, SqL.of upd_same⟩, p, _, .non, rfl, rfl, upd_same, Nat.lt_of_le_of_lt (show ((xs.set 0 y).dropLast).length ≤ 1000 by rw [List.length_dropLast, hl2]; omega) (by decide), ?_⟩
    rw [uu, uu]
    exact q _
  · exact ⟨_, rfl, .inl ⟨rfl, _, SqL.of hp⟩, p, xs, .non, rfl, rfl, hp, Nat.lt_of_le_of_lt hl (by decide), q _⟩

end
end G

namespace G
open PySem L2 M
section
variable {P : Program} {w : World} {K : PySem.W.Frag} {mg : Str → Option Value} {base : Heap}

theorem sm_up {α : Type} {a : Ty K α} {k n : Nat} {p : α → Prop} (h : SmOf a k p) (l : k ≤ n) : SmOf a n p := fun h1 h2 hp m hm => h h1 h2 hp m (Nat.le_trans l hm)
def szU {α β : Type} (p : α → Prop) (q : β → Prop) : α ⊕ β → Prop
  | .inl x => p x
  | .inr y => q y
theorem sm_U {α β : Type} {a : Ty K α} {b' : Ty K β} {k n : Nat} {p : α → Prop} {q : β → Prop} (h : SmOf a k p) (h' : SmOf b' n q) : SmOf (tU a b') (max k n) (szU p q) := by
  intro S S' H v w x h1 h2 hp m hm
  cases x with
  | inl y => exact h h1 h2 hp m (Nat.le_trans (Nat.le_max_left ..) hm)
  | inr y => exact h' h1 h2 hp m (Nat.le_trans (Nat.le_max_right ..) hm)
theorem ew_sameL {α : Type} {a : Ty K α} {n : Nat} {p : List α → Prop} {b c q : Addr} {S : AS} {σ : St} {H : Hp} {tb : TE} {E : XK} {wb : Wp (List α)} {ys : List α} {i : Nat} (hs : SmOf (tL a) n p) (o : Own a S H q ys) (nt : q ∉ [b, c]) (hi : σ[i]? = some (some (.ref q))) (hb : EvW b c S tb σ H (of (tL a) S) wb) :
    EvW b c S (tCall (spSame K (n + 1)) [] E (tCons (tVar i) (tCons tb tNil))) σ H (of (K := K) tBool S) (sameW p (lf (some ys)) wb) := fun ts P hP H1 f d hB Q qq => by
  obtain ⟨y, ey, hP⟩ := hP
  cases ey
  refine ⟨_, hi, hb ts _ hP H1 f d hB _ fun w H2 y ⟨e, hp, hy⟩ f2 d2 hB2 hw => ?_⟩
  subst e
  obtain ⟨vs, hvs, hall⟩ := (o.fr f ts nt).fr f2 ts nt
  have rp0 : (tL a).rp [] H2 (.ref q) ys := ⟨q, vs, rfl, ⟨hvs, by simp⟩, hall.imp fun _ _ => a.sub fun _ m => by simp at m⟩
  exact ⟨_, _, rfl, (hs rp0 hw hp n (Nat.le_refl _)).sm, fun H' s => qq _ H' true hy (f2.trans (Fr.same s)) (d2.same s) (hB2.same s) rfl⟩
section
variable {α β γ : Type} {a : Ty K α} {b1 : Ty K β} {c1 : Ty K γ} {S T : AS} {σ : St} {H : Hp} {te : TE}
def ixU0? (x : List α ⊕ (β × γ)) : Option (α ⊕ β) := match x with
  | .inl xs => bd (atI xs 0) fun y => some (.inl y)
  | .inr p => some (.inr p.1)
def ixU1? (x : List α ⊕ (β × γ)) : Option (α ⊕ γ) := match x with
  | .inl xs => bd (atI xs 1) fun y => some (.inl y)
  | .inr p => some (.inr p.2)
theorem ev_ixU0 {r : Option (List α ⊕ (β × γ))} (h : Ev S T te σ H (of (tU (tL a) (tL2 b1 c1)) S) r) : Ev S T (tOp (rIxL K) te (tC (.int 0))) σ H (of (tU a b1) S) (bd r ixU0?) := by
  intro z e H1 f1 d Q q
  obtain ⟨x, ex, e⟩ := bd_some e
  refine h x ex H1 f1 d _ fun v H2 s hv => ?_
  cases x with
  | inl xs =>
    obtain ⟨y, ey, e⟩ := bd_some e
    cases e
    exact od_ixL xs 0 y ey H2 v (.int 0) (d.same s) hv rfl Q fun u H3 s3 hu => q u H3 (s.trans s3) hu
  | inr p =>
    cases e
    obtain ⟨pp, u, w, rfl, hp, h1, h2⟩ := hv
    exact ⟨pp, _, 0, u, rfl, rfl, hp.sq, rfl, q u H2 s h1⟩
theorem ev_ixU1 {r : Option (List α ⊕ (β × γ))} (h : Ev S T te σ H (of (tU (tL a) (tL2 b1 c1)) S) r) : Ev S T (tOp (rIxL K) te (tC (.int 1))) σ H (of (tU a c1) S) (bd r ixU1?) := by
  intro z e H1 f1 d Q q
  obtain ⟨x, ex, e⟩ := bd_some e
  refine h x ex H1 f1 d _ fun v H2 s hv => ?_
  cases x with
  | inl xs =>
    obtain ⟨y, ey, e⟩ := bd_some e
    cases e
    exact od_ixL xs 1 y ey H2 v (.int 1) (d.same s) hv rfl Q fun u H3 s3 hu => q u H3 (s.trans s3) hu
  | inr p =>
    cases e
    obtain ⟨pp, u, w, rfl, hp, h1, h2⟩ := hv
    exact ⟨pp, _, 1, w, rfl, rfl, hp.sq, rfl, q w H2 s h2⟩
def tdB (y : Td) : Option ((Str × Str) ⊕ Rat) := match y with
  | .inl x => some (.inl x)
  | .inr (.inr q) => some (.inr q)
  | _ => none
theorem ev_tdB {r : Option Td} (h : Ev S T te σ H (tdR (K := K) S) r) : Ev S T te σ H (of (K := K) (tU (tT2 tStr tStr) tRat) S) (bd r tdB) := by
  intro z e H1 f1 d Q q
  obtain ⟨x, ex, e⟩ := bd_some e
  refine h x ex H1 f1 d _ fun v H2 s hv => q v H2 s ?_
  match x, e, hv with
  | .inl _, e, hv => cases e; exact hv
  | .inr (.inr _), e, hv => cases e; exact hv
  | .inr (.inl _), e, _ => cases e
def tdM {β : Type} (y : Td) (A : Str × Str → β) (B : List (Rat × Rat) → β) (N : β) : β := match y with
  | .inl x => A x
  | .inr (.inl z) => B z
  | .inr (.inr _) => N
def spo? {α : Type} (xs : List α) : Option Unit := if xs.length ≤ 1000 then some () else none
/-- spoil(x), x an owned list: dead behind it -/
theorem q_spoil {xs : List α} {i : Nat} {p : Addr} {E : XK} {D : Ends} {u : TS} (d : Dom S H) (o : Own a S H p xs) (im : p ∈ S) (hi : σ[i]? = some (some (.ref p))) (e : spo? xs = some ()) (q : ∀ H1, Mut1 p H H1 → Fr S H H1 → u D σ H1) : tSeq (tDrop (tCall spSpoil [] E (tCons (tVar i) tNil))) u D σ H := by
  obtain ⟨vs, hv, ha⟩ := o
  unfold spo? at e
  split at e
  · rename_i hl
    refine ⟨_, hi, p, vs, rfl, hv, by rw [ha.len]; exact hl, fun ys => q _ ⟨fun b ob eb n => by rw [upd_ne n]; exact eb, by rw [upd_same]; intro z; cases z⟩ (fr_upd im)⟩
  · cases e
theorem l_spoil {xs : List α} {i : Nat} {p : Addr} {E : XK} {D : Ends} (d : Dom S H) (o : Own a S H p xs) (im : p ∈ S) (hi : σ[i]? = some (some (.ref p))) (e : spo? xs = some ()) (q : ∀ H1, Mut1 p H H1 → Fr S H H1 → D.nx σ H1) : tDrop (tCall spSpoil [] E (tCons (tVar i) tNil)) D σ H := by
  obtain ⟨vs, hv, ha⟩ := o
  unfold spo? at e
  split at e
  · rename_i hl
    refine ⟨_, hi, p, vs, rfl, hv, by rw [ha.len]; exact hl, fun ys => q _ ⟨fun b ob eb n => by rw [upd_ne n]; exact eb, by rw [upd_same]; intro z; cases z⟩ (fr_upd im)⟩
  · cases e
end

end
end G

namespace G
open PySem L2 M
section
variable {P : Program} {w : World} {K : PySem.W.Frag} {mg : Str → Option Value} {base : Heap}

def m_law (P : Bool → Prop) : Prop :=
  ((callBW (fun a => m_law_ground a.1) (tup2W (lf (some (300 : Int))) (lf (some ())))) fun law_ground_here_1 => (lf (some law_ground_here_1) fun u_2 => (lf (bd (bd (some u_2.1) fun x => bd (bd (some u_2.2.1) fun x => bd (bd (some u_2.2.2) fun x => bd (some ()) fun y => some (x, y)) fun y => some (x, y)) fun y => some (x, y)) fun a => m_Land___init__ a.1 a.2.1 a.2.2.1) fun law_land_3 => ((sameW (szL noSz) (lf (some [("road" : Str), "shore", "border"])) (lf (bd (some ("road" : Str)) fun x => bd (bd (some ("shore" : Str)) fun x => bd (bd (some ("border" : Str)) fun x => bd (some []) fun y => some (x :: y)) fun y => some (x :: y)) fun y => some (x :: y)))) fun law_good_4 => ((lf (bd (some (2 : Int)) rng1?)) fun xs32 => loopW (fun s_5 law_turn_5 K5 => (lf (bd (some law_land_3) fun x => m_Land_known x) fun law_found_6 => ((andW (lf (some s_5)) (sameW (szL noSz) (lf (some law_found_6)) (lf (bd (bd (some law_ground_here_1) fun x => bd (some ()) fun y => some (x, y)) fun a => m_law_known a.1)))) fun law_good_7 => (lf (spo? law_found_6) fun _ => ((lf (bd (bd (some u_2.2.1) ksS?) fun x => bd (bd (some ("q" : Str)) fun x => bd (some []) fun y => some (x :: y)) fun y => cat? x y)) fun xs31 => loopW (fun s_9 law_name_here_9 K9 => (lf (bd (bd (bd (some ("noline" : Str)) fun x => bd (some law_name_here_9) fun y => some (x, y)) fun x => bd (bd (bd (some ("noline" : Str)) fun x => bd (some law_name_here_9) fun y => some (x, y)) fun x => bd (some []) fun y => some (x :: y)) fun y => some (x :: y)) fun x => some (Sum.inl x)) fun law_dues_10 => (jn (fun J11 => (lf (bd (some law_name_here_9) fun k => bd (some u_2.2.1) fun d => some ((getK d k).isSome)) fun c11 => if c11 then (lf (bd (bd (bd (some u_2.2.1) fun d => bd (some law_name_here_9) fun k => getK d k) fun x => some x.2) fun xs => filL? (fun law_mark_12 => (bd (some law_mark_12) fun k => bd (some u_2.1) fun d => some (!(getK d k).isSome))) (fun law_mark_12 => (some law_mark_12)) xs) fun law_gone_13 => (lf (bd (bd (bd (bd (some law_gone_13) fun xs => bd (some none) fun l => bd (bd (some (1 : Int)) fun i => some (some i)) fun h => some (cutD xs l h)) fun x => bd (bd (some law_gone_13) fun xs => bd (some none) fun l => bd (bd (some (1 : Int)) fun i => some (some i)) fun h => some (cutD xs l h)) fun y => cat? x y) fun xs => mapL? (fun law_mark_14 => (bd (some ("loose" : Str)) fun x => bd (some law_mark_14) fun y => some (x, y))) xs) fun x => some (Sum.inl x)) fun law_dues_15 => (jn (fun J16 => (lf (bd (some law_gone_13) fun x => bd (some []) fun y => some (decide (x = y))) fun c16 => if c16 then (lf (bd (bd (some law_ground_here_1) fun x => bd (bd (some law_name_here_9) fun x => bd (some ()) fun y => some (x, y)) fun y => some (x, y)) fun a => m_law_row a.1 a.2.1) fun law_row_here_17 => (lf (bd (bd (some (0 : Int)) fun x => bd (some (1 : Int)) fun y => some (x, y)) p2r) fun law_far_18 => ((lf (bd (some (1 : Int)) fun x => bd (bd (some law_row_here_17) fun x => some (x.length : Int)) fun y => rng2? x y)) fun xs25 => loopW (fun s_19 law_k_19 K19 => ((lf (bd (some (2 : Int)) rng1?)) fun xs23 => loopW (fun s_20 law_here_20 K20 => (lf (bd (bd (bd (bd (some law_row_here_17) fun x => bd (some law_k_19) fun y => atI x y) fun x => bd (some law_here_20) fun y => at2 x y) fun x => bd (bd (bd (bd (some law_row_here_17) fun x => bd (bd (some law_k_19) fun x => bd (some (1 : Int)) fun y => some (x - y)) fun y => atI x y) fun x => bd (some law_here_20) fun y => at2 x y) fun x => bd (some ()) fun y => some (x, y)) fun y => some (x, y)) fun a => m_law_dif a.1 a.2.1) fun law_away_21 => (lf (bd (bd (some s_20) fun x => bd (bd (bd (bd (bd (bd (some law_away_21) fun x => some x.num) fun x => some ((x.natAbs : Nat) : Int)) fun x => bd (bd (some law_away_21) fun x => some (x.den : Int)) fun y => some (x, y)) p2r) fun x => bd (some ()) fun y => some (x, y)) fun y => some (x, y)) fun a => m_law_sum a.1 a.2.1) fun law_far_22 => K20 (Ct.go law_far_22)))) xs23 s_19 fun r_20 => match r_20 with | .ret y => K19 (Ct.ret y) | .go t_20 => K19 (Ct.go t_20) | .brk _ => False)) xs25 law_far_18 fun r_19 => match r_19 with | .ret y => K9 (Ct.ret y) | .go t_19 => (lf (bd (bd (some law_row_here_17) fun x => bd (some t_19) fun y => some (x, y)) fun x => some (Sum.inr x)) fun law_dues_24 => J16 law_dues_24) | .brk _ => False))) else J16 law_dues_15)) fun j26 => J11 j26))) else J11 law_dues_10)) fun j27 => (lf (bd (bd (some law_land_3) fun x => bd (bd (some law_name_here_9) fun x => bd (bd (some (0 : Int)) fun x => bd (some ()) fun y => some (x, y)) fun y => some (x, y)) fun y => some (x, y)) fun a => m_law_told a.1 a.2.1 a.2.2.1) fun y28 => tdM y28 (fun xa28 => ((andW (lf (some s_9)) (andW (sameW (szT2 noSz noSz) (lf (some xa28)) (lf (bd (bd (some j27) ixU0?) getL?))) (sameW (szU (szT2 noSz noSz) noSz) (lf (bd (bd (bd (some law_land_3) fun x => bd (bd (some law_name_here_9) fun x => bd (bd (some (1 : Int)) fun x => bd (some ()) fun y => some (x, y)) fun y => some (x, y)) fun y => some (x, y)) fun a => m_law_told a.1 a.2.1 a.2.2.1) tdB)) (lf (bd (some j27) ixU1?))))) fun law_good_29 => K9 (Ct.go law_good_29))) (fun za28 => ((andW (lf (some s_9)) (andW (sameW (szL (szT2 noSz noSz)) (lf (some za28)) (lf (bd (bd (some j27) ixU0?) getR?))) (sameW (szU (szT2 noSz noSz) noSz) (lf (bd (bd (bd (some law_land_3) fun x => bd (bd (some law_name_here_9) fun x => bd (bd (some (1 : Int)) fun x => bd (some ()) fun y => some (x, y)) fun y => some (x, y)) fun y => some (x, y)) fun a => m_law_told a.1 a.2.1 a.2.2.1) tdB)) (lf (bd (some j27) ixU1?))))) fun law_good_30 => (lf (spo? za28) fun _ => K9 (Ct.go law_good_30)))) False)))) xs31 law_good_7 fun r_9 => match r_9 with | .ret y => K5 (Ct.ret y) | .go t_9 => K5 (Ct.go t_9) | .brk _ => False))))) xs32 law_good_4 fun r_5 => match r_5 with | .ret y => P y | .go t_5 => (lf (some t_5) P) | .brk _ => False)))))
end
end G

namespace G
open PySem L2 M
/-! ### a dict made anew over its rising keys tells the same -/
section
variable {β : Type}
theorem putL_new {acc : List (Str × β)} {k : Str} {y : β} (h : k ∉ acc.map Prod.fst) : putL acc k y = acc ++ [(k, y)] := by
  unfold putL
  rw [if_neg]
  intro c
  obtain ⟨p, hp, e⟩ := List.any_eq_true.mp c
  exact h (List.mem_map.mpr ⟨p, hp, of_decide_eq_true e⟩)
theorem dcO_new {f : Str → Option β} : ∀ (xs : List Str) (acc : List (Str × β)), xs.Nodup → (∀ x ∈ xs, x ∉ acc.map Prod.fst) → (∀ x ∈ xs, ∃ y, f x = some y) → ∃ r, dcO (fun n => some n) f acc xs = some (acc ++ r) ∧ r.map Prod.fst = xs ∧ ∀ p ∈ r, f p.1 = some p.2
  | [], acc, _, _, _ => ⟨[], by simp [dcO], rfl, fun p hp => by simp at hp⟩
  | x :: xs, acc, hn, ha, hf => by
    obtain ⟨y, hy⟩ := hf x List.mem_cons_self
    obtain ⟨n1, n2⟩ := List.nodup_cons.mp hn
    obtain ⟨r, e, h1, h2⟩ := dcO_new xs (putL acc x y) n2 (fun z hz => by
      rw [putL_new (ha x List.mem_cons_self), List.map_append, List.mem_append]
      rintro (c | c)
      · exact ha z (List.mem_cons_of_mem _ hz) c
      · simp only [List.map_cons, List.map_nil, List.mem_singleton] at c
        subst c
        exact n1 hz) (fun z hz => hf z (List.mem_cons_of_mem _ hz))
    refine ⟨(x, y) :: r, ?_, by rw [List.map_cons, h1], fun p hp => ?_⟩
    · show (bd (some x) fun k => bd (f x) fun y => dcO _ f (putL acc k y) xs) = _
      rw [hy]
      show dcO _ f (putL acc x y) xs = _
      rw [e, putL_new (ha x List.mem_cons_self)]
      simp
    · rcases List.mem_cons.mp hp with rfl | hp
      · exact hy
      · exact h2 p hp
theorem getK_none {r : List (Str × β)} {k : Str} (h : k ∉ r.map Prod.fst) : getK r k = none := by
  unfold getK
  rw [Option.map_eq_none_iff, List.find?_eq_none]
  intro p hp c
  exact h (List.mem_map.mpr ⟨p, hp, of_decide_eq_true c⟩)
theorem getK_some {r : List (Str × β)} {k : Str} (h : k ∈ r.map Prod.fst) : ∃ p ∈ r, p.1 = k ∧ getK r k = some p.2 := by
  obtain ⟨p, hp, e⟩ := List.mem_map.mp h
  cases c : r.find? (fun p => decide (p.1 = k)) with
  | none => exact absurd (decide_eq_true e) (by simpa using List.find?_eq_none.mp c p hp)
  | some q =>
    refine ⟨q, List.mem_of_find?_eq_some c, of_decide_eq_true (List.find?_some (p := fun (p : Str × β) => decide (p.1 = k)) c), ?_⟩
    unfold getK
    rw [c]
    rfl
theorem sortS_nd {l : List Str} (h : l.Nodup) : (sortBy ltS l).Nodup := (sortS_perm l).nodup_iff.mpr h
theorem sortS_idem (l : List Str) : sortBy ltS (sortBy ltS l) = sortBy ltS l :=
  (sortS_perm (sortBy ltS l)).eq_of_pairwise (fun _ _ _ _ h1 h2 => leT_anti h1 h2) (sortS_pw _) (sortS_pw _)
theorem init_dict {d : List (Str × β)} (hn : (d.map Prod.fst).Nodup) (hl : d.length < 64) : ∃ d', ((ksS? d).bind fun xs => dcL? (fun n => some n) (fun n => getK d n) xs) = some d' ∧ (∀ k, getK d' k = getK d k) ∧ ksS? d' = ksS? d := by
  have ek : ksS? d = some (sortBy ltS (d.map Prod.fst)) := by unfold ksS?; rw [if_pos hl]
  have hm : ∀ x, x ∈ sortBy ltS (d.map Prod.fst) ↔ x ∈ d.map Prod.fst := fun x => (sortS_perm _).mem_iff
  obtain ⟨r, e, h1, h2⟩ := dcO_new (f := fun n => getK d n) (sortBy ltS (d.map Prod.fst)) [] (sortS_nd hn) (fun x _ => by simp) (fun x hx => by
    obtain ⟨p, _, _, e⟩ := getK_some ((hm x).mp hx)
    exact ⟨_, e⟩)
  have ll : (sortBy ltS (d.map Prod.fst)).length = d.length := by rw [(sortS_perm _).length_eq, List.length_map]
  refine ⟨r, ?_, fun k => ?_, ?_⟩
  · rw [ek, Option.bind_some]
    unfold dcL?
    rw [if_pos (by rw [ll]; omega), e]
    rfl
  · by_cases c : k ∈ d.map Prod.fst
    · obtain ⟨p, hp, rfl, e2⟩ := getK_some (r := r) (k := k) (by rw [h1]; exact (hm k).mpr c)
      rw [e2, ← h2 p hp]
    · rw [getK_none c, getK_none (by rw [h1]; exact fun z => c ((hm k).mp z))]
  · unfold ksS?
    have lr : r.length = d.length := by rw [← ll, ← h1, List.length_map]
    rw [lr, if_pos hl, if_pos hl, h1, sortS_idem]
end
end G

namespace G
open PySem L2 M
/-! ### ratios of bounded size -/
structure Bq (n : Nat) (q : Rat) : Prop where
  o : q.num.natAbs < 2 ^ n
  u : q.den < 2 ^ n
theorem pow_le {a b : Nat} (h : a ≤ b) : (2 : Nat) ^ a ≤ 2 ^ b := Nat.pow_le_pow_right (by decide) h
theorem Bq.le {a b : Nat} {q : Rat} (h : Bq a q) (l : a ≤ b) : Bq b q := ⟨Nat.lt_of_lt_of_le h.o (pow_le l), Nat.lt_of_lt_of_le h.u (pow_le l)⟩
theorem den_ne (q : Rat) : (q.den : Int) ≠ 0 := by have := q.den_nz; omega
theorem den_pos (q : Rat) : (0 : Int) < q.den := by have := q.den_nz; omega
theorem bq_divInt {n : Nat} {o u : Int} (h : u ≠ 0) (ho : o.natAbs < 2 ^ n) (hu : u.natAbs < 2 ^ n) : Bq n (Rat.divInt o u) := by
  have e := rat_rND (o := o) h
  refine ⟨?_, ?_⟩
  · rw [e.1]; exact Nat.lt_of_le_of_lt (rN_le h) ho
  · have := rD_le (o := o) h
    have := rD_pos (o := o) h
    omega
theorem nat_mul_lt {x y : Int} {n m : Nat} (hx : x.natAbs < 2 ^ n) (hy : y.natAbs < 2 ^ m) : (x * y).natAbs < 2 ^ (n + m) := wide_lt hx hy
theorem den_nat (q : Rat) : ((q.den : Int)).natAbs = q.den := by omega
theorem den_lt {n : Nat} {q : Rat} (h : Bq n q) : ((q.den : Int)).natAbs < 2 ^ n := by rw [den_nat]; exact h.u
theorem den_mul_ne (q r : Rat) : (q.den : Int) * (r.den : Int) ≠ 0 := Int.mul_ne_zero (den_ne q) (den_ne r)
theorem add_divInt (q r : Rat) : Rat.divInt (q.num * r.den + r.num * q.den) (q.den * r.den) = q + r := by
  have h := Rat.divInt_add_divInt q.num r.num (den_ne q) (den_ne r)
  rw [Rat.num_divInt_den, Rat.num_divInt_den] at h
  exact h.symm
theorem sub_divInt (q r : Rat) : Rat.divInt (q.num * r.den - r.num * q.den) (q.den * r.den) = q - r := by
  have h := add_divInt q (-r)
  rw [Rat.neg_num, Rat.neg_den] at h
  rw [Rat.sub_eq_add_neg, ← h]
  congr 1
  rw [Int.neg_mul, Int.sub_eq_add_neg]
theorem mul_divInt (q r : Rat) : Rat.divInt (q.num * r.num) (q.den * r.den) = q * r := by
  have h := Rat.divInt_mul_divInt q.num r.num (d₁ := q.den) (d₂ := r.den)
  rw [Rat.num_divInt_den, Rat.num_divInt_den] at h
  exact h.symm
theorem div_divInt (q r : Rat) : Rat.divInt (q.num * r.den) (q.den * r.num) = q / r := by
  rw [Rat.div_def, Rat.inv_def]
  have h := Rat.divInt_mul_divInt q.num (r.den : Int) (d₁ := q.den) (d₂ := r.num)
  rw [Rat.num_divInt_den] at h
  exact h.symm
theorem Bq.add {n m : Nat} {q r : Rat} (h : Bq n q) (h' : Bq m r) : Bq (n + m + 1) (q + r) := by
  rw [← add_divInt]
  have h1 := nat_mul_lt h.o (den_lt h')
  have h2 := nat_mul_lt h'.o (den_lt h)
  have h3 := nat_mul_lt (den_lt h) (den_lt h')
  rw [Nat.add_comm m n] at h2
  refine bq_divInt (den_mul_ne q r) ?_ ?_
  · rw [Nat.pow_succ]; omega
  · rw [Nat.pow_succ]; omega
theorem Bq.sub {n m : Nat} {q r : Rat} (h : Bq n q) (h' : Bq m r) : Bq (n + m + 1) (q - r) := by
  rw [← sub_divInt]
  have h1 := nat_mul_lt h.o (den_lt h')
  have h2 := nat_mul_lt h'.o (den_lt h)
  have h3 := nat_mul_lt (den_lt h) (den_lt h')
  rw [Nat.add_comm m n] at h2
  refine bq_divInt (den_mul_ne q r) ?_ ?_
  · rw [Nat.pow_succ]; omega
  · rw [Nat.pow_succ]; omega
theorem Bq.mul {n m : Nat} {q r : Rat} (h : Bq n q) (h' : Bq m r) : Bq (n + m) (q * r) := by
  rw [← mul_divInt]
  exact bq_divInt (den_mul_ne q r) (nat_mul_lt h.o h'.o) (nat_mul_lt (den_lt h) (den_lt h'))
theorem Bq.div {n m : Nat} {q r : Rat} (h : Bq n q) (h' : Bq m r) (hr : r ≠ 0) : Bq (n + m) (q / r) := by
  rw [← div_divInt]
  have hn : r.num ≠ 0 := by rw [Ne, Rat.num_eq_zero]; exact hr
  exact bq_divInt (Int.mul_ne_zero (den_ne q) hn) (nat_mul_lt h.o (den_lt h')) (nat_mul_lt (den_lt h) h'.o)
theorem mul?_g {x y : Int} {n m : Nat} (hx : x.natAbs < 2 ^ n) (hy : y.natAbs < 2 ^ m) (hl : n + m ≤ 900000) : mul? x y = some (x * y) := by
  unfold mul? mulP
  rw [if_pos]
  refine decide_eq_true ?_
  have lg : ∀ (z k : Nat), z < 2 ^ k → z.log2 ≤ k := fun z k h => by
    by_cases c : z = 0
    · subst c; simp
    · exact Nat.le_of_lt ((Nat.log2_lt c).mpr h)
  have := lg _ _ hx
  have := lg _ _ hy
  omega
theorem ratio?_eq {o u : Int} (h : u ≠ 0) (hu : u.natAbs < 2 ^ 9000) : ratio? o u = some (Rat.divInt o u) := by
  unfold ratio?
  rw [if_pos ⟨h, hu⟩]
theorem lt9g {x y : Int} {n m : Nat} (hx : x.natAbs < 2 ^ n) (hy : y.natAbs < 2 ^ m) (l : n + m ≤ 9000) : (x * y).natAbs < 2 ^ 9000 := Nat.lt_of_lt_of_le (nat_mul_lt hx hy) (pow_le l)
section
variable {q r : Rat} {n m : Nat}
theorem m_plus_g (h : Bq n q) (h' : Bq m r) (l : n + m ≤ 9000) : m_plus q r = some (q + r) := by
  simp only [m_plus, bd, Option.bind_some, mul?_g h.o (den_lt h') (by omega), mul?_g h'.o (den_lt h) (by omega), mul?_g (den_lt h) (den_lt h') (by omega)]
  rw [ratio?_eq (den_mul_ne q r) (lt9g (den_lt h) (den_lt h') l), add_divInt]
end
end G

namespace G
open PySem L2 M
theorem ratio_sp {P : Rat → Prop} (h : ∀ q, Bq 30 q → P q) : m_law_ratio 300 P := by
  simp only [m_law_ratio, callBW, bd, Option.bind_some, lf_some, anyW]
  refine ⟨by simp, by decide, fun low hl => ?_⟩
  have hl' : 1 ≤ low ∧ low ≤ 60 := by
    simp only [List.mem_cons, List.not_mem_nil, or_false] at hl
    omega
  have e20 : (2 : Nat) ^ 20 = 1048576 := by decide
  rw [mul?_g (show (300 : Int).natAbs < 2 ^ 20 by decide) (show low.natAbs < 2 ^ 20 by omega) (by decide), lf_some]
  simp only [unW, tup2W, opW, callBW, bd, Option.bind_some, lf_some]
  rw [mul?_g (show (2 : Int).natAbs < 2 ^ 20 by decide) (show (300 * low).natAbs < 2 ^ 20 by omega) (by decide)]
  simp only [Option.bind_some, lf_some, drawW]
  refine ⟨by omega, by omega, fun r r0 r1 => ?_⟩
  rw [ratio?_eq (by omega) (Nat.lt_of_lt_of_le (show low.natAbs < 2 ^ 20 by omega) (pow_le (by decide))), lf_some]
  have e30 : (2 : Nat) ^ 30 = 1073741824 := by decide
  exact h _ (bq_divInt (by omega) (by omega) (by omega))
theorem spot_sp {P : Rat × Rat → Prop} (h : ∀ q, Bq 30 q.1 → Bq 30 q.2 → P q) : m_law_spot 300 P := by
  simp only [m_law_spot, tup2W, callBW, lf_some]
  exact ratio_sp fun q hq => ratio_sp fun r hr => h (q, r) hq hr
theorem names_sp {n : Int} (n1 : 1 ≤ n) (n2 : n ≤ 20) {P : List Str → Prop} (h : ∀ zs : List Str, zs ≠ [] → zs.length ≤ 20 → (∀ z ∈ zs, lowB z = true) → P zs) : m_law_names n P := by
  unfold m_law_names
  simp only [bd, Option.bind_some, lf_some, rng1_eq (b := n) ⟨by omega, by omega⟩]
  have ll : (rngL 0 n.toNat).length = n.toNat := by simp [rngL]
  refine loopW_ix (fun i (s : List Str) => s.length ≤ i ∧ (0 < i → s ≠ []) ∧ ∀ z ∈ s, lowB z = true) _ 0 [] ⟨Nat.le_refl _, by omega, by simp⟩ (fun k s x C _ hk hs _ hC => ?_) (fun s hs => ?_)
  · intro z hz
    refine jn_of (fun t => t.length ≤ k + 1 ∧ (0 < k + 1 → t ≠ []) ∧ ∀ z ∈ t, lowB z = true) (fun J hJ => ?_) (fun t ht => hC t ht)
    split
    · have ea : app? s z = some (s ++ [z]) := by
        unfold app?
        rw [if_pos]
        omega
      rw [ea, lf_some]
      refine hJ _ ⟨by simp; omega, by simp, fun w hw => ?_⟩
      rcases List.mem_append.mp hw with hw | hw
      · exact hs.2.2 w hw
      · rw [List.mem_singleton.mp hw]; exact hz
    · rename_i c
      refine hJ _ ⟨by omega, fun _ e => ?_, hs.2.2⟩
      subst e
      exact c (by simp [memD])
  · exact h s (hs.2.1 (by omega)) (by have := hs.1; omega) hs.2.2
end G

namespace G
open PySem L2 M
section
variable {β : Type}
theorem mem_putL {xs : List (Str × β)} {k : Str} {x : β} {p : Str × β} (h : p ∈ putL xs k x) : p ∈ xs ∨ p.2 = x := by
  unfold putL at h
  split at h
  · obtain ⟨q, hq, e⟩ := List.mem_map.mp h
    split at e
    · subst e; exact .inr rfl
    · subst e; exact .inl hq
  · rcases List.mem_append.mp h with h | h
    · exact .inl h
    · rw [List.mem_singleton.mp h]; exact .inr rfl
theorem key_putL {xs : List (Str × β)} {k : Str} {x : β} : putL xs k x ≠ [] := by
  unfold putL
  split
  · rename_i c
    intro e
    rw [List.map_eq_nil_iff] at e
    subst e
    simp at c
  · simp
theorem getK_mem {xs : List (Str × β)} {k : Str} {y : β} (h : getK xs k = some y) : ∃ p ∈ xs, p.2 = y := by
  by_cases c : k ∈ xs.map Prod.fst
  · obtain ⟨p, hp, _, e⟩ := getK_some c
    rw [e] at h
    cases h
    exact ⟨p, hp, rfl⟩
  · rw [getK_none c] at h; cases h
theorem put_some {xs : List (Str × β)} {k : Str} {x : β} (h : xs.length ≤ 1000) : putL? xs k x = some (putL xs k x) := by
  unfold putL?
  rw [if_pos (by omega)]
end
/-- spots as they are drawn -/
structure Sp1 (n : Nat) (s : List (Str × (Rat × Rat))) : Prop where
  l : s.length ≤ n
  n : (s.map Prod.fst).Nodup
  b : ∀ p ∈ s, Bq 30 p.2.1 ∧ Bq 30 p.2.2
theorem Sp1.put {n : Nat} {s : List (Str × (Rat × Rat))} {k : Str} {x : Rat × Rat} (h : Sp1 n s) (hx : Bq 30 x.1 ∧ Bq 30 x.2) : Sp1 (n + 1) (putL s k x) :=
  ⟨Nat.le_trans putL_len (by have := h.l; omega), put_nd h.n, fun p hp => by
    rcases mem_putL hp with hp | e
    · exact h.b p hp
    · rw [e]; exact hx⟩
theorem any_key {s : List (Str × (Rat × Rat))} {n : Nat} (h : Sp1 n s) (hn : n < 64) (hs : s ≠ []) {P : Str → Prop} (q : ∀ k v, getK s k = some v → Bq 30 v.1 ∧ Bq 30 v.2 → P k) : lf (ksS? s) fun a => anyW a P := by
  have l64 : s.length < 64 := by have := h.l; omega
  refine ⟨_, by unfold ksS?; rw [if_pos l64], ?_, ?_, fun k hk => ?_⟩
  · intro e
    have := (sortS_perm (s.map Prod.fst)).length_eq
    rw [e, List.length_map] at this
    exact hs (List.length_eq_zero_iff.mp this.symm)
  · rw [(sortS_perm _).length_eq, List.length_map]; omega
  · obtain ⟨p, hp, _, e⟩ := getK_some ((sortS_perm _).mem_iff.mp hk)
    exact q k _ e (h.b p hp)
theorem p2r_int (t : Int) : p2r (t, 1) = some (t : Rat) := by
  have h := p2r_rat (t : Rat)
  simpa using h
theorem bq_int {t : Int} {n : Nat} (hn : 0 < n) (h : t.natAbs < 2 ^ n) : Bq n (t : Rat) := ⟨by simpa using h, by
  show 1 < 2 ^ n
  exact Nat.one_lt_two_pow (by omega)⟩
end G

namespace G
open PySem L2 M
structure Gd (g : (List (Str × (Rat × Rat))) × (List (Str × (Str × (List Str)))) × (List (Str × (Str × Int)))) : Prop where
  a : Sp1 40 g.1
  b1 : (g.2.1.map Prod.fst).Nodup
  b2 : g.2.1.length < 64
  b3 : ∀ p ∈ g.2.1, p.2.2.length ≤ 10 ∧ ∀ z ∈ p.2.2, lowB z = true
  c1 : (g.2.2.map Prod.fst).Nodup
  c2 : g.2.2.length < 64
theorem rlen (n : Int) : (rngL 0 n.toNat).length = n.toNat := by simp [rngL]
theorem lowl : lowB "loose" = true := by decide +kernel
theorem ground_sp {P : ((List (Str × (Rat × Rat))) × (List (Str × (Str × (List Str)))) × (List (Str × (Str × Int)))) → Prop} (h : ∀ g, Gd g → P g) : m_law_ground 300 P := by
  unfold m_law_ground
  simp only [bd, Option.bind_some, lf_some, callBW, tup2W, opW, unW, consW, drawW]
  refine ⟨by decide, by decide, fun r r0 r1 => names_sp (by omega) (by omega) fun zs z0 zl zb => ?_⟩
  refine loopW_ix (fun i s => Sp1 (2 * i) s) _ 0 [] ⟨Nat.le_refl _, by simp, by simp⟩ (fun k s x C _ hk hs _ hC => ?_) (fun s hs => ?_)
  · refine spot_sp fun q q1 q2 => ?_
    have hs1 : Sp1 (2 * k + 1) (putL s x q) := hs.put ⟨q1, q2⟩
    rw [put_some (by have := hs.l; omega), lf_some]
    refine jn_of (fun t => Sp1 (2 * (k + 1)) t) (fun J hJ => ?_) (fun t ht => hC t ht)
    refine ⟨by decide, by decide, fun c _ _ => ?_⟩
    split
    · refine any_key hs1 (by omega) key_putL fun two v ev hv => ?_
      have e : mul? 2 300 = some (2 * 300) := mul?_g (show (2 : Int).natAbs < 2 ^ 20 by decide) (show (300 : Int).natAbs < 2 ^ 20 by decide) (by decide)
      rw [e]
      simp only [Option.bind_some, lf_some]
      refine ⟨by decide, by decide, fun t t0 t1 => ?_⟩
      rw [p2r_int, lf_some, ev]
      simp only [Option.bind_some, lf_some]
      rw [put_some (by have := hs1.l; omega), lf_some]
      exact hJ _ (hs1.put ⟨bq_int (by decide) (by have : (2 : Nat) ^ 30 = 1073741824 := by decide
                                                  omega), hv.2⟩)
    · refine jn_of (fun t => Sp1 (2 * (k + 1)) t) (fun J2 hJ2 => ?_) (fun t ht => hJ t ht)
      refine ⟨by decide, by decide, fun c _ _ => ?_⟩
      split
      · refine any_key hs1 (by omega) key_putL fun two v ev hv => ?_
        rw [ev, lf_some, put_some (by have := hs1.l; omega), lf_some]
        exact hJ2 _ (hs1.put hv)
      · exact hJ2 _ ⟨by have := hs1.l; omega, hs1.n, hs1.b⟩
  · dsimp only
    have hS : Sp1 40 s := ⟨by have := hs.l; omega, hs.n, hs.b⟩
    refine ⟨by decide, by decide, fun n n0 n1 => ?_⟩
    rw [rng1_eq ⟨by omega, by omega⟩, lf_some]
    refine loopW_ix (fun i (s : List (Str × (Str × (List Str)))) => s.length ≤ i ∧ (s.map Prod.fst).Nodup ∧ ∀ p ∈ s, p.2.2.length ≤ 10 ∧ ∀ z ∈ p.2.2, lowB z = true) _ 0 [] ⟨Nat.le_refl _, by simp, by simp⟩ (fun k l x C _ hk hl hx hC => ?_) (fun l hl => ?_)
    · rw [rlen] at hk
      have hx' := rng_mem hx
      rw [cat_eq (by omega)]
      simp only [Option.bind_some]
      rw [cat_eq (by simp; omega), lf_some]
      refine ⟨by simp, by simp; omega, fun m hm => ?_⟩
      have hm' : lowB m = true := by
        simp only [List.mem_append, List.mem_singleton] at hm
        rcases hm with (hm | hm) | hm
        · exact zb m hm
        · exact zb m hm
        · rw [hm]; exact lowl
      refine ⟨by decide, by decide, fun u u0 u1 => ?_⟩
      rw [rng1_eq ⟨by omega, by omega⟩, lf_some]
      refine loopW_ix (fun i (s : List Str) => s ≠ [] ∧ s.length ≤ i + 1 ∧ ∀ z ∈ s, lowB z = true) _ 0 [m] ⟨by simp, by simp, fun z hz => by rw [List.mem_singleton.mp hz]; exact hm'⟩ (fun k2 s2 x2 C2 _ hk2 hs2 _ hC2 => ?_) (fun s2 hs2 => ?_)
      · rw [rlen] at hk2
        refine ⟨z0, by omega, fun w hw => ?_⟩
        refine jn_of (fun t => t ≠ [] ∧ t.length ≤ k2 + 1 + 1 ∧ ∀ z ∈ t, lowB z = true) (fun J hJ => ?_) (fun t ht => hC2 t ht)
        obtain ⟨la, ela, _⟩ := last_at hs2.1
        rw [show (-1 : Int) = -1 from rfl, ela]
        simp only [Option.bind_some, lf_some]
        split
        · have ea : app? s2 w = some (s2 ++ [w]) := by
            unfold app?
            rw [if_pos (by have := hs2.2.1; omega)]
          rw [ea, lf_some]
          refine hJ _ ⟨by simp, by simp; have := hs2.2.1; omega, fun z hz => ?_⟩
          rcases List.mem_append.mp hz with hz | hz
          · exact hs2.2.2 z hz
          · rw [List.mem_singleton.mp hz]; exact zb w hw
        · exact hJ _ ⟨hs2.1, by have := hs2.2.1; omega, hs2.2.2⟩
      · rw [rlen] at hs2
        dsimp only
        refine jn_of (fun (t : List (Str × (Str × (List Str)))) => t.length ≤ k + 1 ∧ (t.map Prod.fst).Nodup ∧ ∀ p ∈ t, p.2.2.length ≤ 10 ∧ ∀ z ∈ p.2.2, lowB z = true) (fun J hJ => ?_) (fun t ht => hC t ht)
        split
        · refine ⟨by simp, by simp, fun kd _ => ?_⟩
          have xk : x = 0 ∨ x = 1 ∨ x = 2 ∨ x = 3 := by omega
          obtain ⟨ch, ec, el⟩ : ∃ z, ixS? "rstu" x = some z ∧ z.length = 1 := by
            rcases xk with rfl | rfl | rfl | rfl <;> exact ⟨_, rfl, rfl⟩
          dsimp only
          rw [ec, lf_some]
          refine ⟨by decide, by decide, fun w w0 w1 => ?_⟩
          have em : mulS? ch (1 + w) = some (Txt.mul ch (1 + w)) := by
            unfold mulS?
            rw [if_pos ⟨by omega, by omega, by omega⟩]
          rw [em, lf_some, put_some (by have := hl.1; omega), lf_some]
          refine hJ _ ⟨Nat.le_trans putL_len (by have := hl.1; omega), put_nd hl.2.1, fun p hp => ?_⟩
          rcases mem_putL hp with hp | e
          · exact hl.2.2 p hp
          · rw [e]; exact ⟨(by have := hs2.2.1; omega : s2.length ≤ 10), hs2.2.2⟩
        · exact hJ _ ⟨by have := hl.1; omega, hl.2⟩
    · rw [rlen] at hl
      dsimp only
      refine ⟨by decide, by decide, fun n2 n20 n21 => ?_⟩
      rw [rng1_eq ⟨by omega, by omega⟩, lf_some]
      refine loopW_ix (fun i (s : List (Str × (Str × Int))) => s.length ≤ i ∧ (s.map Prod.fst).Nodup) _ 0 [] ⟨Nat.le_refl _, by simp⟩ (fun k t x C _ hk ht _ hC => ?_) (fun t ht => ?_)
      · rw [rlen] at hk
        refine ⟨by simp, by simp, fun nm _ => ?_⟩
        dsimp only
        rw [cat_eq (by simp; omega), lf_some]
        refine ⟨by simp, by simp; omega, fun mk _ => ⟨by decide, by decide, fun w w0 w1 => ?_⟩⟩
        rw [put_some (by have := ht.1; omega), lf_some]
        exact hC _ ⟨Nat.le_trans putL_len (by have := ht.1; omega), put_nd ht.2⟩
      · rw [rlen] at ht
        dsimp only
        exact h _ ⟨hS, hl.2.1, (by have := hl.1; omega : l.length < 64), hl.2.2, ht.2, (by have := ht.1; omega : t.length < 64)⟩
end G

namespace G
open PySem L2 M
section
variable {q r : Rat} {n m : Nat}
theorem m_minus_g (h : Bq n q) (h' : Bq m r) (l : n + m ≤ 9000) : m_minus q r = some (q - r) := by
  simp only [m_minus, bd, Option.bind_some, mul?_g h.o (den_lt h') (by omega), mul?_g h'.o (den_lt h) (by omega), mul?_g (den_lt h) (den_lt h') (by omega)]
  rw [ratio?_eq (den_mul_ne q r) (lt9g (den_lt h) (den_lt h') l), sub_divInt]
theorem m_law_sum_g (h : Bq n q) (h' : Bq m r) (l : n + m ≤ 9000) : m_law_sum q r = some (q + r) := m_plus_g h h' l
theorem m_law_dif_g (h : Bq n q) (h' : Bq m r) (l : n + m ≤ 9000) : m_law_dif q r = some (q - r) := m_minus_g h h' l
end
def absR (q : Rat) : Rat := if q < 0 then -q else q
theorem abs_pair (q : Rat) : ((q.num.natAbs : Nat) : Int) = (absR q).num ∧ (q.den : Int) = ((absR q).den : Int) := by
  unfold absR
  split
  · rename_i h
    have : q.num < 0 := by rw [Rat.lt_iff] at h; simpa using h
    rw [Rat.neg_num, Rat.neg_den]
    omega
  · rename_i h
    have : ¬ q.num < 0 := by rw [Rat.lt_iff] at h; simpa using h
    omega
theorem p2r_abs (q : Rat) : p2r (((q.num.natAbs : Nat) : Int), (q.den : Int)) = some (absR q) := by
  rw [(abs_pair q).1, (abs_pair q).2, p2r_rat]
theorem m_size_eq (q : Rat) : m_size q = some (absR q) := by
  simp only [m_size, bd, Option.bind_some, p2r_abs]
theorem absR_b {n : Nat} {q : Rat} (h : Bq n q) : Bq n (absR q) := ⟨by rw [← (abs_pair q).1]; simpa using h.o, by
  have e := (abs_pair q).2
  have := h.u
  omega⟩
/-- the way from one spot to the next -/
def stp (x y : Rat × Rat) : Rat := absR (y.1 - x.1) + absR (y.2 - x.2)
theorem stretch_eq {x y : Rat × Rat} (h1 : Bq 30 x.1) (h2 : Bq 30 x.2) (h3 : Bq 30 y.1) (h4 : Bq 30 y.2) : m_stretch x y = some (stp x y) ∧ Bq 123 (stp x y) := by
  have b1 := absR_b (h3.sub h1)
  have b2 := absR_b (h4.sub h2)
  refine ⟨?_, b1.add b2⟩
  simp only [m_stretch, bd, Option.bind_some, m_minus_g h3 h1 (by decide), m_minus_g h4 h2 (by decide), m_size_eq, m_plus_g b1 b2 (by decide)]
  rfl
end G

namespace G
open PySem L2 M
abbrev Sps : Type := List (Str × (Rat × Rat))
/-- a row of marks, as far as they have spots -/
def walk (sp : Sps) : List Str → List (Rat × Rat) → Rf ⊕ List (Rat × Rat)
  | [], acc => .inr acc
  | m :: r, acc => match getK sp m with
    | none => .inl (1, m)
    | some s => walk sp r (acc ++ [s])
theorem row_none {x : Ld} {nm : Str} (h : getK x.2.1 nm = none) (hr : rfs? nm = some nm) : m_Land_row x nm = some (.inl (0, nm)) := by
  simp only [m_Land_row, bd, Option.bind_some, h, Option.isSome_none, Bool.not_false, if_true, hr]
theorem row_some {x : Ld} {nm : Str} {ln : Str × List Str} (h : getK x.2.1 nm = some ln) (hl : ln.2.length ≤ 10) (hb : ∀ z ∈ ln.2, rfs? z = some z) : m_Land_row x nm = some (walk x.1 ln.2 []) := by
  simp only [m_Land_row, bd, Option.bind_some, h, Option.isSome_some, Bool.not_true, Bool.false_eq_true, if_false]
  have key : ∀ (xs : List Str) (s : List (Rat × Rat)), s.length + xs.length ≤ 1000 → (∀ z ∈ xs, rfs? z = some z) → loopC (ρ := Rf ⊕ (List (Rat × Rat))) (fun s_3 mark_3 => if (!(getK x.1 mark_3).isSome) = true then ((rfs? mark_3).bind fun z => some (Sum.inl (1, z))).bind fun y => some (Ct.ret y) else (getK x.1 mark_3).bind fun a5 => (app? s_3 a5).bind fun told_6 => some (Ct.go told_6)) xs s = some (match walk x.1 xs s with | .inl e => Ct.ret (.inl e) | .inr t => Ct.go t) := by
    intro xs
    induction xs with
    | nil => exact fun s _ _ => rfl
    | cons z r ih =>
      intro s hs hz
      have hz0 := hz z List.mem_cons_self
      cases c : getK x.1 z with
      | none =>
        simp only [loopC, walk, c, bd, Option.isSome_none, Bool.not_false, if_true, hz0, Option.bind_some]
      | some v =>
        have ea : app? s v = some (s ++ [v]) := by
          unfold app?
          rw [if_pos (by simp at hs; omega)]
        simp only [loopC, walk, c, bd, Option.isSome_some, Bool.not_true, Bool.false_eq_true, if_false, Option.bind_some, ea]
        exact ih (s ++ [v]) (by simp at hs ⊢; omega) (fun w hw => hz w (List.mem_cons_of_mem _ hw))
  rw [key ln.2 [] (by simp; omega) hb]
  cases walk x.1 ln.2 [] <;> rfl
/-- what the walk tells by what is gone -/
theorem walk_gone {sp : Sps} : ∀ (ms : List Str) (acc : List (Rat × Rat)), (∀ m ∈ ms, (getK sp m).isSome = true) → ∃ r, mapO (fun m => getK sp m) ms = some r ∧ walk sp ms acc = .inr (acc ++ r)
  | [], acc, _ => ⟨[], rfl, by simp [walk]⟩
  | m :: ms, acc, h => by
    obtain ⟨v, hv⟩ := Option.isSome_iff_exists.mp (h m List.mem_cons_self)
    obtain ⟨r, e1, e2⟩ := walk_gone ms (acc ++ [v]) (fun z hz => h z (List.mem_cons_of_mem _ hz))
    refine ⟨v :: r, ?_, ?_⟩
    · simp only [mapO, bd, hv, Option.bind_some, e1]
    · simp only [walk, hv, e2]
      simp
theorem walk_lost {sp : Sps} : ∀ (ms : List Str) (acc : List (Rat × Rat)) (g : Str) (gs : List Str), ms.filter (fun m => !(getK sp m).isSome) = g :: gs → walk sp ms acc = .inl (1, g)
  | [], acc, g, gs, h => by simp at h
  | m :: ms, acc, g, gs, h => by
    cases c : getK sp m with
    | none =>
      rw [List.filter_cons, if_pos (by simp [c])] at h
      cases h
      simp only [walk, c]
    | some v =>
      rw [List.filter_cons, if_neg (by simp [c])] at h
      simp only [walk, c]
      exact walk_lost ms _ g gs h
end G

namespace G
open PySem L2 M
abbrev Lns : Type := List (Str × (Str × (List Str)))
def pb (sp : Sps) (ls : Lns) (n : Str) : Bool := match getK ls n with
  | some ln => ln.2.all fun m => (getK sp m).isSome
  | none => false
theorem mapO_all {sp : Sps} : ∀ ms : List Str, mapO (fun m => some ((getK sp m).isSome)) ms = some (ms.map fun m => (getK sp m).isSome)
  | [] => rfl
  | m :: ms => by simp only [mapO, bd, Option.bind_some, mapO_all ms, List.map_cons]
theorem pb_m {sp : Sps} {ls : Lns} {n : Str} {ln : Str × List Str} (h : getK ls n = some ln) (hl : ln.2.length ≤ 10) : ((getK ls n).bind fun x => (some x.2).bind fun xs => (mapL? (fun m => some ((getK sp m).isSome)) xs).bind fun x => some (x.all id)) = some (pb sp ls n) := by
  rw [h]
  simp only [Option.bind_some]
  unfold mapL?
  rw [if_pos (by omega), mapO_all, Option.bind_some]
  unfold pb
  rw [h]
  simp [List.all_map, Function.comp_def]
theorem filO_p {α : Type} {f : α → Option Bool} {p : α → Bool} : ∀ xs : List α, (∀ x ∈ xs, f x = some (p x)) → filO (fun x => (f x).bind fun k => if k = true then some (some x) else some none) xs = some (xs.filter p)
  | [], _ => rfl
  | x :: xs, h => by
    have ih := filO_p xs fun y hy => h y (List.mem_cons_of_mem _ hy)
    simp only [filO, bd, h x List.mem_cons_self, Option.bind_some, List.filter_cons]
    cases p x <;> simp [ih]
theorem loopC_p {α ρ : Type} {f : List α → α → Option (Ct ρ (List α))} {p : α → Bool} : ∀ (xs : List α) (s : List α), (∀ s x, x ∈ xs → s.length ≤ 1000 → f s x = some (.go (if p x = true then s ++ [x] else s))) → s.length + xs.length ≤ 1000 → loopC f xs s = some (.go (s ++ xs.filter p))
  | [], s, _, _ => by simp [loopC]
  | x :: xs, s, h, hl => by
    simp only [loopC]
    rw [h s x List.mem_cons_self (by omega), Option.bind_some]
    dsimp only
    have hl' : s.length + (xs.length + 1) ≤ 1000 := hl
    rw [loopC_p xs _ (fun s y hy => h s y (List.mem_cons_of_mem _ hy)) (by split <;> first | omega | (simp; omega)), List.filter_cons]
    cases p x <;> simp
theorem known_eq {x : Ld} {ks : List Str} (hk : ksS? x.2.1 = some ks) (hl : ks.length ≤ 100) (hm : ∀ n ∈ ks, ∃ ln, getK x.2.1 n = some ln ∧ ln.2.length ≤ 10) : m_Land_known x = some (ks.filter (pb x.1 x.2.1)) := by
  simp only [m_Land_known, bd, Option.bind_some, hk]
  unfold filL?
  rw [if_pos (by omega)]
  refine filO_p (p := pb x.1 x.2.1) ks fun n hn => ?_
  obtain ⟨ln, e, l⟩ := hm n hn
  have := pb_m (sp := x.1) e l
  rw [← this]
  simp only [Option.bind_some, e]
theorem lknown_eq {g : Sps × Lns × (List (Str × (Str × Int)))} {ks : List Str} (hk : ksS? g.2.1 = some ks) (hl : ks.length ≤ 100) (hm : ∀ n ∈ ks, ∃ ln, getK g.2.1 n = some ln ∧ ln.2.length ≤ 10) : m_law_known g = some (ks.filter (pb g.1 g.2.1)) := by
  simp only [m_law_known, bd, Option.bind_some, hk]
  rw [loopC_p (p := pb g.1 g.2.1) ks [] (fun s n hn hs => ?_) (by simp; omega)]
  · simp
  · obtain ⟨ln, e, l⟩ := hm n hn
    have := pb_m (sp := g.1) e l
    simp only [e, Option.bind_some] at this ⊢
    rw [this]
    simp only [Option.bind_some]
    cases c : pb g.1 g.2.1 n with
    | false => simp
    | true =>
      have ea : app? s n = some (s ++ [n]) := by
        unfold app?
        rw [if_pos (by omega)]
      simp [ea]
end G

namespace G
open PySem L2 M
theorem rngL_s (lo : Int) (n : Nat) : rngL lo (n + 1) = lo :: rngL (lo + 1) n := by
  unfold rngL
  rw [List.range_succ_eq_map, List.map_cons, List.map_map]
  congr 1
  · simp
  · apply List.map_congr_left
    intro i _
    simp only [Function.comp_apply]
    push_cast
    omega
theorem loopC_T {δ ρ : Type} {f : δ → Int → Option (Ct ρ δ)} {T : Nat → δ} : ∀ (n j : Nat) (lo : Int), (∀ i : Nat, i < n → f (T (j + i)) (lo + i) = some (.go (T (j + i + 1)))) → loopC f (rngL lo n) (T j) = some (.go (T (j + n)))
  | 0, j, lo, _ => by simp [rngL, loopC]
  | n + 1, j, lo, h => by
    rw [rngL_s]
    have h0 := h 0 (by omega)
    simp only [Nat.add_zero, Int.natCast_zero, Int.add_zero] at h0
    simp only [loopC]
    rw [h0, Option.bind_some]
    dsimp only
    rw [loopC_T n (j + 1) (lo + 1) (fun i hi => by
      have := h (i + 1) (by omega)
      rw [show j + 1 + i = j + (i + 1) by omega, show lo + 1 + (i : Int) = lo + ((i + 1 : Nat) : Int) by push_cast; omega]
      exact this), show j + 1 + n = j + (n + 1) by omega]
theorem loopW_T {δ ρ : Type} {f : δ → Int → Wp (Ct ρ δ)} {T : Nat → δ} {P : Ct ρ δ → Prop} : ∀ (n j : Nat) (lo : Int), (∀ i : Nat, i < n → ∀ C : Ct ρ δ → Prop, C (.go (T (j + i + 1))) → f (T (j + i)) (lo + i) C) → P (.go (T (j + n))) → loopW f (rngL lo n) (T j) P
  | 0, j, lo, _, e => e
  | n + 1, j, lo, h, e => by
    rw [rngL_s]
    have h0 := h 0 (by omega)
    simp only [Nat.add_zero, Int.natCast_zero, Int.add_zero] at h0
    unfold loopW
    refine h0 _ ?_
    show loopW f (rngL (lo + 1) n) (T (j + 1)) P
    refine loopW_T n (j + 1) (lo + 1) (fun i hi C hC => ?_) (by rw [show j + 1 + n = j + (n + 1) by omega]; exact e)
    have := h (i + 1) (by omega) C
    rw [show j + 1 + i = j + (i + 1) by omega] at hC ⊢
    rw [show lo + 1 + (i : Int) = lo + ((i + 1 : Nat) : Int) by push_cast; omega]
    exact this hC
def rw' (r : List (Rat × Rat)) (i : Nat) : Rat × Rat := r.getD i (0, 0)
def Tt (r : List (Rat × Rat)) : Nat → Rat
  | 0 => 0
  | i + 1 => Tt r i + stp (rw' r i) (rw' r (i + 1))
theorem at_rw {r : List (Rat × Rat)} {i : Nat} (h : i < r.length) : atI r (i : Int) = some (rw' r i) := by
  rw [atI_nat (xs := r) (j := i) (List.getElem?_eq_getElem h)]
  unfold rw'
  rw [List.getD_eq_getElem?_getD, List.getElem?_eq_getElem h]
  rfl
structure Rw (r : List (Rat × Rat)) : Prop where
  l : r.length ≤ 10
  b : ∀ q ∈ r, Bq 30 q.1 ∧ Bq 30 q.2
theorem Rw.at {r : List (Rat × Rat)} (h : Rw r) {i : Nat} (hi : i < r.length) : Bq 30 (rw' r i).1 ∧ Bq 30 (rw' r i).2 := by
  unfold rw'
  rw [List.getD_eq_getElem?_getD, List.getElem?_eq_getElem hi]
  exact h.b _ (List.getElem_mem hi)
theorem Rw.tb {r : List (Rat × Rat)} (h : Rw r) : ∀ {i : Nat}, i + 1 ≤ r.length ∨ i = 0 → Bq (124 * i + 1) (Tt r i)
  | 0, _ => (show Bq 1 (0 : Rat) from ⟨by decide, by decide⟩)
  | i + 1, hi => by
    have hi' : i + 2 ≤ r.length := by omega
    have t := h.tb (i := i) (.inl (by omega))
    obtain ⟨a1, a2⟩ := h.at (i := i) (by omega)
    obtain ⟨b1, b2⟩ := h.at (i := i + 1) (by omega)
    exact (t.add (stretch_eq a1 a2 b1 b2).2).le (by omega)
theorem length_eq {x : Ld} {nm : Str} {r : List (Rat × Rat)} (h : m_Land_row x nm = some (.inr r)) (hr : Rw r) : m_Land_length x nm = some (.inr (Tt r (r.length - 1))) := by
  have l10 := hr.l
  simp only [m_Land_length, bd, Option.bind_some, h]
  rw [rng2_eq ⟨by decide, by decide⟩ ⟨by omega, by omega⟩, Option.bind_some, show ((r.length : Int) - 1).toNat = r.length - 1 by omega]
  rw [show (0 : Rat) = Tt r 0 from rfl, loopC_T (T := Tt r) (r.length - 1) 0 1 (fun i hi => ?_)]
  · simp
  · rw [show (0 + i : Nat) = i by omega, show (1 + (i : Int) - 1) = (i : Int) by omega, show (1 + (i : Int)) = ((i + 1 : Nat) : Int) by push_cast; omega, at_rw (by omega), at_rw (by omega)]
    obtain ⟨a1, a2⟩ := hr.at (i := i) (by omega)
    obtain ⟨b1, b2⟩ := hr.at (i := i + 1) (by omega)
    obtain ⟨s1, s2⟩ := stretch_eq a1 a2 b1 b2
    simp only [Option.bind_some, s1, m_plus_g (hr.tb (i := i) (.inl (by omega))) s2 (by omega)]
    rfl
end G

namespace G
open PySem L2 M
theorem low_rfs {z : Str} (h : lowB z = true) : rfs? z = some z := by
  have hl := lowB_all h
  have e := PySem.StrLaws.reprText_len z fun c hm => by
    have := (hl.2 c hm).2
    omega
  unfold rfs?
  rw [if_pos]
  have : z.length = z.cps.toList.length := rfl
  omega
theorem low_sok {z : Str} (h : lowB z = true) : sok? z = some z := by
  unfold sok?
  rw [if_pos (low_ok h)]
theorem q_low : lowB "q" = true := by decide +kernel
/-- the law's own sum of the ways -/
theorem far_sp {r : List (Rat × Rat)} (hr : Rw r) {ρ : Type} {P : Ct ρ Rat → Prop} (h : P (.go (Tt r (r.length - 1)))) :
    loopW (fun (s_19 : Rat) (law_k_19 : Int) (K19 : Ct ρ Rat → Prop) => loopW (fun (s_20 : Rat) (law_here_20 : Int) (K20 : Ct ρ Rat → Prop) => lf (((atI r law_k_19).bind fun x => at2 x law_here_20).bind fun x => (((atI r (law_k_19 - 1)).bind fun x => at2 x law_here_20).bind fun x => some (x, ())).bind fun y => m_law_dif x y.1) fun law_away_21 => lf ((p2r (((law_away_21.num.natAbs : Nat) : Int), (law_away_21.den : Int))).bind fun x => m_law_sum s_20 x) fun law_far_22 => K20 (Ct.go law_far_22)) (rngL 0 2) s_19 fun r_20 => match r_20 with | .ret y => K19 (Ct.ret y) | .go t_20 => K19 (Ct.go t_20) | .brk _ => False) (rngL 1 (r.length - 1)) (Tt r 0) P := by
  have l10 := hr.l
  refine loopW_T (T := Tt r) (r.length - 1) 0 1 (fun i hi C hC => ?_) (by simpa using h)
  rw [show (0 + i : Nat) = i by omega] at hC ⊢
  obtain ⟨a1, a2⟩ := hr.at (i := i) (by omega)
  obtain ⟨b1, b2⟩ := hr.at (i := i + 1) (by omega)
  have tb := hr.tb (i := i) (.inl (by omega))
  have c1 := absR_b (b1.sub a1)
  have c2 := absR_b (b2.sub a2)
  rw [show (1 + (i : Int) - 1) = (i : Int) by omega, show (1 + (i : Int)) = ((i + 1 : Nat) : Int) by push_cast; omega, at_rw (by omega), at_rw (by omega)]
  have r2 : rngL 0 2 = [0, 1] := rfl
  have h0 : ∀ x : Rat × Rat, at2 x 0 = some x.1 := fun x => rfl
  have h1 : ∀ x : Rat × Rat, at2 x 1 = some x.2 := fun x => rfl
  simp only [r2, loopW, Option.bind_some, h0, h1, m_law_dif_g b1 a1 (show 30 + 30 ≤ 9000 by decide), m_law_dif_g b2 a2 (show 30 + 30 ≤ 9000 by decide), lf_some, p2r_abs]
  rw [m_law_sum_g tb c1 (by omega), lf_some, m_law_sum_g (tb.add c1) c2 (by omega), lf_some]
  have e : Tt r i + absR ((rw' r (i + 1)).1 - (rw' r i).1) + absR ((rw' r (i + 1)).2 - (rw' r i).2) = Tt r (i + 1) := by
    show _ = Tt r i + (absR _ + absR _)
    rw [Rat.add_assoc]
  rw [e]
  exact hC
end G

namespace G
open PySem L2 M
/-- the law's own sum of the ways, as the law has it -/
theorem far_sp2 {r : List (Rat × Rat)} (hr : Rw r) {ρ : Type} {P : Ct ρ Rat → Prop} (h : P (.go (Tt r (r.length - 1)))) :
    loopW (fun (s_19 : Rat) (law_k_19 : Int) (K19 : Ct ρ Rat → Prop) => loopW (fun (s_20 : Rat) (law_here_20 : Int) (K20 : Ct ρ Rat → Prop) => lf ((((atI r law_k_19).bind fun x => at2 x law_here_20).bind fun x => (((atI r (law_k_19 - 1)).bind fun x => at2 x law_here_20).bind fun x => some (x, ())).bind fun y => some (x, y)).bind fun a => m_law_dif a.1 a.2.1) fun law_away_21 => lf ((((p2r (((law_away_21.num.natAbs : Nat) : Int), (law_away_21.den : Int))).bind fun x => some (x, ())).bind fun y => some (s_20, y)).bind fun a => m_law_sum a.1 a.2.1) fun law_far_22 => K20 (Ct.go law_far_22)) (rngL 0 (Int.toNat 2)) s_19 fun r_20 => match r_20 with | .ret y => K19 (Ct.ret y) | .go t_20 => K19 (Ct.go t_20) | .brk _ => False) (rngL 1 (r.length - 1)) (Tt r 0) P := by
  have l10 := hr.l
  refine loopW_T (T := Tt r) (r.length - 1) 0 1 (fun i hi C hC => ?_) (by simpa using h)
  rw [show (0 + i : Nat) = i by omega] at hC ⊢
  obtain ⟨a1, a2⟩ := hr.at (i := i) (by omega)
  obtain ⟨b1, b2⟩ := hr.at (i := i + 1) (by omega)
  have tb := hr.tb (i := i) (.inl (by omega))
  have c1 := absR_b (b1.sub a1)
  have c2 := absR_b (b2.sub a2)
  rw [show (1 + (i : Int) - 1) = (i : Int) by omega, show (1 + (i : Int)) = ((i + 1 : Nat) : Int) by push_cast; omega, at_rw (by omega), at_rw (by omega)]
  have r2 : rngL 0 (Int.toNat 2) = [0, 1] := rfl
  have h0 : ∀ x : Rat × Rat, at2 x 0 = some x.1 := fun x => rfl
  have h1 : ∀ x : Rat × Rat, at2 x 1 = some x.2 := fun x => rfl
  simp only [r2, lf_some, loopW, Option.bind_some, h0, h1, m_law_dif_g b1 a1 (show 30 + 30 ≤ 9000 by decide), m_law_dif_g b2 a2 (show 30 + 30 ≤ 9000 by decide), lf_some, p2r_abs]
  rw [m_law_sum_g tb c1 (by omega), lf_some, m_law_sum_g (tb.add c1) c2 (by omega), lf_some]
  have e : Tt r i + absR ((rw' r (i + 1)).1 - (rw' r i).1) + absR ((rw' r (i + 1)).2 - (rw' r i).2) = Tt r (i + 1) := by
    show _ = Tt r i + (absR _ + absR _)
    rw [Rat.add_assoc]
  rw [e]
  exact hC
theorem mapO_mem {α β : Type} {f : α → Option β} : ∀ {ms : List α} {r : List β}, mapO f ms = some r → r.length = ms.length ∧ ∀ q ∈ r, ∃ m ∈ ms, f m = some q
  | [], r, h => by cases h; exact ⟨rfl, fun q hq => by simp at hq⟩
  | m :: ms, r, h => by
    obtain ⟨y, hy, h⟩ := bd_some h
    obtain ⟨ys, hs, h⟩ := bd_some h
    cases h
    obtain ⟨i1, i2⟩ := mapO_mem hs
    refine ⟨by simp [i1], fun q hq => ?_⟩
    rcases List.mem_cons.mp hq with rfl | hq
    · exact ⟨m, List.mem_cons_self, hy⟩
    · obtain ⟨z, hz, e⟩ := i2 q hq
      exact ⟨z, List.mem_cons_of_mem _ hz, e⟩
theorem law_math : m_law (fun z => z = true) := by
  unfold m_law
  simp only [bd, Option.bind_some, lf_some, callBW, tup2W, andW, sameW]
  refine ground_sp fun g hg => ?_
  obtain ⟨d0, e0, g0, k0⟩ := init_dict hg.a.n (by have := hg.a.l; omega)
  obtain ⟨d1, e1, g1, k1⟩ := init_dict hg.b1 hg.b2
  obtain ⟨d2, e2, _, _⟩ := init_dict hg.c1 hg.c2
  have ei : m_Land___init__ g.1 g.2.1 g.2.2 = some (d0, d1, d2, ()) := by
    simp only [m_Land___init__, bd, Option.bind_some, e0, e1, e2]
  rw [ei, lf_some]
  refine ⟨trivial, ⟨by decide, fun _ _ => trivial⟩, ?_⟩
  rw [rng1_eq ⟨by decide, by decide⟩, lf_some]
  refine loopW_all (fun z => z = true) _ _ rfl (fun s x C hs _ hC => ?_) (fun t ht => ht)
  subst hs
  have ek : ksS? g.2.1 = some (sortBy ltS (g.2.1.map Prod.fst)) := by unfold ksS?; rw [if_pos hg.b2]
  generalize hks : sortBy ltS (g.2.1.map Prod.fst) = ks at ek
  have kl : ks.length ≤ 64 := by
    rw [← hks, (sortS_perm _).length_eq, List.length_map]
    have := hg.b2
    omega
  have hm : ∀ n ∈ ks, ∃ ln, getK g.2.1 n = some ln ∧ ln.2.length ≤ 10 ∧ ∀ z ∈ ln.2, lowB z = true := fun n hn => by
    rw [← hks] at hn
    obtain ⟨p, hp, _, e⟩ := getK_some ((sortS_perm _).mem_iff.mp hn)
    exact ⟨p.2, e, hg.b3 p hp⟩
  have hp : pb d0 d1 = pb g.1 g.2.1 := by
    funext n
    unfold pb
    simp only [g0, g1]
  have ka := known_eq (x := (d0, d1, d2, ())) (k1.trans ek) (by omega) (fun n hn => by
    obtain ⟨ln, e, l, _⟩ := hm n hn
    exact ⟨ln, (g1 n).trans e, l⟩)
  have kb := lknown_eq (g := g) ek (by omega) (fun n hn => by
    obtain ⟨ln, e, l, _⟩ := hm n hn
    exact ⟨ln, e, l⟩)
  rw [ka, lf_some]
  dsimp only
  simp only [if_true]
  rw [kb, lf_some, hp]
  have fl : (ks.filter (pb g.1 g.2.1)).length ≤ 64 := Nat.le_trans (List.length_filter_le ..) kl
  refine ⟨rfl, ⟨by omega, fun _ _ => trivial⟩, ?_⟩
  refine ⟨(), by unfold spo?; rw [if_pos (by omega)], ?_⟩
  rw [ek]
  simp only [Option.bind_some]
  rw [cat_eq (by simp; omega), lf_some]
  refine loopW_all (fun z => z = true) _ _ rfl (fun s nm C2 hs hn hC2 => ?_) (fun t ht => hC t ht)
  subst hs
  have tl : ∀ (e : Rf) (dr : Int), lowB e.2 = true → m_Land_row (d0, d1, d2, ()) nm = some (.inl e) → m_law_told (d0, d1, d2, ()) nm dr = some (.inl (word e.1, e.2)) := by
    intro e dr le he
    unfold m_law_told
    have hl : m_Land_length (d0, d1, d2, ()) nm = some (.inl e) := by simp only [m_Land_length, bd, Option.bind_some, he]
    split
    · simp only [he, bd, Option.bind_some, low_sok le]
    · simp only [hl, bd, Option.bind_some, low_sok le]
  cases cn : getK g.2.1 nm with
  | none =>
    have nq : nm = "q" := by
      rcases List.mem_append.mp hn with h | h
      · obtain ⟨ln, e, _⟩ := hm nm h
        rw [cn] at e
        cases e
      · exact List.mem_singleton.mp h
    have lq : lowB nm = true := by rw [nq]; exact q_low
    have rn := row_none (x := (d0, d1, d2, ())) ((g1 nm).trans cn) (low_rfs lq)
    have t0 := tl (0, nm) 0 lq rn
    have t1 := tl (0, nm) 1 lq rn
    refine jn_of (fun d => d = .inl [("noline", nm), ("noline", nm)]) (fun J hJ => ?_) (fun j27 hj => ?_)
    · simp only [Option.isSome_none, Bool.false_eq_true, if_false]
      exact hJ _ rfl
    · subst hj
      rw [t0, lf_some]
      show lf _ _
      refine ⟨("noline", nm), rfl, rfl, ⟨trivial, trivial⟩, ?_⟩
      rw [t1]
      exact ⟨.inl ("noline", nm), rfl, .inl ("noline", nm), rfl, rfl, ⟨trivial, trivial⟩, hC2 _ rfl⟩
  | some ln =>
    obtain ⟨lp, lpm, le⟩ := getK_mem cn
    obtain ⟨l10, lz⟩ := hg.b3 lp lpm
    rw [le] at l10 lz
    have rs := row_some (x := (d0, d1, d2, ())) ((g1 nm).trans cn) l10 (fun z hz => low_rfs (lz z hz))
    have wk : walk d0 ln.2 [] = walk g.1 ln.2 [] := by
      have : ∀ (ms : List Str) (acc : List (Rat × Rat)), walk d0 ms acc = walk g.1 ms acc := by
        intro ms
        induction ms with
        | nil => exact fun _ => rfl
        | cons m ms ih =>
          intro acc
          simp only [walk, g0]
          cases getK g.1 m <;> simp [ih]
      exact this _ _
    have fg : filL? (fun k => some !(getK g.1 k).isSome) (fun m => some m) ln.2 = some (ln.2.filter fun k => !(getK g.1 k).isSome) := fil_gen (by omega) fun x _ => rfl
    simp only [Option.isSome_some, if_true, Option.bind_some, fg, lf_some]
    cases gn : ln.2.filter fun k => !(getK g.1 k).isSome with
    | cons a gs =>
      have ga : a ∈ ln.2 := (List.mem_filter.mp (by rw [gn]; exact List.mem_cons_self : a ∈ ln.2.filter fun k => !(getK g.1 k).isSome)).1
      have ra := rs.trans (by rw [show ((d0, d1, d2, ()) : Ld).1 = d0 from rfl, wk, walk_lost ln.2 [] a gs gn])
      have t0 := tl (1, a) 0 (lz a ga) ra
      have t1 := tl (1, a) 1 (lz a ga) ra
      have ct : cutD (a :: gs) none (some 1) = [a] := by
        simp [cutD, HT.sIx]
      refine jn_of (fun d => d = .inl [("loose", a), ("loose", a)]) (fun J hJ => ?_) (fun j27 hj => ?_)
      · rw [ct, cat_eq (by simp)]
        simp only [Option.bind_some]
        rw [mapL_eq (g := fun m => (("loose" : Str), m)) (by simp) (fun x _ => rfl)]
        simp only [Option.bind_some, lf_some]
        refine jn_of (fun d => d = .inl [("loose", a), ("loose", a)]) (fun J2 hJ2 => ?_) (fun d hd => hJ d hd)
        rw [if_neg (by simp)]
        exact hJ2 _ rfl
      · subst hj
        rw [t0, lf_some]
        show lf _ _
        refine ⟨("loose", a), rfl, rfl, ⟨trivial, trivial⟩, ?_⟩
        rw [t1]
        exact ⟨.inl ("loose", a), rfl, .inl ("loose", a), rfl, rfl, ⟨trivial, trivial⟩, hC2 _ rfl⟩
    | nil =>
      have al : ∀ m ∈ ln.2, (getK g.1 m).isSome = true := fun m h => by
        cases c : getK g.1 m with
        | some v => rfl
        | none =>
          have : m ∈ ln.2.filter fun k => !(getK g.1 k).isSome := List.mem_filter.mpr ⟨h, by simp [c]⟩
          rw [gn] at this
          simp at this
      obtain ⟨r, er, ew⟩ := walk_gone ln.2 [] al
      obtain ⟨m1, m2⟩ := mapO_mem er
      have hr : Rw r := ⟨by omega, fun q hq => by
        obtain ⟨m, _, e⟩ := m2 q hq
        obtain ⟨p, hp, rfl⟩ := getK_mem e
        exact hg.a.b p hp⟩
      have hl := hr.l
      have ra : m_Land_row (d0, d1, d2, ()) nm = some (.inr r) := rs.trans (by rw [show ((d0, d1, d2, ()) : Ld).1 = d0 from rfl, wk, ew]; simp)
      have rr : m_law_row g nm = some r := by
        simp only [m_law_row, bd, Option.bind_some, cn]
        unfold mapL?
        rw [if_pos (by omega)]
        exact er
      have le := length_eq ra hr
      have t0 : m_law_told (d0, d1, d2, ()) nm 0 = some (.inr (.inl r)) := by
        unfold m_law_told
        rw [if_pos rfl]
        simp only [ra, bd, Option.bind_some]
      have t1 : m_law_told (d0, d1, d2, ()) nm 1 = some (.inr (.inr (Tt r (r.length - 1)))) := by
        unfold m_law_told
        rw [if_neg (by decide)]
        simp only [le, bd, Option.bind_some]
      have ct : cutD ([] : List Str) none (some 1) = [] := by simp [cutD]
      refine jn_of (fun d => d = .inr (r, Tt r (r.length - 1))) (fun J hJ => ?_) (fun j27 hj => ?_)
      · rw [ct, cat_eq (by simp)]
        simp only [Option.bind_some]
        rw [mapL_eq (g := fun m => (("loose" : Str), m)) (by simp) (fun x _ => rfl)]
        simp only [Option.bind_some, lf_some]
        refine jn_of (fun d => d = .inr (r, Tt r (r.length - 1))) (fun J2 hJ2 => ?_) (fun d hd => hJ d hd)
        rw [if_pos (by simp), rr, lf_some, p2r_int, lf_some, rng2_eq ⟨by decide, by decide⟩ ⟨by omega, by omega⟩, lf_some, show ((r.length : Int) - 1).toNat = r.length - 1 by omega]
        rw [show ((0 : Int) : Rat) = Tt r 0 from rfl]
        refine far_sp2 hr ?_
        exact hJ2 _ rfl
      · subst hj
        rw [t0, lf_some]
        show lf _ _
        refine ⟨r, rfl, rfl, ⟨by omega, fun _ _ => ⟨trivial, trivial⟩⟩, ?_⟩
        rw [t1]
        exact ⟨.inr (Tt r (r.length - 1)), rfl, .inr (Tt r (r.length - 1)), rfl, rfl, trivial, (), by unfold spo?; rw [if_pos (by omega)], hC2 _ rfl⟩
end G

namespace G
open PySem L2 M
section
variable {P : Program} {w : World} {K : PySem.W.Frag} {mg : Str → Option Value} {base : Heap}

def spLaw (K : PySem.W.Frag) : Sp := fun vs H Q _ => ∃ (a : Addr) (ns : List Int), vs = [.ref a] ∧ SqL K H a (ns.map V.int) ∧ ns.length ≤ 63 ∧ ∀ H', Q (.bl true) H'
theorem ok_law (ev : Env P K mg) : FnOk P w K mg base CX0 12 ev.f_law ev.d_law p_law (spLaw K) := by
  refine ev.A_law.F.ok sc_law (fun vs H Q E h => ?_) (fun cdv A outer s Hs vs Q E hr h => ?_)
  · obtain ⟨a, ns, rfl, _⟩ := h
    rfl
  obtain ⟨a0, ns, rfl, hS, hl, qq⟩ := h
  have hm := law_math
  refine ⟨_, (pss_cons (ps_set (i := 1) sc_law.nd rfl (Or.inl rfl) (pe_call (ok_law_bag ev) (hr.mono (by decide)) (by rfl) ev.A_law_bag.m ev.A_law_bag.F.kp ev.A_law_bag.b .nil pass0 (pa_cons (pv 0) pa_nil)))
    (pss_cons (ps_set (i := 2) sc_law.nd rfl (Or.inl rfl) (pe_call (ok_law_ground ev) (hr.mono (by decide)) (by rfl) ev.A_law_ground.m ev.A_law_ground.F.kp ev.A_law_ground.b .nil pass0 (pa_cons (pv 1) (pa_cons pe_int pa_nil))))
    (pss_cons (ps_asg (pv 2) (pg_lst rfl (pgs_cons (pg_name (i := 3) sc_law.nd rfl (Or.inr rfl)) (pgs_cons (pg_name (i := 4) sc_law.nd rfl (Or.inl rfl)) (pgs_cons (pg_name (i := 5) sc_law.nd rfl (Or.inl rfl)) pgs_nil)))))
    (pss_cons (ps_set (i := 6) sc_law.nd rfl (Or.inl rfl) (pe_make ev.M_Land (ok_Land___init__ ev) (hr.mono (by decide)) (by rfl) ev.g_Land ev.A_Land___init__.b .nil pass0 (pa_cons (pv 3) (pa_cons (pv 4) (pa_cons (pv 5) pa_nil)))))
    (pss_cons (ps_set (i := 7) sc_law.nd rfl (Or.inl rfl) (pe_call (ok_same ev 5) (hr.mono (by decide)) (by rfl) ev.A_law_same.m ev.A_law_same.F.kp ev.A_law_same.b .nil pass0 (pa_cons (pe_glob (v := .ref ev.a_KINDS) (by rfl) ev.c_KINDS rfl) (pa_cons (pe_tup (pa_cons pe_str (pa_cons pe_str (pa_cons pe_str pa_nil)))) pa_nil))))
    (pss_cons (ps_for PassesOwn.never rfl (pi_range1 rfl ev.B.range_ (pa_cons pe_int pa_nil)) (pg_name (i := 8) sc_law.nd rfl (Or.inl rfl))
    (pss_cons (ps_set (i := 9) sc_law.nd rfl (Or.inl rfl) (pe_meth0 (pv 6) ev.cl_Land ev.A_Land_known.me (ok_Land_known ev) (hr.mono (by decide)) ev.A_Land_known.b .nil pass0))
    (pss_cons (ps_set (i := 7) sc_law.nd rfl (Or.inl rfl) (pe_and (pv 7) (pe_one (pe_call (ok_same ev 5) (hr.mono (by decide)) (by rfl) ev.A_law_same.m ev.A_law_same.F.kp ev.A_law_same.b .nil pass0 (pa_cons (pv 9) (pa_cons (pe_call (ok_law_known ev) (hr.mono (by decide)) (by rfl) ev.A_law_known.m ev.A_law_known.F.kp ev.A_law_known.b .nil pass0 (pa_cons (pv 2) pa_nil)) pa_nil))))))
    (pss_cons (ps_expr (pe_call (ok_law_spoil ev) (hr.mono (by decide)) (by rfl) ev.A_law_spoil.m ev.A_law_spoil.F.kp ev.A_law_spoil.b .nil pass0 (pa_cons (pv 9) pa_nil)))
    (pss_one (ps_for PassesOwn.never rfl (pi_list (pe_op op_cat (pe_callB (cr_srtD rfl) (by rfl) ev.B.sorted_ (by decide +kernel) (pa_cons (pv 4) pa_nil)) (pe_lst (pa_cons pe_str pa_nil)))) (pg_name (i := 10) sc_law.nd rfl (Or.inl rfl))
    (pss_cons (ps_set (i := 11) sc_law.nd rfl (Or.inl rfl) (pe_lst (pa_cons (pe_tup (pa_cons pe_str (pa_cons (pv 10) pa_nil))) (pa_cons (pe_tup (pa_cons pe_str (pa_cons (pv 10) pa_nil))) pa_nil))))
    (pss_cons (ps_if (pt_cmp (pc_din (hu_of hr) (pv 10) (pv 4)))
    (pss_cons (ps_setLc (i := 12) (own := [("_law_mark", 18)]) (g := gName 18) (by rfl) sc_law.nd rfl rfl (sw_true rfl rfl rfl (by decide +kernel)) (pi_tup (pe_ix ix_tup (pe_dget (hu_of hr) (pv 4) (pv 10) (fun _ _ => rfl)) pe_int (fun _ _ => rfl))) (blkOk_by (own := [("_law_mark", 18)]) (N := n_law) (sc := defScope s_law) (by decide +kernel)) (fun _ _ _ _ _ => pg_name (i := 18) sc_law.nd rfl (Or.inl rfl)) (fun _ _ _ _ _ => (pts_one (pt_cmp (pc_dnotin (hu_of hr) (pv 18) (pv 3))))) (fun _ _ _ _ _ => (pv 18)))
    (pss_cons (ps_setLc (i := 11) (own := [("_law_mark", 18)]) (g := gName 18) (tt := tYes) (by rfl) sc_law.nd rfl rfl (sw_true rfl rfl rfl (by decide +kernel)) (pi_list (pe_op op_cat (pe_slice sl_list (pv 12) po_none (po_some pe_int)) (pe_slice sl_list (pv 12) po_none (po_some pe_int)))) (blkOk_by (own := [("_law_mark", 18)]) (N := n_law) (sc := defScope s_law) (by decide +kernel)) (fun _ _ _ _ _ => pg_name (i := 18) sc_law.nd rfl (Or.inl rfl)) (fun _ _ _ _ _ => pts_nil) (fun _ _ _ _ _ => (pe_tup (pa_cons pe_str (pa_cons (pv 18) pa_nil)))))
    (pss_one (ps_if (pt_cmpR (op_eqD hr.units) (pv 12) (pe_lst pa_nil) (nomark _))
    (pss_cons (ps_set (i := 13) sc_law.nd rfl (Or.inl rfl) (pe_call (ok_law_row ev) (hr.mono (by decide)) (by rfl) ev.A_law_row.m ev.A_law_row.F.kp ev.A_law_row.b .nil pass0 (pa_cons (pv 2) (pa_cons (pv 10) pa_nil))))
    (pss_cons (ps_set (i := 14) sc_law.nd rfl (Or.inl rfl) (pe_tup (pa_cons pe_int (pa_cons pe_int pa_nil))))
    (pss_cons (ps_for PassesOwn.never rfl (pi_range2 rfl ev.B.range_ (pa_cons pe_int (pa_cons (pe_callB call_len_seq (by rfl) ev.B.len_ PySem.boot_len (pa_cons (pv 13) pa_nil)) pa_nil))) (pg_name (i := 15) sc_law.nd rfl (Or.inl rfl))
    (pss_one (ps_for PassesOwn.never rfl (pi_range1 rfl ev.B.range_ (pa_cons pe_int pa_nil)) (pg_name (i := 16) sc_law.nd rfl (Or.inl rfl))
    (pss_cons (ps_set (i := 17) sc_law.nd rfl (Or.inl rfl) (pe_call (ok_law_dif ev) (hr.mono (by decide)) (by rfl) ev.A_law_dif.m ev.A_law_dif.F.kp ev.A_law_dif.b .nil pass0 (pa_cons (pe_ix ix_tup (pe_ix ix_list (pv 13) (pv 15) (fun _ _ => rfl)) (pv 16) (fun _ _ => rfl)) (pa_cons (pe_ix ix_tup (pe_ix ix_list (pv 13) (pe_op op_sub (pv 15) pe_int) (fun _ _ => rfl)) (pv 16) (fun _ _ => rfl)) pa_nil))))
    (pss_one (ps_set (i := 14) sc_law.nd rfl (Or.inl rfl) (pe_call (ok_law_sum ev) (hr.mono (by decide)) (by rfl) ev.A_law_sum.m ev.A_law_sum.F.kp ev.A_law_sum.b .nil pass0 (pa_cons (pv 14) (pa_cons (pe_tup (pa_cons (pe_callB call_abs (by rfl) ev.B.abs_ (by decide +kernel) (pa_cons (pe_ix ix_tup (pv 17) pe_int (fun _ _ => rfl)) pa_nil)) (pa_cons (pe_ix ix_tup (pv 17) pe_int (fun _ _ => rfl)) pa_nil))) pa_nil)))))))))
    (pss_one (ps_set (i := 11) sc_law.nd rfl (Or.inl rfl) (pe_lst (pa_cons (pv 13) (pa_cons (pv 14) pa_nil)))))))) pss_nil)))) pss_nil)
    (pss_cons (ps_set (i := 9) sc_law.nd rfl (Or.inl rfl) (pe_call (ok_law_told ev) (hr.mono (by decide)) (by rfl) ev.A_law_told.m ev.A_law_told.F.kp ev.A_law_told.b .nil pass0 (pa_cons (pv 6) (pa_cons (pv 10) (pa_cons pe_int pa_nil)))))
    (pss_cons (ps_set (i := 7) sc_law.nd rfl (Or.inl rfl) (pe_and (pv 7) (pe_and (pe_call (ok_same ev 5) (hr.mono (by decide)) (by rfl) ev.A_law_same.m ev.A_law_same.F.kp ev.A_law_same.b .nil pass0 (pa_cons (pv 9) (pa_cons (pe_ix ix_list (pv 11) pe_int (fun _ _ => rfl)) pa_nil))) (pe_one (pe_call (ok_same ev 5) (hr.mono (by decide)) (by rfl) ev.A_law_same.m ev.A_law_same.F.kp ev.A_law_same.b .nil pass0 (pa_cons (pe_call (ok_law_told ev) (hr.mono (by decide)) (by rfl) ev.A_law_told.m ev.A_law_told.F.kp ev.A_law_told.b .nil pass0 (pa_cons (pv 6) (pa_cons (pv 10) (pa_cons pe_int pa_nil)))) (pa_cons (pe_ix ix_list (pv 11) pe_int (fun _ _ => rfl)) pa_nil)))))))
    (pss_one (ps_if (pt_val (pe_callB call_isi (by rfl) ev.B.isinstance_ (by decide +kernel) (pa_cons (pv 9) (pa_cons (pe_bltn (v := .ty "list") (by rfl) ev.B.list_ (by decide +kernel) rfl) pa_nil)))) (pss_one (ps_expr (pe_call (ok_law_spoil ev) (hr.mono (by decide)) (by rfl) ev.A_law_spoil.m ev.A_law_spoil.F.kp ev.A_law_spoil.b .nil pass0 (pa_cons (pv 9) pa_nil)))) pss_nil))))))))))))
    (pss_one (ps_ret (pv 7))))))))), ?_⟩
  refine seq_asg ⟨_, rfl, a0, ns, rfl, hS, hl, fun b c H0 hB nb nc sm => ?_⟩
  have dm := hB.dom
  have ts : Sub [b, c] [b, c] := fun a m => m
  have sub0 : Sub [b, c] [b, c] := fun a m => m
  have fr0 := Fr.refl (T := [b, c]) H0
  have q : ∀ (u : V) (H' : Hp) (z : Bool), z = true → Fr [b, c] H0 H' → Bag H' b c → (of (K := K) tBool [b, c]).r H0 H' u z → Q u H' := fun u H' z hz _ _ hu => by
    subst hz
    cases hu
    exact qq H'
  dsimp only [m_law] at hm
  refine qw_asg dm hB ts (ew_callB rfl (wa_cons (ew_pure (ev_int (K := K))) wa_nil)) hm (fun v_law_ground_here H1 law_ground_here_1 hm fr1 dm1 hB1 h_law_ground_here => ?_)
  have fr0 := fr0.trans fr1
  have dm := dm1
  have hB := hB1
  have h_law_ground_here : ((tL3 (tD Str (tT2 tRat tRat)) (tD Str (tT2 tStr (tTs tStr))) (tD Str (tT2 tStr tInt))) : Ty K ((List (Str × (Rat × Rat))) × (List (Str × (Str × (List Str)))) × (List (Str × (Str × Int))))).rp [b, c] H1 v_law_ground_here law_ground_here_1 := h_law_ground_here
  obtain ⟨u_2, e2, hm⟩ := hm
  refine q_unpL3 (T := [b, c]) dm (ev_var ts h_law_ground_here rfl) e2 (fun v_law_spots v_law_lines v_law_sites H2 s2 h_law_spots h_law_lines h_law_sites => ?_)
  have fr0 := fr0.trans (Fr.same s2)
  have dm := dm.same s2
  have h_law_ground_here := ((tL3 (tD Str (tT2 tRat tRat)) (tD Str (tT2 tStr (tTs tStr))) (tD Str (tT2 tStr tInt))) : Ty K ((List (Str × (Rat × Rat))) × (List (Str × (Str × (List Str)))) × (List (Str × (Str × Int))))).mono (S := [b, c]) (Fr.same s2) h_law_ground_here
  have hB := hB.same s2
  obtain ⟨law_land_3, e3, hm⟩ := hm
  refine q_asg (T := [b, c]) dm (ev_makeO (ax_cons (ax_cons (ax_cons ax_nil))) (ea_cons (ev_var ts h_law_spots rfl) (ea_cons (ev_var ts h_law_lines rfl) (ea_cons (ev_var ts h_law_sites rfl) ea_nil)))) e3 (fun v_law_land H3 s3 h_law_land => ?_)
  have fr0 := fr0.trans (Fr.same s3)
  have dm := dm.same s3
  have h_law_ground_here := ((tL3 (tD Str (tT2 tRat tRat)) (tD Str (tT2 tStr (tTs tStr))) (tD Str (tT2 tStr tInt))) : Ty K ((List (Str × (Rat × Rat))) × (List (Str × (Str × (List Str)))) × (List (Str × (Str × Int))))).mono (S := [b, c]) (Fr.same s3) h_law_ground_here
  have h_law_spots := ((tD Str (tT2 tRat tRat)) : Ty K (List (Str × (Rat × Rat)))).mono (S := [b, c]) (Fr.same s3) h_law_spots
  have h_law_lines := ((tD Str (tT2 tStr (tTs tStr))) : Ty K (List (Str × (Str × (List Str))))).mono (S := [b, c]) (Fr.same s3) h_law_lines
  have h_law_sites := ((tD Str (tT2 tStr tInt)) : Ty K (List (Str × (Str × Int)))).mono (S := [b, c]) (Fr.same s3) h_law_sites
  have hB := hB.same s3
  have h_law_land : ((tO ev.C_Land ldT) : Ty K Ld).rp [b, c] H3 v_law_land law_land_3 := h_law_land
  refine qw_asg dm hB ts (ew_same (sm_up (n := 4) (sm_Ts sm_str) (by decide)) (ew_pure (ev_c (a := tTs tStr) fun H => ⟨_, _, rfl, .inr (ev.q_KINDS _), .cons ⟨rfl, by decide +kernel⟩ (.cons ⟨rfl, by decide +kernel⟩ (.cons ⟨rfl, by decide +kernel⟩ .nil))⟩)) (ew_pure (ev_tupTs (el_cons (ev_str (K := K)) (el_cons (ev_str (K := K)) (el_cons (ev_str (K := K)) el_nil))) (by decide)))) hm (fun v_law_good H4 law_good_4 hm fr4 dm4 hB4 h_law_good => ?_)
  have fr0 := fr0.trans fr4
  have h_law_ground_here := ((tL3 (tD Str (tT2 tRat tRat)) (tD Str (tT2 tStr (tTs tStr))) (tD Str (tT2 tStr tInt))) : Ty K ((List (Str × (Rat × Rat))) × (List (Str × (Str × (List Str)))) × (List (Str × (Str × Int))))).mono (S := [b, c]) (fr4.sub ts) h_law_ground_here
  have h_law_spots := ((tD Str (tT2 tRat tRat)) : Ty K (List (Str × (Rat × Rat)))).mono (S := [b, c]) (fr4.sub ts) h_law_spots
  have h_law_lines := ((tD Str (tT2 tStr (tTs tStr))) : Ty K (List (Str × (Str × (List Str))))).mono (S := [b, c]) (fr4.sub ts) h_law_lines
  have h_law_sites := ((tD Str (tT2 tStr tInt)) : Ty K (List (Str × (Str × Int)))).mono (S := [b, c]) (fr4.sub ts) h_law_sites
  have h_law_land := ((tO ev.C_Land ldT) : Ty K Ld).mono (S := [b, c]) (fr4.sub ts) h_law_land
  have dm := dm4
  have hB := hB4
  have h_law_good : (tBool : Ty K Bool).rp [b, c] H4 v_law_good law_good_4 := h_law_good
  refine qw_for_s dm hB ts (srw_pure (sr_r1 (K := K) (ev_int (K := K)))) hm (fun s_5 σ' H' => ∃ v_law_ground_here : V, ∃ v_law_spots : V, ∃ v_law_lines : V, ∃ v_law_sites : V, ∃ v_law_land : V, ∃ v_law_good : V, ∃ f_8 : Option V, ∃ f_9 : Option V, ∃ f_10 : Option V, ∃ f_11 : Option V, ∃ f_12 : Option V, ∃ f_13 : Option V, ∃ f_14 : Option V, ∃ f_15 : Option V, ∃ f_16 : Option V, ∃ f_17 : Option V, ∃ f_18 : Option V, σ' = [some (.ref a0), some (.ref b), some v_law_ground_here, some v_law_spots, some v_law_lines, some v_law_sites, some v_law_land, some v_law_good, f_8, f_9, f_10, f_11, f_12, f_13, f_14, f_15, f_16, f_17, f_18] ∧ Fr [b, c] H0 H' ∧ Dom [b, c] H' ∧ Bag H' b c ∧ ((tL3 (tD Str (tT2 tRat tRat)) (tD Str (tT2 tStr (tTs tStr))) (tD Str (tT2 tStr tInt))) : Ty K ((List (Str × (Rat × Rat))) × (List (Str × (Str × (List Str)))) × (List (Str × (Str × Int))))).rp [b, c] H' v_law_ground_here law_ground_here_1 ∧ ((tD Str (tT2 tRat tRat)) : Ty K (List (Str × (Rat × Rat)))).rp [b, c] H' v_law_spots u_2.1 ∧ ((tD Str (tT2 tStr (tTs tStr))) : Ty K (List (Str × (Str × (List Str))))).rp [b, c] H' v_law_lines u_2.2.1 ∧ ((tD Str (tT2 tStr tInt)) : Ty K (List (Str × (Str × Int)))).rp [b, c] H' v_law_sites u_2.2.2 ∧ ((tO ev.C_Land ldT) : Ty K Ld).rp [b, c] H' v_law_land law_land_3 ∧ (tBool : Ty K Bool).rp [b, c] H' v_law_good s_5) (fun H5 fr5 dm5 hB5 => ?_) (fun hd5 s_5 law_turn_5 C5 v_law_turn σ' H' hI h_law_turn hm hret5 hbrk5 => ?_) (fun t_5 σ' H' hm hI => ?_)
  · skip
    have fr0 := fr0.trans fr5
    have h_law_ground_here := ((tL3 (tD Str (tT2 tRat tRat)) (tD Str (tT2 tStr (tTs tStr))) (tD Str (tT2 tStr tInt))) : Ty K ((List (Str × (Rat × Rat))) × (List (Str × (Str × (List Str)))) × (List (Str × (Str × Int))))).mono (S := [b, c]) (fr5.sub ts) h_law_ground_here
    have h_law_spots := ((tD Str (tT2 tRat tRat)) : Ty K (List (Str × (Rat × Rat)))).mono (S := [b, c]) (fr5.sub ts) h_law_spots
    have h_law_lines := ((tD Str (tT2 tStr (tTs tStr))) : Ty K (List (Str × (Str × (List Str))))).mono (S := [b, c]) (fr5.sub ts) h_law_lines
    have h_law_sites := ((tD Str (tT2 tStr tInt)) : Ty K (List (Str × (Str × Int)))).mono (S := [b, c]) (fr5.sub ts) h_law_sites
    have h_law_land := ((tO ev.C_Land ldT) : Ty K Ld).mono (S := [b, c]) (fr5.sub ts) h_law_land
    have h_law_good := (tBool : Ty K Bool).mono (S := [b, c]) (fr5.sub ts) h_law_good
    have dm := dm5
    have hB := hB5
    exact ⟨v_law_ground_here, v_law_spots, v_law_lines, v_law_sites, v_law_land, v_law_good, _, _, _, _, _, _, _, _, _, _, _, rfl, fr0, dm, hB, h_law_ground_here, h_law_spots, h_law_lines, h_law_sites, h_law_land, h_law_good⟩
  · skip
    obtain ⟨v_law_ground_here, v_law_spots, v_law_lines, v_law_sites, v_law_land, v_law_good, f_8, f_9, f_10, f_11, f_12, f_13, f_14, f_15, f_16, f_17, f_18, rfl, fr0, dm, hB, h_law_ground_here, h_law_spots, h_law_lines, h_law_sites, h_law_land, h_law_good⟩ := hI
    let HL := H'
    have freshl : ∀ a ∈ [b, c], a ∉ [b, c] → H' a = none := fun a m n => absurd m n
    have frl : Fr [b, c] HL H' := Fr.refl (T := [b, c]) H'
    have tsl := ts
    have subl : Sub [b, c] [b, c] := fun a m => m
    have h_law_turn : (tInt : Ty K Int).rp [b, c] H' v_law_turn law_turn_5 := h_law_turn
    obtain ⟨law_found_6, e6, hm⟩ := hm
    refine q_asg (T := [b, c]) dm (ev_methO0 (f := fun a => m_Land_known a.1) (fno_cons (by decide +kernel) (fno_cons (by decide +kernel) (fno_cons (by decide +kernel) fno_nil))) (ev_var ts h_law_land rfl)) e6 (fun v_law_found H6 s6 hx => ?_)
    obtain ⟨p_law_found, rfl, np_law_found, o_law_found⟩ := hx
    have ns_law_found : p_law_found ∉ [b, c] := dm.not_mem np_law_found
    have nb_law_found : p_law_found ∉ [b, c] := fun m => ns_law_found (sub0 _ m)
    have nbl_law_found : p_law_found ∉ [b, c] := fun m => ns_law_found (subl _ m)
    have n0_law_found := fr_back fr0 hB.dom np_law_found
    have nt_law_found := hB.dom.not_mem np_law_found
    have fr0 := fr0.trans (Fr.same s6)
    have nl_law_found := fr_back frl (dm.sub subl) np_law_found
    have frl := frl.trans (Fr.same s6)
    have subl := sub_cons (p := p_law_found) subl
    have freshl := fresh_cons freshl nl_law_found
    have h_law_ground_here := ((tL3 (tD Str (tT2 tRat tRat)) (tD Str (tT2 tStr (tTs tStr))) (tD Str (tT2 tStr tInt))) : Ty K ((List (Str × (Rat × Rat))) × (List (Str × (Str × (List Str)))) × (List (Str × (Str × Int))))).mono (Fr.same s6) (((tL3 (tD Str (tT2 tRat tRat)) (tD Str (tT2 tStr (tTs tStr))) (tD Str (tT2 tStr tInt))) : Ty K ((List (Str × (Rat × Rat))) × (List (Str × (Str × (List Str)))) × (List (Str × (Str × Int))))).ext (S := [b, c]) np_law_found h_law_ground_here)
    have h_law_spots := ((tD Str (tT2 tRat tRat)) : Ty K (List (Str × (Rat × Rat)))).mono (Fr.same s6) (((tD Str (tT2 tRat tRat)) : Ty K (List (Str × (Rat × Rat)))).ext (S := [b, c]) np_law_found h_law_spots)
    have h_law_lines := ((tD Str (tT2 tStr (tTs tStr))) : Ty K (List (Str × (Str × (List Str))))).mono (Fr.same s6) (((tD Str (tT2 tStr (tTs tStr))) : Ty K (List (Str × (Str × (List Str))))).ext (S := [b, c]) np_law_found h_law_lines)
    have h_law_sites := ((tD Str (tT2 tStr tInt)) : Ty K (List (Str × (Str × Int)))).mono (Fr.same s6) (((tD Str (tT2 tStr tInt)) : Ty K (List (Str × (Str × Int)))).ext (S := [b, c]) np_law_found h_law_sites)
    have h_law_land := ((tO ev.C_Land ldT) : Ty K Ld).mono (Fr.same s6) (((tO ev.C_Land ldT) : Ty K Ld).ext (S := [b, c]) np_law_found h_law_land)
    have h_law_good := (tBool : Ty K Bool).mono (Fr.same s6) ((tBool : Ty K Bool).ext (S := [b, c]) np_law_found h_law_good)
    have h_law_turn := (tInt : Ty K Int).mono (Fr.same s6) ((tInt : Ty K Int).ext (S := [b, c]) np_law_found h_law_turn)
    have dm := (dm.same s6).cons o_law_found.choose_spec.1
    have ts := sub_cons (p := p_law_found) ts
    have sub0 := sub_cons (p := p_law_found) sub0
    have im_law_found : p_law_found ∈ p_law_found :: [b, c] := List.mem_cons_self ..
    have hB := hB.same s6
    refine qw_asg dm hB ts (ew_and (ew_pure (ev_var ts h_law_good rfl)) (ew_sameL (sm_up (n := 4) (sm_L sm_str) (by decide)) o_law_found nt_law_found rfl (ew_pure (ev_new (ev_call (ea_cons (ev_var ts h_law_ground_here rfl) ea_nil)))))) hm (fun v_law_good H7 law_good_7 hm fr7 dm7 hB7 h_law_good => ?_)
    have fr0 := fr0.trans fr7
    have frl := frl.trans (fr7.sub tsl)
    have h_law_ground_here := ((tL3 (tD Str (tT2 tRat tRat)) (tD Str (tT2 tStr (tTs tStr))) (tD Str (tT2 tStr tInt))) : Ty K ((List (Str × (Rat × Rat))) × (List (Str × (Str × (List Str)))) × (List (Str × (Str × Int))))).mono (S := (p_law_found :: [b, c])) (fr7.sub ts) h_law_ground_here
    have h_law_spots := ((tD Str (tT2 tRat tRat)) : Ty K (List (Str × (Rat × Rat)))).mono (S := (p_law_found :: [b, c])) (fr7.sub ts) h_law_spots
    have h_law_lines := ((tD Str (tT2 tStr (tTs tStr))) : Ty K (List (Str × (Str × (List Str))))).mono (S := (p_law_found :: [b, c])) (fr7.sub ts) h_law_lines
    have h_law_sites := ((tD Str (tT2 tStr tInt)) : Ty K (List (Str × (Str × Int)))).mono (S := (p_law_found :: [b, c])) (fr7.sub ts) h_law_sites
    have h_law_land := ((tO ev.C_Land ldT) : Ty K Ld).mono (S := (p_law_found :: [b, c])) (fr7.sub ts) h_law_land
    have h_law_turn := (tInt : Ty K Int).mono (S := (p_law_found :: [b, c])) (fr7.sub ts) h_law_turn
    have o_law_found := o_law_found.fr fr7 ts nt_law_found
    have dm := dm7
    have hB := hB7
    have h_law_good : (tBool : Ty K Bool).rp (p_law_found :: [b, c]) H7 v_law_good law_good_7 := h_law_good
    obtain ⟨u8, eu8, hm⟩ := hm
    refine q_spoil dm o_law_found im_law_found rfl eu8 (fun H8 s8 frx8 => ?_)
    have fr0 := fr0.mut hB.dom n0_law_found s8
    have frl := frl.mutN nl_law_found s8
    have dm := dm.fx frx8 s8
    have h_law_ground_here := ((tL3 (tD Str (tT2 tRat tRat)) (tD Str (tT2 tStr (tTs tStr))) (tD Str (tT2 tStr tInt))) : Ty K ((List (Str × (Rat × Rat))) × (List (Str × (Str × (List Str)))) × (List (Str × (Str × Int))))).mono (S := (p_law_found :: [b, c])) frx8 h_law_ground_here
    have h_law_spots := ((tD Str (tT2 tRat tRat)) : Ty K (List (Str × (Rat × Rat)))).mono (S := (p_law_found :: [b, c])) frx8 h_law_spots
    have h_law_lines := ((tD Str (tT2 tStr (tTs tStr))) : Ty K (List (Str × (Str × (List Str))))).mono (S := (p_law_found :: [b, c])) frx8 h_law_lines
    have h_law_sites := ((tD Str (tT2 tStr tInt)) : Ty K (List (Str × (Str × Int)))).mono (S := (p_law_found :: [b, c])) frx8 h_law_sites
    have h_law_land := ((tO ev.C_Land ldT) : Ty K Ld).mono (S := (p_law_found :: [b, c])) frx8 h_law_land
    have h_law_turn := (tInt : Ty K Int).mono (S := (p_law_found :: [b, c])) frx8 h_law_turn
    have h_law_good := (tBool : Ty K Bool).mono (S := (p_law_found :: [b, c])) frx8 h_law_good
    have hB := hB.mut s8 nt_law_found
    obtain ⟨pz_law_found, epz⟩ : ∃ q, q = p_law_found := ⟨_, rfl⟩
    subst epz
    refine lw_for_s dm hB ts (srw_pure (sr_list (ev_new (ev_op od_cat (ev_new (ev_srtD (ev_var ts h_law_lines rfl))) (ev_new (ev_lst (el_cons (ev_str (K := K)) el_nil) (by decide))))))) hm (fun s_9 σ' H' => Fr [b, c] HL H' ∧ ∃ v_law_ground_here : V, ∃ v_law_spots : V, ∃ v_law_lines : V, ∃ v_law_sites : V, ∃ v_law_land : V, ∃ v_law_turn : V, ∃ v_law_good : V, ∃ f_9 : Option V, ∃ f_10 : Option V, ∃ f_11 : Option V, ∃ f_12 : Option V, ∃ f_13 : Option V, ∃ f_14 : Option V, ∃ f_15 : Option V, ∃ f_16 : Option V, ∃ f_17 : Option V, ∃ f_18 : Option V, σ' = [some (.ref a0), some (.ref b), some v_law_ground_here, some v_law_spots, some v_law_lines, some v_law_sites, some v_law_land, some v_law_good, some v_law_turn, f_9, f_10, f_11, f_12, f_13, f_14, f_15, f_16, f_17, f_18] ∧ Fr [b, c] H0 H' ∧ Dom (pz_law_found :: [b, c]) H' ∧ Bag H' b c ∧ ((tL3 (tD Str (tT2 tRat tRat)) (tD Str (tT2 tStr (tTs tStr))) (tD Str (tT2 tStr tInt))) : Ty K ((List (Str × (Rat × Rat))) × (List (Str × (Str × (List Str)))) × (List (Str × (Str × Int))))).rp (pz_law_found :: [b, c]) H' v_law_ground_here law_ground_here_1 ∧ ((tD Str (tT2 tRat tRat)) : Ty K (List (Str × (Rat × Rat)))).rp (pz_law_found :: [b, c]) H' v_law_spots u_2.1 ∧ ((tD Str (tT2 tStr (tTs tStr))) : Ty K (List (Str × (Str × (List Str))))).rp (pz_law_found :: [b, c]) H' v_law_lines u_2.2.1 ∧ ((tD Str (tT2 tStr tInt)) : Ty K (List (Str × (Str × Int)))).rp (pz_law_found :: [b, c]) H' v_law_sites u_2.2.2 ∧ ((tO ev.C_Land ldT) : Ty K Ld).rp (pz_law_found :: [b, c]) H' v_law_land law_land_3 ∧ (tInt : Ty K Int).rp (pz_law_found :: [b, c]) H' v_law_turn law_turn_5 ∧ (tBool : Ty K Bool).rp (pz_law_found :: [b, c]) H' v_law_good s_9) (fun H9 fr9 dm9 hB9 => ?_) (fun hd9 s_9 law_name_here_9 C9 v_law_name_here σ' H' hI h_law_name_here hm hret9 hbrk9 => ?_) (fun t_9 σ' H' hm hI => ?_)
    · skip
      have fr0 := fr0.trans fr9
      have frl := frl.trans (fr9.sub tsl)
      have h_law_ground_here := ((tL3 (tD Str (tT2 tRat tRat)) (tD Str (tT2 tStr (tTs tStr))) (tD Str (tT2 tStr tInt))) : Ty K ((List (Str × (Rat × Rat))) × (List (Str × (Str × (List Str)))) × (List (Str × (Str × Int))))).mono (S := (pz_law_found :: [b, c])) (fr9.sub ts) h_law_ground_here
      have h_law_spots := ((tD Str (tT2 tRat tRat)) : Ty K (List (Str × (Rat × Rat)))).mono (S := (pz_law_found :: [b, c])) (fr9.sub ts) h_law_spots
      have h_law_lines := ((tD Str (tT2 tStr (tTs tStr))) : Ty K (List (Str × (Str × (List Str))))).mono (S := (pz_law_found :: [b, c])) (fr9.sub ts) h_law_lines
      have h_law_sites := ((tD Str (tT2 tStr tInt)) : Ty K (List (Str × (Str × Int)))).mono (S := (pz_law_found :: [b, c])) (fr9.sub ts) h_law_sites
      have h_law_land := ((tO ev.C_Land ldT) : Ty K Ld).mono (S := (pz_law_found :: [b, c])) (fr9.sub ts) h_law_land
      have h_law_turn := (tInt : Ty K Int).mono (S := (pz_law_found :: [b, c])) (fr9.sub ts) h_law_turn
      have h_law_good := (tBool : Ty K Bool).mono (S := (pz_law_found :: [b, c])) (fr9.sub ts) h_law_good
      have dm := dm9
      have hB := hB9
      exact ⟨frl, v_law_ground_here, v_law_spots, v_law_lines, v_law_sites, v_law_land, v_law_turn, v_law_good, _, _, _, _, _, _, _, _, _, _, rfl, fr0, dm, hB, h_law_ground_here, h_law_spots, h_law_lines, h_law_sites, h_law_land, h_law_turn, h_law_good⟩
    · skip
      obtain ⟨frl, v_law_ground_here, v_law_spots, v_law_lines, v_law_sites, v_law_land, v_law_turn, v_law_good, f_9, f_10, f_11, f_12, f_13, f_14, f_15, f_16, f_17, f_18, rfl, fr0, dm, hB, h_law_ground_here, h_law_spots, h_law_lines, h_law_sites, h_law_land, h_law_turn, h_law_good⟩ := hI
      have frlo := frl
      have freshlo := freshl
      let HL := H'
      have freshl : ∀ a ∈ (pz_law_found :: [b, c]), a ∉ (pz_law_found :: [b, c]) → H' a = none := fun a m n => absurd m n
      have frl : Fr (pz_law_found :: [b, c]) HL H' := Fr.refl (T := (pz_law_found :: [b, c])) H'
      have tsl := ts
      have subl : Sub (pz_law_found :: [b, c]) (pz_law_found :: [b, c]) := fun a m => m
      have h_law_name_here : (tStr : Ty K Str).rp (pz_law_found :: [b, c]) H' v_law_name_here law_name_here_9 := h_law_name_here
      obtain ⟨law_dues_10, e10, hm⟩ := hm
      refine q_asg (T := [b, c]) dm (ev_inl (b' := ((tL2 (tL (tT2 tRat tRat)) tRat) : Ty K ((List (Rat × Rat)) × Rat))) (ev_new (ev_lst (el_cons (ev_tup2 (ev_str (K := K)) (ev_var ts h_law_name_here rfl)) (el_cons (ev_tup2 (ev_str (K := K)) (ev_var ts h_law_name_here rfl)) el_nil)) (by decide)))) e10 (fun v_law_dues H10 s10 h_law_dues => ?_)
      have fr0 := fr0.trans (Fr.same s10)
      have dm := dm.same s10
      have frl := frl.trans (Fr.same s10)
      have h_law_ground_here := ((tL3 (tD Str (tT2 tRat tRat)) (tD Str (tT2 tStr (tTs tStr))) (tD Str (tT2 tStr tInt))) : Ty K ((List (Str × (Rat × Rat))) × (List (Str × (Str × (List Str)))) × (List (Str × (Str × Int))))).mono (S := (pz_law_found :: [b, c])) (Fr.same s10) h_law_ground_here
      have h_law_spots := ((tD Str (tT2 tRat tRat)) : Ty K (List (Str × (Rat × Rat)))).mono (S := (pz_law_found :: [b, c])) (Fr.same s10) h_law_spots
      have h_law_lines := ((tD Str (tT2 tStr (tTs tStr))) : Ty K (List (Str × (Str × (List Str))))).mono (S := (pz_law_found :: [b, c])) (Fr.same s10) h_law_lines
      have h_law_sites := ((tD Str (tT2 tStr tInt)) : Ty K (List (Str × (Str × Int)))).mono (S := (pz_law_found :: [b, c])) (Fr.same s10) h_law_sites
      have h_law_land := ((tO ev.C_Land ldT) : Ty K Ld).mono (S := (pz_law_found :: [b, c])) (Fr.same s10) h_law_land
      have h_law_turn := (tInt : Ty K Int).mono (S := (pz_law_found :: [b, c])) (Fr.same s10) h_law_turn
      have h_law_good := (tBool : Ty K Bool).mono (S := (pz_law_found :: [b, c])) (Fr.same s10) h_law_good
      have h_law_name_here := (tStr : Ty K Str).mono (S := (pz_law_found :: [b, c])) (Fr.same s10) h_law_name_here
      have hB := hB.same s10
      have h_law_dues : ((tU (tL (tT2 tStr tStr)) (tL2 (tL (tT2 tRat tRat)) tRat)) : Ty K ((List (Str × Str)) ⊕ ((List (Rat × Rat)) × Rat))).rp (pz_law_found :: [b, c]) H10 v_law_dues law_dues_10 := h_law_dues
      obtain ⟨J11, hK11, hm⟩ := jn_open hm
      refine seq_by (fun σ' H' => ∃ j27, J11 j27 ∧ Fr (pz_law_found :: [b, c]) HL H' ∧ ∃ v_law_ground_here : V, ∃ v_law_spots : V, ∃ v_law_lines : V, ∃ v_law_sites : V, ∃ v_law_land : V, ∃ v_law_turn : V, ∃ v_law_good : V, ∃ v_law_name_here : V, ∃ v_law_dues : V, ∃ f_9 : Option V, ∃ f_12 : Option V, ∃ f_13 : Option V, ∃ f_14 : Option V, ∃ f_15 : Option V, ∃ f_16 : Option V, ∃ f_17 : Option V, ∃ f_18 : Option V, σ' = [some (.ref a0), some (.ref b), some v_law_ground_here, some v_law_spots, some v_law_lines, some v_law_sites, some v_law_land, some v_law_good, some v_law_turn, f_9, some v_law_name_here, some v_law_dues, f_12, f_13, f_14, f_15, f_16, f_17, f_18] ∧ Fr [b, c] H0 H' ∧ Dom (pz_law_found :: [b, c]) H' ∧ Bag H' b c ∧ ((tL3 (tD Str (tT2 tRat tRat)) (tD Str (tT2 tStr (tTs tStr))) (tD Str (tT2 tStr tInt))) : Ty K ((List (Str × (Rat × Rat))) × (List (Str × (Str × (List Str)))) × (List (Str × (Str × Int))))).rp (pz_law_found :: [b, c]) H' v_law_ground_here law_ground_here_1 ∧ ((tD Str (tT2 tRat tRat)) : Ty K (List (Str × (Rat × Rat)))).rp (pz_law_found :: [b, c]) H' v_law_spots u_2.1 ∧ ((tD Str (tT2 tStr (tTs tStr))) : Ty K (List (Str × (Str × (List Str))))).rp (pz_law_found :: [b, c]) H' v_law_lines u_2.2.1 ∧ ((tD Str (tT2 tStr tInt)) : Ty K (List (Str × (Str × Int)))).rp (pz_law_found :: [b, c]) H' v_law_sites u_2.2.2 ∧ ((tO ev.C_Land ldT) : Ty K Ld).rp (pz_law_found :: [b, c]) H' v_law_land law_land_3 ∧ (tInt : Ty K Int).rp (pz_law_found :: [b, c]) H' v_law_turn law_turn_5 ∧ (tBool : Ty K Bool).rp (pz_law_found :: [b, c]) H' v_law_good s_9 ∧ (tStr : Ty K Str).rp (pz_law_found :: [b, c]) H' v_law_name_here law_name_here_9 ∧ ((tU (tL (tT2 tStr tStr)) (tL2 (tL (tT2 tRat tRat)) tRat)) : Ty K ((List (Str × Str)) ⊕ ((List (Rat × Rat)) × Rat))).rp (pz_law_found :: [b, c]) H' v_law_dues j27) (fun σ' H' hI => ?_) (fun rest11 => ?_)
      · skip
        obtain ⟨j27, hj, ⟨frl, v_law_ground_here, v_law_spots, v_law_lines, v_law_sites, v_law_land, v_law_turn, v_law_good, v_law_name_here, v_law_dues, f_9, f_12, f_13, f_14, f_15, f_16, f_17, f_18, rfl, fr0, dm, hB, h_law_ground_here, h_law_spots, h_law_lines, h_law_sites, h_law_land, h_law_turn, h_law_good, h_law_name_here, h_law_dues⟩⟩ := hI
        have hm := hK11 j27 hj
        obtain ⟨y28, e28, hm⟩ := hm
        refine q_asg (T := [b, c]) dm (ev_call (ea_cons (ev_var ts h_law_land rfl) (ea_cons (ev_var ts h_law_name_here rfl) (ea_cons (ev_int (K := K)) ea_nil)))) e28 (fun v_law_found H28 s28 hx => ?_)
        rcases y28 with xa28 | za28 | qa28
        · skip
          dsimp only [tdM] at hm
          have fr0 := fr0.trans (Fr.same s28)
          have dm := dm.same s28
          have frl := frl.trans (Fr.same s28)
          have h_law_ground_here := ((tL3 (tD Str (tT2 tRat tRat)) (tD Str (tT2 tStr (tTs tStr))) (tD Str (tT2 tStr tInt))) : Ty K ((List (Str × (Rat × Rat))) × (List (Str × (Str × (List Str)))) × (List (Str × (Str × Int))))).mono (S := (pz_law_found :: [b, c])) (Fr.same s28) h_law_ground_here
          have h_law_spots := ((tD Str (tT2 tRat tRat)) : Ty K (List (Str × (Rat × Rat)))).mono (S := (pz_law_found :: [b, c])) (Fr.same s28) h_law_spots
          have h_law_lines := ((tD Str (tT2 tStr (tTs tStr))) : Ty K (List (Str × (Str × (List Str))))).mono (S := (pz_law_found :: [b, c])) (Fr.same s28) h_law_lines
          have h_law_sites := ((tD Str (tT2 tStr tInt)) : Ty K (List (Str × (Str × Int)))).mono (S := (pz_law_found :: [b, c])) (Fr.same s28) h_law_sites
          have h_law_land := ((tO ev.C_Land ldT) : Ty K Ld).mono (S := (pz_law_found :: [b, c])) (Fr.same s28) h_law_land
          have h_law_turn := (tInt : Ty K Int).mono (S := (pz_law_found :: [b, c])) (Fr.same s28) h_law_turn
          have h_law_good := (tBool : Ty K Bool).mono (S := (pz_law_found :: [b, c])) (Fr.same s28) h_law_good
          have h_law_name_here := (tStr : Ty K Str).mono (S := (pz_law_found :: [b, c])) (Fr.same s28) h_law_name_here
          have h_law_dues := ((tU (tL (tT2 tStr tStr)) (tL2 (tL (tT2 tRat tRat)) tRat)) : Ty K ((List (Str × Str)) ⊕ ((List (Rat × Rat)) × Rat))).mono (S := (pz_law_found :: [b, c])) (Fr.same s28) h_law_dues
          have hB := hB.same s28
          have h_law_found : ((tT2 tStr tStr) : Ty K (Str × Str)).rp (pz_law_found :: [b, c]) H28 v_law_found xa28 := hx
          refine qw_asg dm hB ts (ew_and (ew_pure (ev_var ts h_law_good rfl)) (ew_and (ew_same (sm_up (n := 4) (sm_t2 sm_str sm_str) (by decide)) (ew_pure (ev_var ts h_law_found rfl)) (ew_pure (ev_getL (ev_ixU0 (ev_var ts h_law_dues rfl))))) (ew_same (sm_up (n := 4) (sm_U (sm_t2 sm_str sm_str) sm_rat) (by decide)) (ew_pure (ev_tdB (ev_call (ea_cons (ev_var ts h_law_land rfl) (ea_cons (ev_var ts h_law_name_here rfl) (ea_cons (ev_int (K := K)) ea_nil)))))) (ew_pure (ev_ixU1 (ev_var ts h_law_dues rfl)))))) hm (fun v_law_good H29 law_good_29 hm fr29 dm29 hB29 h_law_good => ?_)
          have fr0 := fr0.trans fr29
          have frl := frl.trans (fr29.sub tsl)
          have h_law_ground_here := ((tL3 (tD Str (tT2 tRat tRat)) (tD Str (tT2 tStr (tTs tStr))) (tD Str (tT2 tStr tInt))) : Ty K ((List (Str × (Rat × Rat))) × (List (Str × (Str × (List Str)))) × (List (Str × (Str × Int))))).mono (S := (pz_law_found :: [b, c])) (fr29.sub ts) h_law_ground_here
          have h_law_spots := ((tD Str (tT2 tRat tRat)) : Ty K (List (Str × (Rat × Rat)))).mono (S := (pz_law_found :: [b, c])) (fr29.sub ts) h_law_spots
          have h_law_lines := ((tD Str (tT2 tStr (tTs tStr))) : Ty K (List (Str × (Str × (List Str))))).mono (S := (pz_law_found :: [b, c])) (fr29.sub ts) h_law_lines
          have h_law_sites := ((tD Str (tT2 tStr tInt)) : Ty K (List (Str × (Str × Int)))).mono (S := (pz_law_found :: [b, c])) (fr29.sub ts) h_law_sites
          have h_law_land := ((tO ev.C_Land ldT) : Ty K Ld).mono (S := (pz_law_found :: [b, c])) (fr29.sub ts) h_law_land
          have h_law_turn := (tInt : Ty K Int).mono (S := (pz_law_found :: [b, c])) (fr29.sub ts) h_law_turn
          have h_law_name_here := (tStr : Ty K Str).mono (S := (pz_law_found :: [b, c])) (fr29.sub ts) h_law_name_here
          have h_law_dues := ((tU (tL (tT2 tStr tStr)) (tL2 (tL (tT2 tRat tRat)) tRat)) : Ty K ((List (Str × Str)) ⊕ ((List (Rat × Rat)) × Rat))).mono (S := (pz_law_found :: [b, c])) (fr29.sub ts) h_law_dues
          have h_law_found := ((tT2 tStr tStr) : Ty K (Str × Str)).mono (S := (pz_law_found :: [b, c])) (fr29.sub ts) h_law_found
          have dm := dm29
          have hB := hB29
          have h_law_good : (tBool : Ty K Bool).rp (pz_law_found :: [b, c]) H29 v_law_good law_good_29 := h_law_good
          refine l_if (T := [b, c]) dm (eb_B (K := K) (ev_isi (a := ((tT2 tStr tStr) : Ty K (Str × Str))) (k := false) (ev_var ts h_law_found rfl) (by decide +kernel))) rfl (fun hc H33 s33 => Bool.noConfusion hc) (fun hc H33 s33 => ?_)
          have fr0 := fr0.trans (Fr.same s33)
          have dm := dm.same s33
          have frl := frl.trans (Fr.same s33)
          have h_law_ground_here := ((tL3 (tD Str (tT2 tRat tRat)) (tD Str (tT2 tStr (tTs tStr))) (tD Str (tT2 tStr tInt))) : Ty K ((List (Str × (Rat × Rat))) × (List (Str × (Str × (List Str)))) × (List (Str × (Str × Int))))).mono (S := (pz_law_found :: [b, c])) (Fr.same s33) h_law_ground_here
          have h_law_spots := ((tD Str (tT2 tRat tRat)) : Ty K (List (Str × (Rat × Rat)))).mono (S := (pz_law_found :: [b, c])) (Fr.same s33) h_law_spots
          have h_law_lines := ((tD Str (tT2 tStr (tTs tStr))) : Ty K (List (Str × (Str × (List Str))))).mono (S := (pz_law_found :: [b, c])) (Fr.same s33) h_law_lines
          have h_law_sites := ((tD Str (tT2 tStr tInt)) : Ty K (List (Str × (Str × Int)))).mono (S := (pz_law_found :: [b, c])) (Fr.same s33) h_law_sites
          have h_law_land := ((tO ev.C_Land ldT) : Ty K Ld).mono (S := (pz_law_found :: [b, c])) (Fr.same s33) h_law_land
          have h_law_turn := (tInt : Ty K Int).mono (S := (pz_law_found :: [b, c])) (Fr.same s33) h_law_turn
          have h_law_name_here := (tStr : Ty K Str).mono (S := (pz_law_found :: [b, c])) (Fr.same s33) h_law_name_here
          have h_law_dues := ((tU (tL (tT2 tStr tStr)) (tL2 (tL (tT2 tRat tRat)) tRat)) : Ty K ((List (Str × Str)) ⊕ ((List (Rat × Rat)) × Rat))).mono (S := (pz_law_found :: [b, c])) (Fr.same s33) h_law_dues
          have h_law_found := ((tT2 tStr tStr) : Ty K (Str × Str)).mono (S := (pz_law_found :: [b, c])) (Fr.same s33) h_law_found
          have h_law_good := (tBool : Ty K Bool).mono (S := (pz_law_found :: [b, c])) (Fr.same s33) h_law_good
          have hB := hB.same s33
          refine l_next ?_
          exact ⟨_, hm, frl, ⟨frlo.transx frl freshlo, v_law_ground_here, v_law_spots, v_law_lines, v_law_sites, v_law_land, v_law_turn, v_law_good, _, _, _, _, _, _, _, _, _, _, rfl, fr0, dm, hB, h_law_ground_here, h_law_spots, h_law_lines, h_law_sites, h_law_land, h_law_turn, h_law_good⟩⟩
        · skip
          dsimp only [tdM] at hm
          obtain ⟨p_law_found, rfl, np_law_found, o_law_found⟩ := hx
          have ns_law_found : p_law_found ∉ (pz_law_found :: [b, c]) := dm.not_mem np_law_found
          have nb_law_found : p_law_found ∉ [b, c] := fun m => ns_law_found (sub0 _ m)
          have nbl_law_found : p_law_found ∉ (pz_law_found :: [b, c]) := fun m => ns_law_found (subl _ m)
          have n0_law_found := fr_back fr0 hB.dom np_law_found
          have nt_law_found := hB.dom.not_mem np_law_found
          have fr0 := fr0.trans (Fr.same s28)
          have nl_law_found := fr_back frl (dm.sub subl) np_law_found
          have frl := frl.trans (Fr.same s28)
          have subl := sub_cons (p := p_law_found) subl
          have freshl := fresh_cons freshl nl_law_found
          have h_law_ground_here := ((tL3 (tD Str (tT2 tRat tRat)) (tD Str (tT2 tStr (tTs tStr))) (tD Str (tT2 tStr tInt))) : Ty K ((List (Str × (Rat × Rat))) × (List (Str × (Str × (List Str)))) × (List (Str × (Str × Int))))).mono (Fr.same s28) (((tL3 (tD Str (tT2 tRat tRat)) (tD Str (tT2 tStr (tTs tStr))) (tD Str (tT2 tStr tInt))) : Ty K ((List (Str × (Rat × Rat))) × (List (Str × (Str × (List Str)))) × (List (Str × (Str × Int))))).ext (S := (pz_law_found :: [b, c])) np_law_found h_law_ground_here)
          have h_law_spots := ((tD Str (tT2 tRat tRat)) : Ty K (List (Str × (Rat × Rat)))).mono (Fr.same s28) (((tD Str (tT2 tRat tRat)) : Ty K (List (Str × (Rat × Rat)))).ext (S := (pz_law_found :: [b, c])) np_law_found h_law_spots)
          have h_law_lines := ((tD Str (tT2 tStr (tTs tStr))) : Ty K (List (Str × (Str × (List Str))))).mono (Fr.same s28) (((tD Str (tT2 tStr (tTs tStr))) : Ty K (List (Str × (Str × (List Str))))).ext (S := (pz_law_found :: [b, c])) np_law_found h_law_lines)
          have h_law_sites := ((tD Str (tT2 tStr tInt)) : Ty K (List (Str × (Str × Int)))).mono (Fr.same s28) (((tD Str (tT2 tStr tInt)) : Ty K (List (Str × (Str × Int)))).ext (S := (pz_law_found :: [b, c])) np_law_found h_law_sites)
          have h_law_land := ((tO ev.C_Land ldT) : Ty K Ld).mono (Fr.same s28) (((tO ev.C_Land ldT) : Ty K Ld).ext (S := (pz_law_found :: [b, c])) np_law_found h_law_land)
          have h_law_turn := (tInt : Ty K Int).mono (Fr.same s28) ((tInt : Ty K Int).ext (S := (pz_law_found :: [b, c])) np_law_found h_law_turn)
          have h_law_good := (tBool : Ty K Bool).mono (Fr.same s28) ((tBool : Ty K Bool).ext (S := (pz_law_found :: [b, c])) np_law_found h_law_good)
          have h_law_name_here := (tStr : Ty K Str).mono (Fr.same s28) ((tStr : Ty K Str).ext (S := (pz_law_found :: [b, c])) np_law_found h_law_name_here)
          have h_law_dues := ((tU (tL (tT2 tStr tStr)) (tL2 (tL (tT2 tRat tRat)) tRat)) : Ty K ((List (Str × Str)) ⊕ ((List (Rat × Rat)) × Rat))).mono (Fr.same s28) (((tU (tL (tT2 tStr tStr)) (tL2 (tL (tT2 tRat tRat)) tRat)) : Ty K ((List (Str × Str)) ⊕ ((List (Rat × Rat)) × Rat))).ext (S := (pz_law_found :: [b, c])) np_law_found h_law_dues)
          have dm := (dm.same s28).cons o_law_found.choose_spec.1
          have ts := sub_cons (p := p_law_found) ts
          have sub0 := sub_cons (p := p_law_found) sub0
          have im_law_found : p_law_found ∈ p_law_found :: (pz_law_found :: [b, c]) := List.mem_cons_self ..
          have hB := hB.same s28
          refine qw_asg dm hB ts (ew_and (ew_pure (ev_var ts h_law_good rfl)) (ew_and (ew_sameL (sm_up (n := 4) (sm_L (sm_t2 sm_rat sm_rat)) (by decide)) o_law_found nt_law_found rfl (ew_pure (ev_getR (ev_ixU0 (ev_var ts h_law_dues rfl))))) (ew_same (sm_up (n := 4) (sm_U (sm_t2 sm_str sm_str) sm_rat) (by decide)) (ew_pure (ev_tdB (ev_call (ea_cons (ev_var ts h_law_land rfl) (ea_cons (ev_var ts h_law_name_here rfl) (ea_cons (ev_int (K := K)) ea_nil)))))) (ew_pure (ev_ixU1 (ev_var ts h_law_dues rfl)))))) hm (fun v_law_good H30 law_good_30 hm fr30 dm30 hB30 h_law_good => ?_)
          have fr0 := fr0.trans fr30
          have frl := frl.trans (fr30.sub tsl)
          have h_law_ground_here := ((tL3 (tD Str (tT2 tRat tRat)) (tD Str (tT2 tStr (tTs tStr))) (tD Str (tT2 tStr tInt))) : Ty K ((List (Str × (Rat × Rat))) × (List (Str × (Str × (List Str)))) × (List (Str × (Str × Int))))).mono (S := (p_law_found :: (pz_law_found :: [b, c]))) (fr30.sub ts) h_law_ground_here
          have h_law_spots := ((tD Str (tT2 tRat tRat)) : Ty K (List (Str × (Rat × Rat)))).mono (S := (p_law_found :: (pz_law_found :: [b, c]))) (fr30.sub ts) h_law_spots
          have h_law_lines := ((tD Str (tT2 tStr (tTs tStr))) : Ty K (List (Str × (Str × (List Str))))).mono (S := (p_law_found :: (pz_law_found :: [b, c]))) (fr30.sub ts) h_law_lines
          have h_law_sites := ((tD Str (tT2 tStr tInt)) : Ty K (List (Str × (Str × Int)))).mono (S := (p_law_found :: (pz_law_found :: [b, c]))) (fr30.sub ts) h_law_sites
          have h_law_land := ((tO ev.C_Land ldT) : Ty K Ld).mono (S := (p_law_found :: (pz_law_found :: [b, c]))) (fr30.sub ts) h_law_land
          have h_law_turn := (tInt : Ty K Int).mono (S := (p_law_found :: (pz_law_found :: [b, c]))) (fr30.sub ts) h_law_turn
          have h_law_name_here := (tStr : Ty K Str).mono (S := (p_law_found :: (pz_law_found :: [b, c]))) (fr30.sub ts) h_law_name_here
          have h_law_dues := ((tU (tL (tT2 tStr tStr)) (tL2 (tL (tT2 tRat tRat)) tRat)) : Ty K ((List (Str × Str)) ⊕ ((List (Rat × Rat)) × Rat))).mono (S := (p_law_found :: (pz_law_found :: [b, c]))) (fr30.sub ts) h_law_dues
          have o_law_found := o_law_found.fr fr30 ts nt_law_found
          have dm := dm30
          have hB := hB30
          have h_law_good : (tBool : Ty K Bool).rp (p_law_found :: (pz_law_found :: [b, c])) H30 v_law_good law_good_30 := h_law_good
          obtain ⟨u34, eu34, hm⟩ := hm
          have hz34 : ((tL (tT2 tRat tRat)) : Ty K (List (Rat × Rat))).rp [] _ (.ref p_law_found) za28 := o_law_found.frz (S' := []) (fun a m => by simp at m) (by simp)
          refine l_if (S := []) (T := []) Dom.nil (eb_B (K := K) (ev_isi (a := ((tL (tT2 tRat tRat)) : Ty K (List (Rat × Rat)))) (k := true) (ev_var (fun a m => m) hz34 rfl) (by decide +kernel))) rfl (fun hc H34 s34 => ?_) (fun hc H34 s34 => Bool.noConfusion hc)
          have fr0 := fr0.trans (Fr.same s34)
          have dm := dm.same s34
          have frl := frl.trans (Fr.same s34)
          have h_law_ground_here := ((tL3 (tD Str (tT2 tRat tRat)) (tD Str (tT2 tStr (tTs tStr))) (tD Str (tT2 tStr tInt))) : Ty K ((List (Str × (Rat × Rat))) × (List (Str × (Str × (List Str)))) × (List (Str × (Str × Int))))).mono (S := (p_law_found :: (pz_law_found :: [b, c]))) (Fr.same s34) h_law_ground_here
          have h_law_spots := ((tD Str (tT2 tRat tRat)) : Ty K (List (Str × (Rat × Rat)))).mono (S := (p_law_found :: (pz_law_found :: [b, c]))) (Fr.same s34) h_law_spots
          have h_law_lines := ((tD Str (tT2 tStr (tTs tStr))) : Ty K (List (Str × (Str × (List Str))))).mono (S := (p_law_found :: (pz_law_found :: [b, c]))) (Fr.same s34) h_law_lines
          have h_law_sites := ((tD Str (tT2 tStr tInt)) : Ty K (List (Str × (Str × Int)))).mono (S := (p_law_found :: (pz_law_found :: [b, c]))) (Fr.same s34) h_law_sites
          have h_law_land := ((tO ev.C_Land ldT) : Ty K Ld).mono (S := (p_law_found :: (pz_law_found :: [b, c]))) (Fr.same s34) h_law_land
          have h_law_turn := (tInt : Ty K Int).mono (S := (p_law_found :: (pz_law_found :: [b, c]))) (Fr.same s34) h_law_turn
          have h_law_name_here := (tStr : Ty K Str).mono (S := (p_law_found :: (pz_law_found :: [b, c]))) (Fr.same s34) h_law_name_here
          have h_law_dues := ((tU (tL (tT2 tStr tStr)) (tL2 (tL (tT2 tRat tRat)) tRat)) : Ty K ((List (Str × Str)) ⊕ ((List (Rat × Rat)) × Rat))).mono (S := (p_law_found :: (pz_law_found :: [b, c]))) (Fr.same s34) h_law_dues
          have o_law_found := o_law_found.same s34
          have h_law_good := (tBool : Ty K Bool).mono (S := (p_law_found :: (pz_law_found :: [b, c]))) (Fr.same s34) h_law_good
          have hB := hB.same s34
          refine l_spoil dm o_law_found im_law_found rfl eu34 (fun H35 s35 frx35 => ?_)
          have fr0 := fr0.mut hB.dom n0_law_found s35
          have frl := frl.mutN nl_law_found s35
          have dm := dm.fx frx35 s35
          have h_law_ground_here := ((tL3 (tD Str (tT2 tRat tRat)) (tD Str (tT2 tStr (tTs tStr))) (tD Str (tT2 tStr tInt))) : Ty K ((List (Str × (Rat × Rat))) × (List (Str × (Str × (List Str)))) × (List (Str × (Str × Int))))).mono (S := (p_law_found :: (pz_law_found :: [b, c]))) frx35 h_law_ground_here
          have h_law_spots := ((tD Str (tT2 tRat tRat)) : Ty K (List (Str × (Rat × Rat)))).mono (S := (p_law_found :: (pz_law_found :: [b, c]))) frx35 h_law_spots
          have h_law_lines := ((tD Str (tT2 tStr (tTs tStr))) : Ty K (List (Str × (Str × (List Str))))).mono (S := (p_law_found :: (pz_law_found :: [b, c]))) frx35 h_law_lines
          have h_law_sites := ((tD Str (tT2 tStr tInt)) : Ty K (List (Str × (Str × Int)))).mono (S := (p_law_found :: (pz_law_found :: [b, c]))) frx35 h_law_sites
          have h_law_land := ((tO ev.C_Land ldT) : Ty K Ld).mono (S := (p_law_found :: (pz_law_found :: [b, c]))) frx35 h_law_land
          have h_law_turn := (tInt : Ty K Int).mono (S := (p_law_found :: (pz_law_found :: [b, c]))) frx35 h_law_turn
          have h_law_name_here := (tStr : Ty K Str).mono (S := (p_law_found :: (pz_law_found :: [b, c]))) frx35 h_law_name_here
          have h_law_dues := ((tU (tL (tT2 tStr tStr)) (tL2 (tL (tT2 tRat tRat)) tRat)) : Ty K ((List (Str × Str)) ⊕ ((List (Rat × Rat)) × Rat))).mono (S := (p_law_found :: (pz_law_found :: [b, c]))) frx35 h_law_dues
          have h_law_good := (tBool : Ty K Bool).mono (S := (p_law_found :: (pz_law_found :: [b, c]))) frx35 h_law_good
          have hB := hB.mut s35 nt_law_found
          have sbl : Sub (pz_law_found :: [b, c]) (p_law_found :: (pz_law_found :: [b, c])) := sub_cons (fun a m => m)
          have dm := dm.sub sbl
          have h_law_ground_here := ((tL3 (tD Str (tT2 tRat tRat)) (tD Str (tT2 tStr (tTs tStr))) (tD Str (tT2 tStr tInt))) : Ty K ((List (Str × (Rat × Rat))) × (List (Str × (Str × (List Str)))) × (List (Str × (Str × Int))))).sub sbl h_law_ground_here
          have h_law_spots := ((tD Str (tT2 tRat tRat)) : Ty K (List (Str × (Rat × Rat)))).sub sbl h_law_spots
          have h_law_lines := ((tD Str (tT2 tStr (tTs tStr))) : Ty K (List (Str × (Str × (List Str))))).sub sbl h_law_lines
          have h_law_sites := ((tD Str (tT2 tStr tInt)) : Ty K (List (Str × (Str × Int)))).sub sbl h_law_sites
          have h_law_land := ((tO ev.C_Land ldT) : Ty K Ld).sub sbl h_law_land
          exact ⟨_, hm, frl, ⟨frlo.transx frl freshlo, v_law_ground_here, v_law_spots, v_law_lines, v_law_sites, v_law_land, v_law_turn, v_law_good, _, _, _, _, _, _, _, _, _, _, rfl, fr0, dm, hB, h_law_ground_here, h_law_spots, h_law_lines, h_law_sites, h_law_land, h_law_turn, h_law_good⟩⟩
        · exact hm.elim
      obtain ⟨c11, e11, hm⟩ := hm
      refine l_if (T := [b, c]) dm (eb_test (K := K) (ev_din (ck := (tStr : Ty K Str)) (ev_var ts h_law_name_here rfl) (ev_var ts h_law_lines rfl))) e11 (fun hc H11 s11 => ?_) (fun hc H11 s11 => ?_)
      · skip
        subst hc
        have fr0 := fr0.trans (Fr.same s11)
        have dm := dm.same s11
        have frl := frl.trans (Fr.same s11)
        have h_law_ground_here := ((tL3 (tD Str (tT2 tRat tRat)) (tD Str (tT2 tStr (tTs tStr))) (tD Str (tT2 tStr tInt))) : Ty K ((List (Str × (Rat × Rat))) × (List (Str × (Str × (List Str)))) × (List (Str × (Str × Int))))).mono (S := (pz_law_found :: [b, c])) (Fr.same s11) h_law_ground_here
        have h_law_spots := ((tD Str (tT2 tRat tRat)) : Ty K (List (Str × (Rat × Rat)))).mono (S := (pz_law_found :: [b, c])) (Fr.same s11) h_law_spots
        have h_law_lines := ((tD Str (tT2 tStr (tTs tStr))) : Ty K (List (Str × (Str × (List Str))))).mono (S := (pz_law_found :: [b, c])) (Fr.same s11) h_law_lines
        have h_law_sites := ((tD Str (tT2 tStr tInt)) : Ty K (List (Str × (Str × Int)))).mono (S := (pz_law_found :: [b, c])) (Fr.same s11) h_law_sites
        have h_law_land := ((tO ev.C_Land ldT) : Ty K Ld).mono (S := (pz_law_found :: [b, c])) (Fr.same s11) h_law_land
        have h_law_turn := (tInt : Ty K Int).mono (S := (pz_law_found :: [b, c])) (Fr.same s11) h_law_turn
        have h_law_good := (tBool : Ty K Bool).mono (S := (pz_law_found :: [b, c])) (Fr.same s11) h_law_good
        have h_law_name_here := (tStr : Ty K Str).mono (S := (pz_law_found :: [b, c])) (Fr.same s11) h_law_name_here
        have h_law_dues := ((tU (tL (tT2 tStr tStr)) (tL2 (tL (tT2 tRat tRat)) tRat)) : Ty K ((List (Str × Str)) ⊕ ((List (Rat × Rat)) × Rat))).mono (S := (pz_law_found :: [b, c])) (Fr.same s11) h_law_dues
        have hB := hB.same s11
        have hm := ifp_t hm
        obtain ⟨law_gone_13, e13, hm⟩ := hm
        refine q_asg (T := [b, c]) dm (ev_new (ev_lcF (sr_tup (ev_ix21 (ev_dget (ck := (tStr : Ty K Str)) (ev_var ts h_law_lines rfl) (ev_var ts h_law_name_here rfl)))) (fun v => by rfl) (fun law_mark_12 v_law_mark H2' H' p' fr' nD' sm' h_law_mark => by have h_law_ground_here := ((tL3 (tD Str (tT2 tRat tRat)) (tD Str (tT2 tStr (tTs tStr))) (tD Str (tT2 tStr tInt))) : Ty K ((List (Str × (Rat × Rat))) × (List (Str × (Str × (List Str)))) × (List (Str × (Str × Int))))).mono (Fr.same sm') (((tL3 (tD Str (tT2 tRat tRat)) (tD Str (tT2 tStr (tTs tStr))) (tD Str (tT2 tStr tInt))) : Ty K ((List (Str × (Rat × Rat))) × (List (Str × (Str × (List Str)))) × (List (Str × (Str × Int))))).ext (S := (pz_law_found :: [b, c])) nD' (((tL3 (tD Str (tT2 tRat tRat)) (tD Str (tT2 tStr (tTs tStr))) (tD Str (tT2 tStr tInt))) : Ty K ((List (Str × (Rat × Rat))) × (List (Str × (Str × (List Str)))) × (List (Str × (Str × Int))))).mono (Fr.sub ts fr') h_law_ground_here)); have h_law_spots := ((tD Str (tT2 tRat tRat)) : Ty K (List (Str × (Rat × Rat)))).mono (Fr.same sm') (((tD Str (tT2 tRat tRat)) : Ty K (List (Str × (Rat × Rat)))).ext (S := (pz_law_found :: [b, c])) nD' (((tD Str (tT2 tRat tRat)) : Ty K (List (Str × (Rat × Rat)))).mono (Fr.sub ts fr') h_law_spots)); have h_law_lines := ((tD Str (tT2 tStr (tTs tStr))) : Ty K (List (Str × (Str × (List Str))))).mono (Fr.same sm') (((tD Str (tT2 tStr (tTs tStr))) : Ty K (List (Str × (Str × (List Str))))).ext (S := (pz_law_found :: [b, c])) nD' (((tD Str (tT2 tStr (tTs tStr))) : Ty K (List (Str × (Str × (List Str))))).mono (Fr.sub ts fr') h_law_lines)); have h_law_sites := ((tD Str (tT2 tStr tInt)) : Ty K (List (Str × (Str × Int)))).mono (Fr.same sm') (((tD Str (tT2 tStr tInt)) : Ty K (List (Str × (Str × Int)))).ext (S := (pz_law_found :: [b, c])) nD' (((tD Str (tT2 tStr tInt)) : Ty K (List (Str × (Str × Int)))).mono (Fr.sub ts fr') h_law_sites)); have h_law_land := ((tO ev.C_Land ldT) : Ty K Ld).mono (Fr.same sm') (((tO ev.C_Land ldT) : Ty K Ld).ext (S := (pz_law_found :: [b, c])) nD' (((tO ev.C_Land ldT) : Ty K Ld).mono (Fr.sub ts fr') h_law_land)); have h_law_turn := (tInt : Ty K Int).mono (Fr.same sm') ((tInt : Ty K Int).ext (S := (pz_law_found :: [b, c])) nD' ((tInt : Ty K Int).mono (Fr.sub ts fr') h_law_turn)); have h_law_good := (tBool : Ty K Bool).mono (Fr.same sm') ((tBool : Ty K Bool).ext (S := (pz_law_found :: [b, c])) nD' ((tBool : Ty K Bool).mono (Fr.sub ts fr') h_law_good)); have h_law_name_here := (tStr : Ty K Str).mono (Fr.same sm') ((tStr : Ty K Str).ext (S := (pz_law_found :: [b, c])) nD' ((tStr : Ty K Str).mono (Fr.sub ts fr') h_law_name_here)); have h_law_dues := ((tU (tL (tT2 tStr tStr)) (tL2 (tL (tT2 tRat tRat)) tRat)) : Ty K ((List (Str × Str)) ⊕ ((List (Rat × Rat)) × Rat))).mono (Fr.same sm') (((tU (tL (tT2 tStr tStr)) (tL2 (tL (tT2 tRat tRat)) tRat)) : Ty K ((List (Str × Str)) ⊕ ((List (Rat × Rat)) × Rat))).ext (S := (pz_law_found :: [b, c])) nD' (((tU (tL (tT2 tStr tStr)) (tL2 (tL (tT2 tRat tRat)) tRat)) : Ty K ((List (Str × Str)) ⊕ ((List (Rat × Rat)) × Rat))).mono (Fr.sub ts fr') h_law_dues)); have ts0' := ts; have ts : Sub [] (p' :: (pz_law_found :: [b, c])) := (fun a m => by simp at m);  exact (eb_test (K := K) (ev_dnotin (ck := (tStr : Ty K Str)) (ev_var ts h_law_mark rfl) (ev_var ts h_law_spots rfl)))) (fun law_mark_12 v_law_mark H2' H' p' fr' nD' sm' h_law_mark => by have h_law_ground_here := ((tL3 (tD Str (tT2 tRat tRat)) (tD Str (tT2 tStr (tTs tStr))) (tD Str (tT2 tStr tInt))) : Ty K ((List (Str × (Rat × Rat))) × (List (Str × (Str × (List Str)))) × (List (Str × (Str × Int))))).mono (Fr.same sm') (((tL3 (tD Str (tT2 tRat tRat)) (tD Str (tT2 tStr (tTs tStr))) (tD Str (tT2 tStr tInt))) : Ty K ((List (Str × (Rat × Rat))) × (List (Str × (Str × (List Str)))) × (List (Str × (Str × Int))))).ext (S := (pz_law_found :: [b, c])) nD' (((tL3 (tD Str (tT2 tRat tRat)) (tD Str (tT2 tStr (tTs tStr))) (tD Str (tT2 tStr tInt))) : Ty K ((List (Str × (Rat × Rat))) × (List (Str × (Str × (List Str)))) × (List (Str × (Str × Int))))).mono (Fr.sub ts fr') h_law_ground_here)); have h_law_spots := ((tD Str (tT2 tRat tRat)) : Ty K (List (Str × (Rat × Rat)))).mono (Fr.same sm') (((tD Str (tT2 tRat tRat)) : Ty K (List (Str × (Rat × Rat)))).ext (S := (pz_law_found :: [b, c])) nD' (((tD Str (tT2 tRat tRat)) : Ty K (List (Str × (Rat × Rat)))).mono (Fr.sub ts fr') h_law_spots)); have h_law_lines := ((tD Str (tT2 tStr (tTs tStr))) : Ty K (List (Str × (Str × (List Str))))).mono (Fr.same sm') (((tD Str (tT2 tStr (tTs tStr))) : Ty K (List (Str × (Str × (List Str))))).ext (S := (pz_law_found :: [b, c])) nD' (((tD Str (tT2 tStr (tTs tStr))) : Ty K (List (Str × (Str × (List Str))))).mono (Fr.sub ts fr') h_law_lines)); have h_law_sites := ((tD Str (tT2 tStr tInt)) : Ty K (List (Str × (Str × Int)))).mono (Fr.same sm') (((tD Str (tT2 tStr tInt)) : Ty K (List (Str × (Str × Int)))).ext (S := (pz_law_found :: [b, c])) nD' (((tD Str (tT2 tStr tInt)) : Ty K (List (Str × (Str × Int)))).mono (Fr.sub ts fr') h_law_sites)); have h_law_land := ((tO ev.C_Land ldT) : Ty K Ld).mono (Fr.same sm') (((tO ev.C_Land ldT) : Ty K Ld).ext (S := (pz_law_found :: [b, c])) nD' (((tO ev.C_Land ldT) : Ty K Ld).mono (Fr.sub ts fr') h_law_land)); have h_law_turn := (tInt : Ty K Int).mono (Fr.same sm') ((tInt : Ty K Int).ext (S := (pz_law_found :: [b, c])) nD' ((tInt : Ty K Int).mono (Fr.sub ts fr') h_law_turn)); have h_law_good := (tBool : Ty K Bool).mono (Fr.same sm') ((tBool : Ty K Bool).ext (S := (pz_law_found :: [b, c])) nD' ((tBool : Ty K Bool).mono (Fr.sub ts fr') h_law_good)); have h_law_name_here := (tStr : Ty K Str).mono (Fr.same sm') ((tStr : Ty K Str).ext (S := (pz_law_found :: [b, c])) nD' ((tStr : Ty K Str).mono (Fr.sub ts fr') h_law_name_here)); have h_law_dues := ((tU (tL (tT2 tStr tStr)) (tL2 (tL (tT2 tRat tRat)) tRat)) : Ty K ((List (Str × Str)) ⊕ ((List (Rat × Rat)) × Rat))).mono (Fr.same sm') (((tU (tL (tT2 tStr tStr)) (tL2 (tL (tT2 tRat tRat)) tRat)) : Ty K ((List (Str × Str)) ⊕ ((List (Rat × Rat)) × Rat))).ext (S := (pz_law_found :: [b, c])) nD' (((tU (tL (tT2 tStr tStr)) (tL2 (tL (tT2 tRat tRat)) tRat)) : Ty K ((List (Str × Str)) ⊕ ((List (Rat × Rat)) × Rat))).mono (Fr.sub ts fr') h_law_dues)); have ts0' := ts; have ts : Sub [] (p' :: (pz_law_found :: [b, c])) := (fun a m => by simp at m);  exact (ev_var ts h_law_mark rfl)))) e13 (fun v_law_gone H13 s13 h_law_gone => ?_)
        have fr0 := fr0.trans (Fr.same s13)
        have dm := dm.same s13
        have frl := frl.trans (Fr.same s13)
        have h_law_ground_here := ((tL3 (tD Str (tT2 tRat tRat)) (tD Str (tT2 tStr (tTs tStr))) (tD Str (tT2 tStr tInt))) : Ty K ((List (Str × (Rat × Rat))) × (List (Str × (Str × (List Str)))) × (List (Str × (Str × Int))))).mono (S := (pz_law_found :: [b, c])) (Fr.same s13) h_law_ground_here
        have h_law_spots := ((tD Str (tT2 tRat tRat)) : Ty K (List (Str × (Rat × Rat)))).mono (S := (pz_law_found :: [b, c])) (Fr.same s13) h_law_spots
        have h_law_lines := ((tD Str (tT2 tStr (tTs tStr))) : Ty K (List (Str × (Str × (List Str))))).mono (S := (pz_law_found :: [b, c])) (Fr.same s13) h_law_lines
        have h_law_sites := ((tD Str (tT2 tStr tInt)) : Ty K (List (Str × (Str × Int)))).mono (S := (pz_law_found :: [b, c])) (Fr.same s13) h_law_sites
        have h_law_land := ((tO ev.C_Land ldT) : Ty K Ld).mono (S := (pz_law_found :: [b, c])) (Fr.same s13) h_law_land
        have h_law_turn := (tInt : Ty K Int).mono (S := (pz_law_found :: [b, c])) (Fr.same s13) h_law_turn
        have h_law_good := (tBool : Ty K Bool).mono (S := (pz_law_found :: [b, c])) (Fr.same s13) h_law_good
        have h_law_name_here := (tStr : Ty K Str).mono (S := (pz_law_found :: [b, c])) (Fr.same s13) h_law_name_here
        have h_law_dues := ((tU (tL (tT2 tStr tStr)) (tL2 (tL (tT2 tRat tRat)) tRat)) : Ty K ((List (Str × Str)) ⊕ ((List (Rat × Rat)) × Rat))).mono (S := (pz_law_found :: [b, c])) (Fr.same s13) h_law_dues
        have hB := hB.same s13
        have h_law_gone : ((tL tStr) : Ty K (List Str)).rp (pz_law_found :: [b, c]) H13 v_law_gone law_gone_13 := h_law_gone
        obtain ⟨law_dues_15, e15, hm⟩ := hm
        refine q_asg (T := [b, c]) dm (ev_inl (b' := ((tL2 (tL (tT2 tRat tRat)) tRat) : Ty K ((List (Rat × Rat)) × Rat))) (ev_new (ev_lc (sr_list (ev_new (ev_op od_cat (ev_new (ev_slL (ev_var ts h_law_gone rfl) eo_none (eo_some (ev_int (K := K))))) (ev_new (ev_slL (ev_var ts h_law_gone rfl) eo_none (eo_some (ev_int (K := K)))))))) (fun v => by rfl) (fun law_mark_14 v_law_mark H2' H' p' fr' nD' sm' h_law_mark => by have h_law_ground_here := ((tL3 (tD Str (tT2 tRat tRat)) (tD Str (tT2 tStr (tTs tStr))) (tD Str (tT2 tStr tInt))) : Ty K ((List (Str × (Rat × Rat))) × (List (Str × (Str × (List Str)))) × (List (Str × (Str × Int))))).mono (Fr.same sm') (((tL3 (tD Str (tT2 tRat tRat)) (tD Str (tT2 tStr (tTs tStr))) (tD Str (tT2 tStr tInt))) : Ty K ((List (Str × (Rat × Rat))) × (List (Str × (Str × (List Str)))) × (List (Str × (Str × Int))))).ext (S := (pz_law_found :: [b, c])) nD' (((tL3 (tD Str (tT2 tRat tRat)) (tD Str (tT2 tStr (tTs tStr))) (tD Str (tT2 tStr tInt))) : Ty K ((List (Str × (Rat × Rat))) × (List (Str × (Str × (List Str)))) × (List (Str × (Str × Int))))).mono (Fr.sub ts fr') h_law_ground_here)); have h_law_spots := ((tD Str (tT2 tRat tRat)) : Ty K (List (Str × (Rat × Rat)))).mono (Fr.same sm') (((tD Str (tT2 tRat tRat)) : Ty K (List (Str × (Rat × Rat)))).ext (S := (pz_law_found :: [b, c])) nD' (((tD Str (tT2 tRat tRat)) : Ty K (List (Str × (Rat × Rat)))).mono (Fr.sub ts fr') h_law_spots)); have h_law_lines := ((tD Str (tT2 tStr (tTs tStr))) : Ty K (List (Str × (Str × (List Str))))).mono (Fr.same sm') (((tD Str (tT2 tStr (tTs tStr))) : Ty K (List (Str × (Str × (List Str))))).ext (S := (pz_law_found :: [b, c])) nD' (((tD Str (tT2 tStr (tTs tStr))) : Ty K (List (Str × (Str × (List Str))))).mono (Fr.sub ts fr') h_law_lines)); have h_law_sites := ((tD Str (tT2 tStr tInt)) : Ty K (List (Str × (Str × Int)))).mono (Fr.same sm') (((tD Str (tT2 tStr tInt)) : Ty K (List (Str × (Str × Int)))).ext (S := (pz_law_found :: [b, c])) nD' (((tD Str (tT2 tStr tInt)) : Ty K (List (Str × (Str × Int)))).mono (Fr.sub ts fr') h_law_sites)); have h_law_land := ((tO ev.C_Land ldT) : Ty K Ld).mono (Fr.same sm') (((tO ev.C_Land ldT) : Ty K Ld).ext (S := (pz_law_found :: [b, c])) nD' (((tO ev.C_Land ldT) : Ty K Ld).mono (Fr.sub ts fr') h_law_land)); have h_law_turn := (tInt : Ty K Int).mono (Fr.same sm') ((tInt : Ty K Int).ext (S := (pz_law_found :: [b, c])) nD' ((tInt : Ty K Int).mono (Fr.sub ts fr') h_law_turn)); have h_law_good := (tBool : Ty K Bool).mono (Fr.same sm') ((tBool : Ty K Bool).ext (S := (pz_law_found :: [b, c])) nD' ((tBool : Ty K Bool).mono (Fr.sub ts fr') h_law_good)); have h_law_name_here := (tStr : Ty K Str).mono (Fr.same sm') ((tStr : Ty K Str).ext (S := (pz_law_found :: [b, c])) nD' ((tStr : Ty K Str).mono (Fr.sub ts fr') h_law_name_here)); have h_law_dues := ((tU (tL (tT2 tStr tStr)) (tL2 (tL (tT2 tRat tRat)) tRat)) : Ty K ((List (Str × Str)) ⊕ ((List (Rat × Rat)) × Rat))).mono (Fr.same sm') (((tU (tL (tT2 tStr tStr)) (tL2 (tL (tT2 tRat tRat)) tRat)) : Ty K ((List (Str × Str)) ⊕ ((List (Rat × Rat)) × Rat))).ext (S := (pz_law_found :: [b, c])) nD' (((tU (tL (tT2 tStr tStr)) (tL2 (tL (tT2 tRat tRat)) tRat)) : Ty K ((List (Str × Str)) ⊕ ((List (Rat × Rat)) × Rat))).mono (Fr.sub ts fr') h_law_dues)); have h_law_gone := ((tL tStr) : Ty K (List Str)).mono (Fr.same sm') (((tL tStr) : Ty K (List Str)).ext (S := (pz_law_found :: [b, c])) nD' (((tL tStr) : Ty K (List Str)).mono (Fr.sub ts fr') h_law_gone)); have ts0' := ts; have ts : Sub [] (p' :: (pz_law_found :: [b, c])) := (fun a m => by simp at m);  exact (ev_tup2 (ev_str (K := K)) (ev_var ts h_law_mark rfl)))))) e15 (fun v_law_dues H15 s15 h_law_dues => ?_)
        have fr0 := fr0.trans (Fr.same s15)
        have dm := dm.same s15
        have frl := frl.trans (Fr.same s15)
        have h_law_ground_here := ((tL3 (tD Str (tT2 tRat tRat)) (tD Str (tT2 tStr (tTs tStr))) (tD Str (tT2 tStr tInt))) : Ty K ((List (Str × (Rat × Rat))) × (List (Str × (Str × (List Str)))) × (List (Str × (Str × Int))))).mono (S := (pz_law_found :: [b, c])) (Fr.same s15) h_law_ground_here
        have h_law_spots := ((tD Str (tT2 tRat tRat)) : Ty K (List (Str × (Rat × Rat)))).mono (S := (pz_law_found :: [b, c])) (Fr.same s15) h_law_spots
        have h_law_lines := ((tD Str (tT2 tStr (tTs tStr))) : Ty K (List (Str × (Str × (List Str))))).mono (S := (pz_law_found :: [b, c])) (Fr.same s15) h_law_lines
        have h_law_sites := ((tD Str (tT2 tStr tInt)) : Ty K (List (Str × (Str × Int)))).mono (S := (pz_law_found :: [b, c])) (Fr.same s15) h_law_sites
        have h_law_land := ((tO ev.C_Land ldT) : Ty K Ld).mono (S := (pz_law_found :: [b, c])) (Fr.same s15) h_law_land
        have h_law_turn := (tInt : Ty K Int).mono (S := (pz_law_found :: [b, c])) (Fr.same s15) h_law_turn
        have h_law_good := (tBool : Ty K Bool).mono (S := (pz_law_found :: [b, c])) (Fr.same s15) h_law_good
        have h_law_name_here := (tStr : Ty K Str).mono (S := (pz_law_found :: [b, c])) (Fr.same s15) h_law_name_here
        have h_law_gone := ((tL tStr) : Ty K (List Str)).mono (S := (pz_law_found :: [b, c])) (Fr.same s15) h_law_gone
        have hB := hB.same s15
        have h_law_dues : ((tU (tL (tT2 tStr tStr)) (tL2 (tL (tT2 tRat tRat)) tRat)) : Ty K ((List (Str × Str)) ⊕ ((List (Rat × Rat)) × Rat))).rp (pz_law_found :: [b, c]) H15 v_law_dues law_dues_15 := h_law_dues
        obtain ⟨J16, hK16, hm⟩ := jn_open hm
        refine seq_last (fun σ' H' => ∃ j26, J16 j26 ∧ Fr (pz_law_found :: [b, c]) HL H' ∧ ∃ v_law_ground_here : V, ∃ v_law_spots : V, ∃ v_law_lines : V, ∃ v_law_sites : V, ∃ v_law_land : V, ∃ v_law_turn : V, ∃ v_law_good : V, ∃ v_law_name_here : V, ∃ v_law_gone : V, ∃ v_law_dues : V, ∃ f_9 : Option V, ∃ f_13 : Option V, ∃ f_14 : Option V, ∃ f_15 : Option V, ∃ f_16 : Option V, ∃ f_17 : Option V, ∃ f_18 : Option V, σ' = [some (.ref a0), some (.ref b), some v_law_ground_here, some v_law_spots, some v_law_lines, some v_law_sites, some v_law_land, some v_law_good, some v_law_turn, f_9, some v_law_name_here, some v_law_dues, some v_law_gone, f_13, f_14, f_15, f_16, f_17, f_18] ∧ Fr [b, c] H0 H' ∧ Dom (pz_law_found :: [b, c]) H' ∧ Bag H' b c ∧ ((tL3 (tD Str (tT2 tRat tRat)) (tD Str (tT2 tStr (tTs tStr))) (tD Str (tT2 tStr tInt))) : Ty K ((List (Str × (Rat × Rat))) × (List (Str × (Str × (List Str)))) × (List (Str × (Str × Int))))).rp (pz_law_found :: [b, c]) H' v_law_ground_here law_ground_here_1 ∧ ((tD Str (tT2 tRat tRat)) : Ty K (List (Str × (Rat × Rat)))).rp (pz_law_found :: [b, c]) H' v_law_spots u_2.1 ∧ ((tD Str (tT2 tStr (tTs tStr))) : Ty K (List (Str × (Str × (List Str))))).rp (pz_law_found :: [b, c]) H' v_law_lines u_2.2.1 ∧ ((tD Str (tT2 tStr tInt)) : Ty K (List (Str × (Str × Int)))).rp (pz_law_found :: [b, c]) H' v_law_sites u_2.2.2 ∧ ((tO ev.C_Land ldT) : Ty K Ld).rp (pz_law_found :: [b, c]) H' v_law_land law_land_3 ∧ (tInt : Ty K Int).rp (pz_law_found :: [b, c]) H' v_law_turn law_turn_5 ∧ (tBool : Ty K Bool).rp (pz_law_found :: [b, c]) H' v_law_good s_9 ∧ (tStr : Ty K Str).rp (pz_law_found :: [b, c]) H' v_law_name_here law_name_here_9 ∧ ((tL tStr) : Ty K (List Str)).rp (pz_law_found :: [b, c]) H' v_law_gone law_gone_13 ∧ ((tU (tL (tT2 tStr tStr)) (tL2 (tL (tT2 tRat tRat)) tRat)) : Ty K ((List (Str × Str)) ⊕ ((List (Rat × Rat)) × Rat))).rp (pz_law_found :: [b, c]) H' v_law_dues j26) (fun σ' H' hI => ?_) (fun rest16 => ?_)
        · skip
          obtain ⟨j26, hj, ⟨frl, v_law_ground_here, v_law_spots, v_law_lines, v_law_sites, v_law_land, v_law_turn, v_law_good, v_law_name_here, v_law_gone, v_law_dues, f_9, f_13, f_14, f_15, f_16, f_17, f_18, rfl, fr0, dm, hB, h_law_ground_here, h_law_spots, h_law_lines, h_law_sites, h_law_land, h_law_turn, h_law_good, h_law_name_here, h_law_gone, h_law_dues⟩⟩ := hI
          have hm := hK16 j26 hj
          exact rest11 _ _ ⟨_, hm, ⟨frl, v_law_ground_here, v_law_spots, v_law_lines, v_law_sites, v_law_land, v_law_turn, v_law_good, v_law_name_here, v_law_dues, _, _, _, _, _, _, _, _, rfl, fr0, dm, hB, h_law_ground_here, h_law_spots, h_law_lines, h_law_sites, h_law_land, h_law_turn, h_law_good, h_law_name_here, h_law_dues⟩⟩
        obtain ⟨c16, e16, hm⟩ := hm
        refine l_if (T := [b, c]) dm (eb_test (K := K) (ev_op (od_eqD (K := K) (dL dStr) (Nat.le_of_ble_eq_true rfl)) (ev_var ts h_law_gone rfl) (ev_new (ev_lst0 (a := (tStr : Ty K Str)))))) e16 (fun hc H16 s16 => ?_) (fun hc H16 s16 => ?_)
        · skip
          subst hc
          have fr0 := fr0.trans (Fr.same s16)
          have dm := dm.same s16
          have frl := frl.trans (Fr.same s16)
          have h_law_ground_here := ((tL3 (tD Str (tT2 tRat tRat)) (tD Str (tT2 tStr (tTs tStr))) (tD Str (tT2 tStr tInt))) : Ty K ((List (Str × (Rat × Rat))) × (List (Str × (Str × (List Str)))) × (List (Str × (Str × Int))))).mono (S := (pz_law_found :: [b, c])) (Fr.same s16) h_law_ground_here
          have h_law_spots := ((tD Str (tT2 tRat tRat)) : Ty K (List (Str × (Rat × Rat)))).mono (S := (pz_law_found :: [b, c])) (Fr.same s16) h_law_spots
          have h_law_lines := ((tD Str (tT2 tStr (tTs tStr))) : Ty K (List (Str × (Str × (List Str))))).mono (S := (pz_law_found :: [b, c])) (Fr.same s16) h_law_lines
          have h_law_sites := ((tD Str (tT2 tStr tInt)) : Ty K (List (Str × (Str × Int)))).mono (S := (pz_law_found :: [b, c])) (Fr.same s16) h_law_sites
          have h_law_land := ((tO ev.C_Land ldT) : Ty K Ld).mono (S := (pz_law_found :: [b, c])) (Fr.same s16) h_law_land
          have h_law_turn := (tInt : Ty K Int).mono (S := (pz_law_found :: [b, c])) (Fr.same s16) h_law_turn
          have h_law_good := (tBool : Ty K Bool).mono (S := (pz_law_found :: [b, c])) (Fr.same s16) h_law_good
          have h_law_name_here := (tStr : Ty K Str).mono (S := (pz_law_found :: [b, c])) (Fr.same s16) h_law_name_here
          have h_law_gone := ((tL tStr) : Ty K (List Str)).mono (S := (pz_law_found :: [b, c])) (Fr.same s16) h_law_gone
          have h_law_dues := ((tU (tL (tT2 tStr tStr)) (tL2 (tL (tT2 tRat tRat)) tRat)) : Ty K ((List (Str × Str)) ⊕ ((List (Rat × Rat)) × Rat))).mono (S := (pz_law_found :: [b, c])) (Fr.same s16) h_law_dues
          have hB := hB.same s16
          have hm := ifp_t hm
          obtain ⟨law_row_here_17, e17, hm⟩ := hm
          refine q_asg (T := [b, c]) dm (ev_new (ev_call (ea_cons (ev_var ts h_law_ground_here rfl) (ea_cons (ev_var ts h_law_name_here rfl) ea_nil)))) e17 (fun v_law_row_here H17 s17 h_law_row_here => ?_)
          have fr0 := fr0.trans (Fr.same s17)
          have dm := dm.same s17
          have frl := frl.trans (Fr.same s17)
          have h_law_ground_here := ((tL3 (tD Str (tT2 tRat tRat)) (tD Str (tT2 tStr (tTs tStr))) (tD Str (tT2 tStr tInt))) : Ty K ((List (Str × (Rat × Rat))) × (List (Str × (Str × (List Str)))) × (List (Str × (Str × Int))))).mono (S := (pz_law_found :: [b, c])) (Fr.same s17) h_law_ground_here
          have h_law_spots := ((tD Str (tT2 tRat tRat)) : Ty K (List (Str × (Rat × Rat)))).mono (S := (pz_law_found :: [b, c])) (Fr.same s17) h_law_spots
          have h_law_lines := ((tD Str (tT2 tStr (tTs tStr))) : Ty K (List (Str × (Str × (List Str))))).mono (S := (pz_law_found :: [b, c])) (Fr.same s17) h_law_lines
          have h_law_sites := ((tD Str (tT2 tStr tInt)) : Ty K (List (Str × (Str × Int)))).mono (S := (pz_law_found :: [b, c])) (Fr.same s17) h_law_sites
          have h_law_land := ((tO ev.C_Land ldT) : Ty K Ld).mono (S := (pz_law_found :: [b, c])) (Fr.same s17) h_law_land
          have h_law_turn := (tInt : Ty K Int).mono (S := (pz_law_found :: [b, c])) (Fr.same s17) h_law_turn
          have h_law_good := (tBool : Ty K Bool).mono (S := (pz_law_found :: [b, c])) (Fr.same s17) h_law_good
          have h_law_name_here := (tStr : Ty K Str).mono (S := (pz_law_found :: [b, c])) (Fr.same s17) h_law_name_here
          have h_law_gone := ((tL tStr) : Ty K (List Str)).mono (S := (pz_law_found :: [b, c])) (Fr.same s17) h_law_gone
          have h_law_dues := ((tU (tL (tT2 tStr tStr)) (tL2 (tL (tT2 tRat tRat)) tRat)) : Ty K ((List (Str × Str)) ⊕ ((List (Rat × Rat)) × Rat))).mono (S := (pz_law_found :: [b, c])) (Fr.same s17) h_law_dues
          have hB := hB.same s17
          have h_law_row_here : ((tL (tT2 tRat tRat)) : Ty K (List (Rat × Rat))).rp (pz_law_found :: [b, c]) H17 v_law_row_here law_row_here_17 := h_law_row_here
          obtain ⟨law_far_18, e18, hm⟩ := hm
          refine q_asg (T := [b, c]) dm (ev_p2r (ev_tup2 (ev_int (K := K)) (ev_int (K := K)))) e18 (fun v_law_far H18 s18 h_law_far => ?_)
          have fr0 := fr0.trans (Fr.same s18)
          have dm := dm.same s18
          have frl := frl.trans (Fr.same s18)
          have h_law_ground_here := ((tL3 (tD Str (tT2 tRat tRat)) (tD Str (tT2 tStr (tTs tStr))) (tD Str (tT2 tStr tInt))) : Ty K ((List (Str × (Rat × Rat))) × (List (Str × (Str × (List Str)))) × (List (Str × (Str × Int))))).mono (S := (pz_law_found :: [b, c])) (Fr.same s18) h_law_ground_here
          have h_law_spots := ((tD Str (tT2 tRat tRat)) : Ty K (List (Str × (Rat × Rat)))).mono (S := (pz_law_found :: [b, c])) (Fr.same s18) h_law_spots
          have h_law_lines := ((tD Str (tT2 tStr (tTs tStr))) : Ty K (List (Str × (Str × (List Str))))).mono (S := (pz_law_found :: [b, c])) (Fr.same s18) h_law_lines
          have h_law_sites := ((tD Str (tT2 tStr tInt)) : Ty K (List (Str × (Str × Int)))).mono (S := (pz_law_found :: [b, c])) (Fr.same s18) h_law_sites
          have h_law_land := ((tO ev.C_Land ldT) : Ty K Ld).mono (S := (pz_law_found :: [b, c])) (Fr.same s18) h_law_land
          have h_law_turn := (tInt : Ty K Int).mono (S := (pz_law_found :: [b, c])) (Fr.same s18) h_law_turn
          have h_law_good := (tBool : Ty K Bool).mono (S := (pz_law_found :: [b, c])) (Fr.same s18) h_law_good
          have h_law_name_here := (tStr : Ty K Str).mono (S := (pz_law_found :: [b, c])) (Fr.same s18) h_law_name_here
          have h_law_gone := ((tL tStr) : Ty K (List Str)).mono (S := (pz_law_found :: [b, c])) (Fr.same s18) h_law_gone
          have h_law_dues := ((tU (tL (tT2 tStr tStr)) (tL2 (tL (tT2 tRat tRat)) tRat)) : Ty K ((List (Str × Str)) ⊕ ((List (Rat × Rat)) × Rat))).mono (S := (pz_law_found :: [b, c])) (Fr.same s18) h_law_dues
          have h_law_row_here := ((tL (tT2 tRat tRat)) : Ty K (List (Rat × Rat))).mono (S := (pz_law_found :: [b, c])) (Fr.same s18) h_law_row_here
          have hB := hB.same s18
          have h_law_far : (tRat : Ty K Rat).rp (pz_law_found :: [b, c]) H18 v_law_far law_far_18 := h_law_far
          refine qw_for_s dm hB ts (srw_pure (sr_r2 (K := K) (ev_int (K := K)) (ev_lenL (ev_var ts h_law_row_here rfl)))) hm (fun s_19 σ' H' => Fr (pz_law_found :: [b, c]) HL H' ∧ ∃ v_law_ground_here : V, ∃ v_law_spots : V, ∃ v_law_lines : V, ∃ v_law_sites : V, ∃ v_law_land : V, ∃ v_law_turn : V, ∃ v_law_good : V, ∃ v_law_name_here : V, ∃ v_law_gone : V, ∃ v_law_dues : V, ∃ v_law_row_here : V, ∃ v_law_far : V, ∃ f_9 : Option V, ∃ f_15 : Option V, ∃ f_16 : Option V, ∃ f_17 : Option V, ∃ f_18 : Option V, σ' = [some (.ref a0), some (.ref b), some v_law_ground_here, some v_law_spots, some v_law_lines, some v_law_sites, some v_law_land, some v_law_good, some v_law_turn, f_9, some v_law_name_here, some v_law_dues, some v_law_gone, some v_law_row_here, some v_law_far, f_15, f_16, f_17, f_18] ∧ Fr [b, c] H0 H' ∧ Dom (pz_law_found :: [b, c]) H' ∧ Bag H' b c ∧ ((tL3 (tD Str (tT2 tRat tRat)) (tD Str (tT2 tStr (tTs tStr))) (tD Str (tT2 tStr tInt))) : Ty K ((List (Str × (Rat × Rat))) × (List (Str × (Str × (List Str)))) × (List (Str × (Str × Int))))).rp (pz_law_found :: [b, c]) H' v_law_ground_here law_ground_here_1 ∧ ((tD Str (tT2 tRat tRat)) : Ty K (List (Str × (Rat × Rat)))).rp (pz_law_found :: [b, c]) H' v_law_spots u_2.1 ∧ ((tD Str (tT2 tStr (tTs tStr))) : Ty K (List (Str × (Str × (List Str))))).rp (pz_law_found :: [b, c]) H' v_law_lines u_2.2.1 ∧ ((tD Str (tT2 tStr tInt)) : Ty K (List (Str × (Str × Int)))).rp (pz_law_found :: [b, c]) H' v_law_sites u_2.2.2 ∧ ((tO ev.C_Land ldT) : Ty K Ld).rp (pz_law_found :: [b, c]) H' v_law_land law_land_3 ∧ (tInt : Ty K Int).rp (pz_law_found :: [b, c]) H' v_law_turn law_turn_5 ∧ (tBool : Ty K Bool).rp (pz_law_found :: [b, c]) H' v_law_good s_9 ∧ (tStr : Ty K Str).rp (pz_law_found :: [b, c]) H' v_law_name_here law_name_here_9 ∧ ((tL tStr) : Ty K (List Str)).rp (pz_law_found :: [b, c]) H' v_law_gone law_gone_13 ∧ ((tU (tL (tT2 tStr tStr)) (tL2 (tL (tT2 tRat tRat)) tRat)) : Ty K ((List (Str × Str)) ⊕ ((List (Rat × Rat)) × Rat))).rp (pz_law_found :: [b, c]) H' v_law_dues law_dues_15 ∧ ((tL (tT2 tRat tRat)) : Ty K (List (Rat × Rat))).rp (pz_law_found :: [b, c]) H' v_law_row_here law_row_here_17 ∧ (tRat : Ty K Rat).rp (pz_law_found :: [b, c]) H' v_law_far s_19) (fun H19 fr19 dm19 hB19 => ?_) (fun hd19 s_19 law_k_19 C19 v_law_k σ' H' hI h_law_k hm hret19 hbrk19 => ?_) (fun t_19 σ' H' hm hI => ?_)
          · skip
            have fr0 := fr0.trans fr19
            have frl := frl.trans (fr19.sub tsl)
            have h_law_ground_here := ((tL3 (tD Str (tT2 tRat tRat)) (tD Str (tT2 tStr (tTs tStr))) (tD Str (tT2 tStr tInt))) : Ty K ((List (Str × (Rat × Rat))) × (List (Str × (Str × (List Str)))) × (List (Str × (Str × Int))))).mono (S := (pz_law_found :: [b, c])) (fr19.sub ts) h_law_ground_here
            have h_law_spots := ((tD Str (tT2 tRat tRat)) : Ty K (List (Str × (Rat × Rat)))).mono (S := (pz_law_found :: [b, c])) (fr19.sub ts) h_law_spots
            have h_law_lines := ((tD Str (tT2 tStr (tTs tStr))) : Ty K (List (Str × (Str × (List Str))))).mono (S := (pz_law_found :: [b, c])) (fr19.sub ts) h_law_lines
            have h_law_sites := ((tD Str (tT2 tStr tInt)) : Ty K (List (Str × (Str × Int)))).mono (S := (pz_law_found :: [b, c])) (fr19.sub ts) h_law_sites
            have h_law_land := ((tO ev.C_Land ldT) : Ty K Ld).mono (S := (pz_law_found :: [b, c])) (fr19.sub ts) h_law_land
            have h_law_turn := (tInt : Ty K Int).mono (S := (pz_law_found :: [b, c])) (fr19.sub ts) h_law_turn
            have h_law_good := (tBool : Ty K Bool).mono (S := (pz_law_found :: [b, c])) (fr19.sub ts) h_law_good
            have h_law_name_here := (tStr : Ty K Str).mono (S := (pz_law_found :: [b, c])) (fr19.sub ts) h_law_name_here
            have h_law_gone := ((tL tStr) : Ty K (List Str)).mono (S := (pz_law_found :: [b, c])) (fr19.sub ts) h_law_gone
            have h_law_dues := ((tU (tL (tT2 tStr tStr)) (tL2 (tL (tT2 tRat tRat)) tRat)) : Ty K ((List (Str × Str)) ⊕ ((List (Rat × Rat)) × Rat))).mono (S := (pz_law_found :: [b, c])) (fr19.sub ts) h_law_dues
            have h_law_row_here := ((tL (tT2 tRat tRat)) : Ty K (List (Rat × Rat))).mono (S := (pz_law_found :: [b, c])) (fr19.sub ts) h_law_row_here
            have h_law_far := (tRat : Ty K Rat).mono (S := (pz_law_found :: [b, c])) (fr19.sub ts) h_law_far
            have dm := dm19
            have hB := hB19
            exact ⟨frl, v_law_ground_here, v_law_spots, v_law_lines, v_law_sites, v_law_land, v_law_turn, v_law_good, v_law_name_here, v_law_gone, v_law_dues, v_law_row_here, v_law_far, _, _, _, _, _, rfl, fr0, dm, hB, h_law_ground_here, h_law_spots, h_law_lines, h_law_sites, h_law_land, h_law_turn, h_law_good, h_law_name_here, h_law_gone, h_law_dues, h_law_row_here, h_law_far⟩
          · skip
            obtain ⟨frl, v_law_ground_here, v_law_spots, v_law_lines, v_law_sites, v_law_land, v_law_turn, v_law_good, v_law_name_here, v_law_gone, v_law_dues, v_law_row_here, v_law_far, f_9, f_15, f_16, f_17, f_18, rfl, fr0, dm, hB, h_law_ground_here, h_law_spots, h_law_lines, h_law_sites, h_law_land, h_law_turn, h_law_good, h_law_name_here, h_law_gone, h_law_dues, h_law_row_here, h_law_far⟩ := hI
            have frlo := frl
            have freshlo := freshl
            let HL := H'
            have freshl : ∀ a ∈ (pz_law_found :: [b, c]), a ∉ (pz_law_found :: [b, c]) → H' a = none := fun a m n => absurd m n
            have frl : Fr (pz_law_found :: [b, c]) HL H' := Fr.refl (T := (pz_law_found :: [b, c])) H'
            have tsl := ts
            have subl : Sub (pz_law_found :: [b, c]) (pz_law_found :: [b, c]) := fun a m => m
            have h_law_k : (tInt : Ty K Int).rp (pz_law_found :: [b, c]) H' v_law_k law_k_19 := h_law_k
            refine lw_for_s dm hB ts (srw_pure (sr_r1 (K := K) (ev_int (K := K)))) hm (fun s_20 σ' H' => Fr (pz_law_found :: [b, c]) HL H' ∧ ∃ v_law_ground_here : V, ∃ v_law_spots : V, ∃ v_law_lines : V, ∃ v_law_sites : V, ∃ v_law_land : V, ∃ v_law_turn : V, ∃ v_law_good : V, ∃ v_law_name_here : V, ∃ v_law_gone : V, ∃ v_law_dues : V, ∃ v_law_row_here : V, ∃ v_law_k : V, ∃ v_law_far : V, ∃ f_9 : Option V, ∃ f_16 : Option V, ∃ f_17 : Option V, ∃ f_18 : Option V, σ' = [some (.ref a0), some (.ref b), some v_law_ground_here, some v_law_spots, some v_law_lines, some v_law_sites, some v_law_land, some v_law_good, some v_law_turn, f_9, some v_law_name_here, some v_law_dues, some v_law_gone, some v_law_row_here, some v_law_far, some v_law_k, f_16, f_17, f_18] ∧ Fr [b, c] H0 H' ∧ Dom (pz_law_found :: [b, c]) H' ∧ Bag H' b c ∧ ((tL3 (tD Str (tT2 tRat tRat)) (tD Str (tT2 tStr (tTs tStr))) (tD Str (tT2 tStr tInt))) : Ty K ((List (Str × (Rat × Rat))) × (List (Str × (Str × (List Str)))) × (List (Str × (Str × Int))))).rp (pz_law_found :: [b, c]) H' v_law_ground_here law_ground_here_1 ∧ ((tD Str (tT2 tRat tRat)) : Ty K (List (Str × (Rat × Rat)))).rp (pz_law_found :: [b, c]) H' v_law_spots u_2.1 ∧ ((tD Str (tT2 tStr (tTs tStr))) : Ty K (List (Str × (Str × (List Str))))).rp (pz_law_found :: [b, c]) H' v_law_lines u_2.2.1 ∧ ((tD Str (tT2 tStr tInt)) : Ty K (List (Str × (Str × Int)))).rp (pz_law_found :: [b, c]) H' v_law_sites u_2.2.2 ∧ ((tO ev.C_Land ldT) : Ty K Ld).rp (pz_law_found :: [b, c]) H' v_law_land law_land_3 ∧ (tInt : Ty K Int).rp (pz_law_found :: [b, c]) H' v_law_turn law_turn_5 ∧ (tBool : Ty K Bool).rp (pz_law_found :: [b, c]) H' v_law_good s_9 ∧ (tStr : Ty K Str).rp (pz_law_found :: [b, c]) H' v_law_name_here law_name_here_9 ∧ ((tL tStr) : Ty K (List Str)).rp (pz_law_found :: [b, c]) H' v_law_gone law_gone_13 ∧ ((tU (tL (tT2 tStr tStr)) (tL2 (tL (tT2 tRat tRat)) tRat)) : Ty K ((List (Str × Str)) ⊕ ((List (Rat × Rat)) × Rat))).rp (pz_law_found :: [b, c]) H' v_law_dues law_dues_15 ∧ ((tL (tT2 tRat tRat)) : Ty K (List (Rat × Rat))).rp (pz_law_found :: [b, c]) H' v_law_row_here law_row_here_17 ∧ (tInt : Ty K Int).rp (pz_law_found :: [b, c]) H' v_law_k law_k_19 ∧ (tRat : Ty K Rat).rp (pz_law_found :: [b, c]) H' v_law_far s_20) (fun H20 fr20 dm20 hB20 => ?_) (fun hd20 s_20 law_here_20 C20 v_law_here σ' H' hI h_law_here hm hret20 hbrk20 => ?_) (fun t_20 σ' H' hm hI => ?_)
            · skip
              have fr0 := fr0.trans fr20
              have frl := frl.trans (fr20.sub tsl)
              have h_law_ground_here := ((tL3 (tD Str (tT2 tRat tRat)) (tD Str (tT2 tStr (tTs tStr))) (tD Str (tT2 tStr tInt))) : Ty K ((List (Str × (Rat × Rat))) × (List (Str × (Str × (List Str)))) × (List (Str × (Str × Int))))).mono (S := (pz_law_found :: [b, c])) (fr20.sub ts) h_law_ground_here
              have h_law_spots := ((tD Str (tT2 tRat tRat)) : Ty K (List (Str × (Rat × Rat)))).mono (S := (pz_law_found :: [b, c])) (fr20.sub ts) h_law_spots
              have h_law_lines := ((tD Str (tT2 tStr (tTs tStr))) : Ty K (List (Str × (Str × (List Str))))).mono (S := (pz_law_found :: [b, c])) (fr20.sub ts) h_law_lines
              have h_law_sites := ((tD Str (tT2 tStr tInt)) : Ty K (List (Str × (Str × Int)))).mono (S := (pz_law_found :: [b, c])) (fr20.sub ts) h_law_sites
              have h_law_land := ((tO ev.C_Land ldT) : Ty K Ld).mono (S := (pz_law_found :: [b, c])) (fr20.sub ts) h_law_land
              have h_law_turn := (tInt : Ty K Int).mono (S := (pz_law_found :: [b, c])) (fr20.sub ts) h_law_turn
              have h_law_good := (tBool : Ty K Bool).mono (S := (pz_law_found :: [b, c])) (fr20.sub ts) h_law_good
              have h_law_name_here := (tStr : Ty K Str).mono (S := (pz_law_found :: [b, c])) (fr20.sub ts) h_law_name_here
              have h_law_gone := ((tL tStr) : Ty K (List Str)).mono (S := (pz_law_found :: [b, c])) (fr20.sub ts) h_law_gone
              have h_law_dues := ((tU (tL (tT2 tStr tStr)) (tL2 (tL (tT2 tRat tRat)) tRat)) : Ty K ((List (Str × Str)) ⊕ ((List (Rat × Rat)) × Rat))).mono (S := (pz_law_found :: [b, c])) (fr20.sub ts) h_law_dues
              have h_law_row_here := ((tL (tT2 tRat tRat)) : Ty K (List (Rat × Rat))).mono (S := (pz_law_found :: [b, c])) (fr20.sub ts) h_law_row_here
              have h_law_k := (tInt : Ty K Int).mono (S := (pz_law_found :: [b, c])) (fr20.sub ts) h_law_k
              have h_law_far := (tRat : Ty K Rat).mono (S := (pz_law_found :: [b, c])) (fr20.sub ts) h_law_far
              have dm := dm20
              have hB := hB20
              exact ⟨frl, v_law_ground_here, v_law_spots, v_law_lines, v_law_sites, v_law_land, v_law_turn, v_law_good, v_law_name_here, v_law_gone, v_law_dues, v_law_row_here, v_law_k, v_law_far, _, _, _, _, rfl, fr0, dm, hB, h_law_ground_here, h_law_spots, h_law_lines, h_law_sites, h_law_land, h_law_turn, h_law_good, h_law_name_here, h_law_gone, h_law_dues, h_law_row_here, h_law_k, h_law_far⟩
            · skip
              obtain ⟨frl, v_law_ground_here, v_law_spots, v_law_lines, v_law_sites, v_law_land, v_law_turn, v_law_good, v_law_name_here, v_law_gone, v_law_dues, v_law_row_here, v_law_k, v_law_far, f_9, f_16, f_17, f_18, rfl, fr0, dm, hB, h_law_ground_here, h_law_spots, h_law_lines, h_law_sites, h_law_land, h_law_turn, h_law_good, h_law_name_here, h_law_gone, h_law_dues, h_law_row_here, h_law_k, h_law_far⟩ := hI
              have frlo := frl
              have freshlo := freshl
              let HL := H'
              have freshl : ∀ a ∈ (pz_law_found :: [b, c]), a ∉ (pz_law_found :: [b, c]) → H' a = none := fun a m n => absurd m n
              have frl : Fr (pz_law_found :: [b, c]) HL H' := Fr.refl (T := (pz_law_found :: [b, c])) H'
              have tsl := ts
              have subl : Sub (pz_law_found :: [b, c]) (pz_law_found :: [b, c]) := fun a m => m
              have h_law_here : (tInt : Ty K Int).rp (pz_law_found :: [b, c]) H' v_law_here law_here_20 := h_law_here
              obtain ⟨law_away_21, e21, hm⟩ := hm
              refine q_asg (T := [b, c]) dm (ev_call (ea_cons (ev_op od_ix2 (ev_op od_ixL (ev_var ts h_law_row_here rfl) (ev_var ts h_law_k rfl)) (ev_var ts h_law_here rfl)) (ea_cons (ev_op od_ix2 (ev_op od_ixL (ev_var ts h_law_row_here rfl) (ev_op (od_sub (K := K)) (ev_var ts h_law_k rfl) (ev_int (K := K)))) (ev_var ts h_law_here rfl)) ea_nil))) e21 (fun v_law_away H21 s21 h_law_away => ?_)
              have fr0 := fr0.trans (Fr.same s21)
              have dm := dm.same s21
              have frl := frl.trans (Fr.same s21)
              have h_law_ground_here := ((tL3 (tD Str (tT2 tRat tRat)) (tD Str (tT2 tStr (tTs tStr))) (tD Str (tT2 tStr tInt))) : Ty K ((List (Str × (Rat × Rat))) × (List (Str × (Str × (List Str)))) × (List (Str × (Str × Int))))).mono (S := (pz_law_found :: [b, c])) (Fr.same s21) h_law_ground_here
              have h_law_spots := ((tD Str (tT2 tRat tRat)) : Ty K (List (Str × (Rat × Rat)))).mono (S := (pz_law_found :: [b, c])) (Fr.same s21) h_law_spots
              have h_law_lines := ((tD Str (tT2 tStr (tTs tStr))) : Ty K (List (Str × (Str × (List Str))))).mono (S := (pz_law_found :: [b, c])) (Fr.same s21) h_law_lines
              have h_law_sites := ((tD Str (tT2 tStr tInt)) : Ty K (List (Str × (Str × Int)))).mono (S := (pz_law_found :: [b, c])) (Fr.same s21) h_law_sites
              have h_law_land := ((tO ev.C_Land ldT) : Ty K Ld).mono (S := (pz_law_found :: [b, c])) (Fr.same s21) h_law_land
              have h_law_turn := (tInt : Ty K Int).mono (S := (pz_law_found :: [b, c])) (Fr.same s21) h_law_turn
              have h_law_good := (tBool : Ty K Bool).mono (S := (pz_law_found :: [b, c])) (Fr.same s21) h_law_good
              have h_law_name_here := (tStr : Ty K Str).mono (S := (pz_law_found :: [b, c])) (Fr.same s21) h_law_name_here
              have h_law_gone := ((tL tStr) : Ty K (List Str)).mono (S := (pz_law_found :: [b, c])) (Fr.same s21) h_law_gone
              have h_law_dues := ((tU (tL (tT2 tStr tStr)) (tL2 (tL (tT2 tRat tRat)) tRat)) : Ty K ((List (Str × Str)) ⊕ ((List (Rat × Rat)) × Rat))).mono (S := (pz_law_found :: [b, c])) (Fr.same s21) h_law_dues
              have h_law_row_here := ((tL (tT2 tRat tRat)) : Ty K (List (Rat × Rat))).mono (S := (pz_law_found :: [b, c])) (Fr.same s21) h_law_row_here
              have h_law_k := (tInt : Ty K Int).mono (S := (pz_law_found :: [b, c])) (Fr.same s21) h_law_k
              have h_law_far := (tRat : Ty K Rat).mono (S := (pz_law_found :: [b, c])) (Fr.same s21) h_law_far
              have h_law_here := (tInt : Ty K Int).mono (S := (pz_law_found :: [b, c])) (Fr.same s21) h_law_here
              have hB := hB.same s21
              have h_law_away : (tRat : Ty K Rat).rp (pz_law_found :: [b, c]) H21 v_law_away law_away_21 := h_law_away
              obtain ⟨law_far_22, e22, hm⟩ := hm
              refine l_asg (T := [b, c]) dm (ev_call (ea_cons (ev_var ts h_law_far rfl) (ea_cons (ev_p2r (ev_tup2 (ev_abs (ev_ixR0 (ev_var ts h_law_away rfl))) (ev_ixR1 (ev_var ts h_law_away rfl)))) ea_nil))) e22 (fun v_law_far H22 s22 h_law_far => ?_)
              have fr0 := fr0.trans (Fr.same s22)
              have dm := dm.same s22
              have frl := frl.trans (Fr.same s22)
              have h_law_ground_here := ((tL3 (tD Str (tT2 tRat tRat)) (tD Str (tT2 tStr (tTs tStr))) (tD Str (tT2 tStr tInt))) : Ty K ((List (Str × (Rat × Rat))) × (List (Str × (Str × (List Str)))) × (List (Str × (Str × Int))))).mono (S := (pz_law_found :: [b, c])) (Fr.same s22) h_law_ground_here
              have h_law_spots := ((tD Str (tT2 tRat tRat)) : Ty K (List (Str × (Rat × Rat)))).mono (S := (pz_law_found :: [b, c])) (Fr.same s22) h_law_spots
              have h_law_lines := ((tD Str (tT2 tStr (tTs tStr))) : Ty K (List (Str × (Str × (List Str))))).mono (S := (pz_law_found :: [b, c])) (Fr.same s22) h_law_lines
              have h_law_sites := ((tD Str (tT2 tStr tInt)) : Ty K (List (Str × (Str × Int)))).mono (S := (pz_law_found :: [b, c])) (Fr.same s22) h_law_sites
              have h_law_land := ((tO ev.C_Land ldT) : Ty K Ld).mono (S := (pz_law_found :: [b, c])) (Fr.same s22) h_law_land
              have h_law_turn := (tInt : Ty K Int).mono (S := (pz_law_found :: [b, c])) (Fr.same s22) h_law_turn
              have h_law_good := (tBool : Ty K Bool).mono (S := (pz_law_found :: [b, c])) (Fr.same s22) h_law_good
              have h_law_name_here := (tStr : Ty K Str).mono (S := (pz_law_found :: [b, c])) (Fr.same s22) h_law_name_here
              have h_law_gone := ((tL tStr) : Ty K (List Str)).mono (S := (pz_law_found :: [b, c])) (Fr.same s22) h_law_gone
              have h_law_dues := ((tU (tL (tT2 tStr tStr)) (tL2 (tL (tT2 tRat tRat)) tRat)) : Ty K ((List (Str × Str)) ⊕ ((List (Rat × Rat)) × Rat))).mono (S := (pz_law_found :: [b, c])) (Fr.same s22) h_law_dues
              have h_law_row_here := ((tL (tT2 tRat tRat)) : Ty K (List (Rat × Rat))).mono (S := (pz_law_found :: [b, c])) (Fr.same s22) h_law_row_here
              have h_law_k := (tInt : Ty K Int).mono (S := (pz_law_found :: [b, c])) (Fr.same s22) h_law_k
              have h_law_here := (tInt : Ty K Int).mono (S := (pz_law_found :: [b, c])) (Fr.same s22) h_law_here
              have h_law_away := (tRat : Ty K Rat).mono (S := (pz_law_found :: [b, c])) (Fr.same s22) h_law_away
              have hB := hB.same s22
              have h_law_far : (tRat : Ty K Rat).rp (pz_law_found :: [b, c]) H22 v_law_far law_far_22 := h_law_far
              exact ⟨_, hm, frl, ⟨frlo.transx frl freshlo, v_law_ground_here, v_law_spots, v_law_lines, v_law_sites, v_law_land, v_law_turn, v_law_good, v_law_name_here, v_law_gone, v_law_dues, v_law_row_here, v_law_k, v_law_far, _, _, _, _, rfl, fr0, dm, hB, h_law_ground_here, h_law_spots, h_law_lines, h_law_sites, h_law_land, h_law_turn, h_law_good, h_law_name_here, h_law_gone, h_law_dues, h_law_row_here, h_law_k, h_law_far⟩⟩
            obtain ⟨frl, v_law_ground_here, v_law_spots, v_law_lines, v_law_sites, v_law_land, v_law_turn, v_law_good, v_law_name_here, v_law_gone, v_law_dues, v_law_row_here, v_law_k, v_law_far, f_9, f_16, f_17, f_18, rfl, fr0, dm, hB, h_law_ground_here, h_law_spots, h_law_lines, h_law_sites, h_law_land, h_law_turn, h_law_good, h_law_name_here, h_law_gone, h_law_dues, h_law_row_here, h_law_k, h_law_far⟩ := hI
            exact ⟨_, hm, frl, ⟨frlo.transx frl freshlo, v_law_ground_here, v_law_spots, v_law_lines, v_law_sites, v_law_land, v_law_turn, v_law_good, v_law_name_here, v_law_gone, v_law_dues, v_law_row_here, v_law_far, _, _, _, _, _, rfl, fr0, dm, hB, h_law_ground_here, h_law_spots, h_law_lines, h_law_sites, h_law_land, h_law_turn, h_law_good, h_law_name_here, h_law_gone, h_law_dues, h_law_row_here, h_law_far⟩⟩
          obtain ⟨frl, v_law_ground_here, v_law_spots, v_law_lines, v_law_sites, v_law_land, v_law_turn, v_law_good, v_law_name_here, v_law_gone, v_law_dues, v_law_row_here, v_law_far, f_9, f_15, f_16, f_17, f_18, rfl, fr0, dm, hB, h_law_ground_here, h_law_spots, h_law_lines, h_law_sites, h_law_land, h_law_turn, h_law_good, h_law_name_here, h_law_gone, h_law_dues, h_law_row_here, h_law_far⟩ := hI
          obtain ⟨law_dues_24, e24, hm⟩ := hm
          refine l_asg (T := [b, c]) dm (ev_inr (a := ((tL (tT2 tStr tStr)) : Ty K (List (Str × Str)))) (ev_lst2 (ev_var ts h_law_row_here rfl) (ev_var ts h_law_far rfl))) e24 (fun v_law_dues H24 s24 h_law_dues => ?_)
          have fr0 := fr0.trans (Fr.same s24)
          have dm := dm.same s24
          have frl := frl.trans (Fr.same s24)
          have h_law_ground_here := ((tL3 (tD Str (tT2 tRat tRat)) (tD Str (tT2 tStr (tTs tStr))) (tD Str (tT2 tStr tInt))) : Ty K ((List (Str × (Rat × Rat))) × (List (Str × (Str × (List Str)))) × (List (Str × (Str × Int))))).mono (S := (pz_law_found :: [b, c])) (Fr.same s24) h_law_ground_here
          have h_law_spots := ((tD Str (tT2 tRat tRat)) : Ty K (List (Str × (Rat × Rat)))).mono (S := (pz_law_found :: [b, c])) (Fr.same s24) h_law_spots
          have h_law_lines := ((tD Str (tT2 tStr (tTs tStr))) : Ty K (List (Str × (Str × (List Str))))).mono (S := (pz_law_found :: [b, c])) (Fr.same s24) h_law_lines
          have h_law_sites := ((tD Str (tT2 tStr tInt)) : Ty K (List (Str × (Str × Int)))).mono (S := (pz_law_found :: [b, c])) (Fr.same s24) h_law_sites
          have h_law_land := ((tO ev.C_Land ldT) : Ty K Ld).mono (S := (pz_law_found :: [b, c])) (Fr.same s24) h_law_land
          have h_law_turn := (tInt : Ty K Int).mono (S := (pz_law_found :: [b, c])) (Fr.same s24) h_law_turn
          have h_law_good := (tBool : Ty K Bool).mono (S := (pz_law_found :: [b, c])) (Fr.same s24) h_law_good
          have h_law_name_here := (tStr : Ty K Str).mono (S := (pz_law_found :: [b, c])) (Fr.same s24) h_law_name_here
          have h_law_gone := ((tL tStr) : Ty K (List Str)).mono (S := (pz_law_found :: [b, c])) (Fr.same s24) h_law_gone
          have h_law_row_here := ((tL (tT2 tRat tRat)) : Ty K (List (Rat × Rat))).mono (S := (pz_law_found :: [b, c])) (Fr.same s24) h_law_row_here
          have h_law_far := (tRat : Ty K Rat).mono (S := (pz_law_found :: [b, c])) (Fr.same s24) h_law_far
          have hB := hB.same s24
          have h_law_dues : ((tU (tL (tT2 tStr tStr)) (tL2 (tL (tT2 tRat tRat)) tRat)) : Ty K ((List (Str × Str)) ⊕ ((List (Rat × Rat)) × Rat))).rp (pz_law_found :: [b, c]) H24 v_law_dues law_dues_24 := h_law_dues
          exact rest16 _ _ ⟨_, hm, ⟨frl, v_law_ground_here, v_law_spots, v_law_lines, v_law_sites, v_law_land, v_law_turn, v_law_good, v_law_name_here, v_law_gone, v_law_dues, _, _, _, _, _, _, _, rfl, fr0, dm, hB, h_law_ground_here, h_law_spots, h_law_lines, h_law_sites, h_law_land, h_law_turn, h_law_good, h_law_name_here, h_law_gone, h_law_dues⟩⟩
        · skip
          subst hc
          have fr0 := fr0.trans (Fr.same s16)
          have dm := dm.same s16
          have frl := frl.trans (Fr.same s16)
          have h_law_ground_here := ((tL3 (tD Str (tT2 tRat tRat)) (tD Str (tT2 tStr (tTs tStr))) (tD Str (tT2 tStr tInt))) : Ty K ((List (Str × (Rat × Rat))) × (List (Str × (Str × (List Str)))) × (List (Str × (Str × Int))))).mono (S := (pz_law_found :: [b, c])) (Fr.same s16) h_law_ground_here
          have h_law_spots := ((tD Str (tT2 tRat tRat)) : Ty K (List (Str × (Rat × Rat)))).mono (S := (pz_law_found :: [b, c])) (Fr.same s16) h_law_spots
          have h_law_lines := ((tD Str (tT2 tStr (tTs tStr))) : Ty K (List (Str × (Str × (List Str))))).mono (S := (pz_law_found :: [b, c])) (Fr.same s16) h_law_lines
          have h_law_sites := ((tD Str (tT2 tStr tInt)) : Ty K (List (Str × (Str × Int)))).mono (S := (pz_law_found :: [b, c])) (Fr.same s16) h_law_sites
          have h_law_land := ((tO ev.C_Land ldT) : Ty K Ld).mono (S := (pz_law_found :: [b, c])) (Fr.same s16) h_law_land
          have h_law_turn := (tInt : Ty K Int).mono (S := (pz_law_found :: [b, c])) (Fr.same s16) h_law_turn
          have h_law_good := (tBool : Ty K Bool).mono (S := (pz_law_found :: [b, c])) (Fr.same s16) h_law_good
          have h_law_name_here := (tStr : Ty K Str).mono (S := (pz_law_found :: [b, c])) (Fr.same s16) h_law_name_here
          have h_law_gone := ((tL tStr) : Ty K (List Str)).mono (S := (pz_law_found :: [b, c])) (Fr.same s16) h_law_gone
          have h_law_dues := ((tU (tL (tT2 tStr tStr)) (tL2 (tL (tT2 tRat tRat)) tRat)) : Ty K ((List (Str × Str)) ⊕ ((List (Rat × Rat)) × Rat))).mono (S := (pz_law_found :: [b, c])) (Fr.same s16) h_law_dues
          have hB := hB.same s16
          have hm := ifp_f hm
          exact rest16 _ _ ⟨_, hm, ⟨frl, v_law_ground_here, v_law_spots, v_law_lines, v_law_sites, v_law_land, v_law_turn, v_law_good, v_law_name_here, v_law_gone, v_law_dues, _, _, _, _, _, _, _, rfl, fr0, dm, hB, h_law_ground_here, h_law_spots, h_law_lines, h_law_sites, h_law_land, h_law_turn, h_law_good, h_law_name_here, h_law_gone, h_law_dues⟩⟩
      · skip
        subst hc
        have fr0 := fr0.trans (Fr.same s11)
        have dm := dm.same s11
        have frl := frl.trans (Fr.same s11)
        have h_law_ground_here := ((tL3 (tD Str (tT2 tRat tRat)) (tD Str (tT2 tStr (tTs tStr))) (tD Str (tT2 tStr tInt))) : Ty K ((List (Str × (Rat × Rat))) × (List (Str × (Str × (List Str)))) × (List (Str × (Str × Int))))).mono (S := (pz_law_found :: [b, c])) (Fr.same s11) h_law_ground_here
        have h_law_spots := ((tD Str (tT2 tRat tRat)) : Ty K (List (Str × (Rat × Rat)))).mono (S := (pz_law_found :: [b, c])) (Fr.same s11) h_law_spots
        have h_law_lines := ((tD Str (tT2 tStr (tTs tStr))) : Ty K (List (Str × (Str × (List Str))))).mono (S := (pz_law_found :: [b, c])) (Fr.same s11) h_law_lines
        have h_law_sites := ((tD Str (tT2 tStr tInt)) : Ty K (List (Str × (Str × Int)))).mono (S := (pz_law_found :: [b, c])) (Fr.same s11) h_law_sites
        have h_law_land := ((tO ev.C_Land ldT) : Ty K Ld).mono (S := (pz_law_found :: [b, c])) (Fr.same s11) h_law_land
        have h_law_turn := (tInt : Ty K Int).mono (S := (pz_law_found :: [b, c])) (Fr.same s11) h_law_turn
        have h_law_good := (tBool : Ty K Bool).mono (S := (pz_law_found :: [b, c])) (Fr.same s11) h_law_good
        have h_law_name_here := (tStr : Ty K Str).mono (S := (pz_law_found :: [b, c])) (Fr.same s11) h_law_name_here
        have h_law_dues := ((tU (tL (tT2 tStr tStr)) (tL2 (tL (tT2 tRat tRat)) tRat)) : Ty K ((List (Str × Str)) ⊕ ((List (Rat × Rat)) × Rat))).mono (S := (pz_law_found :: [b, c])) (Fr.same s11) h_law_dues
        have hB := hB.same s11
        have hm := ifp_f hm
        exact rest11 _ _ ⟨_, hm, ⟨frl, v_law_ground_here, v_law_spots, v_law_lines, v_law_sites, v_law_land, v_law_turn, v_law_good, v_law_name_here, v_law_dues, _, _, _, _, _, _, _, _, rfl, fr0, dm, hB, h_law_ground_here, h_law_spots, h_law_lines, h_law_sites, h_law_land, h_law_turn, h_law_good, h_law_name_here, h_law_dues⟩⟩
    obtain ⟨frl, v_law_ground_here, v_law_spots, v_law_lines, v_law_sites, v_law_land, v_law_turn, v_law_good, f_9, f_10, f_11, f_12, f_13, f_14, f_15, f_16, f_17, f_18, rfl, fr0, dm, hB, h_law_ground_here, h_law_spots, h_law_lines, h_law_sites, h_law_land, h_law_turn, h_law_good⟩ := hI
    have sbl : Sub [b, c] (pz_law_found :: [b, c]) := sub_cons (fun a m => m)
    have dm := dm.sub sbl
    have h_law_ground_here := ((tL3 (tD Str (tT2 tRat tRat)) (tD Str (tT2 tStr (tTs tStr))) (tD Str (tT2 tStr tInt))) : Ty K ((List (Str × (Rat × Rat))) × (List (Str × (Str × (List Str)))) × (List (Str × (Str × Int))))).sub sbl h_law_ground_here
    have h_law_spots := ((tD Str (tT2 tRat tRat)) : Ty K (List (Str × (Rat × Rat)))).sub sbl h_law_spots
    have h_law_lines := ((tD Str (tT2 tStr (tTs tStr))) : Ty K (List (Str × (Str × (List Str))))).sub sbl h_law_lines
    have h_law_sites := ((tD Str (tT2 tStr tInt)) : Ty K (List (Str × (Str × Int)))).sub sbl h_law_sites
    have h_law_land := ((tO ev.C_Land ldT) : Ty K Ld).sub sbl h_law_land
    exact ⟨_, hm, frl, ⟨v_law_ground_here, v_law_spots, v_law_lines, v_law_sites, v_law_land, v_law_good, _, _, _, _, _, _, _, _, _, _, _, rfl, fr0, dm, hB, h_law_ground_here, h_law_spots, h_law_lines, h_law_sites, h_law_land, h_law_good⟩⟩
  obtain ⟨v_law_ground_here, v_law_spots, v_law_lines, v_law_sites, v_law_land, v_law_good, f_8, f_9, f_10, f_11, f_12, f_13, f_14, f_15, f_16, f_17, f_18, rfl, fr0, dm, hB, h_law_ground_here, h_law_spots, h_law_lines, h_law_sites, h_law_land, h_law_good⟩ := hI
  obtain ⟨z, er, hm⟩ := hm
  exact q_ret (T := [b, c]) dm (ev_var ts h_law_good rfl) er (fun v H36 s36 hv => q v H36 _ hm (fr0.trans (Fr.same s36)) (hB.same s36) ((tBool : Ty K Bool).sub (S := [b, c]) (H := H36) sub0 hv))
end
end G

namespace G
open PySem L2 M
open PyProof.Rows PySem.SupX PySem.W in
theorem supL_mkP {P : Program} {K : PySem.W.Frag} {B newId i : String} {bmB : List Value} {C fI : Addr} {n f qual : Str} {params : Arguments} {pre post : Str} {j j2 : Nat} {w1 w2 w3 w4 : Pos}
    {oc : Value} {od : Option Addr} {doc pm : Value} {an : Option Addr} {cda : Addr} {ct : Value} {osl : Array (Option Value)} {cc : Addr} {cl : Value} {cld : Option Addr} {csl : Array (Option Value)} {ccl : Value} {cdd : Option Addr} {vs : Array Value} {ccs : Array (Option Value)} {file : Str} {tf : Tok} {pj p0 p1 p2 p3 p4 q1 q2 q3 q4 : Pos}
    (FB : ExcBaseFacts B newId i bmB) (KF : KxsFacts B i) (SF : StoreFacts B bmB "object.__setattr__" "object")
    (iC : findIn K (.ref C) "__init__" = some (some (.ref fI)))
    (l : K.lookup fI = some ⟨oc, od, .func (ksFn "__init__" qual params (sB f [.Constant (.str pre) j w1, .FormattedValue (.Name f w2) 114 none w3, .Constant (.str post) j2 w4] pj p0 p1 p2 p3 p4 q1 q2 q3 q4) (sS f) .none .none doc pm an (.ref cda) ct cc), osl⟩)
    (cd : codeIn K (.ref cda) qual = true) (lc : K.lookup cc = some ⟨cl, cld, .cell (some (.ref C)), csl⟩) (lk : K.lookup cda = some ⟨ccl, cdd, .fields vs, ccs⟩) (hvs : vs[2]? = some (.str file tf)) (hfile : ((P.main.file : Str) == file) = true)
    (hl : (p2.endLine == p3.line) = true) (hb : ∀ (s : Shared) (x v : Value), BindsTo s (ksFn "__init__" qual params (sB f [.Constant (.str pre) j w1, .FormattedValue (.Name f w2) 114 none w3, .Constant (.str post) j2 w4] pj p0 p1 p2 p3 p4 q1 q2 q3 q4) (sS f) .none .none doc pm an (.ref cda) ct cc) ⟨[x, v], []⟩ [("self", x), (f, v)])
    (ini : excInitIn K C bmB newId = true) (over : excOver K C bmB = true) (sa : findIn K (.ref C) "__setattr__" = some (some (.builtin "object.__setattr__"))) (tk : takerIn K C f = some none) (hd : hasDictIn K C = true) (tC : typeIn K (.ref fI) = some (.type "function"))
    (sub : subIn K (.ref C) (.type B) = some true) (mro : mroIn K C (.ref C) = some true) (sup : ks_superIn K C C "__init__" = some (some (.builtin i))) (opq : nsIn K cStatics "thirdparty.any" = some none) (top : (P.main.scope.names.lookup ("super" : Str)).isSome = false)
    (hd1 : (params.posonlyargs ++ params.args).head?.map (·.arg) = some "self") (nn : (f != "self" && f != "__class__" && f != "super" && f != "__debug__") = true) (lf : (sS f).names.lookup f = some .local) (hz : pre.length ≤ 1000) (hz2 : post.length ≤ 1000)
    (kC : keepIn K (.ref C) = true) (exC : subIn K (.ref C) (.type "BaseException") = some true) (tyC : typeIn K (.ref C) = some (.type "type")) (xf : XfC K C) (nf : findIn K (.ref C) f = some none) : SupL P K n f C := by
  intro mg gC nos
  simp only [Bool.and_eq_true, bne_iff_ne, ne_eq] at nn
  obtain ⟨⟨⟨n1, n2⟩, n3⟩, n4⟩ := nn
  have dbg : (f == ("__debug__" : Str)) = false := by simpa using n4
  exact ⟨B, newId, i, bmB, fI, qual, params, _, ⟨FB, KF, SF, ini, over, sa, tk, hd, iC, tC, sub, mro, sup, opq, nos, top, hd1, dbg, n1, n2, n3,
    ⟨oc, od, doc, pm, an, cda, ct, osl, cc, cl, cld, csl, ccl, cdd, vs, ccs, file, tf, pj, p0, p1, p2, p3, p4, q1, q2, q3, q4, l, cd, lc, lk, hvs, hfile, hl, hb⟩⟩, ⟨gC, kC, exC, tyC⟩, xf, nf,
    fun w v u hv r => tells_rp (okV_shows hv r) lf dbg hz hz2⟩

structure Put (K : PySem.W.Frag) (name : String) (st : Stmt) (f : Addr) : Prop where
  a : PySem.W.nsIn K mainGlobals (Str.ofString name) = some (some (.ref f))
  l : ∃ (oc : Value) (od : Option Addr) (kV dc pm : Value) (an : Option Addr) (cd ct : Value) (sl : Array (Option Value)), K.lookup f = some ⟨oc, od, .func (PySem.W.fnOf (Str.ofString name) (Str.ofString name) (defArgs st) (defBody st) (defScope st) .none kV dc pm an cd ct), sl⟩ ∧ PySem.W.codeIn K cd (Str.ofString name) = true
  k : PySem.W.keepIn K (.ref f) = true
theorem put_mk {K : PySem.W.Frag} {name : String} {st : Stmt} {f : Addr} {oc : Value} {od : Option Addr} {kV dc pm : Value} {an : Option Addr} {cd ct : Value} {sl : Array (Option Value)} (a : PySem.W.nsIn K mainGlobals (Str.ofString name) = some (some (.ref f)))
    (l : K.lookup f = some ⟨oc, od, .func (PySem.W.fnOf (Str.ofString name) (Str.ofString name) (defArgs st) (defBody st) (defScope st) .none kV dc pm an cd ct), sl⟩) (c : PySem.W.codeIn K cd (Str.ofString name) = true) (k : PySem.W.keepIn K (.ref f) = true) : Put K name st f :=
  ⟨a, ⟨oc, od, kV, dc, pm, an, cd, ct, sl, l, c⟩, k⟩
structure PutM (K : PySem.W.Frag) (C : Addr) (name qual : String) (st : Stmt) (f : Addr) : Prop where
  me : Meth K C (Str.ofString name) f
  l : ∃ (oc : Value) (od : Option Addr) (kV dc pm : Value) (an : Option Addr) (cd ct : Value) (sl : Array (Option Value)), K.lookup f = some ⟨oc, od, .func (PySem.W.fnOf (Str.ofString name) (Str.ofString qual) (defArgs st) (defBody st) (defScope st) .none kV dc pm an cd ct), sl⟩ ∧ PySem.W.codeIn K cd (Str.ofString qual) = true
theorem putM_mk {K : PySem.W.Frag} {C : Addr} {name qual : String} {st : Stmt} {f : Addr} {oc : Value} {od : Option Addr} {kV dc pm : Value} {an : Option Addr} {cd ct : Value} {sl : Array (Option Value)} (a : PySem.W.findIn K (.ref C) (Str.ofString name) = some (some (.ref f))) (i : PySem.W.isFn K (.ref f) = true)
    (l : K.lookup f = some ⟨oc, od, .func (PySem.W.fnOf (Str.ofString name) (Str.ofString qual) (defArgs st) (defBody st) (defScope st) .none kV dc pm an cd ct), sl⟩) (c : PySem.W.codeIn K cd (Str.ofString qual) = true) (k : PySem.W.keepIn K (.ref f) = true) : PutM K C name qual st f :=
  ⟨⟨a, i, k⟩, ⟨oc, od, kV, dc, pm, an, cd, ct, sl, l, c⟩⟩
theorem all_mk {l : PySem.W.OpenLaw} {w : World} {K : PySem.W.Frag} {h : Heap} {mg : Str → Option Value} {fa f_greatest_common f_ratio f_plus f_minus f_size f_stretch f_Land___init__ f_Land_known f_Land_row f_Land_length f_law_bag f_law_draw f_law_whole f_law_same f_law_any f_law_rat f_law_sum f_law_dif f_law_spoil f_law_name f_law_names f_law_ratio f_law_spot f_law_ground f_law_known f_law_row f_law_told f_law C_NoRatio a_NOUGHT a_KINDS C_Land C_NoLine C_Loose : Addr}  {t00 t01 : Tok} {ddNOUGHT : Option Addr} {nNOUGHT : Nat} {slNOUGHT : Array (Option Value)} {t10 t11 t12 : Tok} {ddKINDS : Option Addr} {nKINDS : Nat} {slKINDS : Array (Option Value)} (X : K.In h) (G : h.Ns mainGlobals mg) (hfa : mg "law" = some (.ref fa))
    (p_greatest_common : Put K "greatest_common" s_greatest_common f_greatest_common)
    (p_ratio : Put K "ratio" s_ratio f_ratio)
    (p_plus : Put K "plus" s_plus f_plus)
    (p_minus : Put K "minus" s_minus f_minus)
    (p_size : Put K "size" s_size f_size)
    (p_stretch : Put K "stretch" s_stretch f_stretch)
    (p_Land___init__ : PutM K C_Land "__init__" "Land.__init__" s_Land___init__ f_Land___init__)
    (p_Land_known : PutM K C_Land "known" "Land.known" s_Land_known f_Land_known)
    (p_Land_row : PutM K C_Land "row" "Land.row" s_Land_row f_Land_row)
    (p_Land_length : PutM K C_Land "length" "Land.length" s_Land_length f_Land_length)
    (p_law_bag : Put K "_law_bag" s_law_bag f_law_bag)
    (p_law_draw : Put K "_law_draw" s_law_draw f_law_draw)
    (p_law_whole : Put K "_law_whole" s_law_whole f_law_whole)
    (p_law_same : Put K "_law_same" s_law_same f_law_same)
    (p_law_any : Put K "_law_any" s_law_any f_law_any)
    (p_law_rat : Put K "_law_rat" s_law_rat f_law_rat)
    (p_law_sum : Put K "_law_sum" s_law_sum f_law_sum)
    (p_law_dif : Put K "_law_dif" s_law_dif f_law_dif)
    (p_law_spoil : Put K "_law_spoil" s_law_spoil f_law_spoil)
    (p_law_name : Put K "_law_name" s_law_name f_law_name)
    (p_law_names : Put K "_law_names" s_law_names f_law_names)
    (p_law_ratio : Put K "_law_ratio" s_law_ratio f_law_ratio)
    (p_law_spot : Put K "_law_spot" s_law_spot f_law_spot)
    (p_law_ground : Put K "_law_ground" s_law_ground f_law_ground)
    (p_law_known : Put K "_law_known" s_law_known f_law_known)
    (p_law_row : Put K "_law_row" s_law_row f_law_row)
    (p_law_told : Put K "_law_told" s_law_told f_law_told)
    (p_law : Put K "law" s_law f_law)
    (aC : PySem.W.nsIn K mainGlobals "NoRatio" = some (some (.ref C_NoRatio)))
    (x : PySem.W.excIn K C_NoRatio [.type "ZeroDivisionError", .type "ArithmeticError", .type "Exception", .type "BaseException", .type "object"] "ZeroDivisionError.__new__" = true)
    (k : PySem.W.keepIn K (.ref C_NoRatio) = true)
    (b : PySem.W.subIn K (.ref C_NoRatio) (.type "BaseException") = some true)
    (t : PySem.W.typeIn K (.ref C_NoRatio) = some (.type "type"))
    (e4 : PySem.W.hasDictIn K C_NoRatio = true)
    (sc : PySem.W.subIn K (.ref C_NoRatio) (.ref C_NoRatio) = some true)
    (cNOUGHT : PySem.W.nsIn K mainGlobals "NOUGHT" = some (some (.ref a_NOUGHT)))
    (lNOUGHT : K.lookup a_NOUGHT = some ⟨.type "tuple", ddNOUGHT, .seq #[.int 0 t00, .int 1 t01] nNOUGHT, slNOUGHT⟩)
    (cKINDS : PySem.W.nsIn K mainGlobals "KINDS" = some (some (.ref a_KINDS)))
    (lKINDS : K.lookup a_KINDS = some ⟨.type "tuple", ddKINDS, .seq #[.str "road" t10, .str "shore" t11, .str "border" t12] nKINDS, slKINDS⟩)
    (aS : PySem.W.nsIn K mainGlobals "Land" = some (some (.ref C_Land)))
    (pgS : PySem.W.plainGet K C_Land Str.empty = true)
    (hdS : PySem.W.hasDictIn K C_Land = true)
    (poS : PySem.W.plainOver K C_Land = true)
    (saS : PySem.W.findIn K (.ref C_Land) "__setattr__" = some (some (.builtin "object.__setattr__")))
    (mkS_ : PySem.W.makesIn K C_Land = true)
    (kcS : PySem.W.keepIn K (.ref C_Land) = true)
    (n_own_spots : PySem.W.findIn K (.ref C_Land) "own_spots" = some none)
    (n_own_lines : PySem.W.findIn K (.ref C_Land) "own_lines" = some none)
    (n_own_sites : PySem.W.findIn K (.ref C_Land) "own_sites" = some none)
    (g_NoLine : PySem.W.nsIn K mainGlobals "NoLine" = some (some (.ref C_NoLine)))
    (e_NoLine : SupL l.prog K "NoLine" "name" C_NoLine)
    (g_Loose : PySem.W.nsIn K mainGlobals "Loose" = some (some (.ref C_Loose)))
    (e_Loose : SupL l.prog K "Loose" "name" C_Loose)
    (xm_NoLine_NoLine : PySem.W.exmOne K (.ref C_NoLine) (.ref C_NoLine) = some true)
    (xm_Loose_NoLine : PySem.W.exmOne K (.ref C_Loose) (.ref C_NoLine) = some false)
    (xm_Loose_Loose : PySem.W.exmOne K (.ref C_Loose) (.ref C_Loose) = some true)
    (z_len : PySem.W.nsIn K mainGlobals "len" = some none)
    (z_list : PySem.W.nsIn K mainGlobals "list" = some none)
    (z_abs : PySem.W.nsIn K mainGlobals "abs" = some none)
    (z_isinstance : PySem.W.nsIn K mainGlobals "isinstance" = some none)
    (z_int : PySem.W.nsIn K mainGlobals "int" = some none)
    (z_bool : PySem.W.nsIn K mainGlobals "bool" = some none)
    (z_str : PySem.W.nsIn K mainGlobals "str" = some none)
    (z_dict : PySem.W.nsIn K mainGlobals "dict" = some none)
    (z_tuple : PySem.W.nsIn K mainGlobals "tuple" = some none)
    (z_all : PySem.W.nsIn K mainGlobals "all" = some none)
    (z_range : PySem.W.nsIn K mainGlobals "range" = some none)
    (z_sorted : PySem.W.nsIn K mainGlobals "sorted" = some none)
    (z_super : PySem.W.nsIn K mainGlobals "super" = some none) :
    ∃ fd : FuncData, (∀ (s : Shared) (v : Value), BindsTo s fd ⟨[v], []⟩ [("_law_script", v)]) ∧ ∀ base : Heap, K.In base → base.Ns mainGlobals mg → FnOk l.prog w K mg base CX0 12 fa fd ["_law_script"] (spLaw K) := by
  have e := hfa.symm.trans (PySem.W.mg_of X G p_law.a)
  cases e
  obtain ⟨a_greatest_common, ⟨oc_greatest_common, od_greatest_common, kV_greatest_common, dc_greatest_common, pm_greatest_common, an_greatest_common, cd_greatest_common, ct_greatest_common, sl_greatest_common, l_greatest_common, c_greatest_common⟩, k_greatest_common⟩ := p_greatest_common
  have F_greatest_common := fun_mk (st := s_greatest_common) l_greatest_common c_greatest_common k_greatest_common
  have b_greatest_common := F_greatest_common.binds (ps := p_greatest_common) fun _ _ _ _ _ _ us hl => match us, hl with | [_, _], _ => rfl
  obtain ⟨a_ratio, ⟨oc_ratio, od_ratio, kV_ratio, dc_ratio, pm_ratio, an_ratio, cd_ratio, ct_ratio, sl_ratio, l_ratio, c_ratio⟩, k_ratio⟩ := p_ratio
  have F_ratio := fun_mk (st := s_ratio) l_ratio c_ratio k_ratio
  have b_ratio := F_ratio.binds (ps := p_ratio) fun _ _ _ _ _ _ us hl => match us, hl with | [_, _], _ => rfl
  obtain ⟨a_plus, ⟨oc_plus, od_plus, kV_plus, dc_plus, pm_plus, an_plus, cd_plus, ct_plus, sl_plus, l_plus, c_plus⟩, k_plus⟩ := p_plus
  have F_plus := fun_mk (st := s_plus) l_plus c_plus k_plus
  have b_plus := F_plus.binds (ps := p_plus) fun _ _ _ _ _ _ us hl => match us, hl with | [_, _], _ => rfl
  obtain ⟨a_minus, ⟨oc_minus, od_minus, kV_minus, dc_minus, pm_minus, an_minus, cd_minus, ct_minus, sl_minus, l_minus, c_minus⟩, k_minus⟩ := p_minus
  have F_minus := fun_mk (st := s_minus) l_minus c_minus k_minus
  have b_minus := F_minus.binds (ps := p_minus) fun _ _ _ _ _ _ us hl => match us, hl with | [_, _], _ => rfl
  obtain ⟨a_size, ⟨oc_size, od_size, kV_size, dc_size, pm_size, an_size, cd_size, ct_size, sl_size, l_size, c_size⟩, k_size⟩ := p_size
  have F_size := fun_mk (st := s_size) l_size c_size k_size
  have b_size := F_size.binds (ps := p_size) fun _ _ _ _ _ _ us hl => match us, hl with | [_], _ => rfl
  obtain ⟨a_stretch, ⟨oc_stretch, od_stretch, kV_stretch, dc_stretch, pm_stretch, an_stretch, cd_stretch, ct_stretch, sl_stretch, l_stretch, c_stretch⟩, k_stretch⟩ := p_stretch
  have F_stretch := fun_mk (st := s_stretch) l_stretch c_stretch k_stretch
  have b_stretch := F_stretch.binds (ps := p_stretch) fun _ _ _ _ _ _ us hl => match us, hl with | [_, _], _ => rfl
  obtain ⟨me_Land___init__, ⟨oc_Land___init__, od_Land___init__, kV_Land___init__, dc_Land___init__, pm_Land___init__, an_Land___init__, cd_Land___init__, ct_Land___init__, sl_Land___init__, l_Land___init__, c_Land___init__⟩⟩ := p_Land___init__
  have F_Land___init__ := fun_mk (st := s_Land___init__) l_Land___init__ c_Land___init__ me_Land___init__.kp
  have b_Land___init__ := F_Land___init__.binds (ps := p_Land___init__) fun _ _ _ _ _ _ us hl => match us, hl with | [_, _, _, _], _ => rfl
  obtain ⟨me_Land_known, ⟨oc_Land_known, od_Land_known, kV_Land_known, dc_Land_known, pm_Land_known, an_Land_known, cd_Land_known, ct_Land_known, sl_Land_known, l_Land_known, c_Land_known⟩⟩ := p_Land_known
  have F_Land_known := fun_mk (st := s_Land_known) l_Land_known c_Land_known me_Land_known.kp
  have b_Land_known := F_Land_known.binds (ps := p_Land_known) fun _ _ _ _ _ _ us hl => match us, hl with | [_], _ => rfl
  obtain ⟨me_Land_row, ⟨oc_Land_row, od_Land_row, kV_Land_row, dc_Land_row, pm_Land_row, an_Land_row, cd_Land_row, ct_Land_row, sl_Land_row, l_Land_row, c_Land_row⟩⟩ := p_Land_row
  have F_Land_row := fun_mk (st := s_Land_row) l_Land_row c_Land_row me_Land_row.kp
  have b_Land_row := F_Land_row.binds (ps := p_Land_row) fun _ _ _ _ _ _ us hl => match us, hl with | [_, _], _ => rfl
  obtain ⟨me_Land_length, ⟨oc_Land_length, od_Land_length, kV_Land_length, dc_Land_length, pm_Land_length, an_Land_length, cd_Land_length, ct_Land_length, sl_Land_length, l_Land_length, c_Land_length⟩⟩ := p_Land_length
  have F_Land_length := fun_mk (st := s_Land_length) l_Land_length c_Land_length me_Land_length.kp
  have b_Land_length := F_Land_length.binds (ps := p_Land_length) fun _ _ _ _ _ _ us hl => match us, hl with | [_, _], _ => rfl
  obtain ⟨a_law_bag, ⟨oc_law_bag, od_law_bag, kV_law_bag, dc_law_bag, pm_law_bag, an_law_bag, cd_law_bag, ct_law_bag, sl_law_bag, l_law_bag, c_law_bag⟩, k_law_bag⟩ := p_law_bag
  have F_law_bag := fun_mk (st := s_law_bag) l_law_bag c_law_bag k_law_bag
  have b_law_bag := F_law_bag.binds (ps := p_law_bag) fun _ _ _ _ _ _ us hl => match us, hl with | [_], _ => rfl
  obtain ⟨a_law_draw, ⟨oc_law_draw, od_law_draw, kV_law_draw, dc_law_draw, pm_law_draw, an_law_draw, cd_law_draw, ct_law_draw, sl_law_draw, l_law_draw, c_law_draw⟩, k_law_draw⟩ := p_law_draw
  have F_law_draw := fun_mk (st := s_law_draw) l_law_draw c_law_draw k_law_draw
  have b_law_draw := F_law_draw.binds (ps := p_law_draw) fun _ _ _ _ _ _ us hl => match us, hl with | [_, _], _ => rfl
  obtain ⟨a_law_whole, ⟨oc_law_whole, od_law_whole, kV_law_whole, dc_law_whole, pm_law_whole, an_law_whole, cd_law_whole, ct_law_whole, sl_law_whole, l_law_whole, c_law_whole⟩, k_law_whole⟩ := p_law_whole
  have F_law_whole := fun_mk (st := s_law_whole) l_law_whole c_law_whole k_law_whole
  have b_law_whole := F_law_whole.binds (ps := p_law_whole) fun _ _ _ _ _ _ us hl => match us, hl with | [_], _ => rfl
  obtain ⟨a_law_same, ⟨oc_law_same, od_law_same, kV_law_same, dc_law_same, pm_law_same, an_law_same, cd_law_same, ct_law_same, sl_law_same, l_law_same, c_law_same⟩, k_law_same⟩ := p_law_same
  have F_law_same := fun_mk (st := s_law_same) l_law_same c_law_same k_law_same
  have b_law_same := F_law_same.binds (ps := p_law_same) fun _ _ _ _ _ _ us hl => match us, hl with | [_, _], _ => rfl
  obtain ⟨a_law_any, ⟨oc_law_any, od_law_any, kV_law_any, dc_law_any, pm_law_any, an_law_any, cd_law_any, ct_law_any, sl_law_any, l_law_any, c_law_any⟩, k_law_any⟩ := p_law_any
  have F_law_any := fun_mk (st := s_law_any) l_law_any c_law_any k_law_any
  have b_law_any := F_law_any.binds (ps := p_law_any) fun _ _ _ _ _ _ us hl => match us, hl with | [_, _], _ => rfl
  obtain ⟨a_law_rat, ⟨oc_law_rat, od_law_rat, kV_law_rat, dc_law_rat, pm_law_rat, an_law_rat, cd_law_rat, ct_law_rat, sl_law_rat, l_law_rat, c_law_rat⟩, k_law_rat⟩ := p_law_rat
  have F_law_rat := fun_mk (st := s_law_rat) l_law_rat c_law_rat k_law_rat
  have b_law_rat := F_law_rat.binds (ps := p_law_rat) fun _ _ _ _ _ _ us hl => match us, hl with | [_, _], _ => rfl
  obtain ⟨a_law_sum, ⟨oc_law_sum, od_law_sum, kV_law_sum, dc_law_sum, pm_law_sum, an_law_sum, cd_law_sum, ct_law_sum, sl_law_sum, l_law_sum, c_law_sum⟩, k_law_sum⟩ := p_law_sum
  have F_law_sum := fun_mk (st := s_law_sum) l_law_sum c_law_sum k_law_sum
  have b_law_sum := F_law_sum.binds (ps := p_law_sum) fun _ _ _ _ _ _ us hl => match us, hl with | [_, _], _ => rfl
  obtain ⟨a_law_dif, ⟨oc_law_dif, od_law_dif, kV_law_dif, dc_law_dif, pm_law_dif, an_law_dif, cd_law_dif, ct_law_dif, sl_law_dif, l_law_dif, c_law_dif⟩, k_law_dif⟩ := p_law_dif
  have F_law_dif := fun_mk (st := s_law_dif) l_law_dif c_law_dif k_law_dif
  have b_law_dif := F_law_dif.binds (ps := p_law_dif) fun _ _ _ _ _ _ us hl => match us, hl with | [_, _], _ => rfl
  obtain ⟨a_law_spoil, ⟨oc_law_spoil, od_law_spoil, kV_law_spoil, dc_law_spoil, pm_law_spoil, an_law_spoil, cd_law_spoil, ct_law_spoil, sl_law_spoil, l_law_spoil, c_law_spoil⟩, k_law_spoil⟩ := p_law_spoil
  have F_law_spoil := fun_mk (st := s_law_spoil) l_law_spoil c_law_spoil k_law_spoil
  have b_law_spoil := F_law_spoil.binds (ps := p_law_spoil) fun _ _ _ _ _ _ us hl => match us, hl with | [_], _ => rfl
  obtain ⟨a_law_name, ⟨oc_law_name, od_law_name, kV_law_name, dc_law_name, pm_law_name, an_law_name, cd_law_name, ct_law_name, sl_law_name, l_law_name, c_law_name⟩, k_law_name⟩ := p_law_name
  have F_law_name := fun_mk (st := s_law_name) l_law_name c_law_name k_law_name
  have b_law_name := F_law_name.binds (ps := p_law_name) fun _ _ _ _ _ _ us hl => match us, hl with | [_], _ => rfl
  obtain ⟨a_law_names, ⟨oc_law_names, od_law_names, kV_law_names, dc_law_names, pm_law_names, an_law_names, cd_law_names, ct_law_names, sl_law_names, l_law_names, c_law_names⟩, k_law_names⟩ := p_law_names
  have F_law_names := fun_mk (st := s_law_names) l_law_names c_law_names k_law_names
  have b_law_names := F_law_names.binds (ps := p_law_names) fun _ _ _ _ _ _ us hl => match us, hl with | [_, _], _ => rfl
  obtain ⟨a_law_ratio, ⟨oc_law_ratio, od_law_ratio, kV_law_ratio, dc_law_ratio, pm_law_ratio, an_law_ratio, cd_law_ratio, ct_law_ratio, sl_law_ratio, l_law_ratio, c_law_ratio⟩, k_law_ratio⟩ := p_law_ratio
  have F_law_ratio := fun_mk (st := s_law_ratio) l_law_ratio c_law_ratio k_law_ratio
  have b_law_ratio := F_law_ratio.binds (ps := p_law_ratio) fun _ _ _ _ _ _ us hl => match us, hl with | [_, _], _ => rfl
  obtain ⟨a_law_spot, ⟨oc_law_spot, od_law_spot, kV_law_spot, dc_law_spot, pm_law_spot, an_law_spot, cd_law_spot, ct_law_spot, sl_law_spot, l_law_spot, c_law_spot⟩, k_law_spot⟩ := p_law_spot
  have F_law_spot := fun_mk (st := s_law_spot) l_law_spot c_law_spot k_law_spot
  have b_law_spot := F_law_spot.binds (ps := p_law_spot) fun _ _ _ _ _ _ us hl => match us, hl with | [_, _], _ => rfl
  obtain ⟨a_law_ground, ⟨oc_law_ground, od_law_ground, kV_law_ground, dc_law_ground, pm_law_ground, an_law_ground, cd_law_ground, ct_law_ground, sl_law_ground, l_law_ground, c_law_ground⟩, k_law_ground⟩ := p_law_ground
  have F_law_ground := fun_mk (st := s_law_ground) l_law_ground c_law_ground k_law_ground
  have b_law_ground := F_law_ground.binds (ps := p_law_ground) fun _ _ _ _ _ _ us hl => match us, hl with | [_, _], _ => rfl
  obtain ⟨a_law_known, ⟨oc_law_known, od_law_known, kV_law_known, dc_law_known, pm_law_known, an_law_known, cd_law_known, ct_law_known, sl_law_known, l_law_known, c_law_known⟩, k_law_known⟩ := p_law_known
  have F_law_known := fun_mk (st := s_law_known) l_law_known c_law_known k_law_known
  have b_law_known := F_law_known.binds (ps := p_law_known) fun _ _ _ _ _ _ us hl => match us, hl with | [_], _ => rfl
  obtain ⟨a_law_row, ⟨oc_law_row, od_law_row, kV_law_row, dc_law_row, pm_law_row, an_law_row, cd_law_row, ct_law_row, sl_law_row, l_law_row, c_law_row⟩, k_law_row⟩ := p_law_row
  have F_law_row := fun_mk (st := s_law_row) l_law_row c_law_row k_law_row
  have b_law_row := F_law_row.binds (ps := p_law_row) fun _ _ _ _ _ _ us hl => match us, hl with | [_, _], _ => rfl
  obtain ⟨a_law_told, ⟨oc_law_told, od_law_told, kV_law_told, dc_law_told, pm_law_told, an_law_told, cd_law_told, ct_law_told, sl_law_told, l_law_told, c_law_told⟩, k_law_told⟩ := p_law_told
  have F_law_told := fun_mk (st := s_law_told) l_law_told c_law_told k_law_told
  have b_law_told := F_law_told.binds (ps := p_law_told) fun _ _ _ _ _ _ us hl => match us, hl with | [_, _, _], _ => rfl
  obtain ⟨a_law, ⟨oc_law, od_law, kV_law, dc_law, pm_law, an_law, cd_law, ct_law, sl_law, l_law, c_law⟩, k_law⟩ := p_law
  have F_law := fun_mk (st := s_law) l_law c_law k_law
  have b_law := F_law.binds (ps := p_law) fun _ _ _ _ _ _ us hl => match us, hl with | [_], _ => rfl
  have B : Bt mg := ⟨PySem.W.mg_none_of X G z_len, PySem.W.mg_none_of X G z_list, PySem.W.mg_none_of X G z_abs, PySem.W.mg_none_of X G z_isinstance, PySem.W.mg_none_of X G z_int, PySem.W.mg_none_of X G z_bool, PySem.W.mg_none_of X G z_str, PySem.W.mg_none_of X G z_dict, PySem.W.mg_none_of X G z_tuple, PySem.W.mg_none_of X G z_all, PySem.W.mg_none_of X G z_range, PySem.W.mg_none_of X G z_sorted, PySem.W.mg_none_of X G z_super⟩
  have XN : NoR K mg C_NoRatio := ⟨PySem.W.mg_of X G aC, x, k, b, t, PySem.W.exm_ref b e4 t sc⟩
  have qNOUGHT : ∀ H, SqT K H a_NOUGHT [.int 0, .int 1] := fun H => .inr ⟨_, _, _, lNOUGHT, rfl, rfl, (by show 2 ≤ sizeLine; decide), (.cons ⟨_, rfl⟩ (.cons ⟨_, rfl⟩ .nil))⟩
  have qKINDS : ∀ H, SqT K H a_KINDS [.str "road", .str "shore", .str "border"] := fun H => .inr ⟨_, _, _, lKINDS, rfl, rfl, (by show 3 ≤ sizeLine; decide), (.cons ⟨_, rfl⟩ (.cons ⟨_, rfl⟩ (.cons ⟨_, rfl⟩ .nil)))⟩
  let ev : Env l.prog K mg := { f_greatest_common := f_greatest_common, d_greatest_common := _, A_greatest_common := ⟨F_greatest_common, b_greatest_common, PySem.W.mg_of X G a_greatest_common⟩, f_ratio := f_ratio, d_ratio := _, A_ratio := ⟨F_ratio, b_ratio, PySem.W.mg_of X G a_ratio⟩, f_plus := f_plus, d_plus := _, A_plus := ⟨F_plus, b_plus, PySem.W.mg_of X G a_plus⟩, f_minus := f_minus, d_minus := _, A_minus := ⟨F_minus, b_minus, PySem.W.mg_of X G a_minus⟩, f_size := f_size, d_size := _, A_size := ⟨F_size, b_size, PySem.W.mg_of X G a_size⟩, f_stretch := f_stretch, d_stretch := _, A_stretch := ⟨F_stretch, b_stretch, PySem.W.mg_of X G a_stretch⟩, f_Land___init__ := f_Land___init__, d_Land___init__ := _, A_Land___init__ := ⟨F_Land___init__, b_Land___init__, me_Land___init__⟩, f_Land_known := f_Land_known, d_Land_known := _, A_Land_known := ⟨F_Land_known, b_Land_known, me_Land_known⟩, f_Land_row := f_Land_row, d_Land_row := _, A_Land_row := ⟨F_Land_row, b_Land_row, me_Land_row⟩, f_Land_length := f_Land_length, d_Land_length := _, A_Land_length := ⟨F_Land_length, b_Land_length, me_Land_length⟩, f_law_bag := f_law_bag, d_law_bag := _, A_law_bag := ⟨F_law_bag, b_law_bag, PySem.W.mg_of X G a_law_bag⟩, f_law_draw := f_law_draw, d_law_draw := _, A_law_draw := ⟨F_law_draw, b_law_draw, PySem.W.mg_of X G a_law_draw⟩, f_law_whole := f_law_whole, d_law_whole := _, A_law_whole := ⟨F_law_whole, b_law_whole, PySem.W.mg_of X G a_law_whole⟩, f_law_same := f_law_same, d_law_same := _, A_law_same := ⟨F_law_same, b_law_same, PySem.W.mg_of X G a_law_same⟩, f_law_any := f_law_any, d_law_any := _, A_law_any := ⟨F_law_any, b_law_any, PySem.W.mg_of X G a_law_any⟩, f_law_rat := f_law_rat, d_law_rat := _, A_law_rat := ⟨F_law_rat, b_law_rat, PySem.W.mg_of X G a_law_rat⟩, f_law_sum := f_law_sum, d_law_sum := _, A_law_sum := ⟨F_law_sum, b_law_sum, PySem.W.mg_of X G a_law_sum⟩, f_law_dif := f_law_dif, d_law_dif := _, A_law_dif := ⟨F_law_dif, b_law_dif, PySem.W.mg_of X G a_law_dif⟩, f_law_spoil := f_law_spoil, d_law_spoil := _, A_law_spoil := ⟨F_law_spoil, b_law_spoil, PySem.W.mg_of X G a_law_spoil⟩, f_law_name := f_law_name, d_law_name := _, A_law_name := ⟨F_law_name, b_law_name, PySem.W.mg_of X G a_law_name⟩, f_law_names := f_law_names, d_law_names := _, A_law_names := ⟨F_law_names, b_law_names, PySem.W.mg_of X G a_law_names⟩, f_law_ratio := f_law_ratio, d_law_ratio := _, A_law_ratio := ⟨F_law_ratio, b_law_ratio, PySem.W.mg_of X G a_law_ratio⟩, f_law_spot := f_law_spot, d_law_spot := _, A_law_spot := ⟨F_law_spot, b_law_spot, PySem.W.mg_of X G a_law_spot⟩, f_law_ground := f_law_ground, d_law_ground := _, A_law_ground := ⟨F_law_ground, b_law_ground, PySem.W.mg_of X G a_law_ground⟩, f_law_known := f_law_known, d_law_known := _, A_law_known := ⟨F_law_known, b_law_known, PySem.W.mg_of X G a_law_known⟩, f_law_row := f_law_row, d_law_row := _, A_law_row := ⟨F_law_row, b_law_row, PySem.W.mg_of X G a_law_row⟩, f_law_told := f_law_told, d_law_told := _, A_law_told := ⟨F_law_told, b_law_told, PySem.W.mg_of X G a_law_told⟩, f_law := fa, d_law := _, A_law := ⟨F_law, b_law, PySem.W.mg_of X G a_law⟩, B := B, C_NoRatio := C_NoRatio, X_NoRatio := XN, a_NOUGHT := a_NOUGHT, c_NOUGHT := PySem.W.mg_of X G cNOUGHT, q_NOUGHT := qNOUGHT, a_KINDS := a_KINDS, c_KINDS := PySem.W.mg_of X G cKINDS, q_KINDS := qKINDS, xm_NoLine_NoLine := xm_NoLine_NoLine, xm_Loose_NoLine := xm_Loose_NoLine, xm_Loose_Loose := xm_Loose_Loose, C_Land := C_Land, cl_Land := ⟨pgS, hdS, poS, saS⟩, M_Land := ⟨mkS_, me_Land___init__.at_, me_Land___init__.fn, kcS⟩, g_Land := PySem.W.mg_of X G aS, n_own_spots := n_own_spots, n_own_lines := n_own_lines, n_own_sites := n_own_sites, C_NoLine := C_NoLine, C_Loose := C_Loose, X_NoLine := e_NoLine mg (PySem.W.mg_of X G g_NoLine) (PySem.W.mg_none_of X G z_super), X_Loose := e_Loose mg (PySem.W.mg_of X G g_Loose) (PySem.W.mg_none_of X G z_super) }
  exact ⟨_, fun s v => .of_eq rfl, fun base _ _ => ok_law ev⟩
end G
open PySem PySem.W PyProof.Rows
set_option maxHeartbeats 0 in
theorem PySem.Challenge.cw_gromatic_k13_lines_of_lands_holds : PySem.Challenge.rw_gromatic_k13_lines_of_lands.Holds := by
  w_on; o_law; k_head; (case hw => w_witness2)
  k_fill
  refine L2.walk_of (l := PySem.Challenge.rw_gromatic_k13_lines_of_lands) (n := 63) (k := 12) (x := "_law_script") (CX := fun _ => L2.CX0) (sp := fun w => G.spLaw _) rfl (by decide) rfl ⟨rfl, by decide, by decide⟩ (fun w h Y => PySem.W.kIn_of Y) ?F (fun _ _ a ns hl _ hS => ⟨a, ns, rfl, hS, hl, fun _ => rfl⟩) (fun _ _ _ _ _ h => h)
  case F =>
    intro w mg fa h KX GN hmg
    refine' G.all_mk KX GN hmg (G.put_mk ?a_greatest_common ?l_greatest_common ?c_greatest_common ?k_greatest_common) (G.put_mk ?a_ratio ?l_ratio ?c_ratio ?k_ratio) (G.put_mk ?a_plus ?l_plus ?c_plus ?k_plus) (G.put_mk ?a_minus ?l_minus ?c_minus ?k_minus) (G.put_mk ?a_size ?l_size ?c_size ?k_size) (G.put_mk ?a_stretch ?l_stretch ?c_stretch ?k_stretch) (G.putM_mk ?a_Land___init__ ?i_Land___init__ ?l_Land___init__ ?c_Land___init__ ?k_Land___init__) (G.putM_mk ?a_Land_known ?i_Land_known ?l_Land_known ?c_Land_known ?k_Land_known) (G.putM_mk ?a_Land_row ?i_Land_row ?l_Land_row ?c_Land_row ?k_Land_row) (G.putM_mk ?a_Land_length ?i_Land_length ?l_Land_length ?c_Land_length ?k_Land_length) (G.put_mk ?a_law_bag ?l_law_bag ?c_law_bag ?k_law_bag) (G.put_mk ?a_law_draw ?l_law_draw ?c_law_draw ?k_law_draw) (G.put_mk ?a_law_whole ?l_law_whole ?c_law_whole ?k_law_whole) (G.put_mk ?a_law_same ?l_law_same ?c_law_same ?k_law_same) (G.put_mk ?a_law_any ?l_law_any ?c_law_any ?k_law_any) (G.put_mk ?a_law_rat ?l_law_rat ?c_law_rat ?k_law_rat) (G.put_mk ?a_law_sum ?l_law_sum ?c_law_sum ?k_law_sum) (G.put_mk ?a_law_dif ?l_law_dif ?c_law_dif ?k_law_dif) (G.put_mk ?a_law_spoil ?l_law_spoil ?c_law_spoil ?k_law_spoil) (G.put_mk ?a_law_name ?l_law_name ?c_law_name ?k_law_name) (G.put_mk ?a_law_names ?l_law_names ?c_law_names ?k_law_names) (G.put_mk ?a_law_ratio ?l_law_ratio ?c_law_ratio ?k_law_ratio) (G.put_mk ?a_law_spot ?l_law_spot ?c_law_spot ?k_law_spot) (G.put_mk ?a_law_ground ?l_law_ground ?c_law_ground ?k_law_ground) (G.put_mk ?a_law_known ?l_law_known ?c_law_known ?k_law_known) (G.put_mk ?a_law_row ?l_law_row ?c_law_row ?k_law_row) (G.put_mk ?a_law_told ?l_law_told ?c_law_told ?k_law_told) (G.put_mk ?a_law ?l_law ?c_law ?k_law) ?aC ?x ?k ?b ?t ?e4 ?sc ?cNOUGHT ?lNOUGHT ?cKINDS ?lKINDS ?aS ?pgS ?hdS ?poS ?saS ?mkS_ ?kcS ?n_own_spots ?n_own_lines ?n_own_sites ?g_NoLine (G.supL_mk (n := "NoLine") (f := "name") (j := 0) PySem.F.excBase_LookupError PySem.W.kxs_LookupError PySem.F.store_LookupError ?iC_NoLine ?l_NoLine ?cd_NoLine ?lc_NoLine ?lk_NoLine ?hvs_NoLine ?hfile_NoLine ?hl_NoLine ?hb_NoLine ?ini_NoLine ?over_NoLine ?sa_NoLine ?tk_NoLine ?hd_NoLine ?tC_NoLine ?sub_NoLine ?mro_NoLine ?sup_NoLine ?opq_NoLine ?top_NoLine ?hd1_NoLine ?nn_NoLine ?lf_NoLine ?hz_NoLine ?kC_NoLine ?exC_NoLine ?tyC_NoLine ?xf_NoLine ?nf_NoLine) ?g_Loose (G.supL_mkP (n := "Loose") (f := "name") (j := 0) (j2 := 0) PySem.F.excBase_LookupError PySem.W.kxs_LookupError PySem.F.store_LookupError ?iC_Loose ?l_Loose ?cd_Loose ?lc_Loose ?lk_Loose ?hvs_Loose ?hfile_Loose ?hl_Loose ?hb_Loose ?ini_Loose ?over_Loose ?sa_Loose ?tk_Loose ?hd_Loose ?tC_Loose ?sub_Loose ?mro_Loose ?sup_Loose ?opq_Loose ?top_Loose ?hd1_Loose ?nn_Loose ?lf_Loose ?hz_Loose ?hz2_Loose ?kC_Loose ?exC_Loose ?tyC_Loose ?xf_Loose ?nf_Loose) ?xm_NoLine_NoLine ?xm_Loose_NoLine ?xm_Loose_Loose ?z_len ?z_list ?z_abs ?z_isinstance ?z_int ?z_bool ?z_str ?z_dict ?z_tuple ?z_all ?z_range ?z_sorted ?z_super
    (case aC => k_is)
    (case x => k_exc)
    (case k => k_is)
    (case b => k_is)
    (case t => k_is)
    (case e4 => k_is)
    (case sc => first | rfl | k_is)
    (case cNOUGHT => k_is)
    (case lNOUGHT => k_is)
    (case cKINDS => k_is)
    (case lKINDS => k_is)
    (case aS => k_is)
    (case pgS => k_is)
    (case hdS => k_is)
    (case poS => k_is)
    (case saS => k_is)
    (case mkS_ => k_is)
    (case kcS => k_is)
    (case n_own_spots => k_is)
    (case n_own_lines => k_is)
    (case n_own_sites => k_is)
    (case g_NoLine => k_is)
    (case iC_NoLine => k_is)
    (case l_NoLine => k_is)
    (case cd_NoLine => k_is)
    (case lc_NoLine => k_is)
    (case lk_NoLine => k_is)
    (case hvs_NoLine => first | rfl | kernel_rfl)
    (case hfile_NoLine => first | rfl | kernel_rfl | decide +kernel)
    (case hl_NoLine => first | rfl | decide)
    (case hb_NoLine => exact fun s x v => BindsTo.of_eq rfl)
    (case ini_NoLine => kx_is)
    (case over_NoLine => kx_is)
    (case sa_NoLine => k_is)
    (case tk_NoLine => k_is)
    (case hd_NoLine => k_is)
    (case tC_NoLine => k_is)
    (case sub_NoLine => k_is)
    (case mro_NoLine => k_is)
    (case sup_NoLine => ks_is)
    (case opq_NoLine => k_is)
    (case top_NoLine => first | rfl | kernel_rfl | decide +kernel)
    (case hd1_NoLine => first | rfl | decide)
    (case nn_NoLine => first | rfl | decide)
    (case lf_NoLine => first | rfl | decide)
    (case hz_NoLine => first | decide | decide +kernel)
    (case kC_NoLine => k_is)
    (case exC_NoLine => k_is)
    (case tyC_NoLine => k_is)
    (case xf_NoLine => exact ⟨by k_is, by k_is, by k_is, by k_is⟩)
    (case nf_NoLine => k_is)
    (case g_Loose => k_is)
    (case iC_Loose => k_is)
    (case l_Loose => k_is)
    (case cd_Loose => k_is)
    (case lc_Loose => k_is)
    (case lk_Loose => k_is)
    (case hvs_Loose => first | rfl | kernel_rfl)
    (case hfile_Loose => first | rfl | kernel_rfl | decide +kernel)
    (case hl_Loose => first | rfl | decide)
    (case hb_Loose => exact fun s x v => BindsTo.of_eq rfl)
    (case ini_Loose => kx_is)
    (case over_Loose => kx_is)
    (case sa_Loose => k_is)
    (case tk_Loose => k_is)
    (case hd_Loose => k_is)
    (case tC_Loose => k_is)
    (case sub_Loose => k_is)
    (case mro_Loose => k_is)
    (case sup_Loose => ks_is)
    (case opq_Loose => k_is)
    (case top_Loose => first | rfl | kernel_rfl | decide +kernel)
    (case hd1_Loose => first | rfl | decide)
    (case nn_Loose => first | rfl | decide)
    (case lf_Loose => first | rfl | decide)
    (case hz2_Loose => first | decide | decide +kernel)
    (case hz_Loose => first | decide | decide +kernel)
    (case kC_Loose => k_is)
    (case exC_Loose => k_is)
    (case tyC_Loose => k_is)
    (case xf_Loose => exact ⟨by k_is, by k_is, by k_is, by k_is⟩)
    (case nf_Loose => k_is)
    (case xm_NoLine_NoLine => first | k_is | kx_is | rfl)
    (case xm_Loose_NoLine => first | k_is | kx_is | rfl)
    (case xm_Loose_Loose => first | k_is | kx_is | rfl)
    (case a_greatest_common => k_is)
    (case l_greatest_common => k_is)
    (case c_greatest_common => k_is)
    (case k_greatest_common => k_is)
    (case a_ratio => k_is)
    (case l_ratio => k_is)
    (case c_ratio => k_is)
    (case k_ratio => k_is)
    (case a_plus => k_is)
    (case l_plus => k_is)
    (case c_plus => k_is)
    (case k_plus => k_is)
    (case a_minus => k_is)
    (case l_minus => k_is)
    (case c_minus => k_is)
    (case k_minus => k_is)
    (case a_size => k_is)
    (case l_size => k_is)
    (case c_size => k_is)
    (case k_size => k_is)
    (case a_stretch => k_is)
    (case l_stretch => k_is)
    (case c_stretch => k_is)
    (case k_stretch => k_is)
    (case a_Land___init__ => k_is)
    (case i_Land___init__ => k_is)
    (case l_Land___init__ => k_is)
    (case c_Land___init__ => k_is)
    (case k_Land___init__ => k_is)
    (case a_Land_known => k_is)
    (case i_Land_known => k_is)
    (case l_Land_known => k_is)
    (case c_Land_known => k_is)
    (case k_Land_known => k_is)
    (case a_Land_row => k_is)
    (case i_Land_row => k_is)
    (case l_Land_row => k_is)
    (case c_Land_row => k_is)
    (case k_Land_row => k_is)
    (case a_Land_length => k_is)
    (case i_Land_length => k_is)
    (case l_Land_length => k_is)
    (case c_Land_length => k_is)
    (case k_Land_length => k_is)
    (case a_law_bag => k_is)
    (case l_law_bag => k_is)
    (case c_law_bag => k_is)
    (case k_law_bag => k_is)
    (case a_law_draw => k_is)
    (case l_law_draw => k_is)
    (case c_law_draw => k_is)
    (case k_law_draw => k_is)
    (case a_law_whole => k_is)
    (case l_law_whole => k_is)
    (case c_law_whole => k_is)
    (case k_law_whole => k_is)
    (case a_law_same => k_is)
    (case l_law_same => k_is)
    (case c_law_same => k_is)
    (case k_law_same => k_is)
    (case a_law_any => k_is)
    (case l_law_any => k_is)
    (case c_law_any => k_is)
    (case k_law_any => k_is)
    (case a_law_rat => k_is)
    (case l_law_rat => k_is)
    (case c_law_rat => k_is)
    (case k_law_rat => k_is)
    (case a_law_sum => k_is)
    (case l_law_sum => k_is)
    (case c_law_sum => k_is)
    (case k_law_sum => k_is)
    (case a_law_dif => k_is)
    (case l_law_dif => k_is)
    (case c_law_dif => k_is)
    (case k_law_dif => k_is)
    (case a_law_spoil => k_is)
    (case l_law_spoil => k_is)
    (case c_law_spoil => k_is)
    (case k_law_spoil => k_is)
    (case a_law_name => k_is)
    (case l_law_name => k_is)
    (case c_law_name => k_is)
    (case k_law_name => k_is)
    (case a_law_names => k_is)
    (case l_law_names => k_is)
    (case c_law_names => k_is)
    (case k_law_names => k_is)
    (case a_law_ratio => k_is)
    (case l_law_ratio => k_is)
    (case c_law_ratio => k_is)
    (case k_law_ratio => k_is)
    (case a_law_spot => k_is)
    (case l_law_spot => k_is)
    (case c_law_spot => k_is)
    (case k_law_spot => k_is)
    (case a_law_ground => k_is)
    (case l_law_ground => k_is)
    (case c_law_ground => k_is)
    (case k_law_ground => k_is)
    (case a_law_known => k_is)
    (case l_law_known => k_is)
    (case c_law_known => k_is)
    (case k_law_known => k_is)
    (case a_law_row => k_is)
    (case l_law_row => k_is)
    (case c_law_row => k_is)
    (case k_law_row => k_is)
    (case a_law_told => k_is)
    (case l_law_told => k_is)
    (case c_law_told => k_is)
    (case k_law_told => k_is)
    (case a_law => k_is)
    (case l_law => k_is)
    (case c_law => k_is)
    (case k_law => k_is)
    (case z_len => k_is)
    (case z_list => k_is)
    (case z_abs => k_is)
    (case z_isinstance => k_is)
    (case z_int => k_is)
    (case z_bool => k_is)
    (case z_str => k_is)
    (case z_dict => k_is)
    (case z_tuple => k_is)
    (case z_all => k_is)
    (case z_range => k_is)
    (case z_sorted => k_is)
    (case z_super => k_is)

