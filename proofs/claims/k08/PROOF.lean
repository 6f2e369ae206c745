import PyProof.Rows.All
import Wide.All
import OpenK.AllK
import Wide.FinOn
import HandS.ForMost
import HandS.ForExc
import HandS.Wide
import HandS.IsInst
import HandS.ExcIs
import HandS.More
import HandS.DictComp
import HandS.SortInts
import PySem.Challenge.RW_gromatic_k08_rests_and_costs
set_option Elab.async false
set_option linter.all false
set_option maxRecDepth 100000
set_option maxHeartbeats 8000000
namespace G
open PySem L2

def top (i : Nat) : Stmt := PySem.Challenge.pw_gromatic_k08_rests_and_costs.main.body.getD i (.Pass ⟨0, 0, 0, 0⟩)
abbrev s_greatest_common : Stmt := top 11
abbrev n_greatest_common : List Str := ["one", "other"]
abbrev p_greatest_common : List Str := ["one", "other"]
theorem sc_greatest_common : FnScope n_greatest_common p_greatest_common (defScope s_greatest_common) := ⟨rfl, rfl, rfl, by decide +kernel, rfl, by decide +kernel, by decide +kernel⟩
abbrev s_ratio : Stmt := top 12
abbrev n_ratio : List Str := ["over", "under", "common"]
abbrev p_ratio : List Str := ["over", "under"]
theorem sc_ratio : FnScope n_ratio p_ratio (defScope s_ratio) := ⟨rfl, rfl, rfl, by decide +kernel, rfl, by decide +kernel, by decide +kernel⟩
abbrev s_plus : Stmt := top 13
abbrev n_plus : List Str := ["one", "other"]
abbrev p_plus : List Str := ["one", "other"]
theorem sc_plus : FnScope n_plus p_plus (defScope s_plus) := ⟨rfl, rfl, rfl, by decide +kernel, rfl, by decide +kernel, by decide +kernel⟩
abbrev s_minus : Stmt := top 14
abbrev n_minus : List Str := ["one", "other"]
abbrev p_minus : List Str := ["one", "other"]
theorem sc_minus : FnScope n_minus p_minus (defScope s_minus) := ⟨rfl, rfl, rfl, by decide +kernel, rfl, by decide +kernel, by decide +kernel⟩
abbrev s_times : Stmt := top 15
abbrev n_times : List Str := ["one", "other"]
abbrev p_times : List Str := ["one", "other"]
theorem sc_times : FnScope n_times p_times (defScope s_times) := ⟨rfl, rfl, rfl, by decide +kernel, rfl, by decide +kernel, by decide +kernel⟩
abbrev s_is_word : Stmt := top 19
abbrev n_is_word : List Str := ["text", "sign"]
abbrev p_is_word : List Str := ["text"]
theorem sc_is_word : FnScope n_is_word p_is_word (defScope s_is_word) := ⟨rfl, rfl, rfl, by decide +kernel, rfl, by decide +kernel, by decide +kernel⟩
abbrev s_is_name : Stmt := top 20
abbrev n_is_name : List Str := ["name"]
abbrev p_is_name : List Str := ["name"]
theorem sc_is_name : FnScope n_is_name p_is_name (defScope s_is_name) := ⟨rfl, rfl, rfl, by decide +kernel, rfl, by decide +kernel, by decide +kernel⟩
abbrev s_is_within : Stmt := top 21
abbrev n_is_within : List Str := ["number", "low", "high"]
abbrev p_is_within : List Str := ["number", "low", "high"]
theorem sc_is_within : FnScope n_is_within p_is_within (defScope s_is_within) := ⟨rfl, rfl, rfl, by decide +kernel, rfl, by decide +kernel, by decide +kernel⟩
abbrev s_check_name : Stmt := top 22
abbrev n_check_name : List Str := ["name"]
abbrev p_check_name : List Str := ["name"]
theorem sc_check_name : FnScope n_check_name p_check_name (defScope s_check_name) := ⟨rfl, rfl, rfl, by decide +kernel, rfl, by decide +kernel, by decide +kernel⟩
abbrev s_check_number : Stmt := top 23
abbrev n_check_number : List Str := ["number", "low", "high"]
abbrev p_check_number : List Str := ["number", "low", "high"]
theorem sc_check_number : FnScope n_check_number p_check_number (defScope s_check_number) := ⟨rfl, rfl, rfl, by decide +kernel, rfl, by decide +kernel, by decide +kernel⟩
abbrev s_check_place : Stmt := top 28
abbrev n_check_place : List Str := ["at", "number"]
abbrev p_check_place : List Str := ["at"]
theorem sc_check_place : FnScope n_check_place p_check_place (defScope s_check_place) := ⟨rfl, rfl, rfl, by decide +kernel, rfl, by decide +kernel, by decide +kernel⟩
abbrev s_check_reading : Stmt := top 29
abbrev n_check_reading : List Str := ["marks", "number", "reading", "one", "other", "across", "up", "weight", "name"]
abbrev p_check_reading : List Str := ["marks", "number", "reading"]
theorem sc_check_reading : FnScope n_check_reading p_check_reading (defScope s_check_reading) := ⟨rfl, rfl, rfl, by decide +kernel, rfl, by decide +kernel, by decide +kernel⟩
abbrev s_Survey___init__ : Stmt := inClass (top 30) 0
abbrev n_Survey___init__ : List Str := ["self", "marks", "readings", "name", "number"]
abbrev p_Survey___init__ : List Str := ["self", "marks", "readings"]
theorem sc_Survey___init__ : FnScope n_Survey___init__ p_Survey___init__ (defScope s_Survey___init__) := ⟨rfl, rfl, rfl, by decide +kernel, rfl, by decide +kernel, by decide +kernel⟩
abbrev s_Survey_readings : Stmt := inClass (top 30) 2
abbrev n_Survey_readings : List Str := ["self"]
abbrev p_Survey_readings : List Str := ["self"]
theorem sc_Survey_readings : FnScope n_Survey_readings p_Survey_readings (defScope s_Survey_readings) := ⟨rfl, rfl, rfl, by decide +kernel, rfl, by decide +kernel, by decide +kernel⟩
abbrev s_rests : Stmt := top 32
abbrev n_rests : List Str := ["survey", "placing", "readings", "told", "number", "one", "other", "across", "up", "weight", "start", "end"]
abbrev p_rests : List Str := ["survey", "placing"]
theorem sc_rests : FnScope n_rests p_rests (defScope s_rests) := ⟨rfl, rfl, rfl, by decide +kernel, rfl, by decide +kernel, by decide +kernel⟩
abbrev s_cost : Stmt := top 33
abbrev n_cost : List Str := ["survey", "placing", "readings", "left", "total", "number", "x", "y", "squares"]
abbrev p_cost : List Str := ["survey", "placing"]
theorem sc_cost : FnScope n_cost p_cost (defScope s_cost) := ⟨rfl, rfl, rfl, by decide +kernel, rfl, by decide +kernel, by decide +kernel⟩
abbrev s_law_bag : Stmt := top 35
abbrev n_law_bag : List Str := ["_law_script"]
abbrev p_law_bag : List Str := ["_law_script"]
theorem sc_law_bag : FnScope n_law_bag p_law_bag (defScope s_law_bag) := ⟨rfl, rfl, rfl, by decide +kernel, rfl, by decide +kernel, by decide +kernel⟩
abbrev s_law_draw : Stmt := top 36
abbrev n_law_draw : List Str := ["_law_bag_here", "_law_many", "_law_cells", "_law_slot", "_law_cell", "_law_seed"]
abbrev p_law_draw : List Str := ["_law_bag_here", "_law_many"]
theorem sc_law_draw : FnScope n_law_draw p_law_draw (defScope s_law_draw) := ⟨rfl, rfl, rfl, by decide +kernel, rfl, by decide +kernel, by decide +kernel⟩
abbrev s_law_whole : Stmt := top 37
abbrev n_law_whole : List Str := ["_law_found"]
abbrev p_law_whole : List Str := ["_law_found"]
theorem sc_law_whole : FnScope n_law_whole p_law_whole (defScope s_law_whole) := ⟨rfl, rfl, rfl, by decide +kernel, rfl, by decide +kernel, by decide +kernel⟩
abbrev s_law_same : Stmt := top 38
abbrev n_law_same : List Str := ["_law_found", "_law_due", "_law_name_here", "_law_k"]
abbrev p_law_same : List Str := ["_law_found", "_law_due"]
theorem sc_law_same : FnScope n_law_same p_law_same (defScope s_law_same) := ⟨rfl, rfl, rfl, by decide +kernel, rfl, by decide +kernel, by decide +kernel⟩
abbrev s_law_any : Stmt := top 39
abbrev n_law_any : List Str := ["_law_bag_here", "_law_some"]
abbrev p_law_any : List Str := ["_law_bag_here", "_law_some"]
theorem sc_law_any : FnScope n_law_any p_law_any (defScope s_law_any) := ⟨rfl, rfl, rfl, by decide +kernel, rfl, by decide +kernel, by decide +kernel⟩
abbrev s_law_rat : Stmt := top 40
abbrev n_law_rat : List Str := ["_law_over", "_law_under", "_law_one", "_law_two"]
abbrev p_law_rat : List Str := ["_law_over", "_law_under"]
theorem sc_law_rat : FnScope n_law_rat p_law_rat (defScope s_law_rat) := ⟨rfl, rfl, rfl, by decide +kernel, rfl, by decide +kernel, by decide +kernel⟩
abbrev s_law_sum : Stmt := top 41
abbrev n_law_sum : List Str := ["_law_one", "_law_two"]
abbrev p_law_sum : List Str := ["_law_one", "_law_two"]
theorem sc_law_sum : FnScope n_law_sum p_law_sum (defScope s_law_sum) := ⟨rfl, rfl, rfl, by decide +kernel, rfl, by decide +kernel, by decide +kernel⟩
abbrev s_law_dif : Stmt := top 42
abbrev n_law_dif : List Str := ["_law_one", "_law_two"]
abbrev p_law_dif : List Str := ["_law_one", "_law_two"]
theorem sc_law_dif : FnScope n_law_dif p_law_dif (defScope s_law_dif) := ⟨rfl, rfl, rfl, by decide +kernel, rfl, by decide +kernel, by decide +kernel⟩
abbrev s_law_prod : Stmt := top 43
abbrev n_law_prod : List Str := ["_law_one", "_law_two"]
abbrev p_law_prod : List Str := ["_law_one", "_law_two"]
theorem sc_law_prod : FnScope n_law_prod p_law_prod (defScope s_law_prod) := ⟨rfl, rfl, rfl, by decide +kernel, rfl, by decide +kernel, by decide +kernel⟩
abbrev s_law_name : Stmt := top 44
abbrev n_law_name : List Str := ["_law_bag_here", "_law_letters", "_law_k"]
abbrev p_law_name : List Str := ["_law_bag_here"]
theorem sc_law_name : FnScope n_law_name p_law_name (defScope s_law_name) := ⟨rfl, rfl, rfl, by decide +kernel, rfl, by decide +kernel, by decide +kernel⟩
abbrev s_law_names : Stmt := top 45
abbrev n_law_names : List Str := ["_law_bag_here", "_law_many", "_law_found", "_law_k", "_law_name_here"]
abbrev p_law_names : List Str := ["_law_bag_here", "_law_many"]
theorem sc_law_names : FnScope n_law_names p_law_names (defScope s_law_names) := ⟨rfl, rfl, rfl, by decide +kernel, rfl, by decide +kernel, by decide +kernel⟩
abbrev s_law_marks : Stmt := top 46
abbrev n_law_marks : List Str := ["_law_bag_here", "_law_many", "_law_found", "_law_name_here"]
abbrev p_law_marks : List Str := ["_law_bag_here", "_law_many"]
theorem sc_law_marks : FnScope n_law_marks p_law_marks (defScope s_law_marks) := ⟨rfl, rfl, rfl, by decide +kernel, rfl, by decide +kernel, by decide +kernel⟩
abbrev s_law_readings : Stmt := top 47
abbrev n_law_readings : List Str := ["_law_bag_here", "_law_names_here", "_law_many", "_law_found", "_law_number", "_law_k", "_law_one", "_law_two", "_law_sizes", "_law_high"]
abbrev p_law_readings : List Str := ["_law_bag_here", "_law_names_here", "_law_many"]
theorem sc_law_readings : FnScope n_law_readings p_law_readings (defScope s_law_readings) := ⟨rfl, rfl, rfl, by decide +kernel, rfl, by decide +kernel, by decide +kernel⟩
abbrev s_law_ratio : Stmt := top 48
abbrev n_law_ratio : List Str := ["_law_bag_here", "_law_reach", "_law_low", "_law_room"]
abbrev p_law_ratio : List Str := ["_law_bag_here", "_law_reach"]
theorem sc_law_ratio : FnScope n_law_ratio p_law_ratio (defScope s_law_ratio) := ⟨rfl, rfl, rfl, by decide +kernel, rfl, by decide +kernel, by decide +kernel⟩
abbrev s_law_spot : Stmt := top 49
abbrev n_law_spot : List Str := ["_law_bag_here", "_law_reach"]
abbrev p_law_spot : List Str := ["_law_bag_here", "_law_reach"]
theorem sc_law_spot : FnScope n_law_spot p_law_spot (defScope s_law_spot) := ⟨rfl, rfl, rfl, by decide +kernel, rfl, by decide +kernel, by decide +kernel⟩
abbrev s_law : Stmt := top 50
abbrev n_law : List Str := ["_law_script", "_law_bag_here", "_law_marks_here", "_law_readings_here", "_law_survey", "_law_good", "_law_turn", "_law_placing", "_law_name_here", "_law_due", "_law_total_due", "_law_number", "_law_one", "_law_two", "_law_across", "_law_high", "_law_heavy", "_law_x", "_law_y", "_law_square", "_law_handed", "_law_found"]
abbrev p_law : List Str := ["_law_script"]
theorem sc_law : FnScope n_law p_law (defScope s_law) := ⟨rfl, rfl, rfl, by decide +kernel, rfl, by decide +kernel, by decide +kernel⟩
theorem gcd_fmod (a b : Int) : Int.gcd b (a.fmod b) = Int.gcd a b := by
  rw [Int.fmod_def, Int.sub_eq_add_neg, ← Int.mul_neg]
  rw [Int.gcd_add_mul_left_right]
  exact Int.gcd_comm b a
theorem fmod_abs_lt (a : Int) {b : Int} (h : b ≠ 0) : (a.fmod b).natAbs < b.natAbs := by
  rcases Int.lt_or_gt_of_ne h with h | h
  · have e : a.fmod b = -((-a).fmod (-b)) := by
      rw [Int.neg_fmod_neg]; omega
    have h1 := Int.fmod_nonneg_of_pos (-a) (show 0 < -b by omega)
    have h2 := Int.fmod_lt_of_pos (-a) (show 0 < -b by omega)
    omega
  · have h1 := Int.fmod_nonneg_of_pos a h
    have h2 := Int.fmod_lt_of_pos a h
    omega
theorem abs_if (x : Int) : (if x < 0 then -x else x) = ((x.natAbs : Nat) : Int) := by split <;> omega
def cOf (o u : Int) : Int := if u < 0 then -((Int.gcd o u : Nat) : Int) else ((Int.gcd o u : Nat) : Int)
def rN (o u : Int) : Int := o.fdiv (cOf o u)
def rD (o u : Int) : Int := u.fdiv (cOf o u)
def CDivZ (_ j : Int) : Prop := j ≠ 0 ∧ j.natAbs.log2 < 9000
theorem op_fdivZ {X : Cx} : OpR X (binaryOp .FloorDiv) (rI CDivZ fun i j => .int (i.fdiv j)) := opI fun _ _ _ _ _ _ _ hc q => PyProof.Rows.floordiv_int hc.1 q (.inl (PyProof.noPylong_of_log2 hc.2))
theorem cOf_ok {o u : Int} (h : u ≠ 0) (hb : u.natAbs < 2 ^ 9000) (x : Int) : CDivZ x (cOf o u) := by
  have g : 0 < Int.gcd o u := Int.gcd_pos_of_ne_zero_right o h
  have l : Int.gcd o u ≤ u.natAbs := Nat.le_of_dvd (by omega) (Int.gcd_dvd_natAbs_right o u)
  have n : (cOf o u).natAbs = Int.gcd o u := by
    unfold cOf
    split <;> omega
  refine ⟨fun z => ?_, ?_⟩
  · rw [z] at n
    simp at n
    omega
  · rw [n]
    exact PySem.Flt.log2_lt_of (by decide) (Nat.lt_of_le_of_lt l hb)
theorem pow9000 {n : Nat} (h : n < 2 ^ 200) : n < 2 ^ 9000 := Nat.lt_of_lt_of_le h (Nat.pow_le_pow_right (by decide) (by decide))
theorem small_le {n : Nat} (h : n ≤ 1000) : n ≤ sizeLine := Nat.le_of_lt (small1000 h)
theorem two {a b : V} : [a, b].length ≤ sizeLine := by
  show 2 ≤ sizeLine
  decide

theorem cOf_dl (o u : Int) : cOf o u ∣ o := by
  unfold cOf
  split
  · exact Int.neg_dvd.mpr (Int.gcd_dvd_left o u)
  · exact Int.gcd_dvd_left o u
theorem cOf_dr (o u : Int) : cOf o u ∣ u := by
  unfold cOf
  split
  · exact Int.neg_dvd.mpr (Int.gcd_dvd_right o u)
  · exact Int.gcd_dvd_right o u
theorem cOf_ne {o u : Int} (h : u ≠ 0) : cOf o u ≠ 0 := by
  have g : 0 < Int.gcd o u := Int.gcd_pos_of_ne_zero_right o h
  unfold cOf
  split <;> omega
theorem rN_eq (o u : Int) : cOf o u * rN o u = o := Int.mul_fdiv_cancel' (cOf_dl o u)
theorem rD_eq (o u : Int) : cOf o u * rD o u = u := Int.mul_fdiv_cancel' (cOf_dr o u)
theorem rD_pos {o u : Int} (h : u ≠ 0) : 0 < rD o u := by
  have e := rD_eq o u
  have g : 0 < Int.gcd o u := Int.gcd_pos_of_ne_zero_right o h
  unfold cOf at e
  generalize rD o u = d at e
  split at e
  · rename_i hu
    rcases (show 0 < d ∨ d ≤ 0 by omega) with hd | hd
    · exact hd
    · have z : 0 ≤ -((Int.gcd o u : Nat) : Int) * d := Int.mul_nonneg_of_nonpos_of_nonpos (by omega) hd
      omega
  · rcases (show 0 < d ∨ d ≤ 0 by omega) with hd | hd
    · exact hd
    · have z : ((Int.gcd o u : Nat) : Int) * d ≤ 0 := Int.mul_nonpos_of_nonneg_of_nonpos (by omega) hd
      omega
theorem le_of_mul_eq {c k o : Int} (hc : c ≠ 0) (e : c * k = o) : k.natAbs ≤ o.natAbs := by
  rw [← e, Int.natAbs_mul]
  exact Nat.le_mul_of_pos_left _ (by omega)
theorem rN_le {o u : Int} (h : u ≠ 0) : (rN o u).natAbs ≤ o.natAbs := le_of_mul_eq (cOf_ne h) (rN_eq o u)
theorem rD_le {o u : Int} (h : u ≠ 0) : (rD o u).natAbs ≤ u.natAbs := le_of_mul_eq (cOf_ne h) (rD_eq o u)
theorem rDiv {o u : Int} (h : 0 < u) : (rN o u).fdiv (rD o u) = o.fdiv u := by
  have c0 : 0 < cOf o u := by
    have g : 0 < Int.gcd o u := Int.gcd_pos_of_ne_zero_right o (by omega)
    unfold cOf
    split <;> omega
  have e := Int.mul_fdiv_mul_of_pos (rN o u) (rD o u) c0
  rw [rN_eq, rD_eq] at e
  exact e.symm

structure Bag (H : Hp) (b c : Addr) : Prop where
  ne : b ≠ c
  at_ : ∃ (ns : List Int) (slot seed : Int), H b = some (.lst [.ref c, .int slot, .int seed]) ∧ H c = some (.lst (ns.map V.int)) ∧ ns.length ≤ 63 ∧ 0 ≤ slot ∧ 0 ≤ seed ∧ seed < 2147483647
/-- all but what stands at b and c stands -/
def Kept (b c : Addr) (H H' : Hp) : Prop := ∀ p o, H p = some o → p ≠ b → p ≠ c → H' p = some o
theorem Kept.refl {b c : Addr} {H : Hp} : Kept b c H H := fun _ _ e _ _ => e
theorem Kept.trans {b c : Addr} {H H' H'' : Hp} (h : Kept b c H H') (h' : Kept b c H' H'') : Kept b c H H'' := fun p o e n m => h' p o (h p o e n m) n m
theorem kept_same {b c : Addr} {H H' : Hp} (h : Same H H') : Kept b c H H' := fun p o e _ _ => h p o e
theorem same_upd {H : Hp} {p : Addr} {o : HO} (h : H p = none) : Same H (upd H p o) := fun b x e => by
  rw [upd_ne (ne_of_none e h)]
  exact e
theorem Kept.upd {b c p : Addr} {H H' : Hp} {o : HO} (h : Kept b c H H') (hp : H' p = none) : Kept b c H (upd H' p o) := h.trans (kept_same (same_upd hp))
theorem Bag.same {H H' : Hp} {b c : Addr} (h : Bag H b c) (s : Same H H') : Bag H' b c := by
  obtain ⟨ne, ns, sl, sd, h1, h2, r⟩ := h
  exact ⟨ne, ns, sl, sd, s _ _ h1, s _ _ h2, r⟩
theorem Bag.upd {b c p : Addr} {H : Hp} {o : HO} (h : Bag H b c) (hp : H p = none) : Bag (upd H p o) b c := h.same (same_upd hp)
theorem Bag.off {H : Hp} {b c p : Addr} (h : Bag H b c) (hp : H p = none) : p ≠ b ∧ p ≠ c := by
  obtain ⟨_, ns, sl, sd, h1, h2, _⟩ := h
  exact ⟨(ne_of_none h1 hp).symm, (ne_of_none h2 hp).symm⟩
/-- a thing that is no list of the bag's -/
theorem Bag.tup {H : Hp} {b c p : Addr} {xs : List V} (h : Bag H b c) (hp : H p = some (.tup xs)) : p ≠ b ∧ p ≠ c := by
  obtain ⟨_, ns, sl, sd, h1, h2, _⟩ := h
  exact ⟨ne_of hp h1 (by intro z; cases z), ne_of hp h2 (by intro z; cases z)⟩
theorem seq_by {t u : TS} {D : Ends} {σ : St} {H : Hp} (Pv : St → Hp → Prop) (h2 : ∀ σ H, Pv σ H → u D σ H) (h1 : (∀ σ H, Pv σ H → u D σ H) → t { D with nx := u D } σ H) : tSeq t u D σ H := h1 h2
theorem seq_c {u : TS} {i : Nat} {v : V} {D : Ends} {σ : St} {H : Hp} (h : u D (σ.set i (some v)) H) : tSeq (tAsg (tC v) (gName i)) u D σ H := h
theorem seq_asg {te : TE} {u : TS} {i : Nat} {D : Ends} {σ : St} {H : Hp} (h : te σ H fun x H1 => u D (σ.set i (some x)) H1) : tSeq (tAsg te (gName i)) u D σ H := h
theorem seq_sub {te ta ti : TE} {r : TSet} {u : TS} {D : Ends} {σ : St} {H : Hp} (h : te σ H fun x H1 => gSub ta ti r x σ H1 fun σ' H' => u D σ' H') : tSeq (tAsg te (gSub ta ti r)) u D σ H := h
theorem seq_drop {te : TE} {u : TS} {D : Ends} {σ : St} {H : Hp} (h : te σ H fun _ H1 => u D σ H1) : tSeq (tDrop te) u D σ H := h
theorem next_u {u : TS} {D : Ends} {σ : St} {H : Hp} (h : u D σ H) : tNext { D with nx := u D } σ H := h
theorem nx_u {u : TS} {D : Ends} {rt : VK} {bk ct : St → Hp → Prop} {σ : St} {H : Hp} (h : u D σ H) : Ends.nx { nx := u D, rt := rt, bk := bk, ct := ct } σ H := h
theorem yes_ {σ : St} {H : Hp} {A B : Hp → Prop} (h : A H) : tYes σ H (fun b H3 => if b = true then A H3 else B H3) := by
  show if true = true then A H else B H
  exact iteT h
theorem int_at {ns : List Int} {i : Int} (h0 : 0 ≤ i) (h : i < (ns.length : Int)) : ∃ v : Int, atI (ns.map V.int) i = some (.int v) := by
  have ek : i = ((i.toNat : Nat) : Int) := by omega
  have hk : i.toNat < ns.length := by omega
  rw [ek]
  exact ⟨ns[i.toNat], atI_nat (by rw [List.getElem?_map, List.getElem?_eq_getElem hk] <;> rfl)⟩
theorem ix_at {n : Nat} {i : Int} (h0 : 0 ≤ i) (h : i < (n : Int)) : ixN n i = some i.toNat := by
  unfold ixN
  rw [if_pos h0, if_pos h]
theorem set_ints (ns : List Int) (j : Nat) (v : Int) : (ns.map V.int).set j (.int v) = (ns.set j v).map V.int := by
  rw [List.map_set]
theorem at_mem {xs : List V} {r : Int} (h0 : 0 ≤ r) (h : r < (xs.length : Int)) : ∃ v, v ∈ xs ∧ atI xs r = some v := by
  have hk : r.toNat < xs.length := by omega
  have e := atI_nat (xs := xs) (j := r.toNat) (List.getElem?_eq_getElem hk)
  rw [show ((r.toNat : Nat) : Int) = r by omega] at e
  exact ⟨_, List.getElem_mem hk, e⟩
theorem cut_ints (ns : List Int) (lo hi : Option Int) : ∃ ms : List Int, cutV (ns.map V.int) lo hi = ms.map V.int ∧ ms.length ≤ ns.length := by
  refine ⟨(ns.drop (HT.sIx (ns.map V.int).length 0 lo)).take (HT.sIx (ns.map V.int).length (ns.map V.int).length hi - HT.sIx (ns.map V.int).length 0 lo), ?_, ?_⟩
  · unfold cutV
    rw [List.map_take, List.map_drop]
  · rw [List.length_take, List.length_drop]
    omega
theorem ne_true {u : Int} (z : (!decide (V.int u = V.int 0)) = true) : u ≠ 0 := fun e => by
  subst e
  exact absurd z (by decide)
theorem ne_false {u : Int} (z : ¬ (!decide (V.int u = V.int 0)) = true) : u = 0 := by
  by_cases e : u = 0
  · exact e
  · exact absurd (show (!decide (V.int u = V.int 0)) = true by rw [decide_eq_false (fun q => e (V.int.inj q))]; rfl) z

def leS (a b : Str) : Prop := a.cps.toList ≤ b.cps.toList
theorem leS_trans {a b c : Str} (h : leS a b) (h' : leS b c) : leS a c := List.le_trans h h'
theorem leS_anti {a b : Str} (h : leS a b) (h' : leS b a) : a = b := by
  have e : a.cps.toList = b.cps.toList := List.le_antisymm h h'
  cases a
  cases b
  exact congrArg Str.mk (Array.toList_inj.mp e)
theorem ris_all : ∀ (l : List Str) (p : Str), PyProof.Rows.risingS p l = true → (∀ x ∈ l, leS p x) ∧ l.Pairwise leS
  | [], _, _ => ⟨(fun _ h => nomatch h), .nil⟩
  | x :: r, p, h => by
    unfold PyProof.Rows.risingS at h
    rw [Bool.and_eq_true, Bool.not_eq_true'] at h
    rw [PyProof.Rows.ltCps_eq] at h
    have hx : leS p x := of_decide_eq_false h.1
    obtain ⟨i1, i2⟩ := ris_all r x h.2
    refine ⟨fun y hy => ?_, List.pairwise_cons.mpr ⟨i1, i2⟩⟩
    rcases List.mem_cons.mp hy with rfl | hy
    · exact hx
    · exact leS_trans hx (i1 y hy)
theorem srt_pw : ∀ {l : List Str}, PyProof.Rows.sortedS l = true → l.Pairwise leS
  | [], _ => .nil
  | x :: r, h => List.pairwise_cons.mpr (ris_all r x h)
theorem srt_same {a b : List Str} (hp : a.Perm b) (ha : PyProof.Rows.sortedS a = true) (hb : PyProof.Rows.sortedS b = true) : a = b :=
  hp.eq_of_pairwise (fun _ _ _ _ h1 h2 => leS_anti h1 h2) (srt_pw ha) (srt_pw hb)
theorem srtI_same {a b : List Int} (hp : a.Perm b) (ha : a.Pairwise (· ≤ ·)) (hb : b.Pairwise (· ≤ ·)) : a = b :=
  hp.eq_of_pairwise (fun _ _ _ _ h1 h2 => Int.le_antisymm h1 h2) ha hb
theorem lay_all : ∀ {ds : List PyData}, (∀ d ∈ ds, d.canLay0 = true) → PyData.canLayAll0 ds = true
  | [], _ => rfl
  | d :: r, h => by
    unfold PyData.canLayAll0
    rw [h d List.mem_cons_self, lay_all fun x hx => h x (List.mem_cons_of_mem _ hx)]
    rfl
theorem depth_all : ∀ {ds : List PyData} {n : Nat}, (∀ d ∈ ds, d.depth ≤ n) → PyData.depthAll ds ≤ n
  | [], _, _ => Nat.zero_le _
  | d :: r, n, h => by
    unfold PyData.depthAll
    exact Nat.max_le.mpr ⟨h d List.mem_cons_self, depth_all fun x hx => h x (List.mem_cons_of_mem _ hx)⟩

structure Bt (mg : Str → Option Value) : Prop where
  len_ : mg "len" = none
  list_ : mg "list" = none
  abs_ : mg "abs" = none
  isinstance_ : mg "isinstance" = none
  int_ : mg "int" = none
  bool_ : mg "bool" = none
  str_ : mg "str" = none
  dict_ : mg "dict" = none
  tuple_ : mg "tuple" = none
  all_ : mg "all" = none
  range_ : mg "range" = none
  sorted_ : mg "sorted" = none
structure At (K : PySem.W.Frag) (mg : Str → Option Value) (name : String) (st : Stmt) (ps : List Str) (f : Addr) (fd : FuncData) : Prop where
  F : Fun K (Str.ofString name) (Str.ofString name) st f fd
  b : Binds K fd ps []
  m : mg (Str.ofString name) = some (.ref f)
structure AtM (K : PySem.W.Frag) (C : Addr) (name qual : String) (st : Stmt) (ps : List Str) (f : Addr) (fd : FuncData) : Prop where
  F : Fun K (Str.ofString name) (Str.ofString qual) st f fd
  b : Binds K fd ps []
  me : Meth K C (Str.ofString name) f
structure NoR (K : PySem.W.Frag) (mg : Str → Option Value) (C : Addr) : Prop where
  g : mg "NoRatio" = some (.ref C)
  x : PySem.W.excIn K C [.type "ZeroDivisionError", .type "ArithmeticError", .type "Exception", .type "BaseException", .type "object"] "ZeroDivisionError.__new__" = true
  k : PySem.W.keepIn K (.ref C) = true
  b : PySem.W.subIn K (.ref C) (.type "BaseException") = some true
  t : PySem.W.typeIn K (.ref C) = some (.type "type")
  te : PySem.W.exmOne K (.ref C) (.ref C) = some true
structure Env (K : PySem.W.Frag) (mg : Str → Option Value) where
  f_greatest_common : Addr
  d_greatest_common : FuncData
  f_ratio : Addr
  d_ratio : FuncData
  f_plus : Addr
  d_plus : FuncData
  f_minus : Addr
  d_minus : FuncData
  f_times : Addr
  d_times : FuncData
  f_is_word : Addr
  d_is_word : FuncData
  f_is_name : Addr
  d_is_name : FuncData
  f_is_within : Addr
  d_is_within : FuncData
  f_check_name : Addr
  d_check_name : FuncData
  f_check_number : Addr
  d_check_number : FuncData
  f_check_place : Addr
  d_check_place : FuncData
  f_check_reading : Addr
  d_check_reading : FuncData
  f_Survey___init__ : Addr
  d_Survey___init__ : FuncData
  f_Survey_readings : Addr
  d_Survey_readings : FuncData
  f_rests : Addr
  d_rests : FuncData
  f_cost : Addr
  d_cost : FuncData
  f_law_bag : Addr
  d_law_bag : FuncData
  f_law_draw : Addr
  d_law_draw : FuncData
  f_law_whole : Addr
  d_law_whole : FuncData
  f_law_same : Addr
  d_law_same : FuncData
  f_law_any : Addr
  d_law_any : FuncData
  f_law_rat : Addr
  d_law_rat : FuncData
  f_law_sum : Addr
  d_law_sum : FuncData
  f_law_dif : Addr
  d_law_dif : FuncData
  f_law_prod : Addr
  d_law_prod : FuncData
  f_law_name : Addr
  d_law_name : FuncData
  f_law_names : Addr
  d_law_names : FuncData
  f_law_marks : Addr
  d_law_marks : FuncData
  f_law_readings : Addr
  d_law_readings : FuncData
  f_law_ratio : Addr
  d_law_ratio : FuncData
  f_law_spot : Addr
  d_law_spot : FuncData
  f_law : Addr
  d_law : FuncData
  C_NoRatio : Addr
  C_Survey : Addr
  a_NOUGHT : Addr
  A_greatest_common : At K mg "greatest_common" s_greatest_common p_greatest_common f_greatest_common d_greatest_common
  A_ratio : At K mg "ratio" s_ratio p_ratio f_ratio d_ratio
  A_plus : At K mg "plus" s_plus p_plus f_plus d_plus
  A_minus : At K mg "minus" s_minus p_minus f_minus d_minus
  A_times : At K mg "times" s_times p_times f_times d_times
  A_is_word : At K mg "is_word" s_is_word p_is_word f_is_word d_is_word
  A_is_name : At K mg "is_name" s_is_name p_is_name f_is_name d_is_name
  A_is_within : At K mg "is_within" s_is_within p_is_within f_is_within d_is_within
  A_check_name : At K mg "check_name" s_check_name p_check_name f_check_name d_check_name
  A_check_number : At K mg "check_number" s_check_number p_check_number f_check_number d_check_number
  A_check_place : At K mg "check_place" s_check_place p_check_place f_check_place d_check_place
  A_check_reading : At K mg "check_reading" s_check_reading p_check_reading f_check_reading d_check_reading
  A_Survey___init__ : AtM K C_Survey "__init__" "Survey.__init__" s_Survey___init__ p_Survey___init__ f_Survey___init__ d_Survey___init__
  A_Survey_readings : AtM K C_Survey "readings" "Survey.readings" s_Survey_readings p_Survey_readings f_Survey_readings d_Survey_readings
  A_rests : At K mg "rests" s_rests p_rests f_rests d_rests
  A_cost : At K mg "cost" s_cost p_cost f_cost d_cost
  A_law_bag : At K mg "_law_bag" s_law_bag p_law_bag f_law_bag d_law_bag
  A_law_draw : At K mg "_law_draw" s_law_draw p_law_draw f_law_draw d_law_draw
  A_law_whole : At K mg "_law_whole" s_law_whole p_law_whole f_law_whole d_law_whole
  A_law_same : At K mg "_law_same" s_law_same p_law_same f_law_same d_law_same
  A_law_any : At K mg "_law_any" s_law_any p_law_any f_law_any d_law_any
  A_law_rat : At K mg "_law_rat" s_law_rat p_law_rat f_law_rat d_law_rat
  A_law_sum : At K mg "_law_sum" s_law_sum p_law_sum f_law_sum d_law_sum
  A_law_dif : At K mg "_law_dif" s_law_dif p_law_dif f_law_dif d_law_dif
  A_law_prod : At K mg "_law_prod" s_law_prod p_law_prod f_law_prod d_law_prod
  A_law_name : At K mg "_law_name" s_law_name p_law_name f_law_name d_law_name
  A_law_names : At K mg "_law_names" s_law_names p_law_names f_law_names d_law_names
  A_law_marks : At K mg "_law_marks" s_law_marks p_law_marks f_law_marks d_law_marks
  A_law_readings : At K mg "_law_readings" s_law_readings p_law_readings f_law_readings d_law_readings
  A_law_ratio : At K mg "_law_ratio" s_law_ratio p_law_ratio f_law_ratio d_law_ratio
  A_law_spot : At K mg "_law_spot" s_law_spot p_law_spot f_law_spot d_law_spot
  A_law : At K mg "law" s_law p_law f_law d_law
  B : Bt mg
  X_NoRatio : NoR K mg C_NoRatio
  cl_Survey : Cls K C_Survey
  M_Survey : Mk K C_Survey f_Survey___init__
  g_Survey : mg "Survey" = some (.ref C_Survey)
  n1_Survey : NoAttr K C_Survey "own_marks"
  n2_Survey : NoAttr K C_Survey "own_readings"
  t1 : Tok
  t2 : Tok
  t3 : Tok
  t4 : Tok
  t5 : Tok
  c_MOST : mg "MOST" = some (.int 999 t1)
  c_LEAST_WEIGHT : mg "LEAST_WEIGHT" = some (.int 1 t2)
  c_MOST_WEIGHT : mg "MOST_WEIGHT" = some (.int 9 t3)
  c_LONGEST : mg "LONGEST" = some (.int 6 t4)
  c_LETTERS : mg "LETTERS" = some (.str "abcdefghijklmnopqrstuvwxyz" t5)
  c_NOUGHT : mg "NOUGHT" = some (.ref a_NOUGHT)
  q_NOUGHT : ∀ H, SqT K H a_NOUGHT [.int 0, .int 1]
section
variable {P : Program} {w : World} {K : PySem.W.Frag} {mg : Str → Option Value} {base : Heap}

/-! ### the greatest common number -/
def spGcd : Sp := fun vs H Q _ => ∃ a b : Int, vs = [.int a, .int b] ∧ Q (.int ((Int.gcd a b : Nat) : Int)) H
theorem ok_greatest_common (ev : Env K mg) : FnOk P w K mg base CX0 1 ev.f_greatest_common ev.d_greatest_common p_greatest_common spGcd := by
  refine ev.A_greatest_common.F.ok sc_greatest_common (fun vs H Q E h => ?_) (fun cdv A outer s H vs Q E hr h => ?_)
  · obtain ⟨a, b, rfl, _⟩ := h
    rfl
  obtain ⟨a, b, rfl, q⟩ := h
  refine ⟨_, (pss_cons (ps_while PassesOwn.never (pt_cmpR op_ne (pv 1) pe_int (nomark _))
    (pss_one (ps_par (i := 0) (j := 1) (by rfl) sc_greatest_common.nd rfl rfl (by decide) rfl rfl (pa_cons (pv 1) (pa_cons (pe_op op_modN (pv 0) (pv 1)) pa_nil)) (by rfl))))
    (pss_one (ps_ret (pe_callB call_abs (by rfl) ev.B.abs_ (by decide +kernel) (pa_cons (pv 0) pa_nil))))), ?_⟩
  refine ⟨fun m σ H' => H' = H ∧ ∃ x y : Int, σ = [some (.int x), some (.int y)] ∧ m = y.natAbs ∧ Int.gcd x y = Int.gcd a b, ⟨_, rfl, a, b, rfl, rfl, rfl⟩, ?_⟩
  rintro m σ H' ⟨rfl, x, y, rfl, rfl, e⟩
  refine ⟨_, rfl, rfl, _, rfl, ?_⟩
  refine ite2 (fun c => ?_) (fun c => ?_)
  · have hy : y ≠ 0 := ne_true c
    refine ⟨fun σ' H2 => H2 = H' ∧ σ' = [some (.int y), some (.int (x.fmod y))], ?_, ?_⟩
    · rintro σ' H2 ⟨rfl, rfl⟩
      exact ⟨_, fmod_abs_lt x hy, rfl, y, _, rfl, rfl, (gcd_fmod x y).trans e⟩
    · exact ⟨_, rfl, _, rfl, _, rfl, _, _, rfl, rfl, hy, _, _, rfl, rfl, rfl⟩
  · have hy : y = 0 := ne_false c
    subst hy
    refine ⟨_, rfl, _, rfl, ?_⟩
    rw [Int.gcd_zero_right] at e
    rw [abs_if, e]
    exact q

/-! ### ratio -/
def spRatio (C : Addr) : Sp := fun vs H Q E => ∃ o u : Int, vs = [.int o, .int u] ∧ u.natAbs < 2 ^ 9000 ∧ (u = 0 → E (.ref C) none H) ∧ (u ≠ 0 → ∀ p, H p = none → Q (.ref p) (upd H p (.tup [.int (rN o u), .int (rD o u)])))
theorem ok_ratio (ev : Env K mg) : FnOk P w K mg base (L2.CX P w) 2 ev.f_ratio ev.d_ratio p_ratio (spRatio ev.C_NoRatio) := by
  refine ev.A_ratio.F.okX sc_ratio (fun vs H Q E h => ?_) (fun cdv A outer s H vs Q E hr h => ?_)
  · obtain ⟨o, u, rfl, _⟩ := h
    rfl
  obtain ⟨o, u, rfl, hb, q0, q1⟩ := h
  refine ⟨_, (pss_cons (ps_if (pt_cmpR op_eq (pv 1) pe_int (nomark _))
    (pss_one (ps_raise rfl (takes_of rfl rfl rfl rfl) (pmk_own PySem.F.excBase_ZeroDivisionError ev.X_NoRatio.x ev.X_NoRatio.g ev.X_NoRatio.k (raises_own ev.X_NoRatio.b ev.X_NoRatio.t) (by exact rfl)))) pss_nil) (PSs.nox (pss_cons (ps_set (i := 2) sc_ratio.nd rfl (Or.inl rfl) (pe_call (ok_greatest_common ev) (hr.mono (by decide)) (by rfl) ev.A_greatest_common.m ev.A_greatest_common.F.kp ev.A_greatest_common.b .nil pass0 (pa_cons (pv 0) (pa_cons (pv 1) pa_nil))))
    (pss_cons (ps_if (pt_cmpR op_lt (pv 1) pe_int (nomark _))
    (pss_one (ps_set (i := 2) sc_ratio.nd rfl (Or.inl rfl) (pe_un un_neg (pv 2)))) pss_nil)
    (pss_one (ps_ret (pe_tup (pa_cons (pe_op op_fdivZ (pv 0) (pv 2)) (pa_cons (pe_op op_fdivZ (pv 1) (pv 2)) pa_nil))))))))), ?_⟩
  refine ⟨_, rfl, rfl, _, rfl, ?_⟩
  refine ite2 (fun c => ?_) (fun c => ?_)
  · exact q0 (V.int.inj (of_decide_eq_true c))
  have hu0 : u ≠ 0 := fun z => c (decide_eq_true (congrArg V.int z))
  refine next_u ?_
  refine seq_asg ⟨_, rfl, _, rfl, o, u, rfl, ?_⟩
  refine seq_by (fun σ H' => H' = H ∧ σ = [some (.int o), some (.int u), some (.int (cOf o u))]) ?_ (fun k => ?_)
  rotate_left
  · refine ⟨_, rfl, _, _, rfl, rfl, _, rfl, ?_⟩
    refine ite2 (fun z => ?_) (fun z => ?_)
    · have z' : u < 0 := of_decide_eq_true z
      refine ⟨_, rfl, _, rfl, k _ _ ⟨rfl, ?_⟩⟩
      unfold cOf
      rw [if_pos z']
      all_goals rfl
    · have z' : ¬ u < 0 := fun e => z (decide_eq_true e)
      refine k _ _ ⟨rfl, ?_⟩
      unfold cOf
      rw [if_neg z']
      all_goals rfl
  rintro σ H' ⟨rfl, rfl⟩
  exact ⟨_, rfl, _, rfl, _, _, rfl, rfl, cOf_ok hu0 hb _, _, rfl, _, rfl, _, _, rfl, rfl, cOf_ok hu0 hb _, (by show 2 ≤ sizeLine; decide), fun p hp => q1 hu0 p hp⟩

/-! ### the bag -/
def spBag (K : PySem.W.Frag) : Sp := fun vs H Q _ => ∃ (a : Addr) (ns : List Int), vs = [.ref a] ∧ SqL K H a (ns.map V.int) ∧ ns.length ≤ 63 ∧ ∀ b c H', Bag H' b c → H b = none → H c = none → Same H H' → Q (.ref b) H'
theorem ok_law_bag (ev : Env K mg) : FnOk P w K mg base CX0 1 ev.f_law_bag ev.d_law_bag p_law_bag (spBag K) := by
  refine ev.A_law_bag.F.ok sc_law_bag (fun vs H Q E h => ?_) (fun cdv A outer s H vs Q E hr h => ?_)
  · obtain ⟨a, ns, rfl, _⟩ := h
    rfl
  obtain ⟨a, ns, rfl, hS, hl, q⟩ := h
  refine ⟨_, (pss_one (ps_ret (pe_lst (pa_cons (pe_callTy call_list_of (by rfl) ev.B.list_ (by decide +kernel) (pa_cons (pe_slice sl_list (pv 0) po_none (po_some pe_int)) pa_nil)) (pa_cons pe_int (pa_cons pe_int pa_nil)))))), ?_⟩
  obtain ⟨ms, em, lm⟩ := cut_ints ns none (some 63)
  refine ⟨_, rfl, _, rfl, a, _, rfl, hS, fun d nd => ?_⟩
  have s1 : Same H (upd H d (.lst (cutV (ns.map V.int) none (some 63)))) := same_upd nd
  refine ⟨d, _, rfl, .inl (SqL.of upd_same), fun c nc => ?_⟩
  have s2 := s1.trans (same_upd (o := .lst (cutV (ns.map V.int) none (some 63))) nc)
  refine ⟨(by show 3 ≤ sizeLine; decide), fun b nb => ?_⟩
  have ne : b ≠ c := fun z => by
    rw [z, upd_same] at nb
    cases nb
  refine q b c _ ⟨ne, ms, 0, 11, upd_same, ?_, by omega, by decide, by decide, by decide⟩ (s2.free nb) (s1.free nc) (s2.trans (same_upd nb))
  rw [upd_ne ne.symm, upd_same, em]

/-! ### a draw -/
def Els (b c : Addr) (H H' : Hp) : Prop := ∀ p, p ≠ b → p ≠ c → H' p = H p
theorem Els.trans {b c : Addr} {H H' H'' : Hp} (h : Els b c H H') (h' : Els b c H' H'') : Els b c H H'' := fun p n m => (h' p n m).trans (h p n m)
theorem Els.kept {b c : Addr} {H H' : Hp} (h : Els b c H H') : Kept b c H H' := fun p _ e n m => (h p n m).trans e
theorem Els.tup {b c p : Addr} {H H' : Hp} {xs : List V} (h : Els b c H H') (hB : Bag H b c) (e : H p = some (.tup xs)) : H' p = some (.tup xs) := by
  obtain ⟨n1, n2⟩ := hB.tup e
  exact (h p n1 n2).trans e
def spDraw : Sp := fun vs H Q _ => ∃ (b c : Addr) (m : Int), vs = [.ref b, .int m] ∧ Bag H b c ∧ 0 < m ∧ m < 1073741824 ∧ ∀ (r : Int) (H' : Hp), 0 ≤ r → r < m → Bag H' b c → Els b c H H' → Q (.int r) H'
theorem ok_law_draw (ev : Env K mg) : FnOk P w K mg base CX0 1 ev.f_law_draw ev.d_law_draw p_law_draw spDraw := by
  refine ev.A_law_draw.F.ok sc_law_draw (fun vs H Q E h => ?_) (fun cdv A outer s H vs Q E hr h => ?_)
  · obtain ⟨b, c, m, rfl, _⟩ := h
    rfl
  obtain ⟨b, c, m, rfl, ⟨ne, ns, slot, seed, hb, hc, hn, h0, h1, h2⟩, m0, m1, q⟩ := h
  refine ⟨_, (pss_cons (ps_set (i := 2) sc_law_draw.nd rfl (Or.inl rfl) (pe_ix ix_list (pv 0) pe_int (fun _ _ => rfl)))
    (pss_cons (ps_set (i := 3) sc_law_draw.nd rfl (Or.inl rfl) (pe_ix ix_list (pv 0) pe_int (fun _ _ => rfl)))
    (pss_cons (ps_set (i := 4) sc_law_draw.nd rfl (Or.inl rfl) pe_int)
    (pss_cons (ps_if (pt_cmpR op_gt (pe_callB call_len_seq (by rfl) ev.B.len_ PySem.boot_len (pa_cons (pv 2) pa_nil)) pe_int (nomark _))
    (pss_one (ps_set (i := 4) sc_law_draw.nd rfl (Or.inl rfl) (pe_ix ix_list (pv 2) (pe_op op_mod (pv 3) (pe_callB call_len_seq (by rfl) ev.B.len_ PySem.boot_len (pa_cons (pv 2) pa_nil))) (fun _ _ => rfl)))) pss_nil)
    (pss_cons (ps_if (pt_cmpR op_lt (pv 4) pe_int (nomark _))
    (pss_one (ps_set (i := 4) sc_law_draw.nd rfl (Or.inl rfl) (pe_op op_sub pe_int (pv 4)))) pss_nil)
    (pss_cons (ps_if (pt_cmpR op_ge (pv 4) (pe_op op_pow pe_int pe_int) (nomark _))
    (pss_cons (ps_asg (pe_op op_fdiv (pv 4) (pv 1)) (pg_sub (pv 2) (pe_op op_mod (pv 3) (pe_callB call_len_seq (by rfl) ev.B.len_ PySem.boot_len (pa_cons (pv 2) pa_nil))) set_list))
    (pss_one (ps_ret (pe_op op_mod (pv 4) (pv 1))))) pss_nil)
    (pss_cons (ps_asg (pe_op op_add (pv 3) pe_int) (pg_sub (pv 0) pe_int set_list))
    (pss_cons (ps_set (i := 5) sc_law_draw.nd rfl (Or.inl rfl) (pe_ix ix_list (pv 0) pe_int (fun _ _ => rfl)))
    (pss_cons (ps_set (i := 5) sc_law_draw.nd rfl (Or.inl rfl) (pe_op op_add (pe_op op_mul (pe_op op_mod (pe_op op_mul (pv 5) (pv 5)) pe_int) pe_int) (pe_op op_mul (pv 5) pe_int)))
    (pss_cons (ps_asg (pe_op op_mod (pe_op op_add (pe_op op_add (pe_op op_add (pv 5) (pe_op op_mul (pv 4) pe_int)) (pe_op op_mul (pv 3) pe_int)) pe_int) pe_int) (pg_sub (pv 0) pe_int set_list))
    (pss_one (ps_ret (pe_op op_mod (pe_op op_fdiv (pe_op op_mod (pe_op op_mul (pe_ix ix_list (pv 0) pe_int (fun _ _ => rfl)) pe_int) pe_int) pe_int) (pv 1)))))))))))))), ?_⟩
  refine seq_asg ⟨_, rfl, b, _, _, _, rfl, rfl, SqL.of hb, atI_nat (j := 0) rfl, ?_⟩
  refine seq_asg ⟨_, rfl, b, _, _, _, rfl, rfl, SqL.of hb, atI_nat (j := 1) rfl, ?_⟩
  have hlm : (ns.map V.int).length = ns.length := List.length_map _
  have len0 : ns ≠ [] → (0 : Int) < (((ns.map V.int).length : Nat) : Int) := fun z => by
    rw [hlm]
    have := List.length_pos_iff.mpr z
    omega
  refine seq_c ?_
  refine seq_by (fun σ H' => H' = H ∧ ∃ cell : Int, σ = [some (.ref b), some (.int m), some (.ref c), some (.int slot), some (.int cell), none] ∧ (cell ≠ 0 → ns ≠ [])) ?_ (fun k => ?_)
  rotate_left
  · refine ⟨_, rfl, c, _, rfl, .inl (SqL.of hc), _, _, rfl, rfl, _, rfl, ?_⟩
    refine ite2 (fun z => ?_) (fun z => ?_)
    · have z' : (0 : Int) < (((ns.map V.int).length : Nat) : Int) := of_decide_eq_true z
      obtain ⟨v, hv⟩ := int_at (ns := ns) (i := slot % (((ns.map V.int).length : Nat) : Int)) (Int.emod_nonneg _ (by omega)) (by rw [← hlm]; exact Int.emod_lt_of_pos _ z')
      refine ⟨_, rfl, _, rfl, _, rfl, c, _, rfl, .inl (SqL.of hc), _, _, rfl, rfl, z', c, _, _, _, rfl, rfl, SqL.of hc, hv, ?_⟩
      refine k _ _ ⟨rfl, v, rfl, fun _ e => ?_⟩
      rw [hlm, e] at z'
      exact absurd z' (by decide)
    · exact k _ _ ⟨rfl, 0, rfl, fun e => absurd rfl e⟩
  rintro σ H' ⟨rfl, cell, rfl, hcell⟩
  refine seq_by (fun σ H2 => H2 = H' ∧ ∃ cell : Int, σ = [some (.ref b), some (.int m), some (.ref c), some (.int slot), some (.int cell), none] ∧ 0 ≤ cell ∧ (cell ≠ 0 → ns ≠ [])) ?_ (fun k => ?_)
  rotate_left
  · refine ⟨_, rfl, _, _, rfl, rfl, _, rfl, ?_⟩
    refine ite2 (fun z => ?_) (fun z => ?_)
    · have z' : cell < 0 := of_decide_eq_true z
      exact ⟨_, rfl, _, _, rfl, rfl, k _ _ ⟨rfl, 1 - cell, rfl, by omega, fun _ => hcell (by omega)⟩⟩
    · have z' : ¬ cell < 0 := fun e => z (decide_eq_true e)
      exact k _ _ ⟨rfl, cell, rfl, by omega, hcell⟩
  rintro σ H' ⟨rfl, cell, rfl, hc0, hcell⟩
  refine ⟨_, rfl, _, _, rfl, rfl, ⟨by decide, by decide, by decide⟩, _, _, rfl, rfl, _, rfl, ?_⟩
  refine ite2 (fun z => ?_) (fun z => ?_)
  · have z' : cell ≥ (10 : Int) ^ (18 : Int).toNat := of_decide_eq_true z
    have zz : cell ≠ 0 := fun e => by
      rw [e] at z'
      exact absurd z' (by decide)
    have z2 := len0 (hcell zz)
    have b0 := Int.emod_nonneg slot (show (((ns.map V.int).length : Nat) : Int) ≠ 0 by omega)
    have b1 := Int.emod_lt_of_pos slot z2
    refine ⟨_, rfl, _, rfl, _, _, rfl, rfl, ⟨m0, m1⟩, _, rfl, _, rfl, _, rfl, c, _, rfl, .inl (SqL.of hc), _, _, rfl, rfl, z2, c, _, _, _, rfl, rfl, hc, ix_at b0 b1, ?_⟩
    refine ⟨_, rfl, _, rfl, _, _, rfl, rfl, m0, ?_⟩
    refine q _ _ (Int.emod_nonneg _ (by omega)) (Int.emod_lt_of_pos _ m0) ⟨ne, ns.set (slot % (((ns.map V.int).length : Nat) : Int)).toNat (cell / m), slot, seed, ?_, ?_, ?_, h0, h1, h2⟩ (fun p n1 n2 => ?_)
    · rw [upd_ne ne]
      exact hb
    · rw [upd_same, set_ints]
    · rw [List.length_set]
      exact hn
    · rw [upd_ne n2]
  · refine next_u ?_
    refine seq_sub ⟨_, rfl, _, _, rfl, rfl, _, rfl, b, _, _, _, rfl, rfl, hb, rfl, ?_⟩
    refine seq_asg ⟨_, rfl, b, _, _, _, rfl, rfl, SqL.of upd_same, atI_nat (j := 2) rfl, ?_⟩
    refine seq_asg ⟨_, rfl, _, rfl, _, _, rfl, rfl, .inl ⟨by omega, by omega⟩, _, _, rfl, rfl, (show (0 : Int) < 2147483629 by decide), _, _, rfl, rfl, .inr ⟨by decide, by decide⟩, _, rfl, _, _, rfl, rfl, .inr ⟨by decide, by decide⟩, _, _, rfl, rfl, ?_⟩
    refine seq_sub ⟨_, rfl, _, rfl, _, _, rfl, rfl, .inr ⟨by decide, by decide⟩, _, _, rfl, rfl, _, rfl, _, _, rfl, rfl, .inr ⟨by decide, by decide⟩, _, _, rfl, rfl, _, _, rfl, rfl, _, _, rfl, rfl, (show (0 : Int) < 2147483647 by decide), _, rfl, b, _, _, _, rfl, rfl, upd_same, rfl, ?_⟩
    generalize hn2 : seed * seed % 2147483629 * 3 + seed * 48271 + cell * 9973 + slot * 31 + 13 = big
    have g0 := Int.emod_nonneg big (show (2147483647 : Int) ≠ 0 by decide)
    have g1 := Int.emod_lt_of_pos big (show (0 : Int) < 2147483647 by decide)
    refine ⟨_, rfl, b, _, _, _, rfl, rfl, SqL.of upd_same, atI_nat (j := 2) rfl, _, _, rfl, rfl, .inr ⟨by decide, by decide⟩, _, _, rfl, rfl, (show (0 : Int) < 2147483629 by decide), _, _, rfl, rfl, ⟨by decide, by decide⟩, _, rfl, _, _, rfl, rfl, m0, ?_⟩
    refine q _ _ (Int.emod_nonneg _ (by omega)) (Int.emod_lt_of_pos _ m0) ⟨ne, ns, slot + 1, big % 2147483647, ?_, ?_, hn, by omega, g0, g1⟩ (fun p n1 n2 => ?_)
    · rw [upd_same]
      all_goals rfl
    · rw [upd_ne ne.symm, upd_ne ne.symm]
      exact hc
    · rw [upd_ne n1, upd_ne n1]

/-! ### whole numbers, things alike -/
def spWhole : Sp := fun vs H Q _ => ∃ i : Int, vs = [.int i] ∧ Q (.bl true) H
theorem ok_law_whole (ev : Env K mg) : FnOk P w K mg base CX0 1 ev.f_law_whole ev.d_law_whole p_law_whole spWhole := by
  refine ev.A_law_whole.F.ok sc_law_whole (fun vs H Q E h => ?_) (fun cdv A outer s H vs Q E hr h => ?_)
  · obtain ⟨i, rfl, _⟩ := h
    rfl
  obtain ⟨i, rfl, q⟩ := h
  refine ⟨_, (pss_one (ps_ret (pe_and (pe_callB call_isi (by rfl) ev.B.isinstance_ (by decide +kernel) (pa_cons (pv 0) (pa_cons (pe_bltn (v := .ty "int") (by rfl) ev.B.int_ (by decide +kernel) rfl) pa_nil))) (pe_one (pe_not (pe_callB call_isi (by rfl) ev.B.isinstance_ (by decide +kernel) (pa_cons (pv 0) (pa_cons (pe_bltn (v := .ty "bool") (by rfl) ev.B.bool_ (by decide +kernel) rfl) pa_nil)))))))), ?_⟩
  refine ⟨_, rfl, _, _, _, _, true, rfl, .ty _, .base (.int i), kit_ty (by decide +kernel), true, rfl, ?_⟩
  refine iteT ?_
  exact ⟨_, rfl, _, _, _, _, false, rfl, .ty _, .base (.int i), kit_ty (by decide +kernel), false, rfl, q⟩

/-- a comprehension's walk over I from the heap H0 on: each item does Step, the end is Qd -/
def Wlk (I : It) (H0 : Hp) (Step : V → Hp → (Hp → Prop) → Prop) (Qd : Hp → Prop) : Prop := ∃ W : Nat → Nat → Hp → Prop, (∃ m, W 0 m H0) ∧
  ∀ i m H, W i m H → (I.stop i H ∧ Qd H) ∨ (I.go i H ∧ ∃ N : Hp → Prop, (∀ G, N G → ∃ m', m' < m ∧ W (i + 1) m' G) ∧ ∀ y G, I.yld i H y G → Step y G N)
theorem wlk {I : It} {H0 : Hp} {Step : V → Hp → (Hp → Prop) → Prop} {Qd : Hp → Prop} (n : Nat) (Pv : Nat → Hp → Prop) (h0 : Pv 0 H0) (done : ∀ H, Pv n H → I.stop n H ∧ Qd H) (step : ∀ i H, i < n → Pv i H → I.go i H ∧ ∀ y G, I.yld i H y G → Step y G (Pv (i + 1))) :
    Wlk I H0 Step Qd := by
  refine ⟨fun i m H => i + m = n ∧ Pv i H, ⟨n, Nat.zero_add n, h0⟩, fun i m H w => ?_⟩
  cases m with
  | zero =>
    have e : i = n := w.1
    exact .inl (e ▸ done H (e ▸ w.2))
  | succ m =>
    have s := step i H (by have := w.1; omega) w.2
    exact .inr ⟨s.1, Pv (i + 1), fun G g => ⟨m, Nat.lt_succ_self m, by have := w.1; omega, g⟩, s.2⟩
/-- what one item does in [e for x in .. if t] and in {k: v for x in .. if t}, N behind it -/
abbrev LcStep (g : TG) (tt : TT) (te : TE) (vs : List Nat) (σ : L2.St) (D : Addr) (y : V) (G : Hp) (N : Hp → Prop) : Prop :=
  g y (wipe σ vs) G fun σ' G2 => wipe σ' vs = wipe σ vs ∧ tt σ' G2 fun b G3 => if b = true then te σ' G3 (fun z G4 => ∃ l, G4 D = some (.lst l) ∧ l.length < sizeLine ∧ N (upd G4 D (.lst (l ++ [z])))) else N G3
abbrev DcStep (g : TG) (tt : TT) (tk tv : TE) (vs : List Nat) (σ : L2.St) (D : Addr) (y : V) (G : Hp) (N : Hp → Prop) : Prop :=
  g y (wipe σ vs) G fun σ' G2 => wipe σ' vs = wipe σ vs ∧ tt σ' G2 fun b G3 => if b = true then tk σ' G3 (fun a G4 => tv σ' G4 fun z G5 => ∃ l k, a = kV k ∧ G5 D = some (.dK l) ∧ l.length < sizeLine ∧ N (upd G5 D (.dK (putK l k z)))) else N G3
theorem lc_keys {d : Addr} {o : Obj} {kvs : List (Key × V)} {g : TG} {tt : TT} {te : TE} {vs : List Nat} {σ : L2.St} {H0 : Hp} {D : Addr} {Qd : Hp → Prop} (Pv : Nat → Hp → Prop) (h0 : Pv 0 (upd H0 D (.lst []))) (hl : ∀ i H, i ≤ kvs.length → Pv i H → H d = some (.frz o (.dK kvs)))
    (hs : ∀ i k v H, kvs[i]? = some (k, v) → Pv i H → LcStep g tt te vs σ D (kV k) H (Pv (i + 1))) (hd : ∀ H, Pv kvs.length H → Qd H) : Wlk (Itk d o kvs) (upd H0 D (.lst [])) (LcStep g tt te vs σ D) Qd :=
  wlk kvs.length Pv h0 (fun H p => ⟨⟨hl _ H (Nat.le_refl _) p, Nat.le_refl _⟩, hd H p⟩) fun i H c p => ⟨⟨hl i H (Nat.le_of_lt c) p, c⟩, fun y G z => by
    obtain ⟨rfl, k, v, e, rfl⟩ := z
    exact hs i k v _ e p⟩
/-- sorted(d): keys that are texts, or numbers -/
theorem call_srtK {X : Cx} (hc : X.calm = true) : CallR X (.builtin "sorted") (fun xs H Q => (∃ (a : Addr) (kvs : List (Key × V)) (ks : List Str), xs = [.ref a] ∧ Rd H a (.dK kvs) ∧ kvs.map (·.1) = ks.map Sum.inr ∧ ks.length < 64 ∧
      ∀ ys p, ys.Perm ks → PyProof.Rows.sortedS ys = true → H p = none → Q (.ref p) (upd H p (.lst (ys.map V.str)))) ∨
    ∃ (a : Addr) (kvs : List (Key × V)) (ks : List Int), xs = [.ref a] ∧ Rd H a (.dK kvs) ∧ kvs.map (·.1) = ks.map Sum.inl ∧ ks.length < 64 ∧
      ∀ (ys : List Int) (p : Addr), ys.Perm ks → ys.Pairwise (· ≤ ·) → H p = none → Q (.ref p) (upd H p (.lst (ys.map V.int)))) := by
  intro pins s σ H xs us Q I r h
  rcases h with h | h
  · exact call_sortedD hc pins s σ H xs us Q I r h
  · exact call_sortedDI hc pins s σ H xs us Q I r h
/-- the heaps from H on: what was to be read there is to be read there -/
def Up (H H' : Hp) : Prop := ∀ a u, Rd H a u → Rd H' a u
theorem up_same {H H' : Hp} (s : Same H H') : Up H H' := fun a u h => by
  rcases h with h | ⟨o, h⟩
  · exact .inl (s _ _ h)
  · exact .inr ⟨o, s _ _ h⟩
theorem Up.trans {H H' H'' : Hp} (h : Up H H') (h' : Up H' H'') : Up H H'' := fun a u r => h' a u (h a u r)
theorem up_lock {H : Hp} {d : Addr} {u : HO} {od : Obj} (h : H d = some u) (nf : ∀ o v, u ≠ .frz o v) : Up H (upd H d (.frz od u)) := fun a v r => by
  by_cases e : a = d
  · subst e
    rcases r with r | ⟨o, r⟩
    · rw [h] at r
      cases r
      exact .inr ⟨od, upd_same⟩
    · rw [h] at r
      exact absurd (Option.some.inj r) (nf _ _)
  · rcases r with r | ⟨o, r⟩
    · exact .inl (by rw [upd_ne e]; exact r)
    · exact .inr ⟨o, by rw [upd_ne e]; exact r⟩
theorem tyT {K : PySem.W.Frag} {H : Hp} {a : Addr} {xs : List V} (h : SqT K H a xs) : TyX K H (.ref a) (.type "tuple") := by
  rcases h with (h | ⟨o, h⟩) | ⟨o, _, _, h, hc, _⟩
  · exact .base (.tup h)
  · exact .fTuple h
  · exact .kTuple h hc
theorem tyL {K : PySem.W.Frag} {H : Hp} {a : Addr} {xs : List V} (h : SqL K H a xs) : TyX K H (.ref a) (.type "list") := by
  rcases h with (h | ⟨o, h⟩) | ⟨o, _, _, h, hc, _⟩
  · exact .base (.lst h)
  · exact .base (.frz h)
  · exact .kList h hc
theorem sqT_up {K : PySem.W.Frag} {H H' : Hp} {a : Addr} {xs : List V} (u : Up H H') (h : SqT K H a xs) : SqT K H' a xs := by
  rcases h with h | h
  · exact .inl (u _ _ h)
  · exact .inr h
theorem sqL_up {K : PySem.W.Frag} {H H' : Hp} {a : Addr} {xs : List V} (u : Up H H') (h : SqL K H a xs) : SqL K H' a xs := by
  rcases h with h | h
  · exact .inl (u _ _ h)
  · exact .inr h
theorem tyD {K : PySem.W.Frag} {H : Hp} {a : Addr} {xs : List (Key × V)} (h : Rd H a (.dK xs)) : TyX K H (.ref a) (.type "dict") := by
  rcases h with h | ⟨o, h⟩
  · exact .base (.dK h)
  · exact .fDict h
def flat1 : V → Bool
  | .non => true
  | .bl _ => true
  | .int _ => true
  | .str _ => true
  | _ => false
/-- alike, without dicts -/
def SmT (K : PySem.W.Frag) (H : Hp) : Nat → V → V → Prop
  | 0, x, y => flat1 x = true ∧ x = y
  | n + 1, x, y => (flat1 x = true ∧ x = y) ∨
    (∃ a b xs ys, x = .ref a ∧ y = .ref b ∧ SqT K H a xs ∧ SqT K H b ys ∧ xs.length = ys.length ∧ xs.length ≤ 1000 ∧ ∀ (i : Nat) u v, xs[i]? = some u → ys[i]? = some v → SmT K H n u v) ∨
    (∃ a b xs ys, x = .ref a ∧ y = .ref b ∧ SqL K H a xs ∧ SqL K H b ys ∧ xs.length = ys.length ∧ xs.length ≤ 1000 ∧ ∀ (i : Nat) u v, xs[i]? = some u → ys[i]? = some v → SmT K H n u v)
/-- keys that sorted takes -/
def KOk (ks : List Key) : Prop := (∃ l : List Int, ks = l.map Sum.inl) ∨ ∃ l : List Str, ks = l.map Sum.inr ∧ ∀ z ∈ l, PyData.strOk z = true
def Sm (K : PySem.W.Frag) (H : Hp) : Nat → V → V → Prop
  | 0, x, y => flat1 x = true ∧ x = y
  | n + 1, x, y => (flat1 x = true ∧ x = y) ∨
    (∃ a b xs ys, x = .ref a ∧ y = .ref b ∧ SqT K H a xs ∧ SqT K H b ys ∧ xs.length = ys.length ∧ xs.length ≤ 1000 ∧ ∀ (i : Nat) u v, xs[i]? = some u → ys[i]? = some v → Sm K H n u v) ∨
    (∃ a b xs ys, x = .ref a ∧ y = .ref b ∧ SqL K H a xs ∧ SqL K H b ys ∧ xs.length = ys.length ∧ xs.length ≤ 1000 ∧ ∀ (i : Nat) u v, xs[i]? = some u → ys[i]? = some v → Sm K H n u v) ∨
    (∃ a b ks ls, x = .ref a ∧ y = .ref b ∧ H a = some (.dK ks) ∧ H b = some (.dK ls) ∧ (ks.map (·.1)).Perm (ls.map (·.1)) ∧ (ls.map (·.1)).Nodup ∧ ls.length < 64 ∧ KOk (ls.map (·.1)) ∧ KOk (ks.map (·.1)) ∧ ∀ k u v, valV ks k = some u → valV ls k = some v → SmT K H n u v)
theorem SmT.up {K : PySem.W.Frag} {H H' : Hp} (s : Up H H') : ∀ {n : Nat} {x y : V}, SmT K H n x y → SmT K H' n x y
  | 0, _, _, h => h
  | n + 1, x, y, h => by
    rcases h with h | ⟨a, b, xs, ys, h1, h2, h3, h4, h5, h6, h7⟩ | ⟨a, b, xs, ys, h1, h2, h3, h4, h5, h6, h7⟩
    · exact .inl h
    · exact .inr (.inl ⟨a, b, xs, ys, h1, h2, sqT_up s h3, sqT_up s h4, h5, h6, fun i u v e e' => (h7 i u v e e').up s⟩)
    · exact .inr (.inr ⟨a, b, xs, ys, h1, h2, sqL_up s h3, sqL_up s h4, h5, h6, fun i u v e e' => (h7 i u v e e').up s⟩)
theorem SmT.sm {K : PySem.W.Frag} {H : Hp} : ∀ {n : Nat} {x y : V}, SmT K H n x y → Sm K H n x y
  | 0, _, _, h => h
  | n + 1, x, y, h => by
    rcases h with h | ⟨a, b, xs, ys, h1, h2, h3, h4, h5, h6, h7⟩ | ⟨a, b, xs, ys, h1, h2, h3, h4, h5, h6, h7⟩
    · exact .inl h
    · exact .inr (.inl ⟨a, b, xs, ys, h1, h2, h3, h4, h5, h6, fun i u v e e' => (h7 i u v e e').sm⟩)
    · exact .inr (.inr (.inl ⟨a, b, xs, ys, h1, h2, h3, h4, h5, h6, fun i u v e e' => (h7 i u v e e').sm⟩))
theorem Sm.same {K : PySem.W.Frag} {H H' : Hp} (s : Same H H') : ∀ {n : Nat} {x y : V}, Sm K H n x y → Sm K H' n x y
  | 0, _, _, h => h
  | n + 1, x, y, h => by
    rcases h with h | ⟨a, b, xs, ys, h1, h2, h3, h4, h5, h6, h7⟩ | ⟨a, b, xs, ys, h1, h2, h3, h4, h5, h6, h7⟩ | ⟨a, b, ks, ls, h1, h2, h3, h4, h5, h6, h7, h8, h8', h9⟩
    · exact .inl h
    · exact .inr (.inl ⟨a, b, xs, ys, h1, h2, sqT_up (up_same s) h3, sqT_up (up_same s) h4, h5, h6, fun i u v e e' => (h7 i u v e e').same s⟩)
    · exact .inr (.inr (.inl ⟨a, b, xs, ys, h1, h2, sqL_up (up_same s) h3, sqL_up (up_same s) h4, h5, h6, fun i u v e e' => (h7 i u v e e').same s⟩))
    · exact .inr (.inr (.inr ⟨a, b, ks, ls, h1, h2, s _ _ h3, s _ _ h4, h5, h6, h7, h8, h8', fun k u v e e' => (h9 k u v e e').up (up_same s)⟩))
theorem SmT.flat {K : PySem.W.Frag} {H : Hp} {x : V} (h : flat1 x = true) : ∀ n, SmT K H n x x
  | 0 => ⟨h, rfl⟩
  | _ + 1 => .inl ⟨h, rfl⟩
theorem Sm.flat {K : PySem.W.Frag} {H : Hp} {x : V} (h : flat1 x = true) (n : Nat) : Sm K H n x x := (SmT.flat h n).sm
theorem SmT.tup {K : PySem.W.Frag} {H : Hp} {a b : Addr} {xs ys : List V} {n : Nat} (ha : SqT K H a xs) (hb : SqT K H b ys) (hl : xs.length = ys.length) (h1 : xs.length ≤ 1000) (hf : ∀ (i : Nat) u v, xs[i]? = some u → ys[i]? = some v → SmT K H n u v) : SmT K H (n + 1) (.ref a) (.ref b) :=
  .inr (.inl ⟨a, b, xs, ys, rfl, rfl, ha, hb, hl, h1, hf⟩)
theorem SmT.tup2 {K : PySem.W.Frag} {H : Hp} {a b : Addr} {x y x' y' : V} {n : Nat} (ha : SqT K H a [x, y]) (hb : SqT K H b [x', y']) (hx : SmT K H n x x') (hy : SmT K H n y y') : SmT K H (n + 1) (.ref a) (.ref b) :=
  SmT.tup ha hb rfl (by show 2 ≤ 1000; decide) fun i u v e e' => by
    match i, e, e' with
    | 0, e, e' => cases e; cases e'; exact hx
    | 1, e, e' => cases e; cases e'; exact hy
    | _ + 2, e, _ => cases e
theorem kA {K : PySem.W.Frag} {t : String} (h1 : kitB t "bool" = some false) (h2 : kitB t "str" = some false) : PySem.W.kitAny K (.type t) [.type "bool", .type "str"] = some false :=
  kitAny_cons (kit_ty h1) (fun _ => kitAny_cons (kit_ty h2) (fun _ => rfl) (fun z => nomatch z)) (fun z => nomatch z)
theorem kBool {K : PySem.W.Frag} : PySem.W.kitAny K (.type "bool") [.type "bool", .type "str"] = some true :=
  kitAny_cons (b := true) (kit_ty (by decide +kernel)) (fun z => nomatch z) (fun _ => rfl)
theorem kStr {K : PySem.W.Frag} : PySem.W.kitAny K (.type "str") [.type "bool", .type "str"] = some true :=
  kitAny_cons (b := false) (kit_ty (by decide +kernel)) (fun _ => kitAny_cons (b := true) (kit_ty (by decide +kernel)) (fun z => nomatch z) (fun _ => rfl)) (fun z => nomatch z)
theorem prBS : Paired ClsV [V.ty "bool", V.ty "str"] [.type "bool", .type "str"] := .cons (.ty _) (.cons (.ty _) .nil)
theorem dpS {K : PySem.W.Frag} {H : Hp} : ∀ l : List Str, DpAll K H (l.map V.str) (l.map PyData.str)
  | [] => .nil
  | z :: r => .cons (.str z) (dpS r)
theorem dpI {K : PySem.W.Frag} {H : Hp} : ∀ l : List Int, DpAll K H (l.map V.int) (l.map PyData.int)
  | [] => .nil
  | z :: r => .cons (.int z) (dpI r)
theorem shS {l : List Str} (h : ∀ z ∈ l, PyData.strOk z = true) : SeqAt.shaped (.list (l.map PyData.str)) = true := by
  unfold SeqAt.shaped
  rw [Bool.and_eq_true]
  refine ⟨?_, decide_eq_true ?_⟩
  · show PyData.canLayAll0 (l.map PyData.str) = true
    refine lay_all fun d hd => ?_
    obtain ⟨z, hz, rfl⟩ := List.mem_map.mp hd
    exact h z hz
  · have := depth_all (ds := l.map PyData.str) (n := 2) fun d hd => by
      obtain ⟨z, hz, rfl⟩ := List.mem_map.mp hd
      show PyData.depth (.str z) ≤ 2
      unfold PyData.depth
      omega
    unfold PyData.depth
    omega
theorem shI (l : List Int) : SeqAt.shaped (.list (l.map PyData.int)) = true := by
  unfold SeqAt.shaped
  rw [Bool.and_eq_true]
  refine ⟨?_, decide_eq_true ?_⟩
  · show PyData.canLayAll0 (l.map PyData.int) = true
    refine lay_all fun d hd => ?_
    obtain ⟨z, hz, rfl⟩ := List.mem_map.mp hd
    rfl
  · have := depth_all (ds := l.map PyData.int) (n := 2) fun d hd => by
      obtain ⟨z, hz, rfl⟩ := List.mem_map.mp hd
      show PyData.depth (.int z) ≤ 2
      unfold PyData.depth
      omega
    unfold PyData.depth
    omega
theorem perm_inl {a b : List Int} (h : (a.map (Sum.inl : Int → Key)).Perm (b.map Sum.inl)) : a.Perm b := by
  have e : ∀ l : List Int, (l.map (Sum.inl : Int → Key)).filterMap Sum.getLeft? = l := fun l => by
    induction l with
    | nil => rfl
    | cons x r ih =>
      rw [List.map_cons, List.filterMap_cons]
      simp [ih]
  have q := h.filterMap Sum.getLeft?
  rw [e, e] at q
  exact q
theorem perm_inr {a b : List Str} (h : (a.map (Sum.inr : Str → Key)).Perm (b.map Sum.inr)) : a.Perm b := by
  have e : ∀ l : List Str, (l.map (Sum.inr : Str → Key)).filterMap Sum.getRight? = l := fun l => by
    induction l with
    | nil => rfl
    | cons x r ih =>
      rw [List.map_cons, List.filterMap_cons]
      simp [ih]
  have q := h.filterMap Sum.getRight?
  rw [e, e] at q
  exact q
def spSame (K : PySem.W.Frag) : Nat → Sp
  | 0 => fun _ _ _ _ => False
  | n + 1 => fun vs H Q _ => ∃ x y : V, vs = [x, y] ∧ Sm K H n x y ∧ ∀ H', Same H H' → Q (.bl true) H'
theorem ok_same1 {n : Nat} (ev : Env K mg) (GS : FnOk P w K mg base CX0 (n + 1) ev.f_law_same ev.d_law_same p_law_same (spSame K n)) : FnOk P w K mg base CX0 (n + 2) ev.f_law_same ev.d_law_same p_law_same (spSame K (n + 1)) := by
  refine ev.A_law_same.F.ok sc_law_same (fun vs H Q E h => ?_) (fun cdv A outer s H vs Q E hr h => ?_)
  · obtain ⟨x, y, rfl, _⟩ := h
    rfl
  obtain ⟨x, y, rfl, hS, q⟩ := h
  have hr1 : Room 1 _ := hr.mono (by omega)
  have hu := hu_of hr
  refine ⟨_, (pss_cons (ps_if (PW.pt (pw_or (pt_cmpR op_isN (pv 1) pe_non (nomark _)) (pw_or1 (pt_val (pe_callB call_isiT (by rfl) ev.B.isinstance_ (by decide +kernel) (pa_cons (pv 1) (pa_cons (pe_tup (pa_cons (pe_bltn (v := .ty "bool") (by rfl) ev.B.bool_ (by decide +kernel) rfl) (pa_cons (pe_bltn (v := .ty "str") (by rfl) ev.B.str_ (by decide +kernel) rfl) pa_nil))) pa_nil)))))))
    (pss_cons (ps_if (pt_cmpR op_isN (pv 1) pe_non (nomark _))
    (pss_one (ps_ret (pe_cmpR op_isN (pv 0) pe_non (nomark _)))) pss_nil)
    (pss_one (ps_ret (pe_and (pe_callB call_isiT (by rfl) ev.B.isinstance_ (by decide +kernel) (pa_cons (pv 0) (pa_cons (pe_tup (pa_cons (pe_bltn (v := .ty "bool") (by rfl) ev.B.bool_ (by decide +kernel) rfl) (pa_cons (pe_bltn (v := .ty "str") (by rfl) ev.B.str_ (by decide +kernel) rfl) pa_nil))) pa_nil))) (pe_one (pe_cmpR op_eq (pv 0) (pv 1) (nomark _))))))) pss_nil)
    (pss_cons (ps_if (pt_val (pe_callB call_isi (by rfl) ev.B.isinstance_ (by decide +kernel) (pa_cons (pv 1) (pa_cons (pe_bltn (v := .ty "int") (by rfl) ev.B.int_ (by decide +kernel) rfl) pa_nil))))
    (pss_one (ps_ret (pe_and (pe_call (ok_law_whole ev) hr1 (by rfl) ev.A_law_whole.m ev.A_law_whole.F.kp ev.A_law_whole.b .nil pass0 (pa_cons (pv 0) pa_nil)) (pe_one (pe_cmpR op_eq (pv 0) (pv 1) (nomark _)))))) pss_nil)
    (pss_cons (ps_if (pt_val (pe_callB call_isi (by rfl) ev.B.isinstance_ (by decide +kernel) (pa_cons (pv 1) (pa_cons (pe_bltn (v := .ty "dict") (by rfl) ev.B.dict_ (by decide +kernel) rfl) pa_nil))))
    (pss_cons (ps_if (PW.pt (pw_or (pt_not (pt_val (pe_callB call_isi (by rfl) ev.B.isinstance_ (by decide +kernel) (pa_cons (pv 0) (pa_cons (pe_bltn (v := .ty "dict") (by rfl) ev.B.dict_ (by decide +kernel) rfl) pa_nil))))) (pw_or1 (pt_cmpR (op_neD hr.units) (pe_callB (call_srtK rfl) (by rfl) ev.B.sorted_ (by decide +kernel) (pa_cons (pv 0) pa_nil)) (pe_callB (call_srtK rfl) (by rfl) ev.B.sorted_ (by decide +kernel) (pa_cons (pv 1) pa_nil)) (nomark _)))))
    (pss_one (ps_ret pe_bl)) pss_nil)
    (pss_one (ps_ret (pe_callB (cr_all rfl) (by rfl) ev.B.all_ (by decide +kernel) (pa_cons (pe_lock (pe_lc (own := [("_law_name_here", 2)]) (g := gName 2) (tt := tYes) (by rfl) sc_law_same.nd (pi_keys (pv 1)) (blkOk_by (own := [("_law_name_here", 2)]) (N := n_law_same) (sc := defScope s_law_same) (by decide +kernel)) (fun _ _ _ _ _ => pg_name (i := 2) sc_law_same.nd rfl (Or.inl rfl)) (fun _ _ _ _ _ => pts_nil) (fun _ _ _ _ _ => (pe_call GS hr (by rfl) ev.A_law_same.m ev.A_law_same.F.kp ev.A_law_same.b .nil pass0 (pa_cons (pe_dget hu (pv 0) (pv 2) (fun _ _ => rfl)) (pa_cons (pe_dget hu (pv 1) (pv 2) (fun _ _ => rfl)) pa_nil)))))) pa_nil))))) pss_nil)
    (pss_cons (ps_if (pt_cmpR op_ne (pe_callB call_isi (by rfl) ev.B.isinstance_ (by decide +kernel) (pa_cons (pv 1) (pa_cons (pe_bltn (v := .ty "tuple") (by rfl) ev.B.tuple_ (by decide +kernel) rfl) pa_nil))) (pe_callB call_isi (by rfl) ev.B.isinstance_ (by decide +kernel) (pa_cons (pv 0) (pa_cons (pe_bltn (v := .ty "tuple") (by rfl) ev.B.tuple_ (by decide +kernel) rfl) pa_nil))) (nomark _))
    (pss_one (ps_ret pe_bl)) pss_nil)
    (pss_cons (ps_if (PW.pt (pw_or (pt_cmpR op_ne (pe_callB call_isi (by rfl) ev.B.isinstance_ (by decide +kernel) (pa_cons (pv 1) (pa_cons (pe_bltn (v := .ty "list") (by rfl) ev.B.list_ (by decide +kernel) rfl) pa_nil))) (pe_callB call_isi (by rfl) ev.B.isinstance_ (by decide +kernel) (pa_cons (pv 0) (pa_cons (pe_bltn (v := .ty "list") (by rfl) ev.B.list_ (by decide +kernel) rfl) pa_nil))) (nomark _)) (pw_or1 (pt_cmpR op_ne (pe_callB call_len_seq (by rfl) ev.B.len_ PySem.boot_len (pa_cons (pv 0) pa_nil)) (pe_callB call_len_seq (by rfl) ev.B.len_ PySem.boot_len (pa_cons (pv 1) pa_nil)) (nomark _)))))
    (pss_one (ps_ret pe_bl)) pss_nil)
    (pss_one (ps_ret (pe_callB (cr_all rfl) (by rfl) ev.B.all_ (by decide +kernel) (pa_cons (pe_lc (own := [("_law_k", 3)]) (g := gName 3) (tt := tYes) (by rfl) sc_law_same.nd (pi_range1 rfl ev.B.range_ (pa_cons (pe_callB call_len_seq (by rfl) ev.B.len_ PySem.boot_len (pa_cons (pv 1) pa_nil)) pa_nil)) (blkOk_by (own := [("_law_k", 3)]) (N := n_law_same) (sc := defScope s_law_same) (by decide +kernel)) (fun _ _ _ _ _ => pg_name (i := 3) sc_law_same.nd rfl (Or.inl rfl)) (fun _ _ _ _ _ => pts_nil) (fun _ _ _ _ _ => (pe_call GS hr (by rfl) ev.A_law_same.m ev.A_law_same.F.kp ev.A_law_same.b .nil pass0 (pa_cons (pe_ix (show IxR _ (rIx K) from ix_seq) (pv 0) (pv 3) (fun _ _ => rfl)) (pa_cons (pe_ix (show IxR _ (rIx K) from ix_seq) (pv 1) (pv 3) (fun _ _ => rfl)) pa_nil))))) pa_nil))))))))), ?_⟩
  by_cases hf : flat1 x = true ∧ x = y
  · obtain ⟨hf, rfl⟩ := hf
    cases x with
    | non =>
      refine ⟨_, rfl, rfl, _, rfl, iteT (iteT ?_)⟩
      refine ⟨_, rfl, rfl, _, rfl, iteT ?_⟩
      exact ⟨_, rfl, rfl, q H fun _ _ e => e⟩
    | bl b =>
      refine ⟨_, rfl, rfl, _, rfl, iteF ⟨_, rfl, two, fun tp htp => ⟨_, tp, _, _, _, true, rfl, upd_same, prBS, .base (.bl b), kBool, true, rfl, iteT ?_⟩⟩⟩
      refine ⟨_, rfl, rfl, _, rfl, iteF ?_⟩
      refine ⟨_, rfl, two, fun tq htq => ⟨_, tq, _, _, _, true, rfl, upd_same, prBS, .base (.bl b), kBool, true, rfl, iteT ?_⟩⟩
      refine ⟨_, rfl, _, rfl, rfl, ?_⟩
      rw [decide_eq_true rfl]
      exact q _ ((same_upd htp).trans (same_upd htq))
    | int i =>
      refine ⟨_, rfl, rfl, _, rfl, iteF ⟨_, rfl, two, fun tp htp => ⟨_, tp, _, _, _, false, rfl, upd_same, prBS, .base (.int i), kA (by decide +kernel) (by decide +kernel), false, rfl, iteF ?_⟩⟩⟩
      refine ⟨_, rfl, _, _, _, _, true, rfl, .ty _, .base (.int i), kit_ty (by decide +kernel), true, rfl, iteT ?_⟩
      refine ⟨_, rfl, i, rfl, true, rfl, iteT ?_⟩
      refine ⟨_, rfl, _, rfl, rfl, ?_⟩
      rw [decide_eq_true rfl]
      exact q _ (same_upd htp)
    | str z =>
      refine ⟨_, rfl, rfl, _, rfl, iteF ⟨_, rfl, two, fun tp htp => ⟨_, tp, _, _, _, true, rfl, upd_same, prBS, .base (.str z), kStr, true, rfl, iteT ?_⟩⟩⟩
      refine ⟨_, rfl, rfl, _, rfl, iteF ?_⟩
      refine ⟨_, rfl, two, fun tq htq => ⟨_, tq, _, _, _, true, rfl, upd_same, prBS, .base (.str z), kStr, true, rfl, iteT ?_⟩⟩
      refine ⟨_, rfl, _, rfl, rfl, ?_⟩
      rw [decide_eq_true rfl]
      exact q _ ((same_upd htp).trans (same_upd htq))
    | _ => cases hf
  · cases n with
    | zero => exact absurd hS hf
    | succ m =>
      rcases hS with hS | ⟨a, b, xs, ys, rfl, rfl, ha, hb, hl, h1000, he⟩ | ⟨a, b, xs, ys, rfl, rfl, ha, hb, hl, h1000, he⟩ | ⟨a, b, ks, ls, rfl, rfl, ha, hb, hpm, hnd, h64, ok1, ok2, he⟩
      · exact absurd hS hf
      · refine ⟨_, rfl, rfl, _, rfl, iteF ⟨_, rfl, two, fun tp htp => ⟨_, tp, _, _, _, false, rfl, upd_same, prBS, tyT (xs := ys) ?_, kA (by decide +kernel) (by decide +kernel), false, rfl, iteF ?_⟩⟩⟩
        · exact sqT_up (up_same (same_upd htp)) hb
        have s1 : Same H (upd H tp (.tup [V.ty "bool", V.ty "str"])) := same_upd htp
        generalize upd H tp (.tup [V.ty "bool", V.ty "str"]) = H1 at s1
        have ha' := sqT_up (up_same s1) ha
        have hb' := sqT_up (up_same s1) hb
        refine ⟨_, rfl, _, _, _, _, false, rfl, .ty _, tyT hb', kit_ty (by decide +kernel), false, rfl, iteF ?_⟩
        refine ⟨_, rfl, _, _, _, _, false, rfl, .ty _, tyT hb', kit_ty (by decide +kernel), false, rfl, iteF ?_⟩
        refine ⟨_, rfl, _, _, _, _, true, rfl, .ty _, tyT hb', kit_ty (by decide +kernel), _, rfl, _, _, _, _, true, rfl, .ty _, tyT ha', kit_ty (by decide +kernel), rfl, _, rfl, iteF ?_⟩
        refine ⟨_, rfl, _, _, _, _, false, rfl, .ty _, tyT hb', kit_ty (by decide +kernel), _, rfl, _, _, _, _, false, rfl, .ty _, tyT ha', kit_ty (by decide +kernel), rfl, _, rfl, iteF ?_⟩
        refine ⟨_, rfl, a, _, rfl, .inr ha', _, rfl, b, _, rfl, .inr hb', rfl, _, rfl, ?_⟩
        refine iteNS (by rw [hl]) ?_
        refine ⟨_, rfl, b, _, rfl, .inr hb', _, rfl, by omega, by omega, fun D hD => ?_⟩
        refine lc_range (lo := 0) (n := ys.length) (fun i H2 => Same H1 H2 ∧ H2 D = some (.lst ((List.replicate i true).map V.bl))) ⟨same_upd hD, upd_same⟩ ?_ ?_
        · rintro i H2 hi ⟨s2, hD2⟩
          have e1 : atI xs (0 + (i : Int)) = some xs[i] := by
            rw [Int.zero_add]
            exact atI_nat (List.getElem?_eq_getElem (by omega))
          have e2 : atI ys (0 + (i : Int)) = some ys[i] := by
            rw [Int.zero_add]
            exact atI_nat (List.getElem?_eq_getElem hi)
          refine ⟨rfl, yes_ ?_⟩
          refine ⟨_, rfl, _, rfl, .inr <| .inl ⟨a, xs, _, _, rfl, rfl, sqT_up (up_same s2) ha', e1, ?_⟩⟩
          refine ⟨_, rfl, _, rfl, .inr <| .inl ⟨b, ys, _, _, rfl, rfl, sqT_up (up_same s2) hb', e2, ?_⟩⟩
          refine ⟨_, _, rfl, (he i _ _ (List.getElem?_eq_getElem (by omega)) (List.getElem?_eq_getElem hi)).same (s1.trans s2), fun H3 s3 => ?_⟩
          refine ⟨_, s3 _ _ hD2, ?_, fun p o e => ?_, ?_⟩
          · rw [List.length_map, List.length_replicate]
            exact small1000 (by omega)
          · have np : p ≠ D := ne_of_none e hD
            rw [upd_ne np]
            exact s3 _ _ (s2 _ _ e)
          · rw [upd_same, List.replicate_succ', List.map_append]
            rfl
        · rintro H2 ⟨s2, hD2⟩
          refine ⟨D, _, rfl, SqL.of hD2, ?_⟩
          rw [show (List.replicate ys.length true).all id = true by simp]
          exact q H2 (s1.trans s2)
      · refine ⟨_, rfl, rfl, _, rfl, iteF ⟨_, rfl, two, fun tp htp => ⟨_, tp, _, _, _, false, rfl, upd_same, prBS, tyL (xs := ys) ?_, kA (by decide +kernel) (by decide +kernel), false, rfl, iteF ?_⟩⟩⟩
        · exact sqL_up (up_same (same_upd htp)) hb
        have s1 : Same H (upd H tp (.tup [V.ty "bool", V.ty "str"])) := same_upd htp
        generalize upd H tp (.tup [V.ty "bool", V.ty "str"]) = H1 at s1
        have ha' := sqL_up (up_same s1) ha
        have hb' := sqL_up (up_same s1) hb
        refine ⟨_, rfl, _, _, _, _, false, rfl, .ty _, tyL hb', kit_ty (by decide +kernel), false, rfl, iteF ?_⟩
        refine ⟨_, rfl, _, _, _, _, false, rfl, .ty _, tyL hb', kit_ty (by decide +kernel), false, rfl, iteF ?_⟩
        refine ⟨_, rfl, _, _, _, _, false, rfl, .ty _, tyL hb', kit_ty (by decide +kernel), _, rfl, _, _, _, _, false, rfl, .ty _, tyL ha', kit_ty (by decide +kernel), rfl, _, rfl, iteF ?_⟩
        refine ⟨_, rfl, _, _, _, _, true, rfl, .ty _, tyL hb', kit_ty (by decide +kernel), _, rfl, _, _, _, _, true, rfl, .ty _, tyL ha', kit_ty (by decide +kernel), rfl, _, rfl, iteF ?_⟩
        refine ⟨_, rfl, a, _, rfl, .inl ha', _, rfl, b, _, rfl, .inl hb', rfl, _, rfl, ?_⟩
        refine iteNS (by rw [hl]) ?_
        refine ⟨_, rfl, b, _, rfl, .inl hb', _, rfl, by omega, by omega, fun D hD => ?_⟩
        refine lc_range (lo := 0) (n := ys.length) (fun i H2 => Same H1 H2 ∧ H2 D = some (.lst ((List.replicate i true).map V.bl))) ⟨same_upd hD, upd_same⟩ ?_ ?_
        · rintro i H2 hi ⟨s2, hD2⟩
          have e1 : atI xs (0 + (i : Int)) = some xs[i] := by
            rw [Int.zero_add]
            exact atI_nat (List.getElem?_eq_getElem (by omega))
          have e2 : atI ys (0 + (i : Int)) = some ys[i] := by
            rw [Int.zero_add]
            exact atI_nat (List.getElem?_eq_getElem hi)
          refine ⟨rfl, yes_ ?_⟩
          refine ⟨_, rfl, _, rfl, .inl ⟨a, xs, _, _, rfl, rfl, sqL_up (up_same s2) ha', e1, ?_⟩⟩
          refine ⟨_, rfl, _, rfl, .inl ⟨b, ys, _, _, rfl, rfl, sqL_up (up_same s2) hb', e2, ?_⟩⟩
          refine ⟨_, _, rfl, (he i _ _ (List.getElem?_eq_getElem (by omega)) (List.getElem?_eq_getElem hi)).same (s1.trans s2), fun H3 s3 => ?_⟩
          refine ⟨_, s3 _ _ hD2, ?_, fun p o e => ?_, ?_⟩
          · rw [List.length_map, List.length_replicate]
            exact small1000 (by omega)
          · have np : p ≠ D := ne_of_none e hD
            rw [upd_ne np]
            exact s3 _ _ (s2 _ _ e)
          · rw [upd_same, List.replicate_succ', List.map_append]
            rfl
        · rintro H2 ⟨s2, hD2⟩
          refine ⟨D, _, rfl, SqL.of hD2, ?_⟩
          rw [show (List.replicate ys.length true).all id = true by simp]
          exact q H2 (s1.trans s2)
      · have nb : ∀ o v, HO.dK ls ≠ .frz o v := fun o v z => nomatch z
        refine ⟨_, rfl, rfl, _, rfl, iteF ⟨_, rfl, two, fun tp htp => ⟨_, tp, _, _, _, false, rfl, upd_same, prBS, tyD (xs := ls) ?_, kA (by decide +kernel) (by decide +kernel), false, rfl, iteF ?_⟩⟩⟩
        · exact up_same (same_upd htp) _ _ (.inl hb)
        have s1 : Same H (upd H tp (.tup [V.ty "bool", V.ty "str"])) := same_upd htp
        generalize upd H tp (.tup [V.ty "bool", V.ty "str"]) = H1 at s1
        have ha' := s1 _ _ ha
        have hb' := s1 _ _ hb
        refine ⟨_, rfl, _, _, _, _, false, rfl, .ty _, tyD (.inl hb'), kit_ty (by decide +kernel), false, rfl, iteF ?_⟩
        refine ⟨_, rfl, _, _, _, _, true, rfl, .ty _, tyD (.inl hb'), kit_ty (by decide +kernel), true, rfl, iteT ?_⟩
        refine seq_by (fun σ H2 => σ = [some (.ref a), some (.ref b), none, none] ∧ Same H1 H2) ?_ (fun k => ?_)
        rotate_left
        · refine ⟨_, rfl, _, _, _, _, true, rfl, .ty _, tyD (.inl ha'), kit_ty (by decide +kernel), true, rfl, iteF ?_⟩
          have lk : ks.length = ls.length := by
            have := hpm.length_eq
            rw [List.length_map, List.length_map] at this
            exact this
          rcases ok1 with ⟨li, eli⟩ | ⟨lt, elt, lok⟩
          · obtain ⟨ki, eki⟩ : ∃ l : List Int, ks.map (·.1) = l.map Sum.inl := by
              rcases ok2 with ⟨l, e⟩ | ⟨l, e, _⟩
              · exact ⟨l, e⟩
              · cases l with
                | nil => exact ⟨[], e⟩
                | cons z r =>
                  rw [e, eli] at hpm
                  have := hpm.mem_iff.mp (List.mem_cons_self (a := (Sum.inr z : Key)) (l := r.map Sum.inr))
                  obtain ⟨i, _, hi⟩ := List.mem_map.mp this
                  cases hi
            have pki : ki.Perm li := by
              rw [eki, eli] at hpm
              exact perm_inl hpm
            refine ⟨_, rfl, .inr ⟨a, ks, ki, rfl, .inl ha', eki, ?_, fun ys p pm pw np => ?_⟩⟩
            · have := congrArg List.length eki
              rw [List.length_map, List.length_map] at this
              omega
            have s2 : Same H1 (upd H1 p (.lst (ys.map V.int))) := same_upd np
            refine ⟨_, rfl, .inr ⟨b, ls, li, rfl, .inl (s2 _ _ hb'), eli, ?_, fun zs p2 pm2 pw2 np2 => ?_⟩⟩
            · have := congrArg List.length eli
              rw [List.length_map, List.length_map] at this
              omega
            have e : ys = zs := srtI_same (pm.trans (pki.trans pm2.symm)) pw pw2
            subst e
            refine ⟨_, _, .lst (SqL.of (same_upd np2 _ _ upd_same)) (dpI ys), .lst (SqL.of upd_same) (dpI ys), shI ys, shI ys, _, rfl, ?_⟩
            rw [PySem.SeqAt.eqv_refl _ (SeqAt.canLay_of_shaped (shI ys))]
            exact iteF (k _ _ ⟨rfl, s2.trans (same_upd np2)⟩)
          · obtain ⟨kt, ekt, kok⟩ : ∃ l : List Str, ks.map (·.1) = l.map Sum.inr ∧ ∀ z ∈ l, PyData.strOk z = true := by
              rcases ok2 with ⟨l, e⟩ | h
              · cases l with
                | nil => exact ⟨[], e, (fun z hz => nomatch hz)⟩
                | cons z r =>
                  rw [e, elt] at hpm
                  have := hpm.mem_iff.mp (List.mem_cons_self (a := (Sum.inl z : Key)) (l := r.map Sum.inl))
                  obtain ⟨i, _, hi⟩ := List.mem_map.mp this
                  cases hi
              · exact h
            have pki : kt.Perm lt := by
              rw [ekt, elt] at hpm
              exact perm_inr hpm
            refine ⟨_, rfl, .inl ⟨a, ks, kt, rfl, .inl ha', ekt, ?_, fun ys p pm pw np => ?_⟩⟩
            · have := congrArg List.length ekt
              rw [List.length_map, List.length_map] at this
              omega
            have s2 : Same H1 (upd H1 p (.lst (ys.map V.str))) := same_upd np
            refine ⟨_, rfl, .inl ⟨b, ls, lt, rfl, .inl (s2 _ _ hb'), elt, ?_, fun zs p2 pm2 pw2 np2 => ?_⟩⟩
            · have := congrArg List.length elt
              rw [List.length_map, List.length_map] at this
              omega
            have e : ys = zs := srt_same (pm.trans (pki.trans pm2.symm)) pw pw2
            subst e
            have yok : ∀ z ∈ ys, PyData.strOk z = true := fun z hz => kok z (pm.mem_iff.mp hz)
            refine ⟨_, _, .lst (SqL.of (same_upd np2 _ _ upd_same)) (dpS ys), .lst (SqL.of upd_same) (dpS ys), shS yok, shS yok, _, rfl, ?_⟩
            rw [PySem.SeqAt.eqv_refl _ (SeqAt.canLay_of_shaped (shS yok))]
            exact iteF (k _ _ ⟨rfl, s2.trans (same_upd np2)⟩)
        rintro σ H2 ⟨rfl, s2⟩
        have hb2 := s2 _ _ hb'
        refine ⟨b, .dK ls, hb2, trivial, fun od => ?_⟩
        refine ⟨_, rfl, b, od, rfl, .inl ⟨ls, upd_same, fun D hD => ?_⟩⟩
        have nbD : D ≠ b := fun z => by
          rw [z, upd_same] at hD
          cases hD
        have ul : Up H (upd H2 b (.frz od (.dK ls))) := (up_same (s1.trans s2)).trans (up_lock hb2 nb)
        refine lc_keys (fun i H3 => Same (upd H2 b (.frz od (.dK ls))) H3 ∧ H3 D = some (.lst ((List.replicate i true).map V.bl))) ⟨same_upd hD, upd_same⟩ (fun i H3 _ h => h.1 _ _ upd_same) ?_ ?_
        · rintro i k v H3 hi ⟨s3, hD3⟩
          have u3 : Up H H3 := ul.trans (up_same s3)
          have evl : valV ls k = some v := val_nodup hnd (k, v) (List.mem_of_getElem? hi)
          obtain ⟨u, eu⟩ : ∃ u, valV ks k = some u := by
            have mk : k ∈ ks.map (·.1) := hpm.mem_iff.mpr (List.mem_map.mpr ⟨(k, v), List.mem_of_getElem? hi, rfl⟩)
            obtain ⟨p, hp, rfl⟩ := List.mem_map.mp mk
            exact ⟨_, val_nodup (hpm.nodup_iff.mpr hnd) p hp⟩
          refine ⟨rfl, yes_ ?_⟩
          refine ⟨_, rfl, _, rfl, a, u, rfl, .inl ⟨ks, k, u3 _ _ (.inl ha), rfl, eu.symm⟩, ?_⟩
          refine ⟨_, rfl, _, rfl, b, v, rfl, .inl ⟨ls, k, u3 _ _ (.inl hb), rfl, evl.symm⟩, ?_⟩
          refine ⟨_, _, rfl, ((he k u v eu evl).up u3).sm, fun H4 s4 => ?_⟩
          refine ⟨_, s4 _ _ hD3, ?_, fun p o e => ?_, ?_⟩
          · rw [List.length_map, List.length_replicate]
            have := (List.getElem?_eq_some_iff.mp hi).1
            exact small1000 (by omega)
          · have np : p ≠ D := ne_of_none e hD
            rw [upd_ne np]
            exact s4 _ _ (s3 _ _ e)
          · rw [upd_same, List.replicate_succ', List.map_append]
            rfl
        · rintro H3 ⟨s3, hD3⟩
          refine ⟨s3 _ _ upd_same, D, _, rfl, SqL.of (by rw [upd_ne nbD]; exact hD3), ?_⟩
          rw [show (List.replicate ls.length true).all id = true by simp]
          refine q _ fun p o e => ?_
          by_cases z : p = b
          · rw [z, upd_same, ← hb, ← z, e]
          · rw [upd_ne z]
            exact s3 _ _ (by rw [upd_ne z]; exact s2 _ _ (s1 _ _ e))
theorem same_none {f : Addr} {fd : FuncData} : FnOk P w K mg base CX0 1 f fd p_law_same (spSame K 0) :=
  ⟨fun _ _ _ _ h => h.elim, fun _ _ _ _ _ _ _ _ _ _ _ _ _ h => h.elim⟩
theorem ok_same (ev : Env K mg) : ∀ n, FnOk P w K mg base CX0 (n + 1) ev.f_law_same ev.d_law_same p_law_same (spSame K n)
  | 0 => same_none
  | n + 1 => ok_same1 ev (ok_same ev n)

/-! ### one of several -/
def spAny : Sp := fun vs H Q _ => ∃ (b c l : Addr) (xs : List V), vs = [.ref b, .ref l] ∧ Bag H b c ∧ l ≠ b ∧ l ≠ c ∧ H l = some (.lst xs) ∧ xs ≠ [] ∧ xs.length ≤ 1000 ∧ ∀ (v : V) (H' : Hp), v ∈ xs → Bag H' b c → Els b c H H' → Q v H'
theorem ok_law_any (ev : Env K mg) : FnOk P w K mg base CX0 2 ev.f_law_any ev.d_law_any p_law_any spAny := by
  refine ev.A_law_any.F.ok sc_law_any (fun vs H Q E h => ?_) (fun cdv A outer s H vs Q E hr h => ?_)
  · obtain ⟨b, c, l, xs, rfl, _⟩ := h
    rfl
  obtain ⟨b, c, l, xs, rfl, hB, lb, lc, hl, hx, h1000, q⟩ := h
  refine ⟨_, (pss_one (ps_ret (pe_ix ix_list (pv 1) (pe_call (ok_law_draw ev) (hr.mono (by decide)) (by rfl) ev.A_law_draw.m ev.A_law_draw.F.kp ev.A_law_draw.b .nil pass0 (pa_cons (pv 0) (pa_cons (pe_callB call_len_seq (by rfl) ev.B.len_ PySem.boot_len (pa_cons (pv 1) pa_nil)) pa_nil))) (fun _ _ => rfl)))), ?_⟩
  have l0 := List.length_pos_iff.mpr hx
  refine ⟨_, rfl, _, rfl, _, rfl, l, _, rfl, .inl (SqL.of hl), b, c, _, rfl, hB, by omega, by omega, fun r H' r0 r1 hB' ex => ?_⟩
  have hl' : H' l = some (.lst xs) := (ex l lb lc).trans hl
  obtain ⟨v, hv, e⟩ := at_mem (xs := xs) r0 r1
  exact ⟨l, _, _, _, rfl, rfl, SqL.of hl', e, q _ _ hv hB' ex⟩

/-! ### the law's own ratio -/
def spRat : Sp := fun vs H Q _ => ∃ o u : Int, vs = [.int o, .int u] ∧ u.natAbs < 2 ^ 9000 ∧ u ≠ 0 ∧ ∀ p, H p = none → Q (.ref p) (upd H p (.tup [.int (rN o u), .int (rD o u)]))
theorem ok_law_rat (ev : Env K mg) : FnOk P w K mg base CX0 1 ev.f_law_rat ev.d_law_rat p_law_rat spRat := by
  refine ev.A_law_rat.F.ok sc_law_rat (fun vs H Q E h => ?_) (fun cdv A outer s H vs Q E hr h => ?_)
  · obtain ⟨o, u, rfl, _⟩ := h
    rfl
  obtain ⟨o, u, rfl, hb, hu0, q⟩ := h
  refine ⟨_, (pss_cons (ps_par (i := 2) (j := 3) (by rfl) sc_law_rat.nd rfl rfl (by decide) rfl rfl (pa_cons (pe_callB call_abs (by rfl) ev.B.abs_ (by decide +kernel) (pa_cons (pv 0) pa_nil)) (pa_cons (pe_callB call_abs (by rfl) ev.B.abs_ (by decide +kernel) (pa_cons (pv 1) pa_nil)) pa_nil)) (by rfl))
    (pss_cons (ps_while PassesOwn.never (pt_cmpR op_gt (pv 3) pe_int (nomark _))
    (pss_one (ps_par (i := 2) (j := 3) (by rfl) sc_law_rat.nd rfl rfl (by decide) rfl rfl (pa_cons (pv 3) (pa_cons (pe_op op_modN (pv 2) (pv 3)) pa_nil)) (by rfl))))
    (pss_cons (ps_if (pt_cmpR op_lt (pv 1) pe_int (nomark _))
    (pss_one (ps_set (i := 2) sc_law_rat.nd rfl (Or.inl rfl) (pe_op op_sub pe_int (pv 2)))) pss_nil)
    (pss_one (ps_ret (pe_tup (pa_cons (pe_op op_fdivZ (pv 0) (pv 2)) (pa_cons (pe_op op_fdivZ (pv 1) (pv 2)) pa_nil)))))))), ?_⟩
  refine ⟨_, rfl, _, rfl, _, rfl, _, rfl, _, _, rfl, ?_⟩
  rw [abs_if, abs_if]
  refine ⟨fun m σ H' => H' = H ∧ ∃ x y : Int, σ = [some (.int o), some (.int u), some (.int x), some (.int y)] ∧ 0 ≤ x ∧ 0 ≤ y ∧ m = y.natAbs ∧ Int.gcd x y = Int.gcd o u, ⟨_, rfl, o.natAbs, u.natAbs, rfl, by omega, by omega, rfl, ?_⟩, ?_⟩
  · unfold Int.gcd
    rw [Int.natAbs_natCast, Int.natAbs_natCast]
  rintro m σ H' ⟨rfl, x, y, rfl, x0, y0, rfl, e⟩
  refine ⟨_, rfl, _, _, rfl, rfl, _, rfl, ?_⟩
  refine ite2 (fun c => ?_) (fun c => ?_)
  · have hy : 0 < y := of_decide_eq_true c
    refine ⟨fun σ' H2 => H2 = H' ∧ σ' = [some (.int o), some (.int u), some (.int y), some (.int (x.fmod y))], ?_, ?_⟩
    · rintro σ' H2 ⟨rfl, rfl⟩
      exact ⟨_, fmod_abs_lt x (by omega), rfl, y, _, rfl, y0, Int.fmod_nonneg_of_pos x hy, rfl, (gcd_fmod x y).trans e⟩
    · exact ⟨_, rfl, _, rfl, _, rfl, _, _, rfl, rfl, (by show y ≠ 0; omega), _, _, rfl, rfl, rfl⟩
  · have hy : y = 0 := by
      have : ¬ 0 < y := fun z => c (decide_eq_true z)
      omega
    subst hy
    rw [Int.gcd_zero_right] at e
    have ex : x = ((Int.gcd o u : Nat) : Int) := by omega
    subst ex
    refine nx_u ?_
    refine seq_by (fun σ H2 => H2 = H' ∧ ∃ y, σ = [some (.int o), some (.int u), some (.int (cOf o u)), y]) ?_ (fun k => ?_)
    rotate_left
    · refine ⟨_, rfl, _, _, rfl, rfl, _, rfl, ?_⟩
      refine ite2 (fun z => ?_) (fun z => ?_)
      · have z' : u < 0 := of_decide_eq_true z
        refine ⟨_, rfl, _, _, rfl, rfl, k _ _ ⟨rfl, some (.int 0), ?_⟩⟩
        unfold cOf
        rw [if_pos z', ← Int.zero_sub]
        all_goals rfl
      · have z' : ¬ u < 0 := fun e => z (decide_eq_true e)
        refine k _ _ ⟨rfl, some (.int 0), ?_⟩
        unfold cOf
        rw [if_neg z']
        all_goals rfl
    rintro σ H' ⟨rfl, y, rfl⟩
    exact ⟨_, rfl, _, rfl, _, _, rfl, rfl, cOf_ok hu0 hb _, _, rfl, _, rfl, _, _, rfl, rfl, cOf_ok hu0 hb _, (by show 2 ≤ sizeLine; decide), fun p hp => q p hp⟩

/-! ### names -/
def lowB (z : Str) : Bool := decide (1 ≤ z.cps.toList.length) && decide (z.cps.toList.length ≤ 6) && z.cps.toList.all fun c => decide (97 ≤ c) && decide (c ≤ 122)
theorem lowB_mk {z : Str} (h1 : 1 ≤ z.cps.toList.length) (h2 : z.cps.toList.length ≤ 6) (h : ∀ c ∈ z.cps.toList, 97 ≤ c ∧ c ≤ 122) : lowB z = true := by
  unfold lowB
  rw [decide_eq_true h1, decide_eq_true h2, Bool.true_and, Bool.true_and, List.all_eq_true]
  intro c hc
  rw [decide_eq_true (h c hc).1, decide_eq_true (h c hc).2]
  rfl
theorem lowB_all {z : Str} (h : lowB z = true) : (1 ≤ z.cps.toList.length ∧ z.cps.toList.length ≤ 6) ∧ ∀ c ∈ z.cps.toList, 97 ≤ c ∧ c ≤ 122 := by
  unfold lowB at h
  rw [Bool.and_eq_true, Bool.and_eq_true, List.all_eq_true] at h
  refine ⟨⟨of_decide_eq_true h.1.1, of_decide_eq_true h.1.2⟩, fun c hc => ?_⟩
  have := h.2 c hc
  rw [Bool.and_eq_true] at this
  exact ⟨of_decide_eq_true this.1, of_decide_eq_true this.2⟩
theorem low_ok {z : Str} (h : lowB z = true) : PyData.strOk z = true := by
  unfold PyData.strOk
  rw [← Array.all_toList, List.all_eq_true]
  intro c hc
  have := ((lowB_all h).2 c hc).2
  exact decide_eq_true (by omega)
theorem at_memA {α : Type} {xs : List α} {r : Int} (h0 : 0 ≤ r) (h : r < (xs.length : Int)) : ∃ v, v ∈ xs ∧ atI xs r = some v := by
  have hk : r.toNat < xs.length := by omega
  have e := atI_nat (xs := xs) (j := r.toNat) (List.getElem?_eq_getElem hk)
  rw [show ((r.toNat : Nat) : Int) = r by omega] at e
  exact ⟨_, List.getElem_mem hk, e⟩
/-- texts of one letter each, glued -/
theorem glue_low : ∀ (zs : List Str), (∀ z ∈ zs, ∃ c : Nat, z = ⟨#[c]⟩ ∧ 97 ≤ c ∧ c ≤ 122) → (Str.join (Str.ofString "") zs).cps.toList.length = zs.length ∧ ∀ c ∈ (Str.join (Str.ofString "") zs).cps.toList, 97 ≤ c ∧ c ≤ 122 := by
  intro zs h
  have e : (Str.join (Str.ofString "") zs).cps.toList = TL.joinL [] (zs.map TL.tl) := TL.tl_join (Str.ofString "") zs
  rw [e]
  clear e
  induction zs with
  | nil => exact ⟨rfl, (fun _ hc => nomatch hc)⟩
  | cons z r ih =>
    obtain ⟨c, rfl, c1, c2⟩ := h z List.mem_cons_self
    have ih' := ih fun x hx => h x (List.mem_cons_of_mem _ hx)
    have e : TL.joinL [] (((⟨#[c]⟩ : Str) :: r).map TL.tl) = c :: TL.joinL [] (r.map TL.tl) := by
      cases r with
      | nil => rfl
      | cons y s => rfl
    rw [e]
    refine ⟨by rw [List.length_cons, ih'.1, List.length_cons], fun x hx => ?_⟩
    rcases List.mem_cons.mp hx with rfl | hx
    · exact ⟨c1, c2⟩
    · exact ih'.2 x hx
theorem lens1 : ∀ (zs : List Str), (∀ z ∈ zs, ∃ c : Nat, z = ⟨#[c]⟩ ∧ 97 ≤ c ∧ c ≤ 122) → (zs.map (·.length)).sum = zs.length
  | [], _ => rfl
  | z :: r, h => by
    obtain ⟨c, rfl, _⟩ := h z List.mem_cons_self
    rw [List.map_cons, List.sum_cons, lens1 r fun x hx => h x (List.mem_cons_of_mem _ hx), List.length_cons]
    show 1 + r.length = r.length + 1
    omega
def spName : Sp := fun vs H Q _ => ∃ (b c : Addr), vs = [.ref b] ∧ Bag H b c ∧ ∀ (z : Str) (H' : Hp), lowB z = true → Bag H' b c → Kept b c H H' → Q (.str z) H'
theorem ok_law_name (ev : Env K mg) : FnOk P w K mg base CX0 3 ev.f_law_name ev.d_law_name p_law_name spName := by
  refine ev.A_law_name.F.ok sc_law_name (fun vs H Q E h => ?_) (fun cdv A outer s H vs Q E hr h => ?_)
  · obtain ⟨b, c, rfl, _⟩ := h
    rfl
  obtain ⟨b, c, rfl, hB, q⟩ := h
  refine ⟨_, (pss_cons (ps_if (pt_cmpR op_gt (pe_call (ok_law_draw ev) (hr.mono (by decide)) (by rfl) ev.A_law_draw.m ev.A_law_draw.F.kp ev.A_law_draw.b .nil pass0 (pa_cons (pv 0) (pa_cons pe_int pa_nil))) pe_int (nomark _))
    (pss_one (ps_ret (pe_call (ok_law_any ev) (hr.mono (by decide)) (by rfl) ev.A_law_any.m ev.A_law_any.F.kp ev.A_law_any.b .nil pass0 (pa_cons (pv 0) (pa_cons (pe_lst (pa_cons pe_str (pa_cons pe_str (pa_cons pe_str (pa_cons pe_str (pa_cons pe_str (pa_cons pe_str (pa_cons pe_str (pa_cons pe_str pa_nil))))))))) pa_nil))))) pss_nil)
    (pss_cons (ps_set (i := 1) sc_law_name.nd rfl (Or.inr rfl) pe_str)
    (pss_one (ps_ret (pe_join pe_str (pe_lc (own := [("_law_k", 2)]) (g := gName 2) (tt := tYes) (by rfl) sc_law_name.nd (pi_range1 rfl ev.B.range_ (pa_cons (pe_op op_add pe_int (pe_call (ok_law_draw ev) (hr.mono (by decide)) (by rfl) ev.A_law_draw.m ev.A_law_draw.F.kp ev.A_law_draw.b .nil pass0 (pa_cons (pv 0) (pa_cons pe_int pa_nil)))) pa_nil)) (blkOk_by (own := [("_law_k", 2)]) (N := n_law_name) (sc := defScope s_law_name) (by decide +kernel)) (fun _ _ _ _ _ => pg_name (i := 2) sc_law_name.nd rfl (Or.inl rfl)) (fun _ _ _ _ _ => pts_nil) (fun _ _ _ _ _ => (pe_ix ix_str (pv 1) (pe_call (ok_law_draw ev) (hr.mono (by decide)) (by rfl) ev.A_law_draw.m ev.A_law_draw.F.kp ev.A_law_draw.b .nil pass0 (pa_cons (pv 0) (pa_cons pe_int pa_nil))) (fun _ _ => rfl))))))))), ?_⟩
  refine ⟨_, rfl, b, c, 4, rfl, hB, by decide, by decide, fun r H1 r0 r1 hB1 ex1 => ⟨_, _, rfl, rfl, _, rfl, ite2 (fun _ => ?_) (fun _ => ?_)⟩⟩
  · refine ⟨_, rfl, (by show 8 ≤ sizeLine; decide), fun l nl => ?_⟩
    obtain ⟨lb, lc⟩ := hB1.off nl
    refine ⟨b, c, l, _, rfl, hB1.upd nl, lb, lc, upd_same, (fun z => nomatch z), (by show 8 ≤ 1000; decide), fun v H2 hv hB2 ex2 => ?_⟩
    obtain ⟨z, rfl, hz⟩ : ∃ z : Str, v = .str z ∧ lowB z = true := by
      simp only [List.mem_cons, List.not_mem_nil, or_false] at hv
      rcases hv with rfl | rfl | rfl | rfl | rfl | rfl | rfl | rfl <;> exact ⟨_, rfl, by decide +kernel⟩
    exact q z H2 hz hB2 (ex1.kept.trans ((kept_same (same_upd nl)).trans ex2.kept))
  refine next_u ?_
  refine seq_c ?_
  refine ⟨⟨_, rfl⟩, _, rfl, b, c, 6, rfl, hB1, by decide, by decide, fun r2 H2 g0 g1 hB2 ex2 => ⟨_, _, rfl, rfl, _, rfl, by omega, by omega, fun D hD => ?_⟩⟩
  obtain ⟨Db, Dc⟩ := hB2.off hD
  refine lc_range (lo := 0) (n := (1 + r2).toNat) (fun i H3 => Bag H3 b c ∧ Kept b c H2 H3 ∧ ∃ zs : List Str, H3 D = some (.lst (zs.map V.str)) ∧ zs.length = i ∧ ∀ z ∈ zs, ∃ ch : Nat, z = ⟨#[ch]⟩ ∧ 97 ≤ ch ∧ ch ≤ 122)
    ⟨hB2.upd hD, kept_same (same_upd hD), [], upd_same, rfl, (fun _ hz => nomatch hz)⟩ ?_ ?_
  · rintro i H3 hi ⟨hB3, kp3, zs, hD3, hl, hz⟩
    refine ⟨rfl, yes_ ?_⟩
    refine ⟨_, rfl, _, rfl, b, c, 26, rfl, hB3, by decide, by decide, fun r3 H4 f0 f1 hB4 ex4 => ?_⟩
    have hD4 : H4 D = some (.lst (zs.map V.str)) := (ex4 D Db Dc).trans hD3
    have all26 : ∀ ch ∈ (Str.ofString "abcdefghijklmnopqrstuvwxyz").cps.toList, 97 ≤ ch ∧ ch ≤ 122 := by decide +kernel
    obtain ⟨ch, hc, e⟩ := at_memA (xs := (Str.ofString "abcdefghijklmnopqrstuvwxyz").cps.toList) f0 (show r3 < ((Str.ofString "abcdefghijklmnopqrstuvwxyz").cps.toList.length : Int) from f1)
    refine ⟨_, _, ch, rfl, rfl, (by decide), e, _, hD4, ?_, ?_, ?_, zs ++ [⟨#[ch]⟩], ?_, ?_, ?_⟩
    · rw [List.length_map, hl]
      exact small1000 (by omega)
    · obtain ⟨ne, ns, sl, sd, h1, h2, rr⟩ := hB4
      exact ⟨ne, ns, sl, sd, by rw [upd_ne Db.symm]; exact h1, by rw [upd_ne Dc.symm]; exact h2, rr⟩
    · intro p o e1 n1 n2
      have z := kp3 p o e1 n1 n2
      have np : p ≠ D := ne_of_none e1 hD
      rw [upd_ne np]
      exact ex4.kept p o z n1 n2
    · rw [upd_same, List.map_append]
      rfl
    · rw [List.length_append, hl]
      rfl
    · intro z hzz
      rcases List.mem_append.mp hzz with hzz | hzz
      · exact hz z hzz
      · rw [List.mem_singleton.mp hzz]
        exact ⟨ch, rfl, all26 ch hc⟩
  · rintro H3 ⟨hB3, kp3, zs, hD3, hl, hz⟩
    have g := glue_low zs hz
    have ln : zs.length ≤ 6 ∧ 1 ≤ zs.length := by omega
    refine ⟨_, D, zs, rfl, rfl, .inl (SqL.of hD3), ?_, ?_⟩
    · rw [lens1 zs hz]
      show zs.length + zs.length * 0 ≤ 16777216
      omega
    · rw [TL.join_eq]
      exact q _ H3 (lowB_mk (by rw [g.1]; exact ln.2) (by rw [g.1]; exact ln.1) g.2) hB3 (ex1.kept.trans (ex2.kept.trans kp3))

/-- a row of names, no two alike -/
structure NamesAt (H : Hp) (l : Addr) (zs : List Str) : Prop where
  at_ : H l = some (.lst (zs.map V.str))
  nd : zs.Nodup
  low : ∀ z ∈ zs, lowB z = true
theorem inV_strs {z : Str} : ∀ {zs : List Str}, inV (.str z) (zs.map V.str) = decide (z ∈ zs)
  | [] => rfl
  | x :: r => by
    have ih := inV_strs (z := z) (zs := r)
    unfold inV at ih ⊢
    rw [List.map_cons, List.any_cons, ih]
    have ex : eqV (V.str x) (V.str z) = decide (x = z) := by
      show (x == z) = decide (x = z)
      by_cases e : x = z
      · subst e
        simp
      · simp [e]
    rw [ex]
    by_cases e : x = z
    · subst e
      simp
    · have e' : ¬ z = x := fun q => e q.symm
      simp [e, e']
def spNames : Sp := fun vs H Q _ => ∃ (b c : Addr) (m : Int), vs = [.ref b, .int m] ∧ Bag H b c ∧ 1 ≤ m ∧ m ≤ 20 ∧ ∀ (l : Addr) (zs : List Str) (H' : Hp), H l = none → NamesAt H' l zs → 1 ≤ zs.length → (zs.length : Int) ≤ m → Bag H' b c → Kept b c H H' → l ≠ b → l ≠ c → Q (.ref l) H'
theorem ok_law_names (ev : Env K mg) : FnOk P w K mg base CX0 4 ev.f_law_names ev.d_law_names p_law_names spNames := by
  refine ev.A_law_names.F.ok sc_law_names (fun vs H Q E h => ?_) (fun cdv A outer s H vs Q E hr h => ?_)
  · obtain ⟨b, c, m, rfl, _⟩ := h
    rfl
  obtain ⟨b, c, m, rfl, hB, m1, m2, q⟩ := h
  refine ⟨_, (pss_cons (ps_set (i := 2) sc_law_names.nd rfl (Or.inl rfl) (pe_lst pa_nil))
    (pss_cons (ps_for PassesOwn.never rfl (pi_range1 rfl ev.B.range_ (pa_cons (pv 1) pa_nil)) (pg_name (i := 3) sc_law_names.nd rfl (Or.inl rfl))
    (pss_cons (ps_set (i := 4) sc_law_names.nd rfl (Or.inl rfl) (pe_call (ok_law_name ev) (hr.mono (by decide)) (by rfl) ev.A_law_name.m ev.A_law_name.F.kp ev.A_law_name.b .nil pass0 (pa_cons (pv 0) pa_nil)))
    (pss_one (ps_if (pt_cmpR op_notIn_seq (pv 4) (pv 2) (by rfl))
    (pss_one (ps_expr (pe_bm PySem.F.plainAttrs_list PySem.F.slot_list_append PySem.F.type_list_append mt_append (pv 2) (pa_cons (pv 4) pa_nil)))) pss_nil))))
    (pss_one (ps_ret (pv 2))))), ?_⟩
  refine seq_asg ⟨Nat.zero_le _, fun l nl => ?_⟩
  obtain ⟨lb, lc⟩ := hB.off nl
  refine ⟨_, rfl, m, rfl, by omega, by omega, for_range (lo := 0) (n := m.toNat) (fun i σ H2 => Bag H2 b c ∧ Kept b c H H2 ∧ ∃ y3 y4 zs, σ = [some (.ref b), some (.int m), some (.ref l), y3, y4] ∧ NamesAt H2 l zs ∧ zs.length ≤ i ∧ (0 < i → 1 ≤ zs.length))
    ⟨hB.upd nl, kept_same (same_upd nl), none, none, [], rfl, ⟨upd_same, List.nodup_nil, (fun _ hz => nomatch hz)⟩, Nat.le_refl _, fun h => absurd h (Nat.lt_irrefl _)⟩ ?_ ?_⟩
  · rintro i σ H2 hi ⟨hB2, kp2, y3, y4, zs, rfl, ⟨hl, nd, low⟩, le, l1⟩
    refine seq_asg ⟨_, rfl, b, c, rfl, hB2, fun z H3 hz hB3 kp3 => ?_⟩
    have hl3 : H3 l = some (.lst (zs.map V.str)) := kp3 l _ hl lb lc
    refine ⟨_, rfl, _, rfl, l, _, rfl, .inl (SqL.of hl3), rfl, ?_, _, rfl, ?_⟩
    · rw [List.all_eq_true]
      intro x hx
      obtain ⟨y, _, rfl⟩ := List.mem_map.mp hx
      rfl
    rw [inV_strs]
    refine ite2 (fun w => ?_) (fun w => ?_)
    · have nz : z ∉ zs := fun e => by
        rw [decide_eq_true e] at w
        exact absurd w (by decide)
      refine ⟨_, rfl, .inl ⟨rfl, _, SqL.of hl3⟩, _, rfl, l, _, _, rfl, rfl, hl3, ?_, ?_⟩
      · rw [List.length_map]
        exact small1000 (by omega)
      refine ⟨?_, ?_, _, _, zs ++ [z], rfl, ⟨?_, ?_, ?_⟩, ?_, ?_⟩
      · obtain ⟨ne, ns, sl, sd, h1, h2, rr⟩ := hB3
        exact ⟨ne, ns, sl, sd, by rw [upd_ne lb.symm]; exact h1, by rw [upd_ne lc.symm]; exact h2, rr⟩
      · intro p o e n1 n2
        have np : p ≠ l := ne_of_none e nl
        rw [upd_ne np]
        exact kp3 p o (kp2 p o e n1 n2) n1 n2
      · rw [upd_same, List.map_append]
        rfl
      · rw [List.nodup_append]
        refine ⟨nd, List.nodup_cons.mpr ⟨(fun h => nomatch h), List.nodup_nil⟩, fun x hx y hy e => ?_⟩
        rw [List.mem_singleton] at hy
        subst e hy
        exact nz hx
      · intro x hx
        rcases List.mem_append.mp hx with hx | hx
        · exact low x hx
        · rw [List.mem_singleton.mp hx]
          exact hz
      · rw [List.length_append]
        show zs.length + 1 ≤ i + 1
        omega
      · intro _
        rw [List.length_append]
        show 1 ≤ zs.length + 1
        omega
    · have zin : z ∈ zs := by
        by_cases e : z ∈ zs
        · exact e
        · rw [decide_eq_false e] at w
          exact absurd rfl w
      refine ⟨hB3, kp2.trans kp3, _, _, zs, rfl, ⟨hl3, nd, low⟩, by omega, fun _ => ?_⟩
      exact List.length_pos_iff.mpr fun e => by rw [e] at zin; cases zin
  · rintro σ H2 ⟨hB2, kp2, y3, y4, zs, rfl, hN, le, l1⟩
    exact ⟨_, rfl, q l zs H2 nl hN (l1 (by omega)) (by omega) hB2 kp2 lb lc⟩

/-! ### marks, readings -/
/-- tuples stay -/
def Tups (H H' : Hp) : Prop := ∀ p xs, H p = some (.tup xs) → H' p = some (.tup xs)
theorem Tups.refl {H : Hp} : Tups H H := fun _ _ e => e
theorem Tups.trans {H H' H'' : Hp} (h : Tups H H') (h' : Tups H' H'') : Tups H H'' := fun p xs e => h' p xs (h p xs e)
theorem tups_same {H H' : Hp} (s : Same H H') : Tups H H' := fun p xs e => s _ _ e
theorem tups_kept {H H' : Hp} {b c : Addr} (hB : Bag H b c) (k : Kept b c H H') : Tups H H' := fun p xs e => k p _ e (hB.tup e).1 (hB.tup e).2
theorem tups_upd {H : Hp} {d : Addr} {u o : HO} (h : H d = some u) (nu : ∀ xs, u ≠ .tup xs) : Tups H (upd H d o) := fun p xs e => by
  have ne : p ≠ d := fun z => by
    rw [z, h] at e
    exact nu xs (Option.some.inj e)
  rw [upd_ne ne]
  exact e
theorem bag_upd {H : Hp} {b c d : Addr} {o : HO} (h : Bag H b c) (db : d ≠ b) (dc : d ≠ c) : Bag (upd H d o) b c := by
  obtain ⟨ne, ns, sl, sd, h1, h2, rr⟩ := h
  exact ⟨ne, ns, sl, sd, by rw [upd_ne db.symm]; exact h1, by rw [upd_ne dc.symm]; exact h2, rr⟩
/-- a new thing was changed -/
theorem kept_upd {H H' : Hp} {b c d : Addr} {o : HO} (k : Kept b c H H') (nd : H d = none) : Kept b c H (upd H' d o) := fun p x e n1 n2 => by
  rw [upd_ne (ne_of_none e nd)]
  exact k p x e n1 n2
theorem valV_none {κ : Type} [DecidableEq κ] {kvs : List (κ × V)} {k : κ} (h : k ∉ kvs.map (·.1)) : valV kvs k = none := by
  unfold valV
  rw [List.find?_eq_none.mpr fun p hp => ?_]
  · rfl
  · intro z
    exact h (List.mem_map.mpr ⟨p, hp, of_decide_eq_true z⟩)
theorem putK_app {kvs : List (Key × V)} {k : Key} {u v : V} (h : k ∉ kvs.map (·.1)) : putK (kvs ++ [(k, u)]) k v = kvs ++ [(k, v)] := by
  induction kvs with
  | nil =>
    unfold putK
    simp
  | cons p r ih =>
    have hn : ¬ p.1 = k := fun z => h (by rw [List.map_cons, z]; exact List.mem_cons_self)
    have hr : k ∉ r.map (·.1) := fun z => h (by rw [List.map_cons]; exact List.mem_cons_of_mem _ z)
    have ih' := ih hr
    unfold putK at ih' ⊢
    simp [hn] at ih' ⊢
    exact ih'
def MarkV (H : Hp) (v : V) : Prop := v = .non ∨ ∃ (t : Addr) (x y : Int), v = .ref t ∧ H t = some (.tup [.int x, .int y]) ∧ -999 ≤ x ∧ x ≤ 999 ∧ -999 ≤ y ∧ y ≤ 999
theorem MarkV.mono {H H' : Hp} {v : V} (t : Tups H H') (h : MarkV H v) : MarkV H' v := by
  rcases h with h | ⟨a, x, y, e, h, r⟩
  · exact .inl h
  · exact .inr ⟨a, x, y, e, t _ _ h, r⟩
def mkv (ks : List (Str × V)) : List (Key × V) := ks.map fun p => (Sum.inr p.1, p.2)
theorem mkv_keys (ks : List (Str × V)) : (mkv ks).map (·.1) = (ks.map (·.1)).map Sum.inr := by
  unfold mkv
  rw [List.map_map, List.map_map]
  rfl
theorem mkv_app (ks : List (Str × V)) (z : Str) (v : V) : mkv ks ++ [(Sum.inr z, v)] = mkv (ks ++ [(z, v)]) := by
  unfold mkv
  rw [List.map_append]
  rfl
theorem mkv_no {ks : List (Str × V)} {z : Str} (h : z ∉ ks.map (·.1)) : (Sum.inr z : Key) ∉ (mkv ks).map (·.1) := fun hm => by
  rw [mkv_keys] at hm
  obtain ⟨y, hy, e⟩ := List.mem_map.mp hm
  cases e
  exact h hy
structure MarksIn (H : Hp) (ks : List (Str × V)) : Prop where
  nd : (ks.map (·.1)).Nodup
  low : ∀ z ∈ ks.map (·.1), lowB z = true
  val : ∀ p ∈ ks, MarkV H p.2
theorem MarksIn.mono {H H' : Hp} {ks : List (Str × V)} (t : Tups H H') (h : MarksIn H ks) : MarksIn H' ks := ⟨h.nd, h.low, fun p hp => (h.val p hp).mono t⟩
def spMarks : Sp := fun vs H Q _ => ∃ (b c : Addr) (m : Int), vs = [.ref b, .int m] ∧ Bag H b c ∧ 1 ≤ m ∧ m ≤ 20 ∧ ∀ (d : Addr) (ks : List (Str × V)) (H' : Hp), H d = none → H' d = some (.dK (mkv ks)) → MarksIn H' ks → 1 ≤ ks.length → (ks.length : Int) ≤ m → Bag H' b c → Kept b c H H' → d ≠ b → d ≠ c → Q (.ref d) H'
theorem ok_law_marks (ev : Env K mg) : FnOk P w K mg base CX0 5 ev.f_law_marks ev.d_law_marks p_law_marks spMarks := by
  refine ev.A_law_marks.F.ok sc_law_marks (fun vs H Q E h => ?_) (fun cdv A outer s H vs Q E hr h => ?_)
  · obtain ⟨b, c, m, rfl, _⟩ := h
    rfl
  obtain ⟨b, c, m, rfl, hB, m1, m2, q⟩ := h
  have hu := hu_of hr
  refine ⟨_, (pss_cons (ps_set (i := 2) sc_law_marks.nd rfl (Or.inl rfl) pe_dnewK)
    (pss_cons (ps_for PassesOwn.never rfl (pi_list (pe_call (ok_law_names ev) (hr.mono (by decide)) (by rfl) ev.A_law_names.m ev.A_law_names.F.kp ev.A_law_names.b .nil pass0 (pa_cons (pv 0) (pa_cons (pv 1) pa_nil)))) (pg_name (i := 3) sc_law_marks.nd rfl (Or.inl rfl))
    (pss_cons (ps_dput hu (pv 2) (pv 3) pe_non rfl)
    (pss_one (ps_if (pt_cmpR op_eq (pe_call (ok_law_draw ev) (hr.mono (by decide)) (by rfl) ev.A_law_draw.m ev.A_law_draw.F.kp ev.A_law_draw.b .nil pass0 (pa_cons (pv 0) (pa_cons pe_int pa_nil))) pe_int (nomark _))
    (pss_one (ps_dput hu (pv 2) (pv 3) (pe_tup (pa_cons (pe_op op_sub (pe_call (ok_law_draw ev) (hr.mono (by decide)) (by rfl) ev.A_law_draw.m ev.A_law_draw.F.kp ev.A_law_draw.b .nil pass0 (pa_cons (pv 0) (pa_cons pe_int pa_nil))) pe_int) (pa_cons (pe_op op_sub (pe_call (ok_law_draw ev) (hr.mono (by decide)) (by rfl) ev.A_law_draw.m ev.A_law_draw.F.kp ev.A_law_draw.b .nil pass0 (pa_cons (pv 0) (pa_cons pe_int pa_nil))) pe_int) pa_nil))) rfl)) (pss_one (ps_if (pt_cmpR op_eq (pe_call (ok_law_draw ev) (hr.mono (by decide)) (by rfl) ev.A_law_draw.m ev.A_law_draw.F.kp ev.A_law_draw.b .nil pass0 (pa_cons (pv 0) (pa_cons pe_int pa_nil))) pe_int (nomark _))
    (pss_one (ps_dput hu (pv 2) (pv 3) (pe_tup (pa_cons (pe_call (ok_law_any ev) (hr.mono (by decide)) (by rfl) ev.A_law_any.m ev.A_law_any.F.kp ev.A_law_any.b .nil pass0 (pa_cons (pv 0) (pa_cons (pe_lst (pa_cons pe_int (pa_cons (pe_op op_sub pe_int pe_int) (pa_cons pe_int pa_nil)))) pa_nil))) (pa_cons (pe_call (ok_law_any ev) (hr.mono (by decide)) (by rfl) ev.A_law_any.m ev.A_law_any.F.kp ev.A_law_any.b .nil pass0 (pa_cons (pv 0) (pa_cons (pe_lst (pa_cons pe_int (pa_cons (pe_op op_sub pe_int pe_int) (pa_cons pe_int pa_nil)))) pa_nil))) pa_nil))) rfl)) pss_nil))))))
    (pss_one (ps_ret (pv 2))))), ?_⟩
  intro d nd
  obtain ⟨db, dc⟩ := hB.off nd
  refine ⟨_, rfl, _, rfl, b, c, m, rfl, hB.upd nd, m1, m2, fun l zs H1 nl hN z1 z2 hB1 kp1 lb lc => ?_⟩
  have hd1 : H1 d = some (.dK []) := kp1 d _ upd_same db dc
  have ld : l ≠ d := fun z => by
    rw [z, upd_same] at nl
    cases nl
  have kp0 : Kept b c H H1 := (kept_same (same_upd nd)).trans kp1
  refine ⟨l, rfl, ⟨_, SqL.of hN.at_⟩, for_list (K := K) (a := l) (xs := zs.map V.str) (fun i σ H2 => Bag H2 b c ∧ Kept b c H H2 ∧ H2 l = some (.lst (zs.map V.str)) ∧ ∃ y3 ks, σ = [some (.ref b), some (.int m), some (.ref d), y3] ∧ H2 d = some (.dK (mkv ks)) ∧ ks.map (·.1) = zs.take i ∧ ∀ p ∈ ks, MarkV H2 p.2)
    ⟨hB1, kp0, hN.at_, none, [], rfl, hd1, rfl, (fun _ hp => nomatch hp)⟩ (fun i σ H2 _ h => SqL.of h.2.2.1) ?_ ?_⟩
  · rintro i x σ H2 hi ⟨hB2, kp2, hl2, y3, ks, rfl, hd2, hk, hv⟩
    obtain ⟨z, hz, rfl⟩ : ∃ z, zs[i]? = some z ∧ x = V.str z := by
      rw [List.getElem?_map] at hi
      cases e : zs[i]? with
      | none => rw [e] at hi; cases hi
      | some z => rw [e] at hi; exact ⟨z, rfl, (Option.some.inj hi).symm⟩
    have zi : i < zs.length := (List.getElem?_eq_some_iff.mp hz).1
    have zn : z ∉ ks.map (·.1) := by
      rw [hk]
      intro hm
      obtain ⟨j, hj, ej⟩ := List.mem_iff_getElem.mp hm
      rw [List.length_take] at hj
      rw [List.getElem_take] at ej
      have e2 : zs[j]? = zs[i]? := by
        rw [hz, List.getElem?_eq_getElem (by omega), ej]
      have := (List.getElem?_inj (by omega) hN.nd).mp e2
      omega
    have tk : zs.take (i + 1) = zs.take i ++ [z] := by rw [List.take_add_one, hz]; rfl
    have kl : ks.length ≤ 20 := by
      have := congrArg List.length hk
      rw [List.length_map, List.length_take] at this
      omega
    have ml : (mkv ks).length = ks.length := by unfold mkv; rw [List.length_map]
    have sl : (mkv ks).length < sizeLine := small1000 (by omega)
    -- found[name] = None
    refine ⟨_, rfl, _, rfl, d, _, rfl, DPut.k (k := Sum.inr z) hd2 sl, ?_⟩
    rw [putK_new _ (valV_none (mkv_no zn))]
    have hB3 := bag_upd (o := .dK (mkv ks ++ [(Sum.inr z, .non)])) hB2 db dc
    have hd3 : (upd H2 d (.dK (mkv ks ++ [(Sum.inr z, .non)]))) d = some (.dK (mkv ks ++ [(Sum.inr z, .non)])) := upd_same
    have kp3 := kept_upd (o := .dK (mkv ks ++ [(Sum.inr z, .non)])) kp2 nd
    have hl3 : (upd H2 d (.dK (mkv ks ++ [(Sum.inr z, .non)]))) l = some (.lst (zs.map V.str)) := by rw [upd_ne ld]; exact hl2
    have tu3 : Tups H2 (upd H2 d (.dK (mkv ks ++ [(Sum.inr z, .non)]))) := tups_upd hd2 (fun xs z => nomatch z)
    generalize upd H2 d (.dK (mkv ks ++ [(Sum.inr z, .non)])) = H3 at hB3 hd3 kp3 hl3 tu3
    -- what an end of the turn asks
    have fin : ∀ (H9 : Hp) (v : V), Bag H9 b c → Kept b c H H9 → H9 l = some (.lst (zs.map V.str)) → H9 d = some (.dK (mkv ks ++ [(Sum.inr z, v)])) → Tups H3 H9 → MarkV H9 v → Bag H9 b c ∧ Kept b c H H9 ∧ H9 l = some (.lst (zs.map V.str)) ∧ ∃ y3 ks, [some (V.ref b), some (V.int m), some (V.ref d), some (V.str z)] = [some (.ref b), some (.int m), some (.ref d), y3] ∧ H9 d = some (.dK (mkv ks)) ∧ ks.map (·.1) = zs.take (i + 1) ∧ ∀ p ∈ ks, MarkV H9 p.2 :=
      fun H9 v g1 g2 g3 g4 g5 g6 => ⟨g1, g2, g3, _, ks ++ [(z, v)], rfl, by rw [← mkv_app]; exact g4, by rw [List.map_append, hk, tk]; rfl, fun p hp => by
        rcases List.mem_append.mp hp with hp | hp
        · exact (hv p hp).mono (tu3.trans g5)
        · rw [List.mem_singleton.mp hp]
          exact g6⟩
    have put : ∀ (H8 : Hp) (t : Addr) (x y : Int), Bag H8 b c → Kept b c H3 H8 → -999 ≤ x → x ≤ 999 → -999 ≤ y → y ≤ 999 → H8 t = none → _ := fun H8 t x y g1 g2 x0 x1 y0 y1 nt => by
      have gd : H8 d = some (.dK (mkv ks ++ [(Sum.inr z, .non)])) := g2 d _ hd3 db dc
      have gl : H8 l = some (.lst (zs.map V.str)) := g2 l _ hl3 lb lc
      have td : d ≠ t := ne_of_none gd nt
      have tl : l ≠ t := ne_of_none gl nt
      exact fin (upd (upd H8 t (.tup [.int x, .int y])) d (.dK (mkv ks ++ [(Sum.inr z, .ref t)]))) (.ref t) (bag_upd (g1.upd nt) db dc) (kept_upd ((kp3.trans g2).trans (kept_same (same_upd nt))) nd)
        (by rw [upd_ne ld, upd_ne tl]; exact gl) upd_same ((tups_kept hB3 g2).trans ((tups_same (same_upd nt)).trans (tups_upd (u := .dK (mkv ks ++ [(Sum.inr z, .non)])) (by rw [upd_ne td]; exact gd) (fun xs z => nomatch z))))
        (.inr ⟨t, x, y, rfl, by rw [upd_ne td.symm, upd_same], x0, x1, y0, y1⟩)
    have putD : ∀ (H8 : Hp) (t : Addr) (x y : Int), Kept b c H3 H8 → H8 t = none → DPut (upd H8 t (.tup [.int x, .int y])) d (.str z) (.ref t) (upd (upd H8 t (.tup [.int x, .int y])) d (.dK (mkv ks ++ [(Sum.inr z, .ref t)]))) := fun H8 t x y g2 nt => by
      have gd : H8 d = some (.dK (mkv ks ++ [(Sum.inr z, .non)])) := g2 d _ hd3 db dc
      have td : d ≠ t := ne_of_none gd nt
      have e := DPut.k (H := upd H8 t (.tup [.int x, .int y])) (a := d) (k := Sum.inr z) (v := .ref t) (by rw [upd_ne td]; exact gd) (show (mkv ks ++ [(Sum.inr z, V.non)]).length < sizeLine from small1000 (by rw [List.length_append]; show (mkv ks).length + 1 ≤ 1000; omega))
      rw [putK_app (mkv_no zn)] at e
      exact e
    refine ⟨_, rfl, b, c, 3, rfl, hB3, by decide, by decide, fun r H4 r0 r1 hB4 ex4 => ⟨rfl, _, rfl, ite2 (fun _ => ?_) (fun _ => ?_)⟩⟩
    · refine ⟨_, rfl, b, c, 1999, rfl, hB4, by decide, by decide, fun x H5 x0 x1 hB5 ex5 => ⟨_, _, rfl, rfl, _, rfl, b, c, 1999, rfl, hB5, by decide, by decide, fun y H6 y0 y1 hB6 ex6 => ⟨_, _, rfl, rfl, two, fun t nt => ?_⟩⟩⟩
      have ex := (ex4.trans (ex5.trans ex6)).kept
      exact ⟨_, rfl, _, rfl, d, _, rfl, putD H6 t (x - 999) (y - 999) ex nt, put H6 t (x - 999) (y - 999) hB6 ex (by omega) (by omega) (by omega) (by omega) nt⟩
    · refine ⟨_, rfl, b, c, 6, rfl, hB4, by decide, by decide, fun r H5 r0 r1 hB5 ex5 => ⟨rfl, _, rfl, ite2 (fun _ => ?_) (fun _ => ?_)⟩⟩
      · have any3 : ∀ v : V, v ∈ [V.int 999, V.int (0 - 999), V.int 0] → ∃ x : Int, v = .int x ∧ -999 ≤ x ∧ x ≤ 999 := fun v hv => by
          simp only [List.mem_cons, List.not_mem_nil, or_false] at hv
          rcases hv with rfl | rfl | rfl
          · exact ⟨_, rfl, by decide, by decide⟩
          · exact ⟨_, rfl, by decide, by decide⟩
          · exact ⟨_, rfl, by decide, by decide⟩
        refine ⟨_, rfl, _, _, rfl, rfl, (by show 3 ≤ sizeLine; decide), fun l1 nl1 => ?_⟩
        obtain ⟨l1b, l1c⟩ := hB5.off nl1
        refine ⟨b, c, l1, _, rfl, hB5.upd nl1, l1b, l1c, upd_same, (fun z => nomatch z), (by show 3 ≤ 1000; decide), fun v H6 hv hB6 ex6 => ?_⟩
        obtain ⟨x, rfl, x0, x1⟩ := any3 v hv
        refine ⟨_, rfl, _, _, rfl, rfl, (by show 3 ≤ sizeLine; decide), fun l2 nl2 => ?_⟩
        obtain ⟨l2b, l2c⟩ := hB6.off nl2
        refine ⟨b, c, l2, _, rfl, hB6.upd nl2, l2b, l2c, upd_same, (fun z => nomatch z), (by show 3 ≤ 1000; decide), fun v H7 hv hB7 ex7 => ⟨two, fun t nt => ?_⟩⟩
        obtain ⟨y, rfl, y0, y1⟩ := any3 v hv
        have ex : Kept b c H3 H7 := (ex4.trans ex5).kept.trans ((kept_same (same_upd nl1)).trans (ex6.kept.trans ((kept_same (same_upd nl2)).trans ex7.kept)))
        exact ⟨_, rfl, _, rfl, d, _, rfl, putD H7 t x y ex nt, put H7 t x y hB7 ex x0 x1 y0 y1 nt⟩
      · have ex := ex4.trans ex5
        exact fin H5 .non hB5 (kp3.trans ex.kept) ((ex l lb lc).trans hl3) ((ex d db dc).trans hd3) (tups_kept hB3 ex.kept) (.inl rfl)
  · rintro σ H2 ⟨hB2, kp2, hl2, y3, ks, rfl, hd2, hk, hv⟩
    rw [List.length_map, List.take_length] at hk
    have kl := congrArg List.length hk
    rw [List.length_map] at kl
    exact ⟨_, rfl, q d ks H2 nd hd2 ⟨by rw [hk]; exact hN.nd, by rw [hk]; exact hN.low, hv⟩ (by omega) (by omega) hB2 kp2 db dc⟩

def ReadV (H : Hp) (zs : List Str) (v : V) : Prop := ∃ (t : Addr) (one two : Str) (ac hi wt : Int), v = .ref t ∧ H t = some (.tup [.str one, .str two, .int ac, .int hi, .int wt]) ∧ one ∈ zs ∧ two ∈ zs ∧ one ≠ two ∧ -999 ≤ ac ∧ ac ≤ 999 ∧ -999 ≤ hi ∧ hi ≤ 999 ∧ 1 ≤ wt ∧ wt ≤ 9
theorem ReadV.mono {H H' : Hp} {zs : List Str} {v : V} (t : Tups H H') (h : ReadV H zs v) : ReadV H' zs v := by
  obtain ⟨a, o, w, ac, hi, wt, e, h, r⟩ := h
  exact ⟨a, o, w, ac, hi, wt, e, t _ _ h, r⟩
def rdv (rs : List (Int × V)) : List (Key × V) := rs.map fun p => (Sum.inl p.1, p.2)
theorem rdv_keys (rs : List (Int × V)) : (rdv rs).map (·.1) = (rs.map (·.1)).map Sum.inl := by
  unfold rdv
  rw [List.map_map, List.map_map]
  rfl
theorem rdv_app (rs : List (Int × V)) (z : Int) (v : V) : rdv rs ++ [(Sum.inl z, v)] = rdv (rs ++ [(z, v)]) := by
  unfold rdv
  rw [List.map_append]
  rfl
theorem rdv_no {rs : List (Int × V)} {z : Int} (h : z ∉ rs.map (·.1)) : (Sum.inl z : Key) ∉ (rdv rs).map (·.1) := fun hm => by
  rw [rdv_keys] at hm
  obtain ⟨y, hy, e⟩ := List.mem_map.mp hm
  cases e
  exact h hy
structure ReadsIn (H : Hp) (zs : List Str) (rs : List (Int × V)) : Prop where
  up : (rs.map (·.1)).Pairwise (· < ·)
  one : ∀ n ∈ rs.map (·.1), 1 ≤ n
  val : ∀ p ∈ rs, ReadV H zs p.2
theorem ReadsIn.mono {H H' : Hp} {zs : List Str} {rs : List (Int × V)} (t : Tups H H') (h : ReadsIn H zs rs) : ReadsIn H' zs rs := ⟨h.up, h.one, fun p hp => (h.val p hp).mono t⟩
def spReads : Sp := fun vs H Q _ => ∃ (b c l : Addr) (zs : List Str) (m : Int), vs = [.ref b, .ref l, .int m] ∧ Bag H b c ∧ l ≠ b ∧ l ≠ c ∧ H l = some (.lst (zs.map V.str)) ∧ 1 ≤ zs.length ∧ zs.length ≤ 60 ∧ 0 ≤ m ∧ m ≤ 30 ∧
  ∀ (d : Addr) (rs : List (Int × V)) (H' : Hp), H d = none → H' d = some (.dK (rdv rs)) → ReadsIn H' zs rs → (rs.length : Int) ≤ m → Bag H' b c → Kept b c H H' → d ≠ b → d ≠ c → Q (.ref d) H'
theorem ok_law_readings (ev : Env K mg) : FnOk P w K mg base CX0 3 ev.f_law_readings ev.d_law_readings p_law_readings spReads := by
  refine ev.A_law_readings.F.ok sc_law_readings (fun vs H Q E h => ?_) (fun cdv A outer s H vs Q E hr h => ?_)
  · obtain ⟨b, c, l, zs, m, rfl, _⟩ := h
    rfl
  obtain ⟨b, c, l, zs, m, rfl, hB, lb, lc, hl, z1, z60, m0, m30, q⟩ := h
  have hu := hu_of hr
  refine ⟨_, (pss_cons (ps_set (i := 3) sc_law_readings.nd rfl (Or.inl rfl) pe_dnewK)
    (pss_cons (ps_set (i := 4) sc_law_readings.nd rfl (Or.inl rfl) pe_int)
    (pss_cons (ps_for PassesOwn.never rfl (pi_range1 rfl ev.B.range_ (pa_cons (pv 2) pa_nil)) (pg_name (i := 5) sc_law_readings.nd rfl (Or.inl rfl))
    (pss_cons (ps_set (i := 4) sc_law_readings.nd rfl (Or.inl rfl) (pe_op op_add (pe_op op_add (pv 4) pe_int) (pe_call (ok_law_draw ev) (hr.mono (by decide)) (by rfl) ev.A_law_draw.m ev.A_law_draw.F.kp ev.A_law_draw.b .nil pass0 (pa_cons (pv 0) (pa_cons pe_int pa_nil)))))
    (pss_cons (ps_set (i := 6) sc_law_readings.nd rfl (Or.inl rfl) (pe_call (ok_law_any ev) (hr.mono (by decide)) (by rfl) ev.A_law_any.m ev.A_law_any.F.kp ev.A_law_any.b .nil pass0 (pa_cons (pv 0) (pa_cons (pv 1) pa_nil))))
    (pss_cons (ps_set (i := 7) sc_law_readings.nd rfl (Or.inl rfl) (pe_call (ok_law_any ev) (hr.mono (by decide)) (by rfl) ev.A_law_any.m ev.A_law_any.F.kp ev.A_law_any.b .nil pass0 (pa_cons (pv 0) (pa_cons (pv 1) pa_nil))))
    (pss_one (ps_if (pt_cmpR op_ne (pv 6) (pv 7) (nomark _))
    (pss_cons (ps_set (i := 8) sc_law_readings.nd rfl (Or.inl rfl) (pe_ix ix_list (pe_lst (pa_cons (pe_op op_sub (pe_call (ok_law_draw ev) (hr.mono (by decide)) (by rfl) ev.A_law_draw.m ev.A_law_draw.F.kp ev.A_law_draw.b .nil pass0 (pa_cons (pv 0) (pa_cons pe_int pa_nil))) pe_int) (pa_cons (pe_op op_sub (pe_call (ok_law_draw ev) (hr.mono (by decide)) (by rfl) ev.A_law_draw.m ev.A_law_draw.F.kp ev.A_law_draw.b .nil pass0 (pa_cons (pv 0) (pa_cons pe_int pa_nil))) pe_int) pa_nil))) (pe_call (ok_law_draw ev) (hr.mono (by decide)) (by rfl) ev.A_law_draw.m ev.A_law_draw.F.kp ev.A_law_draw.b .nil pass0 (pa_cons (pv 0) (pa_cons pe_int pa_nil))) (fun _ _ => rfl)))
    (pss_cons (ps_set (i := 9) sc_law_readings.nd rfl (Or.inl rfl) (pe_op op_sub (pe_call (ok_law_draw ev) (hr.mono (by decide)) (by rfl) ev.A_law_draw.m ev.A_law_draw.F.kp ev.A_law_draw.b .nil pass0 (pa_cons (pv 0) (pa_cons pe_int pa_nil))) pe_int))
    (pss_one (ps_dput hu (pv 3) (pv 4) (pe_tup (pa_cons (pv 6) (pa_cons (pv 7) (pa_cons (pv 8) (pa_cons (pv 9) (pa_cons (pe_op op_add pe_int (pe_call (ok_law_draw ev) (hr.mono (by decide)) (by rfl) ev.A_law_draw.m ev.A_law_draw.F.kp ev.A_law_draw.b .nil pass0 (pa_cons (pv 0) (pa_cons pe_int pa_nil)))) pa_nil)))))) rfl)))) pss_nil))))))
    (pss_one (ps_ret (pv 3)))))), ?_⟩
  intro d nd
  obtain ⟨db, dc⟩ := hB.off nd
  have dl : l ≠ d := ne_of_none hl nd
  refine seq_c ?_
  refine ⟨_, rfl, m, rfl, by omega, by omega, for_range (lo := 0) (n := m.toNat) (fun i σ H2 => Bag H2 b c ∧ Kept b c H H2 ∧ ∃ (num : Int) (rs : List (Int × V)) (y5 y6 y7 y8 y9 : Option V), σ = [some (.ref b), some (.ref l), some (.int m), some (.ref d), some (.int num), y5, y6, y7, y8, y9] ∧ H2 d = some (.dK (rdv rs)) ∧ ReadsIn H2 zs rs ∧ rs.length ≤ i ∧ 0 ≤ num ∧ ∀ n ∈ rs.map (·.1), n ≤ num)
    ⟨hB.upd nd, kept_same (same_upd nd), 0, [], none, none, none, none, none, rfl, upd_same, ⟨.nil, (fun _ h => nomatch h), (fun _ h => nomatch h)⟩, Nat.le_refl _, Int.le_refl _, (fun _ h => nomatch h)⟩ ?_ ?_⟩
  · rintro i σ H2 hi ⟨hB2, kp2, num, rs, y5, y6, y7, y8, y9, rfl, hd2, hR, le, n0, hn⟩
    refine seq_asg ⟨_, rfl, _, _, rfl, rfl, _, rfl, b, c, 3, rfl, hB2, by decide, by decide, fun r H3 r0 r1 hB3 ex3 => ⟨_, _, rfl, rfl, ?_⟩⟩
    have kp3 := kp2.trans ex3.kept
    have hl3 := kp3 l _ hl lb lc
    have zl : (zs.map V.str).length = zs.length := List.length_map _
    have zne : zs.map V.str ≠ [] := fun e => by
      rw [e] at zl
      exact absurd zl (by show 0 = zs.length → False; omega)
    refine seq_asg ⟨_, rfl, _, rfl, b, c, l, _, rfl, hB3, lb, lc, hl3, zne, by omega, fun v H4 hv hB4 ex4 => ?_⟩
    obtain ⟨one, o1, rfl⟩ := List.mem_map.mp hv
    have kp4 := kp3.trans ex4.kept
    refine seq_asg ⟨_, rfl, _, rfl, b, c, l, _, rfl, hB4, lb, lc, kp4 l _ hl lb lc, zne, by omega, fun v H5 hv hB5 ex5 => ?_⟩
    obtain ⟨tw, t1, rfl⟩ := List.mem_map.mp hv
    have kp5 := kp4.trans ex5.kept
    have ex25 : Els b c H2 H5 := ex3.trans (ex4.trans ex5)
    have hd5 : H5 d = some (.dK (rdv rs)) := (ex25 d db dc).trans hd2
    have tu5 : Tups H2 H5 := tups_kept hB2 ex25.kept
    refine ⟨_, rfl, _, rfl, rfl, _, rfl, ite2 (fun w => ?_) (fun w => ?_)⟩
    · have hne : one ≠ tw := fun e => by
        subst e
        rw [decide_eq_true rfl] at w
        exact absurd w (by decide)
      refine seq_asg ⟨_, rfl, b, c, 1999, rfl, hB5, by decide, by decide, fun x H6 x0 x1 hB6 ex6 => ⟨_, _, rfl, rfl, _, rfl, b, c, 41, rfl, hB6, by decide, by decide, fun x' H7 x0' x1' hB7 ex7 => ⟨_, _, rfl, rfl, two, fun ls nls => ?_⟩⟩⟩
      obtain ⟨lsb, lsc⟩ := hB7.off nls
      refine ⟨_, rfl, b, c, 2, rfl, hB7.upd nls, by decide, by decide, fun g H8 g0 g1 hB8 ex8 => ?_⟩
      have hls : H8 ls = some (.lst [.int (x - 999), .int (x' - 20)]) := (ex8 ls lsb lsc).trans upd_same
      obtain ⟨v, hv, ev⟩ := at_mem (xs := [V.int (x - 999), V.int (x' - 20)]) g0 g1
      obtain ⟨sz, rfl, s0, s1⟩ : ∃ sz : Int, v = .int sz ∧ -999 ≤ sz ∧ sz ≤ 999 := by
        simp only [List.mem_cons, List.not_mem_nil, or_false] at hv
        rcases hv with rfl | rfl
        · exact ⟨_, rfl, by omega, by omega⟩
        · exact ⟨_, rfl, by omega, by omega⟩
      refine ⟨ls, _, _, _, rfl, rfl, SqL.of hls, ev, ?_⟩
      refine seq_asg ⟨_, rfl, b, c, 1999, rfl, hB8, by decide, by decide, fun h H9 h0 h1 hB9 ex9 => ⟨_, _, rfl, rfl, ?_⟩⟩
      refine ⟨_, rfl, _, rfl, _, rfl, _, rfl, _, rfl, b, c, 9, rfl, hB9, by decide, by decide, fun g' H10 g0' g1' hB10 ex10 => ⟨_, _, rfl, rfl, (by show 5 ≤ sizeLine; decide), fun t nt => ?_⟩⟩
      have kp510 : Kept b c H5 H10 := (ex6.trans ex7).kept.trans ((kept_same (same_upd nls)).trans ((ex8.trans (ex9.trans ex10)).kept))
      have hd10 : H10 d = some (.dK (rdv rs)) := kp510 d _ hd5 db dc
      have tu10 : Tups H2 H10 := tu5.trans (tups_kept hB5 kp510)
      have td : d ≠ t := ne_of_none hd10 nt
      have hd11 : (upd H10 t (.tup [.str one, .str tw, .int sz, .int (h - 999), .int (1 + g')])) d = some (.dK (rdv rs)) := by rw [upd_ne td]; exact hd10
      have nw : num + 1 + r ∉ rs.map (·.1) := fun z => by
        have := hn _ z
        omega
      have ln : (rdv rs).length < sizeLine := by
        unfold rdv
        rw [List.length_map]
        exact small1000 (by omega)
      refine ⟨_, rfl, _, rfl, d, _, rfl, DPut.k (k := Sum.inl (num + 1 + r)) hd11 ln, ?_⟩
      rw [putK_new _ (valV_none (rdv_no nw)), rdv_app]
      have tu11 : Tups H2 (upd (upd H10 t (.tup [.str one, .str tw, .int sz, .int (h - 999), .int (1 + g')])) d (.dK (rdv (rs ++ [(num + 1 + r, .ref t)])))) := tu10.trans ((tups_same (same_upd nt)).trans (tups_upd hd11 (fun xs z => nomatch z)))
      refine ⟨bag_upd (hB10.upd nt) db dc, kept_upd ((kp5.trans kp510).trans (kept_same (same_upd nt))) nd, num + 1 + r, rs ++ [(num + 1 + r, .ref t)], _, _, _, _, _, rfl, upd_same, ⟨?_, ?_, ?_⟩, ?_, by omega, ?_⟩
      · rw [List.map_append, List.pairwise_append]
        refine ⟨hR.up, List.pairwise_singleton _ _, fun x hx y hy => ?_⟩
        rw [List.map_singleton, List.mem_singleton] at hy
        have := hn x hx
        omega
      · intro n hnn
        rw [List.map_append] at hnn
        rcases List.mem_append.mp hnn with z | z
        · exact hR.one n z
        · rw [List.map_singleton, List.mem_singleton] at z
          omega
      · intro p hp
        rcases List.mem_append.mp hp with z | z
        · exact (hR.val p z).mono tu11
        · rw [List.mem_singleton.mp z]
          exact ⟨t, one, tw, sz, h - 999, 1 + g', rfl, by rw [upd_ne td.symm, upd_same], o1, t1, hne, s0, s1, by omega, by omega, by omega, by omega⟩
      · rw [List.length_append]
        show rs.length + 1 ≤ i + 1
        omega
      · intro n hnn
        rw [List.map_append] at hnn
        rcases List.mem_append.mp hnn with z | z
        · have := hn n z
          omega
        · rw [List.map_singleton, List.mem_singleton] at z
          omega
    · exact ⟨hB5, kp5, num + 1 + r, rs, _, _, _, _, _, rfl, hd5, hR.mono tu5, by omega, by omega, fun n z => by have := hn n z; omega⟩
  · rintro σ H2 ⟨hB2, kp2, num, rs, y5, y6, y7, y8, y9, rfl, hd2, hR, le, n0, hn⟩
    exact ⟨_, rfl, q d rs H2 nd hd2 hR (by omega) hB2 kp2 db dc⟩

/-! ### the survey -/
theorem lc_str {x : Str} {g : TG} {tt : TT} {te : TE} {vs : List Nat} {σ : L2.St} {H0 : Hp} {D : Addr} {Qd : Hp → Prop} (Pv : Nat → Hp → Prop) (h0 : Pv 0 (upd H0 D (.lst [])))
    (hs : ∀ i c H, x.cps.toList[i]? = some c → Pv i H → LcStep g tt te vs σ D (.str ⟨#[c]⟩) H (Pv (i + 1))) (hd : ∀ H, Pv x.cps.toList.length H → Qd H) : Wlk (Its x) (upd H0 D (.lst [])) (LcStep g tt te vs σ D) Qd :=
  wlk x.cps.toList.length Pv h0 (fun H p => ⟨Nat.le_refl _, hd H p⟩) fun i H c p => ⟨c, fun y G z => by
    obtain ⟨rfl, u, e, rfl⟩ := z
    exact hs i u _ (Array.getElem?_toList.trans e) p⟩
theorem dc_list {K : PySem.W.Frag} {a : Addr} {xs : List V} {g : TG} {tt : TT} {tk tv : TE} {vs : List Nat} {σ : L2.St} {H0 : Hp} {D : Addr} {Qd : Hp → Prop} (Pv : Nat → Hp → Prop) (h0 : Pv 0 (upd H0 D (.dK []))) (hl : ∀ i H, i ≤ xs.length → Pv i H → SqL K H a xs)
    (hs : ∀ i x H, xs[i]? = some x → Pv i H → DcStep g tt tk tv vs σ D x H (Pv (i + 1))) (hd : ∀ H, Pv xs.length H → Qd H) : Wlk (Itl K a) (upd H0 D (.dK [])) (DcStep g tt tk tv vs σ D) Qd :=
  wlk xs.length Pv h0 (fun H p => ⟨⟨xs, hl _ H (Nat.le_refl _) p, Nat.le_refl _⟩, hd H p⟩) fun i H c p => ⟨⟨xs, xs[i], hl i H (Nat.le_of_lt c) p, List.getElem?_eq_getElem c⟩, fun y G z => by
    obtain ⟨rfl, e⟩ := z
    exact hs i y _ (e xs (hl i _ (Nat.le_of_lt c) p)) p⟩
def spIsName : Sp := fun vs H Q _ => ∃ z : Str, vs = [.str z] ∧ lowB z = true ∧ ∀ H', Same H H' → Q (.bl true) H'
theorem len_cps (z : Str) : z.length = z.cps.toList.length := rfl
theorem lowB_ne {z : Str} (h : lowB z = true) : ¬ z = Str.ofString "" := by
  intro e
  subst e
  exact absurd h (by decide +kernel)
theorem ok_is_word (ev : Env K mg) : FnOk P w K mg base CX0 1 ev.f_is_word ev.d_is_word p_is_word spIsName := by
  refine ev.A_is_word.F.ok sc_is_word (fun vs H Q E h => ?_) (fun cdv A outer s H vs Q E hr h => ?_)
  · obtain ⟨z, rfl, _⟩ := h
    rfl
  obtain ⟨z, rfl, hz, q⟩ := h
  have zn := lowB_ne hz
  obtain ⟨⟨z1, z6⟩, hc⟩ := lowB_all hz
  refine ⟨_, (pss_one (ps_ret (pe_and (pe_cmpR op_ne (pv 0) pe_str (nomark _)) (pe_one (pe_callB (cr_all rfl) (by rfl) ev.B.all_ (by decide +kernel) (pa_cons (pe_lc (own := [("sign", 1)]) (g := gName 1) (tt := tYes) (by rfl) sc_is_word.nd (pi_str (pv 0)) (blkOk_by (own := [("sign", 1)]) (N := n_is_word) (sc := defScope s_is_word) (by decide +kernel)) (fun _ _ _ _ _ => pg_name (i := 1) sc_is_word.nd rfl (Or.inl rfl)) (fun _ _ _ _ _ => pts_nil) (fun _ _ _ _ _ => (pe_cmpR op_in_sign (pv 1) (pe_glob (v := .str "abcdefghijklmnopqrstuvwxyz") (by rfl) ev.c_LETTERS ⟨_, rfl⟩) (by rfl)))) pa_nil)))))), ?_⟩
  have zl := len_cps z
  refine ⟨_, rfl, rfl, true, ?_, iteT ?_⟩
  · rw [decide_eq_false (fun e => zn (V.str.inj e))]
    rfl
  refine ⟨_, rfl, z, rfl, fun D hD => ?_⟩
  refine lc_str (fun i H2 => Same H H2 ∧ H2 D = some (.lst ((List.replicate i true).map V.bl))) ⟨same_upd hD, upd_same⟩ ?_ ?_
  · rintro i c H2 hi ⟨s2, hD2⟩
    refine ⟨rfl, yes_ ?_⟩
    have ci := hc c (List.mem_of_getElem? hi)
    have cin : c ∈ (Str.ofString "abcdefghijklmnopqrstuvwxyz").cps.toList := by
      have : ∀ c : Nat, 97 ≤ c → c ≤ 122 → c ∈ (Str.ofString "abcdefghijklmnopqrstuvwxyz").cps.toList := fun c a b => by
        have e : (Str.ofString "abcdefghijklmnopqrstuvwxyz").cps.toList = [97, 98, 99, 100, 101, 102, 103, 104, 105, 106, 107, 108, 109, 110, 111, 112, 113, 114, 115, 116, 117, 118, 119, 120, 121, 122] := by decide +kernel
        rw [e]
        simp only [List.mem_cons, List.not_mem_nil, or_false]
        omega
      exact this c ci.1 ci.2
    refine ⟨_, rfl, c, _, rfl, rfl, _, hD2, ?_, fun p o e => ?_, ?_⟩
    · rw [List.length_map, List.length_replicate]
      have := (List.getElem?_eq_some_iff.mp hi).1
      exact small1000 (by omega)
    · rw [upd_ne (ne_of_none e hD)]
      exact s2 _ _ e
    · rw [upd_same, decide_eq_true cin, List.replicate_succ', List.map_append]
      rfl
  · rintro H2 ⟨s2, hD2⟩
    refine ⟨D, _, rfl, SqL.of hD2, ?_⟩
    rw [show (List.replicate z.cps.toList.length true).all id = true by simp]
    exact q H2 s2
theorem ok_is_name (ev : Env K mg) : FnOk P w K mg base CX0 2 ev.f_is_name ev.d_is_name p_is_name spIsName := by
  refine ev.A_is_name.F.ok sc_is_name (fun vs H Q E h => ?_) (fun cdv A outer s H vs Q E hr h => ?_)
  · obtain ⟨z, rfl, _⟩ := h
    rfl
  obtain ⟨z, rfl, hz, q⟩ := h
  obtain ⟨⟨z1, z6⟩, hc⟩ := lowB_all hz
  refine ⟨_, (pss_one (ps_ret (pe_and (pe_cmpR op_le (pe_callB call_len_str (by rfl) ev.B.len_ PySem.boot_len (pa_cons (pv 0) pa_nil)) (pe_glob (v := .int 6) (by rfl) ev.c_LONGEST ⟨_, rfl⟩) (nomark _)) (pe_one (pe_call (ok_is_word ev) (hr.mono (by decide)) (by rfl) ev.A_is_word.m ev.A_is_word.F.kp ev.A_is_word.b .nil pass0 (pa_cons (pv 0) pa_nil)))))), ?_⟩
  have zl := len_cps z
  refine ⟨_, rfl, _, rfl, small_le (by omega), _, _, rfl, rfl, true, ?_, iteT ?_⟩
  · exact congrArg V.bl (decide_eq_true (by omega))
  exact ⟨_, rfl, z, rfl, hz, q⟩
def spWithin : Sp := fun vs H Q _ => ∃ i lo hi : Int, vs = [.int i, .int lo, .int hi] ∧ lo ≤ i ∧ i ≤ hi ∧ Q (.bl true) H
theorem ok_is_within (ev : Env K mg) : FnOk P w K mg base CX0 1 ev.f_is_within ev.d_is_within p_is_within spWithin := by
  refine ev.A_is_within.F.ok sc_is_within (fun vs H Q E h => ?_) (fun cdv A outer s H vs Q E hr h => ?_)
  · obtain ⟨i, lo, hi, rfl, _⟩ := h
    rfl
  obtain ⟨i, lo, hi, rfl, h1, h2, q⟩ := h
  refine ⟨_, (pss_one (ps_ret (pe_and (pe_not (pe_callB call_isi (by rfl) ev.B.isinstance_ (by decide +kernel) (pa_cons (pv 0) (pa_cons (pe_bltn (v := .ty "bool") (by rfl) ev.B.bool_ (by decide +kernel) rfl) pa_nil)))) (pe_one (pe_chain op_le op_le (pv 1) (pv 0) (pv 2)))))), ?_⟩
  refine ⟨_, rfl, _, _, _, _, false, rfl, .ty _, .base (.int i), kit_ty (by decide +kernel), false, rfl, true, rfl, iteT ?_⟩
  refine ⟨_, rfl, _, rfl, _, _, rfl, rfl, true, congrArg V.bl (decide_eq_true h1), iteT ⟨_, rfl, _, _, rfl, rfl, ?_⟩⟩
  show Q (.bl (decide (i ≤ hi))) H
  rw [decide_eq_true h2]
  exact q
def spChkName : Sp := fun vs H Q _ => ∃ z : Str, vs = [.str z] ∧ lowB z = true ∧ ∀ H', Same H H' → Q .non H'
theorem ok_check_name (ev : Env K mg) : FnOk P w K mg base CX0 3 ev.f_check_name ev.d_check_name p_check_name spChkName := by
  refine ev.A_check_name.F.ok sc_check_name (fun vs H Q E h => ?_) (fun cdv A outer s H vs Q E hr h => ?_)
  · obtain ⟨z, rfl, _⟩ := h
    rfl
  obtain ⟨z, rfl, hz, q⟩ := h
  refine ⟨_, (pss_one (ps_if (pt_not (pt_val (pe_call (ok_is_name ev) (hr.mono (by decide)) (by rfl) ev.A_is_name.m ev.A_is_name.F.kp ev.A_is_name.b .nil pass0 (pa_cons (pv 0) pa_nil))))
    (pss_one ps_never) pss_nil)), ?_⟩
  exact ⟨_, rfl, z, rfl, hz, fun H' s => ⟨true, rfl, iteF (q H' s)⟩⟩
def spChkNum : Sp := fun vs H Q _ => ∃ i lo hi : Int, vs = [.int i, .int lo, .int hi] ∧ lo ≤ i ∧ i ≤ hi ∧ Q .non H
theorem ok_check_number (ev : Env K mg) : FnOk P w K mg base CX0 2 ev.f_check_number ev.d_check_number p_check_number spChkNum := by
  refine ev.A_check_number.F.ok sc_check_number (fun vs H Q E h => ?_) (fun cdv A outer s H vs Q E hr h => ?_)
  · obtain ⟨i, lo, hi, rfl, _⟩ := h
    rfl
  obtain ⟨i, lo, hi, rfl, h1, h2, q⟩ := h
  refine ⟨_, (pss_one (ps_if (pt_not (pt_val (pe_call (ok_is_within ev) (hr.mono (by decide)) (by rfl) ev.A_is_within.m ev.A_is_within.F.kp ev.A_is_within.b .nil pass0 (pa_cons (pv 0) (pa_cons (pv 1) (pa_cons (pv 2) pa_nil))))))
    (pss_one ps_never) pss_nil)), ?_⟩
  exact ⟨_, rfl, _, rfl, _, rfl, i, lo, hi, rfl, h1, h2, true, rfl, iteF q⟩

theorem nodup_map {α β : Type} {f : α → β} (hf : ∀ a b, f a = f b → a = b) : ∀ {l : List α}, l.Nodup → (l.map f).Nodup
  | [], _ => List.nodup_nil
  | x :: r, h => by
    rw [List.nodup_cons] at h
    rw [List.map_cons, List.nodup_cons]
    refine ⟨fun hm => ?_, nodup_map hf h.2⟩
    obtain ⟨y, hy, e⟩ := List.mem_map.mp hm
    rw [hf _ _ e] at hy
    exact h.1 hy
theorem mkv_nd {ks : List (Str × V)} (h : (ks.map (·.1)).Nodup) : ((mkv ks).map (·.1)).Nodup := by
  rw [mkv_keys]
  exact nodup_map (fun _ _ e => Sum.inr.inj e) h
theorem mkv_val {ks : List (Str × V)} (h : (ks.map (·.1)).Nodup) {p : Str × V} (hp : p ∈ ks) : valV (mkv ks) (Sum.inr p.1 : Key) = some p.2 :=
  val_nodup (mkv_nd h) (Sum.inr p.1, p.2) (List.mem_map.mpr ⟨p, hp, rfl⟩)
theorem rise_nd {rs : List (Int × V)} (h : (rs.map (·.1)).Pairwise (· < ·)) : (rs.map (·.1)).Nodup := by
  unfold List.Nodup
  exact h.imp fun {a b} hab => by omega
theorem rdv_nd {rs : List (Int × V)} (h : (rs.map (·.1)).Nodup) : ((rdv rs).map (·.1)).Nodup := by
  rw [rdv_keys]
  exact nodup_map (fun _ _ e => Sum.inl.inj e) h
theorem rdv_val {rs : List (Int × V)} (h : (rs.map (·.1)).Nodup) {p : Int × V} (hp : p ∈ rs) : valV (rdv rs) (Sum.inl p.1 : Key) = some p.2 :=
  val_nodup (rdv_nd h) (Sum.inl p.1, p.2) (List.mem_map.mpr ⟨p, hp, rfl⟩)
def spChkPlace : Sp := fun vs H Q _ => ∃ v : V, vs = [v] ∧ MarkV H v ∧ Q .non H
theorem ok_check_place (ev : Env K mg) : FnOk P w K mg base CX0 3 ev.f_check_place ev.d_check_place p_check_place spChkPlace := by
  refine ev.A_check_place.F.ok sc_check_place (fun vs H Q E h => ?_) (fun cdv A outer s H vs Q E hr h => ?_)
  · obtain ⟨v, rfl, _⟩ := h
    rfl
  obtain ⟨v, rfl, hv, q⟩ := h
  refine ⟨_, (pss_one (ps_if (pt_cmpR op_notN (pv 0) pe_non (nomark _))
    (pss_one (ps_for PassesOwn.never rfl (pi_tup (pv 0)) (pg_name (i := 1) sc_check_place.nd rfl (Or.inl rfl))
    (pss_one (ps_expr (pe_call (ok_check_number ev) (hr.mono (by decide)) (by rfl) ev.A_check_number.m ev.A_check_number.F.kp ev.A_check_number.b .nil pass0 (pa_cons (pv 1) (pa_cons (pe_un un_neg (pe_glob (v := .int 999) (by rfl) ev.c_MOST ⟨_, rfl⟩)) (pa_cons (pe_glob (v := .int 999) (by rfl) ev.c_MOST ⟨_, rfl⟩) pa_nil)))))))) pss_nil)), ?_⟩
  rcases hv with rfl | ⟨t, x, y, rfl, ht, x0, x1, y0, y1⟩
  · exact ⟨_, rfl, rfl, _, rfl, iteF q⟩
  · refine ⟨_, rfl, rfl, _, rfl, iteT ?_⟩
    refine ⟨_, rfl, t, rfl, ⟨_, SqT.of ht⟩, for_tup (K := K) (a := t) (xs := [.int x, .int y]) (fun i σ H2 => H2 = H ∧ ∃ y2, σ = [some (.ref t), y2]) ⟨rfl, none, rfl⟩ (fun i σ H2 _ h => by rw [h.1]; exact SqT.of ht) ?_ ?_⟩
    · rintro i v σ H2 hi ⟨rfl, y2, rfl⟩
      obtain ⟨n, rfl, n0, n1⟩ : ∃ n : Int, v = .int n ∧ -999 ≤ n ∧ n ≤ 999 := by
        have hm := List.mem_of_getElem? hi
        simp only [List.mem_cons, List.not_mem_nil, or_false] at hm
        rcases hm with rfl | rfl
        · exact ⟨x, rfl, x0, x1⟩
        · exact ⟨y, rfl, y0, y1⟩
      exact ⟨_, rfl, _, rfl, n, -999, 999, rfl, n0, n1, rfl, _, rfl⟩
    · rintro σ H2 ⟨rfl, y2, rfl⟩
      exact q
def spChkRead : Sp := fun vs H Q _ => ∃ (d : Addr) (ks : List (Str × V)) (n : Int) (v : V), vs = [.ref d, .int n, v] ∧ H d = some (.dK (mkv ks)) ∧ (ks.map (·.1)).Nodup ∧ ReadV H (ks.map (·.1)) v ∧ ∀ H', Same H H' → Q .non H'
theorem ok_check_reading (ev : Env K mg) : FnOk P w K mg base CX0 3 ev.f_check_reading ev.d_check_reading p_check_reading spChkRead := by
  refine ev.A_check_reading.F.ok sc_check_reading (fun vs H Q E h => ?_) (fun cdv A outer s H vs Q E hr h => ?_)
  · obtain ⟨d, ks, n, v, rfl, _⟩ := h
    rfl
  obtain ⟨d, ks, n, v, rfl, hd, nd, ⟨t, one, tw, ac, hi, wt, rfl, ht, o1, t1, ne, a0, a1, h0, h1, w0, w1⟩, q⟩ := h
  have hu := hu_of hr
  refine ⟨_, (pss_cons (ps_asg (pv 2) (pg_tup rfl (pgs_cons (pg_name (i := 3) sc_check_reading.nd rfl (Or.inl rfl)) (pgs_cons (pg_name (i := 4) sc_check_reading.nd rfl (Or.inl rfl)) (pgs_cons (pg_name (i := 5) sc_check_reading.nd rfl (Or.inl rfl)) (pgs_cons (pg_name (i := 6) sc_check_reading.nd rfl (Or.inl rfl)) (pgs_cons (pg_name (i := 7) sc_check_reading.nd rfl (Or.inl rfl)) pgs_nil)))))))
    (pss_cons (ps_for PassesOwn.never rfl (pi_tup (pe_tup (pa_cons (pv 3) (pa_cons (pv 4) pa_nil)))) (pg_name (i := 8) sc_check_reading.nd rfl (Or.inl rfl))
    (pss_one (ps_if (pt_cmp (pc_dnotin hu (pv 8) (pv 0)))
    (pss_one ps_never) pss_nil)))
    (pss_cons (ps_if (pt_cmpR op_eq (pv 3) (pv 4) (nomark _))
    (pss_one ps_never) pss_nil)
    (pss_cons (ps_expr (pe_call (ok_check_number ev) (hr.mono (by decide)) (by rfl) ev.A_check_number.m ev.A_check_number.F.kp ev.A_check_number.b .nil pass0 (pa_cons (pv 5) (pa_cons (pe_un un_neg (pe_glob (v := .int 999) (by rfl) ev.c_MOST ⟨_, rfl⟩)) (pa_cons (pe_glob (v := .int 999) (by rfl) ev.c_MOST ⟨_, rfl⟩) pa_nil)))))
    (pss_cons (ps_expr (pe_call (ok_check_number ev) (hr.mono (by decide)) (by rfl) ev.A_check_number.m ev.A_check_number.F.kp ev.A_check_number.b .nil pass0 (pa_cons (pv 6) (pa_cons (pe_un un_neg (pe_glob (v := .int 999) (by rfl) ev.c_MOST ⟨_, rfl⟩)) (pa_cons (pe_glob (v := .int 999) (by rfl) ev.c_MOST ⟨_, rfl⟩) pa_nil)))))
    (pss_one (ps_expr (pe_call (ok_check_number ev) (hr.mono (by decide)) (by rfl) ev.A_check_number.m ev.A_check_number.F.kp ev.A_check_number.b .nil pass0 (pa_cons (pv 7) (pa_cons (pe_glob (v := .int 1) (by rfl) ev.c_LEAST_WEIGHT ⟨_, rfl⟩) (pa_cons (pe_glob (v := .int 9) (by rfl) ev.c_MOST_WEIGHT ⟨_, rfl⟩) pa_nil))))))))))), ?_⟩
  refine ⟨_, rfl, t, _, rfl, SqT.of ht, rfl, _, _, rfl, _, _, rfl, _, _, rfl, _, _, rfl, _, _, rfl, rfl, ?_⟩
  refine ⟨_, rfl, _, rfl, two, fun tp ntp => ?_⟩
  have s1 : Same H (upd H tp (.tup [.str one, .str tw])) := same_upd ntp
  refine ⟨tp, rfl, ⟨_, SqT.of upd_same⟩, for_tup (K := K) (a := tp) (xs := [.str one, .str tw]) (fun i σ H2 => H2 = upd H tp (.tup [.str one, .str tw]) ∧ ∃ y8, σ = [some (.ref d), some (.int n), some (.ref t), some (.str one), some (.str tw), some (.int ac), some (.int hi), some (.int wt), y8]) ⟨rfl, none, rfl⟩ (fun i σ H2 _ h => by rw [h.1]; exact SqT.of upd_same) ?_ ?_⟩
  · rintro i v σ H2 hi ⟨rfl, y8, rfl⟩
    obtain ⟨z, rfl, hz⟩ : ∃ z : Str, v = .str z ∧ z ∈ ks.map (·.1) := by
      have hm := List.mem_of_getElem? hi
      simp only [List.mem_cons, List.not_mem_nil, or_false] at hm
      rcases hm with rfl | rfl
      · exact ⟨one, rfl, o1⟩
      · exact ⟨tw, rfl, t1⟩
    obtain ⟨p, hp, rfl⟩ := List.mem_map.mp hz
    refine ⟨_, rfl, _, rfl, d, _, rfl, DGet.k (k := Sum.inr p.1) (s1 _ _ hd), _, rfl, ?_⟩
    rw [mkv_val nd hp]
    exact iteF ⟨rfl, _, rfl⟩
  · rintro σ H2 ⟨rfl, y8, rfl⟩
    refine nx_u ?_
    refine ⟨_, rfl, _, rfl, rfl, _, rfl, ite2 (fun w => ?_) (fun _ => ?_)⟩
    · exact absurd (V.str.inj (of_decide_eq_true w)) ne
    refine next_u ?_
    refine seq_drop ⟨_, rfl, _, rfl, ac, -999, 999, rfl, a0, a1, ?_⟩
    refine seq_drop ⟨_, rfl, _, rfl, hi, -999, 999, rfl, h0, h1, ?_⟩
    exact ⟨_, rfl, wt, 1, 9, rfl, w0, w1, q _ s1⟩

/-! ### the survey itself -/
def sfl (a1 a2 : Addr) : List (Str × V) := putF "own_readings" (.ref a2) (putF "own_marks" (.ref a1) [])
theorem ne_mr : ¬ (("own_marks" : Str) = "own_readings") := by decide +kernel
theorem sfl_r (a1 a2 : Addr) : (sfl a1 a2).lookup ("own_readings" : Str) = some (.ref a2) := by
  unfold sfl
  rw [lookup_putF, if_pos rfl]
theorem sfl_m (a1 a2 : Addr) : (sfl a1 a2).lookup ("own_marks" : Str) = some (.ref a1) := by
  unfold sfl
  rw [lookup_putF, if_neg ne_mr, lookup_putF, if_pos rfl]
theorem sfl_no (a1 a2 : Addr) {x : Str} (h1 : ¬ x = "own_readings") (h2 : ¬ x = "own_marks") : (sfl a1 a2).lookup x = none := by
  unfold sfl
  rw [lookup_putF, if_neg h1, lookup_putF, if_neg h2]
  all_goals rfl
/-- a survey stands at p: its marks are those of ks by rising names, its readings just rs -/
structure SurvAt (C : Addr) (H : Hp) (p : Addr) (ks : List (Str × V)) (rs : List (Int × V)) : Prop where
  at_ : ∃ (dx a1 a2 : Addr) (ms : List (Str × V)), H p = some (.ins C dx (sfl a1 a2)) ∧ H a1 = some (.dK (mkv ms)) ∧ H a2 = some (.dK (rdv rs)) ∧ (ms.map (·.1)).Perm (ks.map (·.1)) ∧ PyProof.Rows.sortedS (ms.map (·.1)) = true ∧ ∀ q ∈ ms, q ∈ ks
theorem SurvAt.same {C : Addr} {H H' : Hp} {p : Addr} {ks : List (Str × V)} {rs : List (Int × V)} (s : Same H H') (h : SurvAt C H p ks rs) : SurvAt C H' p ks rs := by
  obtain ⟨dx, a1, a2, ms, h1, h2, h3, r⟩ := h
  exact ⟨dx, a1, a2, ms, s _ _ h1, s _ _ h2, s _ _ h3, r⟩
def spInit (C : Addr) : Sp := fun vs H Q _ => ∃ (p dx d1 d2 : Addr) (ks : List (Str × V)) (rs : List (Int × V)), vs = [.ref p, .ref d1, .ref d2] ∧ H p = some (.ins C dx []) ∧ H d1 = some (.dK (mkv ks)) ∧ MarksIn H ks ∧ ks.length ≤ 60 ∧ H d2 = some (.dK (rdv rs)) ∧ ReadsIn H (ks.map (·.1)) rs ∧ rs.length ≤ 60 ∧
  ∀ H', SurvAt C H' p ks rs → (∀ q o, H q = some o → q ≠ p → H' q = some o) → Q .non H'
theorem ok_Survey___init__ (ev : Env K mg) : FnOk P w K mg base CX0 4 ev.f_Survey___init__ ev.d_Survey___init__ p_Survey___init__ (spInit ev.C_Survey) := by
  refine ev.A_Survey___init__.F.ok sc_Survey___init__ (fun vs H Q E h => ?_) (fun cdv A outer s H vs Q E hr h => ?_)
  · obtain ⟨p, dx, d1, d2, ks, rs, rfl, _⟩ := h
    rfl
  obtain ⟨p, dx, d1, d2, ks, rs, rfl, hp, h1, hM, k60, h2, hR, r60, q⟩ := h
  have hu := hu_of hr
  refine ⟨_, (pss_cons (ps_for PassesOwn.never rfl (pi_list (pe_callB (call_srtK rfl) (by rfl) ev.B.sorted_ (by decide +kernel) (pa_cons (pv 1) pa_nil))) (pg_name (i := 3) sc_Survey___init__.nd rfl (Or.inl rfl))
    (pss_cons (ps_expr (pe_call (ok_check_name ev) (hr.mono (by decide)) (by rfl) ev.A_check_name.m ev.A_check_name.F.kp ev.A_check_name.b .nil pass0 (pa_cons (pv 3) pa_nil)))
    (pss_one (ps_expr (pe_call (ok_check_place ev) (hr.mono (by decide)) (by rfl) ev.A_check_place.m ev.A_check_place.F.kp ev.A_check_place.b .nil pass0 (pa_cons (pe_dget hu (pv 1) (pv 3) (fun _ _ => rfl)) pa_nil))))))
    (pss_cons (ps_for PassesOwn.never rfl (pi_list (pe_callB (call_srtK rfl) (by rfl) ev.B.sorted_ (by decide +kernel) (pa_cons (pv 2) pa_nil))) (pg_name (i := 4) sc_Survey___init__.nd rfl (Or.inl rfl))
    (pss_one (ps_expr (pe_call (ok_check_reading ev) (hr.mono (by decide)) (by rfl) ev.A_check_reading.m ev.A_check_reading.F.kp ev.A_check_reading.b .nil pass0 (pa_cons (pv 1) (pa_cons (pv 4) (pa_cons (pe_dget hu (pv 2) (pv 4) (fun _ _ => rfl)) pa_nil)))))))
    (pss_cons (ps_fld (pv 0) (pe_dc (own := [("name", 3)]) (g := gName 3) (tt := tYes) (by rfl) sc_Survey___init__.nd (pi_list (pe_callB (call_srtK rfl) (by rfl) ev.B.sorted_ (by decide +kernel) (pa_cons (pv 1) pa_nil))) (blkOk_by (own := [("name", 3)]) (N := n_Survey___init__) (sc := defScope s_Survey___init__) (by decide +kernel)) (fun _ _ _ _ _ => pg_name (i := 3) sc_Survey___init__.nd rfl (Or.inl rfl)) (fun _ _ _ _ _ => pts_nil) (fun _ _ _ _ _ => (pv 3)) (fun _ _ _ _ _ => (pe_dget hu (pv 1) (pv 3) (fun _ _ => rfl)))) rfl)
    (pss_one (ps_fld (pv 0) (pe_dc (own := [("number", 4)]) (g := gName 4) (tt := tYes) (by rfl) sc_Survey___init__.nd (pi_list (pe_callB (call_srtK rfl) (by rfl) ev.B.sorted_ (by decide +kernel) (pa_cons (pv 2) pa_nil))) (blkOk_by (own := [("number", 4)]) (N := n_Survey___init__) (sc := defScope s_Survey___init__) (by decide +kernel)) (fun _ _ _ _ _ => pg_name (i := 4) sc_Survey___init__.nd rfl (Or.inl rfl)) (fun _ _ _ _ _ => pts_nil) (fun _ _ _ _ _ => (pv 4)) (fun _ _ _ _ _ => (pe_dget hu (pv 2) (pv 4) (fun _ _ => rfl)))) rfl))))), ?_⟩
  have kn : (ks.map (·.1)).length < 64 := by rw [List.length_map]; omega
  have rn : (rs.map (·.1)).length < 64 := by rw [List.length_map]; omega
  have rnd := rise_nd hR.up
  -- the marks are looked at
  refine ⟨_, rfl, .inl ⟨d1, _, ks.map (·.1), rfl, .inl h1, mkv_keys ks, kn, fun ys l pm sr nl => ?_⟩⟩
  have s0 : Same H (upd H l (.lst (ys.map V.str))) := same_upd nl
  have vals : ∀ y ∈ ys, ∃ v, (y, v) ∈ ks := fun y hy => by
    obtain ⟨⟨a, v⟩, hv, e⟩ := List.mem_map.mp (pm.mem_iff.mp hy)
    cases e
    exact ⟨v, hv⟩
  refine ⟨l, rfl, ⟨_, SqL.of upd_same⟩, for_list (K := K) (a := l) (xs := ys.map V.str) (fun i σ H2 => Same H H2 ∧ H2 l = some (.lst (ys.map V.str)) ∧ ∃ y3 y4, σ = [some (.ref p), some (.ref d1), some (.ref d2), y3, y4]) ⟨s0, upd_same, none, none, rfl⟩ (fun i σ H2 _ h => SqL.of h.2.1) ?_ ?_⟩
  · rintro i x σ H2 hi ⟨s2, hl2, y3, y4, rfl⟩
    obtain ⟨y, hy, rfl⟩ := List.mem_map.mp (List.mem_of_getElem? hi)
    obtain ⟨v, hv⟩ := vals y hy
    refine seq_drop ⟨_, rfl, y, rfl, hM.low y (List.mem_map.mpr ⟨_, hv, rfl⟩), fun H3 s3 => ?_⟩
    refine ⟨_, rfl, _, rfl, d1, v, rfl, ?_, v, rfl, (hM.val _ hv).mono (tups_same (s2.trans s3)), ⟨s2.trans s3, s3 _ _ hl2, _, _, rfl⟩⟩
    rw [← mkv_val hM.nd hv]
    exact DGet.k (k := Sum.inr y) (s3 _ _ (s2 _ _ h1))
  rintro σ H2 ⟨s2, _, y3, y4, rfl⟩
  refine nx_u ?_
  -- the readings are looked at
  refine ⟨_, rfl, .inr ⟨d2, _, rs.map (·.1), rfl, .inl (s2 _ _ h2), rdv_keys rs, rn, fun zs l2 pm2 sr2 nl2 => ?_⟩⟩
  obtain rfl : zs = rs.map (·.1) := srtI_same pm2 sr2 (hR.up.imp fun {a b} h => by omega)
  refine ⟨l2, rfl, ⟨_, SqL.of upd_same⟩, for_list (K := K) (a := l2) (xs := (rs.map (·.1)).map V.int) (fun i σ H3 => Same H H3 ∧ H3 l2 = some (.lst ((rs.map (·.1)).map V.int)) ∧ ∃ y3 y4, σ = [some (.ref p), some (.ref d1), some (.ref d2), y3, y4]) ⟨s2.trans (same_upd nl2), upd_same, y3, y4, rfl⟩ (fun i σ H2 _ h => SqL.of h.2.1) ?_ ?_⟩
  · rintro i x σ H3 hi ⟨s3, hl3, y3, y4, rfl⟩
    obtain ⟨n, hn, rfl⟩ := List.mem_map.mp (List.mem_of_getElem? hi)
    obtain ⟨⟨n, v⟩, hv, rfl⟩ := List.mem_map.mp hn
    refine ⟨_, rfl, _, rfl, _, rfl, _, rfl, d2, v, rfl, ?_, d1, ks, n, v, rfl, s3 _ _ h1, hM.nd, (hR.val _ hv).mono (tups_same s3), fun H4 s4 => ⟨s3.trans s4, s4 _ _ hl3, _, _, rfl⟩⟩
    rw [← rdv_val rnd hv]
    exact DGet.k (k := Sum.inl n) (s3 _ _ h2)
  rintro σ H3 ⟨s3, _, y3, y4, rfl⟩
  refine nx_u ?_
  -- own_marks
  refine ⟨_, rfl, .inl ⟨d1, _, ks.map (·.1), rfl, .inl (s3 _ _ h1), mkv_keys ks, kn, fun zs l3 pm3 sr3 nl3 => ?_⟩⟩
  obtain rfl : zs = ys := srt_same (pm3.trans pm.symm) sr3 sr
  have s4 : Same H (upd H3 l3 (.lst (zs.map V.str))) := s3.trans (same_upd nl3)
  have hl4 : (upd H3 l3 (.lst (zs.map V.str))) l3 = some (.lst (zs.map V.str)) := upd_same
  generalize upd H3 l3 (.lst (zs.map V.str)) = H4 at s4 hl4
  refine ⟨l3, rfl, ⟨_, SqL.of hl4⟩, fun D hD => ?_⟩
  refine dc_list (K := K) (a := l3) (xs := zs.map V.str) (fun i H5 => Same H4 H5 ∧ ∃ ms : List (Str × V), H5 D = some (.dK (mkv ms)) ∧ ms.map (·.1) = zs.take i ∧ ∀ q ∈ ms, q ∈ ks) ⟨same_upd hD, [], upd_same, rfl, (fun _ h => nomatch h)⟩ (fun i H5 _ h => SqL.of (h.1 _ _ hl4)) ?_ ?_
  · rintro i x H5 hi ⟨s5, ms, hD5, hms, hin⟩
    rw [List.getElem?_map] at hi
    obtain ⟨y, hy, rfl⟩ : ∃ y, zs[i]? = some y ∧ x = V.str y := by
      cases e : zs[i]? with
      | none => rw [e] at hi; cases hi
      | some y => rw [e] at hi; exact ⟨y, rfl, (Option.some.inj hi).symm⟩
    obtain ⟨v, hv⟩ := vals y (List.mem_of_getElem? hy)
    have zi : i < zs.length := (List.getElem?_eq_some_iff.mp hy).1
    have znd : zs.Nodup := pm.nodup_iff.mpr hM.nd
    have yn : y ∉ ms.map (·.1) := by
      rw [hms]
      intro hm
      obtain ⟨j, hj, ej⟩ := List.mem_iff_getElem.mp hm
      rw [List.length_take] at hj
      rw [List.getElem_take] at ej
      have e2 : zs[j]? = zs[i]? := by
        rw [hy, List.getElem?_eq_getElem (by omega), ej]
      have := (List.getElem?_inj (by omega) znd).mp e2
      omega
    have dg : DGet H5 d1 (.str y) (some v) := by
      rw [← mkv_val hM.nd hv]
      exact DGet.k (k := Sum.inr y) (s5 _ _ (s4 _ _ h1))
    refine ⟨rfl, yes_ ⟨_, rfl, _, rfl, _, rfl, d1, v, rfl, dg, _, Sum.inr y, rfl, hD5, ?_, fun a o e => ?_, ms ++ [(y, v)], ?_, ?_, ?_⟩⟩
    · have := congrArg List.length hms
      rw [List.length_map, List.length_take] at this
      have := pm.length_eq
      unfold mkv
      rw [List.length_map]
      exact small1000 (by omega)
    · rw [upd_ne (ne_of_none e hD)]
      exact s5 _ _ e
    · rw [upd_same, putK_new _ (valV_none (mkv_no yn)), mkv_app]
    · rw [List.map_append, hms, List.take_add_one, hy]
      rfl
    · intro a ha
      rcases List.mem_append.mp ha with z | z
      · exact hin a z
      · rw [List.mem_singleton.mp z]
        exact hv
  rintro H5 ⟨s5, ms, hD5, hms, hin⟩
  rw [List.length_map, List.take_length] at hms
  have nDp : D ≠ p := (ne_of_none (s4 _ _ hp) hD).symm
  refine ⟨_, rfl, p, ev.C_Survey, dx, [], rfl, s5 _ _ (s4 _ _ hp), ev.cl_Survey, ev.n1_Survey, (by show 0 < 1000; decide), ?_⟩
  have f6 : ∀ a o, H a = some o → a ≠ p → (upd H5 p (.ins ev.C_Survey dx (putF "own_marks" (.ref D) []))) a = some o := fun a o e n => by
    rw [upd_ne n]
    exact s5 _ _ (s4 _ _ e)
  have nd1 : d1 ≠ p := fun z => by rw [z, hp] at h1; cases h1
  have nd2 : d2 ≠ p := fun z => by rw [z, hp] at h2; cases h2
  have hD6 : (upd H5 p (.ins ev.C_Survey dx (putF "own_marks" (.ref D) []))) D = some (.dK (mkv ms)) := by rw [upd_ne nDp]; exact hD5
  have hp6 : (upd H5 p (.ins ev.C_Survey dx (putF "own_marks" (.ref D) []))) p = some (.ins ev.C_Survey dx (putF "own_marks" (.ref D) [])) := upd_same
  generalize upd H5 p (.ins ev.C_Survey dx (putF "own_marks" (.ref D) [])) = H6 at f6 hD6 hp6
  -- own_readings
  refine ⟨_, rfl, .inr ⟨d2, _, rs.map (·.1), rfl, .inl (f6 _ _ h2 nd2), rdv_keys rs, rn, fun ws l4 pm4 sr4 nl4 => ?_⟩⟩
  obtain rfl : ws = rs.map (·.1) := srtI_same pm4 sr4 (hR.up.imp fun {a b} h => by omega)
  have s7 : Same H6 (upd H6 l4 (.lst ((rs.map (·.1)).map V.int))) := same_upd nl4
  have hl7 : (upd H6 l4 (.lst ((rs.map (·.1)).map V.int))) l4 = some (.lst ((rs.map (·.1)).map V.int)) := upd_same
  generalize upd H6 l4 (.lst ((rs.map (·.1)).map V.int)) = H7 at s7 hl7
  refine ⟨l4, rfl, ⟨_, SqL.of hl7⟩, fun D2 hD2 => ?_⟩
  refine dc_list (K := K) (a := l4) (xs := (rs.map (·.1)).map V.int) (fun i H8 => Same H7 H8 ∧ H8 D2 = some (.dK (rdv (rs.take i)))) ⟨same_upd hD2, upd_same⟩ (fun i H8 _ h => SqL.of (h.1 _ _ hl7)) ?_ ?_
  · rintro i x H8 hi ⟨s8, hD8⟩
    rw [List.getElem?_map, List.getElem?_map] at hi
    obtain ⟨⟨n, v⟩, hy, rfl⟩ : ∃ y, rs[i]? = some y ∧ x = V.int y.1 := by
      cases e : rs[i]? with
      | none => rw [e] at hi; cases hi
      | some y => rw [e] at hi; exact ⟨y, rfl, (Option.some.inj hi).symm⟩
    have zi : i < rs.length := (List.getElem?_eq_some_iff.mp hy).1
    have hv := List.mem_of_getElem? hy
    have tk : rs.take (i + 1) = rs.take i ++ [(n, v)] := by rw [List.take_add_one, hy]; rfl
    have yn : n ∉ (rs.take i).map (·.1) := by
      have nd2 := rnd
      rw [← List.take_append_drop (i + 1) rs, tk, List.append_assoc, List.map_append, List.nodup_append] at nd2
      intro hm
      exact nd2.2.2 n hm n (by simp) rfl
    have dg : DGet H8 d2 (.int n) (some v) := by
      rw [← rdv_val rnd hv]
      exact DGet.k (k := Sum.inl n) (s8 _ _ (s7 _ _ (f6 _ _ h2 nd2)))
    refine ⟨rfl, yes_ ⟨_, rfl, _, rfl, _, rfl, d2, v, rfl, dg, _, Sum.inl n, rfl, hD8, ?_, fun a o e => ?_, ?_⟩⟩
    · unfold rdv
      rw [List.length_map, List.length_take]
      exact small1000 (by omega)
    · rw [upd_ne (ne_of_none e hD2)]
      exact s8 _ _ e
    · rw [upd_same, putK_new _ (valV_none (rdv_no yn)), rdv_app, tk]
  rintro H8 ⟨s8, hD8⟩
  rw [List.length_map, List.length_map, List.take_length] at hD8
  have nD2p : D2 ≠ p := (ne_of_none (s7 _ _ hp6) hD2).symm
  refine ⟨_, rfl, p, ev.C_Survey, dx, _, rfl, s8 _ _ (s7 _ _ hp6), ev.cl_Survey, ev.n2_Survey, (by show 1 < 1000; decide), ?_⟩
  refine q _ ⟨dx, D, D2, ms, upd_same, by rw [upd_ne nDp]; exact s8 _ _ (s7 _ _ hD6), by rw [upd_ne nD2p]; exact hD8, by rw [hms]; exact pm, by rw [hms]; exact sr, hin⟩ fun a o e n => ?_
  rw [upd_ne n]
  exact s8 _ _ (s7 _ _ (f6 _ _ e n))
def spRdM (C : Addr) : Sp := fun vs H Q _ => ∃ (p : Addr) (ks : List (Str × V)) (rs : List (Int × V)), vs = [.ref p] ∧ SurvAt C H p ks rs ∧ ∀ d, H d = none → Q (.ref d) (upd H d (.dK (rdv rs)))
theorem ok_Survey_readings (ev : Env K mg) : FnOk P w K mg base CX0 1 ev.f_Survey_readings ev.d_Survey_readings p_Survey_readings (spRdM ev.C_Survey) := by
  refine ev.A_Survey_readings.F.ok sc_Survey_readings (fun vs H Q E h => ?_) (fun cdv A outer s H vs Q E hr h => ?_)
  · obtain ⟨p, ks, rs, rfl, _⟩ := h
    rfl
  obtain ⟨p, ks, rs, rfl, ⟨dx, a1, a2, ms, hp, h1, h2, _⟩, q⟩ := h
  refine ⟨_, (pss_one (ps_ret (pe_callTy call_dictD (by rfl) ev.B.dict_ (by decide +kernel) (pa_cons (pe_fld (pv 0) rfl) pa_nil)))), ?_⟩
  exact ⟨_, rfl, p, ev.C_Survey, dx, _, _, rfl, hp, ev.cl_Survey, ev.n2_Survey, sfl_r a1 a2, a2, _, rfl, .inl h2, fun d nd => q d nd⟩

/-! ### two ratios -/
abbrev Bd (x : Int) : Prop := x.natAbs < 2 ^ 4000
theorem wm {x y : Int} (hx : Bd x) (hy : Bd y) : CMulW x y := wide_mul hx hy (by decide) (by decide) (by decide)
theorem bd_mul {x y : Int} (hx : Bd x) (hy : Bd y) : (x * y).natAbs < 2 ^ 9000 := Nat.lt_of_lt_of_le (wide_lt hx hy) (Nat.pow_le_pow_right (by decide) (by decide))
def addR (a b : Int × Int) : Int × Int := (rN (a.1 * b.2 + b.1 * a.2) (a.2 * b.2), rD (a.1 * b.2 + b.1 * a.2) (a.2 * b.2))
def difR (a b : Int × Int) : Int × Int := (rN (a.1 * b.2 - b.1 * a.2) (a.2 * b.2), rD (a.1 * b.2 - b.1 * a.2) (a.2 * b.2))
def mulR (a b : Int × Int) : Int × Int := (rN (a.1 * b.1) (a.2 * b.2), rD (a.1 * b.1) (a.2 * b.2))
/-- a ratio of at most n bits -/
structure Bn (n : Nat) (r : Int × Int) : Prop where
  o : r.1.natAbs < 2 ^ n
  u : r.2.natAbs < 2 ^ n
  p : 0 < r.2
theorem Bn.ne {n : Nat} {r : Int × Int} (h : Bn n r) : r.2 ≠ 0 := by have := h.p; omega
theorem bn_mk {n : Nat} {o u : Int} (h : u ≠ 0) (ho : o.natAbs < 2 ^ n) (hu : u.natAbs < 2 ^ n) : Bn n (rN o u, rD o u) :=
  ⟨Nat.lt_of_le_of_lt (rN_le h) ho, Nat.lt_of_le_of_lt (rD_le h) hu, rD_pos h⟩
theorem Bn.mul_ne {n m : Nat} {a b : Int × Int} (ha : Bn n a) (hb : Bn m b) : a.2 * b.2 ≠ 0 := fun z => (Int.mul_eq_zero.mp z).elim ha.ne hb.ne
theorem mul_lt {x y : Int} {n m : Nat} (hx : x.natAbs < 2 ^ n) (hy : y.natAbs < 2 ^ m) : (x * y).natAbs < 2 ^ (n + m) := wide_lt hx hy
theorem Bn.add {n m : Nat} {a b : Int × Int} (ha : Bn n a) (hb : Bn m b) : Bn (n + m + 1) (addR a b) := by
  refine bn_mk (ha.mul_ne hb) ?_ ?_
  · have h1 := mul_lt ha.o hb.u
    have h2 := mul_lt hb.o ha.u
    rw [Nat.add_comm m n] at h2
    rw [Nat.pow_succ]
    omega
  · have h1 := mul_lt ha.u hb.u
    rw [Nat.pow_succ]
    omega
theorem Bn.dif {n m : Nat} {a b : Int × Int} (ha : Bn n a) (hb : Bn m b) : Bn (n + m + 1) (difR a b) := by
  refine bn_mk (ha.mul_ne hb) ?_ ?_
  · have h1 := mul_lt ha.o hb.u
    have h2 := mul_lt hb.o ha.u
    rw [Nat.add_comm m n] at h2
    rw [Nat.pow_succ]
    omega
  · have h1 := mul_lt ha.u hb.u
    rw [Nat.pow_succ]
    omega
theorem Bn.mul {n m : Nat} {a b : Int × Int} (ha : Bn n a) (hb : Bn m b) : Bn (n + m) (mulR a b) :=
  bn_mk (ha.mul_ne hb) (mul_lt ha.o hb.o) (mul_lt ha.u hb.u)
theorem Bn.le {n m : Nat} {a : Int × Int} (h : Bn n a) (hn : n ≤ m) : Bn m a :=
  ⟨Nat.lt_of_lt_of_le h.o (Nat.pow_le_pow_right (by decide) hn), Nat.lt_of_lt_of_le h.u (Nat.pow_le_pow_right (by decide) hn), h.p⟩
def RatAt (H : Hp) (a : Addr) (r : Int × Int) : Prop := H a = some (.tup [.int r.1, .int r.2])
/-- two ratios are handed in; a new ratio comes back -/
def sp2 (K : PySem.W.Frag) (f : Int × Int → Int × Int → Int × Int) : Sp := fun vs H Q _ => ∃ (a b : Addr) (r s : Int × Int), vs = [.ref a, .ref b] ∧ SqT K H a [.int r.1, .int r.2] ∧ SqT K H b [.int s.1, .int s.2] ∧ Bn 4000 r ∧ Bn 4000 s ∧
  ∀ t, H t = none → Q (.ref t) (upd H t (.tup [.int (f r s).1, .int (f r s).2]))

theorem ok_plus (ev : Env K mg) : FnOk P w K mg base CX0 3 ev.f_plus ev.d_plus p_plus (sp2 K addR) := by
  refine ev.A_plus.F.ok sc_plus (fun vs H Q E h => ?_) (fun cdv A outer s H vs Q E hr h => ?_)
  · obtain ⟨a, b, r, s, rfl, _⟩ := h
    rfl
  obtain ⟨a, b, ⟨p, q⟩, ⟨u, v⟩, rfl, hA, hB, h1, h2, k⟩ := h
  have hp : Bd p := h1.o
  have hq : Bd q := h1.u
  have hu : Bd u := h2.o
  have hv : Bd v := h2.u
  refine ⟨_, (pss_one (ps_ret (pe_callS (ok_ratio ev) (hr.mono (by decide)) (by rfl) ev.A_ratio.m ev.A_ratio.F.kp ev.A_ratio.b (fun σ => passAt takes0 σ) (pa_cons (pe_op op_add (pe_op op_mulW (pe_ix ix_tup (pv 0) pe_int (fun _ _ => rfl)) (pe_ix ix_tup (pv 1) pe_int (fun _ _ => rfl))) (pe_op op_mulW (pe_ix ix_tup (pv 1) pe_int (fun _ _ => rfl)) (pe_ix ix_tup (pv 0) pe_int (fun _ _ => rfl)))) (pa_cons (pe_op op_mulW (pe_ix ix_tup (pv 0) pe_int (fun _ _ => rfl)) (pe_ix ix_tup (pv 1) pe_int (fun _ _ => rfl))) pa_nil))))), ?_⟩
  exact ⟨_, rfl, a, _, _, _, rfl, rfl, hA, atI_nat (j := 0) rfl, _, rfl, b, _, _, _, rfl, rfl, hB, atI_nat (j := 1) rfl, _, _, rfl, rfl, wm hp hv, _, rfl, b, _, _, _, rfl, rfl, hB, atI_nat (j := 0) rfl, _, rfl, a, _, _, _, rfl, rfl, hA, atI_nat (j := 1) rfl, _, _, rfl, rfl, wm hu hq, _, _, rfl, rfl, _, rfl, a, _, _, _, rfl, rfl, hA, atI_nat (j := 1) rfl, _, rfl, b, _, _, _, rfl, rfl, hB, atI_nat (j := 1) rfl, _, _, rfl, rfl, wm hq hv, _, _, rfl, bd_mul hq hv, fun e => absurd e (Bn.mul_ne h1 h2), fun _ t ht => k t ht⟩

theorem ok_minus (ev : Env K mg) : FnOk P w K mg base CX0 3 ev.f_minus ev.d_minus p_minus (sp2 K difR) := by
  refine ev.A_minus.F.ok sc_minus (fun vs H Q E h => ?_) (fun cdv A outer s H vs Q E hr h => ?_)
  · obtain ⟨a, b, r, s, rfl, _⟩ := h
    rfl
  obtain ⟨a, b, ⟨p, q⟩, ⟨u, v⟩, rfl, hA, hB, h1, h2, k⟩ := h
  have hp : Bd p := h1.o
  have hq : Bd q := h1.u
  have hu : Bd u := h2.o
  have hv : Bd v := h2.u
  refine ⟨_, (pss_one (ps_ret (pe_callS (ok_ratio ev) (hr.mono (by decide)) (by rfl) ev.A_ratio.m ev.A_ratio.F.kp ev.A_ratio.b (fun σ => passAt takes0 σ) (pa_cons (pe_op op_sub (pe_op op_mulW (pe_ix ix_tup (pv 0) pe_int (fun _ _ => rfl)) (pe_ix ix_tup (pv 1) pe_int (fun _ _ => rfl))) (pe_op op_mulW (pe_ix ix_tup (pv 1) pe_int (fun _ _ => rfl)) (pe_ix ix_tup (pv 0) pe_int (fun _ _ => rfl)))) (pa_cons (pe_op op_mulW (pe_ix ix_tup (pv 0) pe_int (fun _ _ => rfl)) (pe_ix ix_tup (pv 1) pe_int (fun _ _ => rfl))) pa_nil))))), ?_⟩
  exact ⟨_, rfl, a, _, _, _, rfl, rfl, hA, atI_nat (j := 0) rfl, _, rfl, b, _, _, _, rfl, rfl, hB, atI_nat (j := 1) rfl, _, _, rfl, rfl, wm hp hv, _, rfl, b, _, _, _, rfl, rfl, hB, atI_nat (j := 0) rfl, _, rfl, a, _, _, _, rfl, rfl, hA, atI_nat (j := 1) rfl, _, _, rfl, rfl, wm hu hq, _, _, rfl, rfl, _, rfl, a, _, _, _, rfl, rfl, hA, atI_nat (j := 1) rfl, _, rfl, b, _, _, _, rfl, rfl, hB, atI_nat (j := 1) rfl, _, _, rfl, rfl, wm hq hv, _, _, rfl, bd_mul hq hv, fun e => absurd e (Bn.mul_ne h1 h2), fun _ t ht => k t ht⟩

theorem ok_times (ev : Env K mg) : FnOk P w K mg base CX0 3 ev.f_times ev.d_times p_times (sp2 K mulR) := by
  refine ev.A_times.F.ok sc_times (fun vs H Q E h => ?_) (fun cdv A outer s H vs Q E hr h => ?_)
  · obtain ⟨a, b, r, s, rfl, _⟩ := h
    rfl
  obtain ⟨a, b, ⟨p, q⟩, ⟨u, v⟩, rfl, hA, hB, h1, h2, k⟩ := h
  have hp : Bd p := h1.o
  have hq : Bd q := h1.u
  have hu : Bd u := h2.o
  have hv : Bd v := h2.u
  refine ⟨_, (pss_one (ps_ret (pe_callS (ok_ratio ev) (hr.mono (by decide)) (by rfl) ev.A_ratio.m ev.A_ratio.F.kp ev.A_ratio.b (fun σ => passAt takes0 σ) (pa_cons (pe_op op_mulW (pe_ix ix_tup (pv 0) pe_int (fun _ _ => rfl)) (pe_ix ix_tup (pv 1) pe_int (fun _ _ => rfl))) (pa_cons (pe_op op_mulW (pe_ix ix_tup (pv 0) pe_int (fun _ _ => rfl)) (pe_ix ix_tup (pv 1) pe_int (fun _ _ => rfl))) pa_nil))))), ?_⟩
  exact ⟨_, rfl, a, _, _, _, rfl, rfl, hA, atI_nat (j := 0) rfl, _, rfl, b, _, _, _, rfl, rfl, hB, atI_nat (j := 0) rfl, _, _, rfl, rfl, wm hp hu, _, rfl, a, _, _, _, rfl, rfl, hA, atI_nat (j := 1) rfl, _, rfl, b, _, _, _, rfl, rfl, hB, atI_nat (j := 1) rfl, _, _, rfl, rfl, wm hq hv, _, _, rfl, bd_mul hq hv, fun e => absurd e (Bn.mul_ne h1 h2), fun _ t ht => k t ht⟩

theorem ok_law_sum (ev : Env K mg) : FnOk P w K mg base CX0 2 ev.f_law_sum ev.d_law_sum p_law_sum (sp2 K addR) := by
  refine ev.A_law_sum.F.ok sc_law_sum (fun vs H Q E h => ?_) (fun cdv A outer s H vs Q E hr h => ?_)
  · obtain ⟨a, b, r, s, rfl, _⟩ := h
    rfl
  obtain ⟨a, b, ⟨p, q⟩, ⟨u, v⟩, rfl, hA, hB, h1, h2, k⟩ := h
  have hp : Bd p := h1.o
  have hq : Bd q := h1.u
  have hu : Bd u := h2.o
  have hv : Bd v := h2.u
  refine ⟨_, (pss_one (ps_ret (pe_call (ok_law_rat ev) (hr.mono (by decide)) (by rfl) ev.A_law_rat.m ev.A_law_rat.F.kp ev.A_law_rat.b .nil pass0 (pa_cons (pe_op op_add (pe_op op_mulW (pe_ix ix_tup (pv 0) pe_int (fun _ _ => rfl)) (pe_ix ix_tup (pv 1) pe_int (fun _ _ => rfl))) (pe_op op_mulW (pe_ix ix_tup (pv 1) pe_int (fun _ _ => rfl)) (pe_ix ix_tup (pv 0) pe_int (fun _ _ => rfl)))) (pa_cons (pe_op op_mulW (pe_ix ix_tup (pv 0) pe_int (fun _ _ => rfl)) (pe_ix ix_tup (pv 1) pe_int (fun _ _ => rfl))) pa_nil))))), ?_⟩
  exact ⟨_, rfl, a, _, _, _, rfl, rfl, hA, atI_nat (j := 0) rfl, _, rfl, b, _, _, _, rfl, rfl, hB, atI_nat (j := 1) rfl, _, _, rfl, rfl, wm hp hv, _, rfl, b, _, _, _, rfl, rfl, hB, atI_nat (j := 0) rfl, _, rfl, a, _, _, _, rfl, rfl, hA, atI_nat (j := 1) rfl, _, _, rfl, rfl, wm hu hq, _, _, rfl, rfl, _, rfl, a, _, _, _, rfl, rfl, hA, atI_nat (j := 1) rfl, _, rfl, b, _, _, _, rfl, rfl, hB, atI_nat (j := 1) rfl, _, _, rfl, rfl, wm hq hv, _, _, rfl, bd_mul hq hv, Bn.mul_ne h1 h2, fun t ht => k t ht⟩

theorem ok_law_dif (ev : Env K mg) : FnOk P w K mg base CX0 2 ev.f_law_dif ev.d_law_dif p_law_dif (sp2 K difR) := by
  refine ev.A_law_dif.F.ok sc_law_dif (fun vs H Q E h => ?_) (fun cdv A outer s H vs Q E hr h => ?_)
  · obtain ⟨a, b, r, s, rfl, _⟩ := h
    rfl
  obtain ⟨a, b, ⟨p, q⟩, ⟨u, v⟩, rfl, hA, hB, h1, h2, k⟩ := h
  have hp : Bd p := h1.o
  have hq : Bd q := h1.u
  have hu : Bd u := h2.o
  have hv : Bd v := h2.u
  refine ⟨_, (pss_one (ps_ret (pe_call (ok_law_rat ev) (hr.mono (by decide)) (by rfl) ev.A_law_rat.m ev.A_law_rat.F.kp ev.A_law_rat.b .nil pass0 (pa_cons (pe_op op_sub (pe_op op_mulW (pe_ix ix_tup (pv 0) pe_int (fun _ _ => rfl)) (pe_ix ix_tup (pv 1) pe_int (fun _ _ => rfl))) (pe_op op_mulW (pe_ix ix_tup (pv 1) pe_int (fun _ _ => rfl)) (pe_ix ix_tup (pv 0) pe_int (fun _ _ => rfl)))) (pa_cons (pe_op op_mulW (pe_ix ix_tup (pv 0) pe_int (fun _ _ => rfl)) (pe_ix ix_tup (pv 1) pe_int (fun _ _ => rfl))) pa_nil))))), ?_⟩
  exact ⟨_, rfl, a, _, _, _, rfl, rfl, hA, atI_nat (j := 0) rfl, _, rfl, b, _, _, _, rfl, rfl, hB, atI_nat (j := 1) rfl, _, _, rfl, rfl, wm hp hv, _, rfl, b, _, _, _, rfl, rfl, hB, atI_nat (j := 0) rfl, _, rfl, a, _, _, _, rfl, rfl, hA, atI_nat (j := 1) rfl, _, _, rfl, rfl, wm hu hq, _, _, rfl, rfl, _, rfl, a, _, _, _, rfl, rfl, hA, atI_nat (j := 1) rfl, _, rfl, b, _, _, _, rfl, rfl, hB, atI_nat (j := 1) rfl, _, _, rfl, rfl, wm hq hv, _, _, rfl, bd_mul hq hv, Bn.mul_ne h1 h2, fun t ht => k t ht⟩

theorem ok_law_prod (ev : Env K mg) : FnOk P w K mg base CX0 2 ev.f_law_prod ev.d_law_prod p_law_prod (sp2 K mulR) := by
  refine ev.A_law_prod.F.ok sc_law_prod (fun vs H Q E h => ?_) (fun cdv A outer s H vs Q E hr h => ?_)
  · obtain ⟨a, b, r, s, rfl, _⟩ := h
    rfl
  obtain ⟨a, b, ⟨p, q⟩, ⟨u, v⟩, rfl, hA, hB, h1, h2, k⟩ := h
  have hp : Bd p := h1.o
  have hq : Bd q := h1.u
  have hu : Bd u := h2.o
  have hv : Bd v := h2.u
  refine ⟨_, (pss_one (ps_ret (pe_call (ok_law_rat ev) (hr.mono (by decide)) (by rfl) ev.A_law_rat.m ev.A_law_rat.F.kp ev.A_law_rat.b .nil pass0 (pa_cons (pe_op op_mulW (pe_ix ix_tup (pv 0) pe_int (fun _ _ => rfl)) (pe_ix ix_tup (pv 1) pe_int (fun _ _ => rfl))) (pa_cons (pe_op op_mulW (pe_ix ix_tup (pv 0) pe_int (fun _ _ => rfl)) (pe_ix ix_tup (pv 1) pe_int (fun _ _ => rfl))) pa_nil))))), ?_⟩
  exact ⟨_, rfl, a, _, _, _, rfl, rfl, hA, atI_nat (j := 0) rfl, _, rfl, b, _, _, _, rfl, rfl, hB, atI_nat (j := 0) rfl, _, _, rfl, rfl, wm hp hu, _, rfl, a, _, _, _, rfl, rfl, hA, atI_nat (j := 1) rfl, _, rfl, b, _, _, _, rfl, rfl, hB, atI_nat (j := 1) rfl, _, _, rfl, rfl, wm hq hv, _, _, rfl, bd_mul hq hv, Bn.mul_ne h1 h2, fun t ht => k t ht⟩

theorem for_keys {d : Addr} {o : Obj} {kvs : List (Key × V)} {g : TG} {tb : TS} {D : Ends} {σ : St} {H : Hp} (Pv : Nat → St → Hp → Prop) (h0 : Pv 0 σ H) (hl : ∀ i σ H, i ≤ kvs.length → Pv i σ H → H d = some (.frz o (.dK kvs)))
    (hs : ∀ i k v σ H, kvs[i]? = some (k, v) → Pv i σ H → g (kV k) σ H fun σ2 H2 => tb { D with nx := Pv (i + 1), ct := Pv (i + 1), bk := D.nx } σ2 H2) (hd : ∀ σ H, Pv kvs.length σ H → D.nx σ H) :
    ∃ W : Nat → Nat → St → Hp → Prop, (∃ m, W 0 m σ H) ∧ ∀ i m σ H, W i m σ H → ((Itk d o kvs).stop i H ∧ D.nx σ H) ∨ ((Itk d o kvs).go i H ∧ ∃ N : St → Hp → Prop, (∀ σ' H', N σ' H' → ∃ m', m' < m ∧ W (i + 1) m' σ' H') ∧
      ∀ x H', (Itk d o kvs).yld i H x H' → g x σ H' fun σ2 H2 => tb { D with nx := N, ct := N, bk := D.nx } σ2 H2) := by
  refine ⟨fun i m σ H => m = kvs.length - i ∧ i ≤ kvs.length ∧ Pv i σ H, ⟨kvs.length, by simp, Nat.zero_le _, h0⟩, ?_⟩
  rintro i m σ H ⟨rfl, hi, p⟩
  have q := hl i σ H hi p
  by_cases hlt : i < kvs.length
  · refine .inr ⟨⟨q, hlt⟩, Pv (i + 1), fun σ' H' p' => ⟨kvs.length - (i + 1), by omega, rfl, hlt, p'⟩, fun x H' y => ?_⟩
    obtain ⟨e, k, v, ek, ex⟩ := y
    subst e ex
    exact hs i k v σ _ ek p
  · have e : i = kvs.length := by omega
    subst e
    exact .inl ⟨⟨q, Nat.le_refl _⟩, hd σ H p⟩
abbrev Spot := (Int × Int) × (Int × Int)
def SpotAt (H : Hp) (a : Addr) (s : Spot) : Prop := ∃ a1 a2, H a = some (.tup [.ref a1, .ref a2]) ∧ RatAt H a1 s.1 ∧ RatAt H a2 s.2
theorem SpotAt.mono {H H' : Hp} {a : Addr} {s : Spot} (t : Tups H H') (h : SpotAt H a s) : SpotAt H' a s := by
  obtain ⟨a1, a2, h1, h2, h3⟩ := h
  exact ⟨a1, a2, t _ _ h1, t _ _ h2, t _ _ h3⟩
theorem SpotAt.sm {K : PySem.W.Frag} {H : Hp} {a b : Addr} {s : Spot} (h : SpotAt H a s) (h' : SpotAt H b s) : SmT K H 2 (.ref a) (.ref b) := by
  obtain ⟨a1, a2, h1, h2, h3⟩ := h
  obtain ⟨b1, b2, g1, g2, g3⟩ := h'
  exact SmT.tup2 (SqT.of h1) (SqT.of g1) (SmT.tup2 (SqT.of h2) (SqT.of g2) (SmT.flat rfl 0) (SmT.flat rfl 0)) (SmT.tup2 (SqT.of h3) (SqT.of g3) (SmT.flat rfl 0) (SmT.flat rfl 0))
/-- a placing: pf tells the spots of its names -/
structure PlacIn (H : Hp) (ps : List (Str × V)) (pf : Str → Spot) : Prop where
  nd : (ps.map (·.1)).Nodup
  low : ∀ z ∈ ps.map (·.1), lowB z = true
  val : ∀ p ∈ ps, ∃ a, p.2 = .ref a ∧ SpotAt H a (pf p.1) ∧ Bn 20 (pf p.1).1 ∧ Bn 20 (pf p.1).2
theorem PlacIn.mono {H H' : Hp} {ps : List (Str × V)} {pf : Str → Spot} (t : Tups H H') (h : PlacIn H ps pf) : PlacIn H' ps pf := ⟨h.nd, h.low, fun p hp => by
  obtain ⟨a, e, s, r⟩ := h.val p hp
  exact ⟨a, e, s.mono t, r⟩⟩
structure RData where
  one : Str
  two : Str
  ac : Int
  hi : Int
  wt : Int
def DatV (H : Hp) (zs : List Str) (v : V) (d : RData) : Prop := ∃ t : Addr, v = .ref t ∧ H t = some (.tup [.str d.one, .str d.two, .int d.ac, .int d.hi, .int d.wt]) ∧ d.one ∈ zs ∧ d.two ∈ zs ∧ d.one ≠ d.two ∧ -999 ≤ d.ac ∧ d.ac ≤ 999 ∧ -999 ≤ d.hi ∧ d.hi ≤ 999 ∧ 1 ≤ d.wt ∧ d.wt ≤ 9
theorem DatV.mono {H H' : Hp} {zs : List Str} {v : V} {d : RData} (t : Tups H H') (h : DatV H zs v d) : DatV H' zs v d := by
  obtain ⟨a, e, h, r⟩ := h
  exact ⟨a, e, t _ _ h, r⟩
theorem dat_of {H : Hp} {zs : List Str} {rs : List (Int × V)} (h : ∀ p ∈ rs, ReadV H zs p.2) : ∃ rf : V → RData, ∀ p ∈ rs, DatV H zs p.2 (rf p.2) := by
  have c : ∀ v : V, ∃ d : RData, ReadV H zs v → DatV H zs v d := fun v => by
    by_cases z : ReadV H zs v
    · obtain ⟨t, one, two, ac, hi, wt, e, r⟩ := z
      exact ⟨⟨one, two, ac, hi, wt⟩, fun _ => ⟨t, e, r⟩⟩
    · exact ⟨⟨"", "", 0, 0, 0⟩, fun q => absurd q z⟩
  exact ⟨fun v => Classical.choose (c v), fun p hp => Classical.choose_spec (c p.2) (h p hp)⟩
/-- the rests of a reading -/
def restR (pf : Str → Spot) (d : RData) : Spot := (difR (difR (pf d.two).1 (pf d.one).1) (d.ac, 1), difR (difR (pf d.two).2 (pf d.one).2) (d.hi, 1))
def selP (ps : List (Str × V)) (rf : V → RData) (p : Int × V) : Bool := decide ((rf p.2).one ∈ ps.map (·.1)) && decide ((rf p.2).two ∈ ps.map (·.1))
/-- a dict of rests: of the readings in L, in their order -/
structure RestIn (H : Hp) (pf : Str → Spot) (rf : V → RData) (L : List (Int × V)) (ts : List (Int × V)) : Prop where
  key : ts.map (·.1) = L.map (·.1)
  val : ∀ (i : Nat) p q, L[i]? = some p → ts[i]? = some q → ∃ t, q.2 = .ref t ∧ SpotAt H t (restR pf (rf p.2))
theorem RestIn.mono {H H' : Hp} {pf : Str → Spot} {rf : V → RData} {L ts : List (Int × V)} (t : Tups H H') (h : RestIn H pf rf L ts) : RestIn H' pf rf L ts := ⟨h.key, fun i p q e e' => by
  obtain ⟨a, x, s⟩ := h.val i p q e e'
  exact ⟨a, x, s.mono t⟩⟩
theorem RestIn.app {H : Hp} {pf : Str → Spot} {rf : V → RData} {L ts : List (Int × V)} {p : Int × V} {t : Addr} (h : RestIn H pf rf L ts) (ht : SpotAt H t (restR pf (rf p.2))) : RestIn H pf rf (L ++ [p]) (ts ++ [(p.1, .ref t)]) := by
  have hl : ts.length = L.length := by
    have := congrArg List.length h.key
    rw [List.length_map, List.length_map] at this
    exact this
  refine ⟨by rw [List.map_append, List.map_append, h.key]; rfl, fun i a b e e' => ?_⟩
  rcases Nat.lt_trichotomy i L.length with z | z | z
  · rw [List.getElem?_append_left z] at e
    rw [List.getElem?_append_left (by omega)] at e'
    exact h.val i a b e e'
  · subst z
    rw [List.getElem?_append_right (Nat.le_refl _), Nat.sub_self] at e
    rw [List.getElem?_append_right (by omega), hl, Nat.sub_self] at e'
    cases e
    cases e'
    exact ⟨t, rfl, ht⟩
  · rw [List.getElem?_append_right (by omega)] at e
    rw [List.getElem?_eq_none (by rw [List.length_singleton]; omega)] at e
    cases e
theorem RestIn.sm {K : PySem.W.Frag} {H : Hp} {pf : Str → Spot} {rf : V → RData} {L ts us : List (Int × V)} {a b : Addr} (h : RestIn H pf rf L ts) (h' : RestIn H pf rf L us) (nd : (L.map (·.1)).Nodup) (l60 : L.length ≤ 60) (ha : H a = some (.dK (rdv ts))) (hb : H b = some (.dK (rdv us))) : Sm K H 3 (.ref a) (.ref b) := by
  have e : ts.map (·.1) = us.map (·.1) := h.key.trans h'.key.symm
  have nt : (ts.map (·.1)).Nodup := by rw [h.key]; exact nd
  have nu : (us.map (·.1)).Nodup := by rw [h'.key]; exact nd
  have lt : ts.length = L.length := by
    have := congrArg List.length h.key
    rw [List.length_map, List.length_map] at this
    exact this
  have lu : us.length = L.length := by
    have := congrArg List.length h'.key
    rw [List.length_map, List.length_map] at this
    exact this
  refine .inr (.inr (.inr ⟨a, b, _, _, rfl, rfl, ha, hb, ?_, rdv_nd nu, ?_, .inl ⟨us.map (·.1), rdv_keys us⟩, .inl ⟨ts.map (·.1), rdv_keys ts⟩, fun k u v eu ev => ?_⟩))
  · rw [rdv_keys, rdv_keys, e]
  · unfold rdv
    rw [List.length_map]
    omega
  · have mu := valV_in ev
    rw [rdv_keys] at mu
    obtain ⟨n, hn, rfl⟩ := List.mem_map.mp mu
    obtain ⟨q, hq, rfl⟩ := List.mem_map.mp hn
    obtain ⟨i, hi, rfl⟩ := List.mem_iff_getElem.mp hq
    have e2 : ts[i].1 = us[i].1 := by
      have z1 : (ts.map (·.1))[i]? = some ts[i].1 := by rw [List.getElem?_map, List.getElem?_eq_getElem (by omega)]; rfl
      have z2 : (us.map (·.1))[i]? = some us[i].1 := by rw [List.getElem?_map, List.getElem?_eq_getElem hi]; rfl
      rw [e, z2] at z1
      exact (Option.some.inj z1).symm
    rw [rdv_val nu hq] at ev
    cases ev
    have hts : ts[i] ∈ ts := List.getElem_mem (by omega)
    have eu' := rdv_val nt hts
    rw [e2, eu] at eu'
    cases eu'
    obtain ⟨t1, x1, s1⟩ := h.val i _ _ (List.getElem?_eq_getElem (show i < L.length by omega)) (List.getElem?_eq_getElem (show i < ts.length by omega))
    obtain ⟨t2, x2, s2⟩ := h'.val i _ _ (List.getElem?_eq_getElem (show i < L.length by omega)) (List.getElem?_eq_getElem hi)
    rw [x1, x2]
    exact s1.sm s2

theorem bn10 {x : Int} (h0 : -999 ≤ x) (h1 : x ≤ 999) : Bn 10 (x, 1) := ⟨by show x.natAbs < 2 ^ 10; omega, by show (1 : Int).natAbs < 2 ^ 10; decide, by show (0 : Int) < 1; decide⟩
theorem find_pl {ps : List (Str × V)} {z : Str} (h : z ∈ ps.map (·.1)) : ∃ v, (z, v) ∈ ps := by
  obtain ⟨⟨a, v⟩, hv, e⟩ := List.mem_map.mp h
  cases e
  exact ⟨v, hv⟩
theorem pl_none {ps : List (Str × V)} {z : Str} (h : z ∉ ps.map (·.1)) : valV (mkv ps) (Sum.inr z : Key) = none := valV_none (mkv_no h)
def spRests (C : Addr) : Sp := fun vs H Q _ => ∃ (p pl : Addr) (ks ps : List (Str × V)) (rs : List (Int × V)) (zs : List Str) (pf : Str → Spot) (rf : V → RData), vs = [.ref p, .ref pl] ∧ SurvAt C H p ks rs ∧ (rs.map (·.1)).Nodup ∧ rs.length ≤ 60 ∧ H pl = some (.dK (mkv ps)) ∧ PlacIn H ps pf ∧ (∀ q ∈ rs, DatV H zs q.2 (rf q.2)) ∧
  ∀ (t : Addr) (ts : List (Int × V)) (H' : Hp), H t = none → H' t = some (.dK (rdv ts)) → RestIn H' pf rf (rs.filter (selP ps rf)) ts → Same H H' → Q (.ref t) H'
theorem ok_rests (ev : Env K mg) : FnOk P w K mg base CX0 4 ev.f_rests ev.d_rests p_rests (spRests ev.C_Survey) := by
  refine ev.A_rests.F.ok sc_rests (fun vs H Q E h => ?_) (fun cdv A outer s H vs Q E hr h => ?_)
  · obtain ⟨p, pl, ks, ps, rs, zs, pf, rf, rfl, _⟩ := h
    rfl
  obtain ⟨p, pl, ks, ps, rs, zs, pf, rf, rfl, hS, rnd, r60, hpl, hP, hD, q⟩ := h
  have hu := hu_of hr
  refine ⟨_, (pss_cons (ps_set (i := 2) sc_rests.nd rfl (Or.inl rfl) (pe_meth0 (pv 0) ev.cl_Survey ev.A_Survey_readings.me (ok_Survey_readings ev) (hr.mono (by decide)) ev.A_Survey_readings.b .nil pass0))
    (pss_cons (ps_set (i := 3) sc_rests.nd rfl (Or.inl rfl) pe_dnewK)
    (pss_cons (ps_lock (ps_for PassesOwn.never rfl (pi_keys (pv 2)) (pg_name (i := 4) sc_rests.nd rfl (Or.inl rfl))
    (pss_cons (ps_asg (pe_dget hu (pv 2) (pv 4) (fun _ _ => rfl)) (pg_tup rfl (pgs_cons (pg_name (i := 5) sc_rests.nd rfl (Or.inl rfl)) (pgs_cons (pg_name (i := 6) sc_rests.nd rfl (Or.inl rfl)) (pgs_cons (pg_name (i := 7) sc_rests.nd rfl (Or.inl rfl)) (pgs_cons (pg_name (i := 8) sc_rests.nd rfl (Or.inl rfl)) (pgs_cons (pg_name (i := 9) sc_rests.nd rfl (Or.inl rfl)) pgs_nil)))))))
    (pss_one (ps_if (PW.pt (pw_and (pt_cmp (pc_din hu (pv 5) (pv 1))) (pw_and1 (pt_cmp (pc_din hu (pv 6) (pv 1))))))
    (pss_cons (ps_par (i := 10) (j := 11) (by rfl) sc_rests.nd rfl rfl (by decide) rfl rfl (pa_cons (pe_dget hu (pv 1) (pv 5) (fun _ _ => rfl)) (pa_cons (pe_dget hu (pv 1) (pv 6) (fun _ _ => rfl)) pa_nil)) (by rfl))
    (pss_one (ps_dput hu (pv 3) (pv 4) (pe_tup (pa_cons (pe_call (ok_minus ev) (hr.mono (by decide)) (by rfl) ev.A_minus.m ev.A_minus.F.kp ev.A_minus.b .nil pass0 (pa_cons (pe_call (ok_minus ev) (hr.mono (by decide)) (by rfl) ev.A_minus.m ev.A_minus.F.kp ev.A_minus.b .nil pass0 (pa_cons (pe_ix ix_tup (pv 11) pe_int (fun _ _ => rfl)) (pa_cons (pe_ix ix_tup (pv 10) pe_int (fun _ _ => rfl)) pa_nil))) (pa_cons (pe_tup (pa_cons (pv 7) (pa_cons pe_int pa_nil))) pa_nil))) (pa_cons (pe_call (ok_minus ev) (hr.mono (by decide)) (by rfl) ev.A_minus.m ev.A_minus.F.kp ev.A_minus.b .nil pass0 (pa_cons (pe_call (ok_minus ev) (hr.mono (by decide)) (by rfl) ev.A_minus.m ev.A_minus.F.kp ev.A_minus.b .nil pass0 (pa_cons (pe_ix ix_tup (pv 11) pe_int (fun _ _ => rfl)) (pa_cons (pe_ix ix_tup (pv 10) pe_int (fun _ _ => rfl)) pa_nil))) (pa_cons (pe_tup (pa_cons (pv 8) (pa_cons pe_int pa_nil))) pa_nil))) pa_nil))) rfl))) pss_nil)))))
    (pss_one (ps_ret (pv 3)))))), ?_⟩
  obtain ⟨dx, a1, a2, ms, hp, h1, h2, hrest⟩ := id hS
  refine seq_asg ⟨_, rfl, p, dx, _, rfl, hp, sfl_no _ _ (by decide +kernel) (by decide +kernel), p, ks, rs, rfl, hS, fun d nd => ?_⟩
  refine seq_asg (fun t nt => ?_)
  have sd : Same H (upd H d (.dK (rdv rs))) := same_upd nd
  have dt : d ≠ t := ne_of_none upd_same nt
  have st : Same H (upd (upd H d (.dK (rdv rs))) t (.dK [])) := sd.trans (same_upd nt)
  have hd1 : (upd (upd H d (.dK (rdv rs))) t (.dK [])) d = some (.dK (rdv rs)) := by rw [upd_ne dt, upd_same]
  have ht1 : (upd (upd H d (.dK (rdv rs))) t (.dK [])) t = some (.dK []) := upd_same
  have ntH : H t = none := sd.free nt
  generalize upd (upd H d (.dK (rdv rs))) t (.dK []) = H1 at st hd1 ht1
  refine ⟨d, _, hd1, trivial, fun od => ?_⟩
  refine ⟨_, rfl, d, od, rfl, .inl ⟨_, upd_same, ?_⟩⟩
  have nfH : ∀ a o, H a = some o → a ≠ d := fun a o e => ne_of_none e nd
  refine for_keys (fun i σ H2 => H2 d = some (.frz od (.dK (rdv rs))) ∧ Same H H2 ∧ ∃ ts y4 y5 y6 y7 y8 y9 y10 y11, σ = [some (.ref p), some (.ref pl), some (.ref d), some (.ref t), y4, y5, y6, y7, y8, y9, y10, y11] ∧ H2 t = some (.dK (rdv ts)) ∧ RestIn H2 pf rf ((rs.take i).filter (selP ps rf)) ts)
    ⟨upd_same, fun a o e => by rw [upd_ne (nfH a o e)]; exact st _ _ e, [], none, none, none, none, none, none, none, none, rfl, by rw [upd_ne dt.symm]; exact ht1, ⟨rfl, fun i p q e => by simp at e⟩⟩ (fun i σ H2 _ h => h.1) ?_ ?_
  · rintro i k v σ H2 hi ⟨hd2, s2, ts, y4, y5, y6, y7, y8, y9, y10, y11, rfl, ht2, hR⟩
    obtain ⟨n, rfl, hri⟩ : ∃ n : Int, k = Sum.inl n ∧ rs[i]? = some (n, v) := by
      unfold rdv at hi
      rw [List.getElem?_map] at hi
      cases e : rs[i]? with
      | none => rw [e] at hi; cases hi
      | some y => rw [e] at hi; cases hi; exact ⟨y.1, rfl, rfl⟩
    have hin := List.mem_of_getElem? hri
    have tk : rs.take (i + 1) = rs.take i ++ [(n, v)] := by rw [List.take_add_one, hri]; rfl
    have il := (List.getElem?_eq_some_iff.mp hri).1
    obtain ⟨w, hvw, htw, o1, o2, hne, a0, a1, h0, h1, w0, w1⟩ := hD _ hin
    dsimp only at hvw htw o1 o2 hne a0 a1 h0 h1 w0 w1
    have no : selP ps rf (n, v) = false → (rs.take (i + 1)).filter (selP ps rf) = (rs.take i).filter (selP ps rf) := fun z => by
      rw [tk, List.filter_append, List.filter_cons, z]
      simp
    have yes : selP ps rf (n, v) = true → (rs.take (i + 1)).filter (selP ps rf) = (rs.take i).filter (selP ps rf) ++ [(n, v)] := fun z => by
      rw [tk, List.filter_append, List.filter_cons, z]
      simp
    refine ⟨_, rfl, _, rfl, d, v, rfl, .inl ⟨_, Sum.inl n, .inr ⟨od, hd2⟩, rfl, (rdv_val rnd hin).symm⟩, w, _, hvw, SqT.of (s2 _ _ htw), rfl, _, _, rfl, _, _, rfl, _, _, rfl, _, _, rfl, _, _, rfl, rfl, ?_⟩
    refine ⟨_, rfl, _, rfl, pl, _, rfl, DGet.k (k := Sum.inr (rf v).one) (s2 _ _ hpl), _, rfl, ?_⟩
    by_cases c1 : (rf v).one ∈ ps.map (·.1)
    rotate_left
    · rw [pl_none c1]
      refine iteF (iteF ?_)
      exact ⟨hd2, s2, ts, _, _, _, _, _, _, _, _, rfl, ht2, by rw [no (by unfold selP; rw [decide_eq_false c1]; rfl)]; exact hR⟩
    obtain ⟨v1, hv1⟩ := find_pl c1
    have g1 := mkv_val hP.nd hv1
    dsimp only at g1
    rw [g1]
    refine iteT ?_
    refine ⟨_, rfl, _, rfl, pl, _, rfl, DGet.k (k := Sum.inr (rf v).two) (s2 _ _ hpl), _, rfl, ?_⟩
    by_cases c2 : (rf v).two ∈ ps.map (·.1)
    rotate_left
    · rw [pl_none c2]
      refine iteF ?_
      exact ⟨hd2, s2, ts, _, _, _, _, _, _, _, _, rfl, ht2, by rw [no (by unfold selP; rw [decide_eq_false c2, Bool.and_false])]; exact hR⟩
    obtain ⟨v2, hv2⟩ := find_pl c2
    have g2 := mkv_val hP.nd hv2
    dsimp only at g2
    rw [g2]
    refine iteT ?_
    obtain ⟨sa, esa, ⟨f0, f1, hSa, hF0, hF1⟩, bF0, bF1⟩ := hP.val _ hv1
    obtain ⟨ea, eea, ⟨e0, e1, hEa, hE0, hE1⟩, bE0, bE1⟩ := hP.val _ hv2
    dsimp only at esa hF0 hF1 bF0 bF1 eea hE0 hE1 bE0 bE1
    subst esa eea
    have dg1 : DGet H2 pl (.str (rf v).one) (some (.ref sa)) := by rw [← g1]; exact DGet.k (k := Sum.inr (rf v).one) (s2 _ _ hpl)
    have dg2 : DGet H2 pl (.str (rf v).two) (some (.ref ea)) := by rw [← g2]; exact DGet.k (k := Sum.inr (rf v).two) (s2 _ _ hpl)
    refine ⟨_, rfl, _, rfl, pl, _, rfl, dg1, _, rfl, _, rfl, pl, _, rfl, dg2, _, _, rfl, ?_⟩
    have teX : Same H H2 := s2
    · refine ⟨_, rfl, ea, _, _, _, rfl, rfl, SqT.of (s2 _ _ hEa), atI_nat (j := 0) rfl, _, rfl, sa, _, _, _, rfl, rfl, SqT.of (s2 _ _ hSa), atI_nat (j := 0) rfl, e0, f0, _, _, rfl, SqT.of (teX _ _ hE0), SqT.of (teX _ _ hF0), bE0.le (by decide), bF0.le (by decide), fun u1 nu1 => ?_⟩
      have saX : Same H2 (upd H2 u1 (.tup [.int (difR (pf (rf v).two).1 (pf (rf v).one).1).1, .int (difR (pf (rf v).two).1 (pf (rf v).one).1).2])) := same_upd nu1
      have raX : RatAt (upd H2 u1 (.tup [.int (difR (pf (rf v).two).1 (pf (rf v).one).1).1, .int (difR (pf (rf v).two).1 (pf (rf v).one).1).2])) u1 (difR (pf (rf v).two).1 (pf (rf v).one).1) := upd_same
      generalize upd H2 u1 (.tup [.int (difR (pf (rf v).two).1 (pf (rf v).one).1).1, .int (difR (pf (rf v).two).1 (pf (rf v).one).1).2]) = HAX at saX raX
      refine ⟨_, rfl, two, fun u2 nu2 => ?_⟩
      have scX : Same HAX (upd HAX u2 (.tup [.int (rf v).ac, .int 1])) := same_upd nu2
      have rcX : RatAt (upd HAX u2 (.tup [.int (rf v).ac, .int 1])) u2 ((rf v).ac, 1) := upd_same
      generalize upd HAX u2 (.tup [.int (rf v).ac, .int 1]) = HBX at scX rcX
      refine ⟨u1, u2, (difR (pf (rf v).two).1 (pf (rf v).one).1), ((rf v).ac, 1), rfl, SqT.of (scX _ _ raX), SqT.of rcX, (bE0.dif bF0).le (by decide), (bn10 (by omega) (by omega)).le (by decide), fun u3X nu3 => ?_⟩
      have sbX : Same H2 (upd HBX u3X (.tup [.int (difR (difR (pf (rf v).two).1 (pf (rf v).one).1) ((rf v).ac, 1)).1, .int (difR (difR (pf (rf v).two).1 (pf (rf v).one).1) ((rf v).ac, 1)).2])) := saX.trans (scX.trans (same_upd nu3))
      have rbX : RatAt (upd HBX u3X (.tup [.int (difR (difR (pf (rf v).two).1 (pf (rf v).one).1) ((rf v).ac, 1)).1, .int (difR (difR (pf (rf v).two).1 (pf (rf v).one).1) ((rf v).ac, 1)).2])) u3X (difR (difR (pf (rf v).two).1 (pf (rf v).one).1) ((rf v).ac, 1)) := upd_same
      generalize upd HBX u3X (.tup [.int (difR (difR (pf (rf v).two).1 (pf (rf v).one).1) ((rf v).ac, 1)).1, .int (difR (difR (pf (rf v).two).1 (pf (rf v).one).1) ((rf v).ac, 1)).2]) = H3 at sbX rbX
      have teY : Same H H3 := s2.trans sbX
      refine ⟨_, rfl, ea, _, _, _, rfl, rfl, SqT.of (teY _ _ hEa), atI_nat (j := 1) rfl, _, rfl, sa, _, _, _, rfl, rfl, SqT.of (teY _ _ hSa), atI_nat (j := 1) rfl, e1, f1, _, _, rfl, SqT.of (teY _ _ hE1), SqT.of (teY _ _ hF1), bE1.le (by decide), bF1.le (by decide), fun u1 nu1 => ?_⟩
      have saY : Same H3 (upd H3 u1 (.tup [.int (difR (pf (rf v).two).2 (pf (rf v).one).2).1, .int (difR (pf (rf v).two).2 (pf (rf v).one).2).2])) := same_upd nu1
      have raY : RatAt (upd H3 u1 (.tup [.int (difR (pf (rf v).two).2 (pf (rf v).one).2).1, .int (difR (pf (rf v).two).2 (pf (rf v).one).2).2])) u1 (difR (pf (rf v).two).2 (pf (rf v).one).2) := upd_same
      generalize upd H3 u1 (.tup [.int (difR (pf (rf v).two).2 (pf (rf v).one).2).1, .int (difR (pf (rf v).two).2 (pf (rf v).one).2).2]) = HAY at saY raY
      refine ⟨_, rfl, two, fun u2 nu2 => ?_⟩
      have scY : Same HAY (upd HAY u2 (.tup [.int (rf v).hi, .int 1])) := same_upd nu2
      have rcY : RatAt (upd HAY u2 (.tup [.int (rf v).hi, .int 1])) u2 ((rf v).hi, 1) := upd_same
      generalize upd HAY u2 (.tup [.int (rf v).hi, .int 1]) = HBY at scY rcY
      refine ⟨u1, u2, (difR (pf (rf v).two).2 (pf (rf v).one).2), ((rf v).hi, 1), rfl, SqT.of (scY _ _ raY), SqT.of rcY, (bE1.dif bF1).le (by decide), (bn10 (by omega) (by omega)).le (by decide), fun u3Y nu3 => ?_⟩
      have sbY : Same H3 (upd HBY u3Y (.tup [.int (difR (difR (pf (rf v).two).2 (pf (rf v).one).2) ((rf v).hi, 1)).1, .int (difR (difR (pf (rf v).two).2 (pf (rf v).one).2) ((rf v).hi, 1)).2])) := saY.trans (scY.trans (same_upd nu3))
      have rbY : RatAt (upd HBY u3Y (.tup [.int (difR (difR (pf (rf v).two).2 (pf (rf v).one).2) ((rf v).hi, 1)).1, .int (difR (difR (pf (rf v).two).2 (pf (rf v).one).2) ((rf v).hi, 1)).2])) u3Y (difR (difR (pf (rf v).two).2 (pf (rf v).one).2) ((rf v).hi, 1)) := upd_same
      generalize upd HBY u3Y (.tup [.int (difR (difR (pf (rf v).two).2 (pf (rf v).one).2) ((rf v).hi, 1)).1, .int (difR (difR (pf (rf v).two).2 (pf (rf v).one).2) ((rf v).hi, 1)).2]) = H4 at sbY rbY
      refine ⟨two, fun tt ntt => ?_⟩
      have ht4 : H4 t = some (.dK (rdv ts)) := sbY _ _ (sbX _ _ ht2)
      have hd4 : H4 d = some (.frz od (.dK (rdv rs))) := sbY _ _ (sbX _ _ hd2)
      have ttt : t ≠ tt := ne_of_none ht4 ntt
      have ttd : d ≠ tt := ne_of_none hd4 ntt
      have ht5 : (upd H4 tt (.tup [.ref u3X, .ref u3Y])) t = some (.dK (rdv ts)) := by rw [upd_ne ttt]; exact ht4
      have hsp : SpotAt (upd H4 tt (.tup [.ref u3X, .ref u3Y])) tt (restR pf (rf v)) := ⟨u3X, u3Y, upd_same, same_upd ntt _ _ (sbY _ _ rbX), same_upd ntt _ _ rbY⟩
      have s5 : Same H2 (upd H4 tt (.tup [.ref u3X, .ref u3Y])) := sbX.trans (sbY.trans (same_upd ntt))
      have lts : ts.length ≤ 60 := by
        have z := congrArg List.length hR.key
        rw [List.length_map, List.length_map] at z
        have z2 := List.length_filter_le (selP ps rf) (rs.take i)
        rw [List.length_take] at z2
        omega
      have nn : n ∉ ts.map (·.1) := by
        rw [hR.key]
        intro hm
        obtain ⟨q', hq', eq'⟩ := List.mem_map.mp hm
        have nd2 := rnd
        rw [← List.take_append_drop (i + 1) rs, tk, List.append_assoc, List.map_append, List.nodup_append] at nd2
        exact nd2.2.2 n (List.mem_map.mpr ⟨q', (List.mem_filter.mp hq').1, eq'⟩) n (by simp) rfl
      refine ⟨_, rfl, _, rfl, t, _, rfl, DPut.k (k := Sum.inl n) ht5 (by unfold rdv; rw [List.length_map]; exact small1000 (by omega)), ?_⟩
      rw [putK_new _ (valV_none (rdv_no nn)), rdv_app]
      have tu6 : Tups (upd H4 tt (.tup [.ref u3X, .ref u3Y])) (upd (upd H4 tt (.tup [.ref u3X, .ref u3Y])) t (.dK (rdv (ts ++ [(n, .ref tt)])))) := tups_upd ht5 (fun xs z => nomatch z)
      refine ⟨by rw [upd_ne dt, upd_ne ttd]; exact hd4, fun a o e => ?_, ts ++ [(n, .ref tt)], _, _, _, _, _, _, _, _, rfl, upd_same, ?_⟩
      · rw [upd_ne (ne_of_none e ntH)]
        exact s5 _ _ (s2 _ _ e)
      · rw [yes (by unfold selP; rw [decide_eq_true c1, decide_eq_true c2]; rfl)]
        exact (hR.mono ((tups_same s5).trans tu6)).app (p := (n, v)) (hsp.mono tu6)
  · rintro σ H2 ⟨hd2, s2, ts, y4, y5, y6, y7, y8, y9, y10, y11, rfl, ht2, hR⟩
    refine ⟨hd2, _, rfl, ?_⟩
    have e : (rdv rs).length = rs.length := by unfold rdv; rw [List.length_map]
    rw [e, List.take_length] at hR
    have tu : Tups H2 (upd H2 d (.dK (rdv rs))) := tups_upd hd2 (fun xs z => nomatch z)
    refine q t ts _ ntH (by rw [upd_ne dt.symm]; exact ht2) (hR.mono tu) fun a o e => ?_
    rw [upd_ne (nfH a o e)]
    exact s2 _ _ e

def sqR (s : Spot) : Int × Int := addR (mulR s.1 s.1) (mulR s.2 s.2)
def stepR (pf : Str → Spot) (rf : V → RData) (tot : Int × Int) (p : Int × V) : Int × Int := addR tot (mulR ((rf p.2).wt, 1) (sqR (restR pf (rf p.2))))
theorem bn4 {x : Int} (h0 : 1 ≤ x) (h1 : x ≤ 9) : Bn 4 (x, 1) := ⟨by show x.natAbs < 2 ^ 4; omega, by show (1 : Int).natAbs < 2 ^ 4; decide, by show (0 : Int) < 1; decide⟩
theorem bn01 : Bn 1 ((0, 1) : Int × Int) := ⟨by decide, by decide, by decide⟩
theorem rest_bn {pf : Str → Spot} {d : RData} (h1 : Bn 20 (pf d.one).1 ∧ Bn 20 (pf d.one).2) (h2 : Bn 20 (pf d.two).1 ∧ Bn 20 (pf d.two).2) (a0 : -999 ≤ d.ac) (a1 : d.ac ≤ 999) (b0 : -999 ≤ d.hi) (b1 : d.hi ≤ 999) : Bn 52 (restR pf d).1 ∧ Bn 52 (restR pf d).2 :=
  ⟨(h2.1.dif h1.1).dif (bn10 a0 a1), (h2.2.dif h1.2).dif (bn10 b0 b1)⟩
theorem sq_bn {s : Spot} (h : Bn 52 s.1 ∧ Bn 52 s.2) : Bn 209 (sqR s) := (h.1.mul h.1).add (h.2.mul h.2)
theorem sel_bn {H : Hp} {ps : List (Str × V)} {pf : Str → Spot} {rf : V → RData} {zs : List Str} {p : Int × V} (hP : PlacIn H ps pf) (hD : DatV H zs p.2 (rf p.2)) (hs : selP ps rf p = true) : Bn 52 (restR pf (rf p.2)).1 ∧ Bn 52 (restR pf (rf p.2)).2 := by
  unfold selP at hs
  rw [Bool.and_eq_true] at hs
  obtain ⟨v1, hv1⟩ := find_pl (of_decide_eq_true hs.1)
  obtain ⟨v2, hv2⟩ := find_pl (of_decide_eq_true hs.2)
  obtain ⟨_, _, _, x1⟩ := hP.val _ hv1
  obtain ⟨_, _, _, x2⟩ := hP.val _ hv2
  obtain ⟨_, _, _, _, _, _, a0, a1, h0, h1, _⟩ := hD
  exact rest_bn x1 x2 a0 a1 h0 h1
theorem step_bn {n : Nat} {pf : Str → Spot} {rf : V → RData} {tot : Int × Int} {p : Int × V} (h : Bn n tot) (hr : Bn 52 (restR pf (rf p.2)).1 ∧ Bn 52 (restR pf (rf p.2)).2) (w0 : 1 ≤ (rf p.2).wt) (w1 : (rf p.2).wt ≤ 9) : Bn (n + 214) (stepR pf rf tot p) :=
  (h.add ((bn4 w0 w1).mul (sq_bn hr))).le (by omega)
theorem sqT_unlock {K : PySem.W.Frag} {H : Hp} {t a : Addr} {od : Obj} {kvs : List (Key × V)} {o : HO} {xs : List V} (ht : H t = some (.frz od (.dK kvs))) (h : SqT K H a xs) : SqT K (upd H t o) a xs := by
  rcases h with (h | ⟨oo, h⟩) | h
  · have n : a ≠ t := fun z => by rw [z, ht] at h; cases h
    exact .inl (.inl (by rw [upd_ne n]; exact h))
  · have n : a ≠ t := fun z => by rw [z, ht] at h; cases h
    exact .inl (.inr ⟨oo, by rw [upd_ne n]; exact h⟩)
  · exact .inr h
def spCost (C : Addr) (K : PySem.W.Frag) : Sp := fun vs H Q _ => ∃ (p pl : Addr) (ks ps : List (Str × V)) (rs : List (Int × V)) (zs : List Str) (pf : Str → Spot) (rf : V → RData), vs = [.ref p, .ref pl] ∧ SurvAt C H p ks rs ∧ (rs.map (·.1)).Nodup ∧ rs.length ≤ 18 ∧ H pl = some (.dK (mkv ps)) ∧ PlacIn H ps pf ∧ (∀ q ∈ rs, DatV H zs q.2 (rf q.2)) ∧
  ∀ (t : Addr) (H' : Hp), SqT K H' t [.int ((rs.filter (selP ps rf)).foldl (stepR pf rf) (0, 1)).1, .int ((rs.filter (selP ps rf)).foldl (stepR pf rf) (0, 1)).2] → Same H H' → Q (.ref t) H'
theorem ok_cost (ev : Env K mg) : FnOk P w K mg base CX0 5 ev.f_cost ev.d_cost p_cost (spCost ev.C_Survey K) := by
  refine ev.A_cost.F.ok sc_cost (fun vs H Q E h => ?_) (fun cdv A outer s H vs Q E hr h => ?_)
  · obtain ⟨p, pl, ks, ps, rs, zs, pf, rf, rfl, _⟩ := h
    rfl
  obtain ⟨p, pl, ks, ps, rs, zs, pf, rf, rfl, hS, rnd, r18, hpl, hP, hD, q⟩ := h
  have hu := hu_of hr
  refine ⟨_, (pss_cons (ps_set (i := 2) sc_cost.nd rfl (Or.inl rfl) (pe_meth0 (pv 0) ev.cl_Survey ev.A_Survey_readings.me (ok_Survey_readings ev) (hr.mono (by decide)) ev.A_Survey_readings.b .nil pass0))
    (pss_cons (ps_set (i := 3) sc_cost.nd rfl (Or.inl rfl) (pe_call (ok_rests ev) (hr.mono (by decide)) (by rfl) ev.A_rests.m ev.A_rests.F.kp ev.A_rests.b .nil pass0 (pa_cons (pv 0) (pa_cons (pv 1) pa_nil))))
    (pss_cons (ps_set (i := 4) sc_cost.nd rfl (Or.inl rfl) (pe_glob (v := .ref ev.a_NOUGHT) (by rfl) ev.c_NOUGHT rfl))
    (pss_cons (ps_lock (ps_for PassesOwn.never rfl (pi_keys (pv 3)) (pg_name (i := 5) sc_cost.nd rfl (Or.inl rfl))
    (pss_cons (ps_asg (pe_dget hu (pv 3) (pv 5) (fun _ _ => rfl)) (pg_tup rfl (pgs_cons (pg_name (i := 6) sc_cost.nd rfl (Or.inl rfl)) (pgs_cons (pg_name (i := 7) sc_cost.nd rfl (Or.inl rfl)) pgs_nil))))
    (pss_cons (ps_set (i := 8) sc_cost.nd rfl (Or.inl rfl) (pe_call (ok_plus ev) (hr.mono (by decide)) (by rfl) ev.A_plus.m ev.A_plus.F.kp ev.A_plus.b .nil pass0 (pa_cons (pe_call (ok_times ev) (hr.mono (by decide)) (by rfl) ev.A_times.m ev.A_times.F.kp ev.A_times.b .nil pass0 (pa_cons (pv 6) (pa_cons (pv 6) pa_nil))) (pa_cons (pe_call (ok_times ev) (hr.mono (by decide)) (by rfl) ev.A_times.m ev.A_times.F.kp ev.A_times.b .nil pass0 (pa_cons (pv 7) (pa_cons (pv 7) pa_nil))) pa_nil))))
    (pss_one (ps_set (i := 4) sc_cost.nd rfl (Or.inl rfl) (pe_call (ok_plus ev) (hr.mono (by decide)) (by rfl) ev.A_plus.m ev.A_plus.F.kp ev.A_plus.b .nil pass0 (pa_cons (pv 4) (pa_cons (pe_call (ok_times ev) (hr.mono (by decide)) (by rfl) ev.A_times.m ev.A_times.F.kp ev.A_times.b .nil pass0 (pa_cons (pe_tup (pa_cons (pe_ix ix_tup (pe_dget hu (pv 2) (pv 5) (fun _ _ => rfl)) pe_int (fun _ _ => rfl)) (pa_cons pe_int pa_nil))) (pa_cons (pv 8) pa_nil))) pa_nil)))))))))
    (pss_one (ps_ret (pv 4))))))), ?_⟩
  obtain ⟨dx, a1, a2, ms, hp, h1, h2, hrest⟩ := id hS
  refine seq_asg ⟨_, rfl, p, dx, _, rfl, hp, sfl_no _ _ (by decide +kernel) (by decide +kernel), p, ks, rs, rfl, hS, fun d nd => ?_⟩
  have s1 : Same H (upd H d (.dK (rdv rs))) := same_upd nd
  have hd1 : (upd H d (.dK (rdv rs))) d = some (.dK (rdv rs)) := upd_same
  generalize upd H d (.dK (rdv rs)) = H1 at s1 hd1
  refine seq_asg ⟨_, rfl, _, rfl, p, pl, ks, ps, rs, zs, pf, rf, rfl, hS.same s1, rnd, by omega, s1 _ _ hpl, hP.mono (tups_same s1), fun a ha => (hD a ha).mono (tups_same s1), fun t ts H2 nt ht hR s2 => ?_⟩
  refine seq_c ?_
  have dt : d ≠ t := ne_of_none hd1 nt
  have s02 : Same H H2 := s1.trans s2
  have ntH : H t = none := s1.free nt
  have hd2 := s2 _ _ hd1
  have P2 := hP.mono (tups_same s02)
  have kl : ts.length = (rs.filter (selP ps rf)).length := by
    have := congrArg List.length hR.key
    rw [List.length_map, List.length_map] at this
    exact this
  have l18 : (rs.filter (selP ps rf)).length ≤ 18 := Nat.le_trans (List.length_filter_le _ _) r18
  have tnd : (ts.map (·.1)).Nodup := by
    rw [hR.key]
    exact List.Sublist.nodup (List.Sublist.map _ List.filter_sublist) rnd
  generalize hL : rs.filter (selP ps rf) = L at *
  refine ⟨t, _, ht, trivial, fun od => ?_⟩
  refine ⟨_, rfl, t, od, rfl, .inl ⟨_, upd_same, ?_⟩⟩
  refine for_keys (fun i σ H3 => H3 t = some (.frz od (.dK (rdv ts))) ∧ (∀ a o, H2 a = some o → a ≠ t → H3 a = some o) ∧ ∃ tt y5 y6 y7 y8, σ = [some (.ref p), some (.ref pl), some (.ref d), some (.ref t), some (.ref tt), y5, y6, y7, y8] ∧ SqT K H3 tt [.int ((L.take i).foldl (stepR pf rf) (0, 1)).1, .int ((L.take i).foldl (stepR pf rf) (0, 1)).2] ∧ Bn (1 + 214 * i) ((L.take i).foldl (stepR pf rf) (0, 1)))
    ⟨upd_same, fun a o e n => by rw [upd_ne n]; exact e, ev.a_NOUGHT, none, none, none, none, rfl, ev.q_NOUGHT _, bn01⟩ (fun i σ H3 _ h => h.1) ?_ ?_
  · rintro i k v σ H3 hi ⟨ht3, f3, tt, y5, y6, y7, y8, rfl, hT, hbn⟩
    obtain ⟨n, rfl, hti⟩ : ∃ n : Int, k = Sum.inl n ∧ ts[i]? = some (n, v) := by
      unfold rdv at hi
      rw [List.getElem?_map] at hi
      cases e : ts[i]? with
      | none => rw [e] at hi; cases hi
      | some y => rw [e] at hi; cases hi; exact ⟨y.1, rfl, rfl⟩
    have il := (List.getElem?_eq_some_iff.mp hti).1
    obtain ⟨pp, hLi⟩ : ∃ pp, L[i]? = some pp := ⟨_, List.getElem?_eq_getElem (show i < L.length by omega)⟩
    have hpn : pp.1 = n := by
      have z1 : (ts.map (·.1))[i]? = some n := by rw [List.getElem?_map, hti]; rfl
      rw [hR.key, List.getElem?_map, hLi] at z1
      exact Option.some.inj z1
    have hpL := List.mem_of_getElem? hLi
    rw [← hL] at hpL
    obtain ⟨hpr, hps⟩ := List.mem_filter.mp hpL
    have bR := sel_bn hP (hD _ hpr) hps
    obtain ⟨wv, hpw, htw, o1, o2, hne, c0, c1, g0, g1, w0, w1⟩ := hD _ hpr
    obtain ⟨t1, hv, x1, x2, hsp, hx, hy⟩ := hR.val i _ _ hLi hti
    dsimp only at hv
    have tup3 : Tups H2 H3 := fun a xs e => f3 _ _ e (fun z => by rw [z, ht] at e; cases e)
    have tk : L.take (i + 1) = L.take i ++ [pp] := by rw [List.take_add_one, hLi]; rfl
    -- x, y = left[number]
    refine ⟨_, rfl, _, rfl, t, v, rfl, .inl ⟨_, Sum.inl n, .inr ⟨od, ht3⟩, rfl, (rdv_val tnd (List.mem_of_getElem? hti)).symm⟩, t1, _, hv, SqT.of (tup3 _ _ hsp), rfl, _, _, rfl, _, _, rfl, rfl, ?_⟩
    have hx3 := tup3 _ _ hx
    have hy3 := tup3 _ _ hy
    -- squares
    refine nx_u ?_
    refine seq_asg ⟨_, rfl, _, rfl, x1, x1, _, _, rfl, SqT.of hx3, SqT.of hx3, bR.1.le (by decide), bR.1.le (by decide), fun u1 n1 => ?_⟩
    have sa : Same H3 (upd H3 u1 (.tup [.int (mulR (restR pf (rf pp.2)).1 (restR pf (rf pp.2)).1).1, .int (mulR (restR pf (rf pp.2)).1 (restR pf (rf pp.2)).1).2])) := same_upd n1
    have ra : RatAt (upd H3 u1 (.tup [.int (mulR (restR pf (rf pp.2)).1 (restR pf (rf pp.2)).1).1, .int (mulR (restR pf (rf pp.2)).1 (restR pf (rf pp.2)).1).2])) u1 (mulR (restR pf (rf pp.2)).1 (restR pf (rf pp.2)).1) := upd_same
    generalize upd H3 u1 (.tup [.int (mulR (restR pf (rf pp.2)).1 (restR pf (rf pp.2)).1).1, .int (mulR (restR pf (rf pp.2)).1 (restR pf (rf pp.2)).1).2]) = HA at sa ra
    refine ⟨_, rfl, _, rfl, x2, x2, _, _, rfl, SqT.of (sa _ _ hy3), SqT.of (sa _ _ hy3), bR.2.le (by decide), bR.2.le (by decide), fun u2 n2 => ?_⟩
    have sb : Same HA (upd HA u2 (.tup [.int (mulR (restR pf (rf pp.2)).2 (restR pf (rf pp.2)).2).1, .int (mulR (restR pf (rf pp.2)).2 (restR pf (rf pp.2)).2).2])) := same_upd n2
    have rb : RatAt (upd HA u2 (.tup [.int (mulR (restR pf (rf pp.2)).2 (restR pf (rf pp.2)).2).1, .int (mulR (restR pf (rf pp.2)).2 (restR pf (rf pp.2)).2).2])) u2 (mulR (restR pf (rf pp.2)).2 (restR pf (rf pp.2)).2) := upd_same
    generalize upd HA u2 (.tup [.int (mulR (restR pf (rf pp.2)).2 (restR pf (rf pp.2)).2).1, .int (mulR (restR pf (rf pp.2)).2 (restR pf (rf pp.2)).2).2]) = HB at sb rb
    refine ⟨u1, u2, _, _, rfl, SqT.of (sb _ _ ra), SqT.of rb, (bR.1.mul bR.1).le (by decide), (bR.2.mul bR.2).le (by decide), fun u3 n3 => ?_⟩
    have sc : Same HB (upd HB u3 (.tup [.int (addR (mulR (restR pf (rf pp.2)).1 (restR pf (rf pp.2)).1) (mulR (restR pf (rf pp.2)).2 (restR pf (rf pp.2)).2)).1, .int (addR (mulR (restR pf (rf pp.2)).1 (restR pf (rf pp.2)).1) (mulR (restR pf (rf pp.2)).2 (restR pf (rf pp.2)).2)).2])) := same_upd n3
    have rc : RatAt (upd HB u3 (.tup [.int (addR (mulR (restR pf (rf pp.2)).1 (restR pf (rf pp.2)).1) (mulR (restR pf (rf pp.2)).2 (restR pf (rf pp.2)).2)).1, .int (addR (mulR (restR pf (rf pp.2)).1 (restR pf (rf pp.2)).1) (mulR (restR pf (rf pp.2)).2 (restR pf (rf pp.2)).2)).2])) u3 (sqR (restR pf (rf pp.2))) := upd_same
    generalize upd HB u3 (.tup [.int (addR (mulR (restR pf (rf pp.2)).1 (restR pf (rf pp.2)).1) (mulR (restR pf (rf pp.2)).2 (restR pf (rf pp.2)).2)).1, .int (addR (mulR (restR pf (rf pp.2)).1 (restR pf (rf pp.2)).1) (mulR (restR pf (rf pp.2)).2 (restR pf (rf pp.2)).2)).2]) = HC at sc rc
    have s3C : Same H3 HC := sa.trans (sb.trans sc)
    have hdC : HC d = some (.dK (rdv rs)) := s3C _ _ (f3 _ _ hd2 dt)
    have hwC : HC wv = some (.tup [.str (rf pp.2).one, .str (rf pp.2).two, .int (rf pp.2).ac, .int (rf pp.2).hi, .int (rf pp.2).wt]) := s3C _ _ (tup3 _ _ (s02 _ _ htw))
    have dg : DGet HC d (.int n) (some (.ref wv)) := by
      have z := rdv_val rnd hpr
      rw [hpn, hpw] at z
      rw [← z]
      exact DGet.k (k := Sum.inl n) hdC
    refine ⟨_, rfl, _, rfl, _, rfl, d, _, rfl, dg, wv, _, _, _, rfl, rfl, SqT.of hwC, atI_nat (j := 4) rfl, two, fun u4 n4 => ?_⟩
    have sd : Same HC (upd HC u4 (.tup [.int (rf pp.2).wt, .int 1])) := same_upd n4
    have rd : RatAt (upd HC u4 (.tup [.int (rf pp.2).wt, .int 1])) u4 ((rf pp.2).wt, 1) := upd_same
    generalize upd HC u4 (.tup [.int (rf pp.2).wt, .int 1]) = HD at sd rd
    refine ⟨_, rfl, u4, u3, ((rf pp.2).wt, 1), sqR (restR pf (rf pp.2)), rfl, SqT.of rd, SqT.of (sd _ _ rc), (bn4 w0 w1).le (by decide), (sq_bn bR).le (by decide), fun u5 n5 => ?_⟩
    have se : Same HD (upd HD u5 (.tup [.int (mulR ((rf pp.2).wt, 1) (sqR (restR pf (rf pp.2)))).1, .int (mulR ((rf pp.2).wt, 1) (sqR (restR pf (rf pp.2)))).2])) := same_upd n5
    have re : RatAt (upd HD u5 (.tup [.int (mulR ((rf pp.2).wt, 1) (sqR (restR pf (rf pp.2)))).1, .int (mulR ((rf pp.2).wt, 1) (sqR (restR pf (rf pp.2)))).2])) u5 (mulR ((rf pp.2).wt, 1) (sqR (restR pf (rf pp.2)))) := upd_same
    generalize upd HD u5 (.tup [.int (mulR ((rf pp.2).wt, 1) (sqR (restR pf (rf pp.2)))).1, .int (mulR ((rf pp.2).wt, 1) (sqR (restR pf (rf pp.2)))).2]) = HE at se re
    have s3E : Same H3 HE := s3C.trans (sd.trans se)
    refine ⟨tt, u5, (L.take i).foldl (stepR pf rf) (0, 1), mulR ((rf pp.2).wt, 1) (sqR (restR pf (rf pp.2))), rfl, sqT_up (up_same s3E) hT, SqT.of re, hbn.le (by omega), ((bn4 w0 w1).mul (sq_bn bR)).le (by decide), fun u6 n6 => ?_⟩
    have e6 : (L.take (i + 1)).foldl (stepR pf rf) (0, 1) = addR ((L.take i).foldl (stepR pf rf) (0, 1)) (mulR ((rf pp.2).wt, 1) (sqR (restR pf (rf pp.2)))) := by
      rw [tk, List.foldl_append]
      rfl
    refine ⟨same_upd n6 _ _ (s3E _ _ ht3), fun a o e n => same_upd n6 _ _ (s3E _ _ (f3 _ _ e n)), u6, _, _, _, _, rfl, ?_, ?_⟩
    · rw [e6]
      exact SqT.of upd_same
    · rw [e6]
      exact (step_bn hbn bR w0 w1).le (by omega)
  · rintro σ H3 ⟨ht3, f3, tt, y5, y6, y7, y8, rfl, hT, hbn⟩
    have e : (rdv ts).length = L.length := by unfold rdv; rw [List.length_map]; exact kl
    rw [e, List.take_length] at hT
    refine ⟨ht3, _, rfl, q tt _ ?_ fun a o e => ?_⟩
    · exact sqT_unlock ht3 hT
    · rw [upd_ne (ne_of_none e ntH)]
      exact f3 _ _ (s02 _ _ e) (ne_of_none e ntH)

/-! ### drawn spots -/
def spRatio1 : Sp := fun vs H Q _ => ∃ (b c : Addr) (m : Int), vs = [.ref b, .int m] ∧ Bag H b c ∧ 0 ≤ m ∧ m ≤ 8000 ∧ ∀ (t : Addr) (r : Int × Int) (H' : Hp), H t = none → RatAt H' t r → Bn 20 r → Bag H' b c → Kept b c H H' → Q (.ref t) H'
theorem ok_law_ratio (ev : Env K mg) : FnOk P w K mg base CX0 3 ev.f_law_ratio ev.d_law_ratio p_law_ratio spRatio1 := by
  refine ev.A_law_ratio.F.ok sc_law_ratio (fun vs H Q E h => ?_) (fun cdv A outer s H vs Q E hr h => ?_)
  · obtain ⟨b, c, m, rfl, _⟩ := h
    rfl
  obtain ⟨b, c, m, rfl, hB, m0, m1, q⟩ := h
  refine ⟨_, (pss_cons (ps_set (i := 2) sc_law_ratio.nd rfl (Or.inl rfl) (pe_call (ok_law_any ev) (hr.mono (by decide)) (by rfl) ev.A_law_any.m ev.A_law_any.F.kp ev.A_law_any.b .nil pass0 (pa_cons (pv 0) (pa_cons (pe_lst (pa_cons pe_int (pa_cons pe_int (pa_cons pe_int (pa_cons pe_int (pa_cons pe_int (pa_cons pe_int (pa_cons pe_int (pa_cons pe_int pa_nil))))))))) pa_nil))))
    (pss_cons (ps_set (i := 3) sc_law_ratio.nd rfl (Or.inl rfl) (pe_op op_mul (pv 1) (pv 2)))
    (pss_one (ps_ret (pe_call (ok_law_rat ev) (hr.mono (by decide)) (by rfl) ev.A_law_rat.m ev.A_law_rat.F.kp ev.A_law_rat.b .nil pass0 (pa_cons (pe_op op_sub (pe_call (ok_law_draw ev) (hr.mono (by decide)) (by rfl) ev.A_law_draw.m ev.A_law_draw.F.kp ev.A_law_draw.b .nil pass0 (pa_cons (pv 0) (pa_cons (pe_op op_add (pe_op op_mul pe_int (pv 3)) pe_int) pa_nil))) (pv 3)) (pa_cons (pv 2) pa_nil))))))), ?_⟩
  refine seq_asg ⟨_, rfl, (by show 8 ≤ sizeLine; decide), fun l nl => ?_⟩
  obtain ⟨lb, lc⟩ := hB.off nl
  refine ⟨b, c, l, _, rfl, hB.upd nl, lb, lc, upd_same, (fun z => nomatch z), (by show 8 ≤ 1000; decide), fun v H1 hv hB1 ex1 => ?_⟩
  obtain ⟨lo, rfl, lo1, lo60⟩ : ∃ lo : Int, v = .int lo ∧ 1 ≤ lo ∧ lo ≤ 60 := by
    simp only [List.mem_cons, List.not_mem_nil, or_false] at hv
    rcases hv with rfl | rfl | rfl | rfl | rfl | rfl | rfl | rfl <;> exact ⟨_, rfl, by decide, by decide⟩
  have r0 : 0 ≤ m * lo := Int.mul_nonneg m0 (by omega)
  have r1 : m * lo ≤ 480000 := Int.le_trans (Int.mul_le_mul_of_nonneg_left lo60 m0) (by omega)
  refine seq_asg ⟨_, rfl, _, rfl, _, _, rfl, rfl, .inl ⟨by omega, by omega⟩, ?_⟩
  refine ⟨_, rfl, _, rfl, _, _, rfl, rfl, .inl ⟨by decide, by decide⟩, _, _, rfl, rfl, b, c, _, rfl, hB1, by omega, by omega, fun r H2 g0 g1 hB2 ex2 => ⟨_, rfl, _, _, rfl, rfl, _, rfl, _, _, rfl, pow9000 (by omega), (by omega), fun t nt => ?_⟩⟩
  have kp : Kept b c H H2 := (kept_same (same_upd nl)).trans (ex1.trans ex2).kept
  refine q t (rN (r - m * lo) lo, rD (r - m * lo) lo) _ ?_ upd_same (bn_mk (by omega) (by omega) (by omega)) (hB2.upd nt) (kp.trans (kept_same (same_upd nt)))
  cases e : H t with
  | none => rfl
  | some o =>
    by_cases zb : t = b
    · obtain ⟨_, _, _, _, z, _⟩ := hB2
      rw [← zb, nt] at z
      cases z
    · by_cases zc : t = c
      · obtain ⟨_, _, _, _, _, z, _⟩ := hB2
        rw [← zc, nt] at z
        cases z
      · rw [kp t o e zb zc] at nt
        cases nt
theorem none_back {H H' : Hp} {b c t : Addr} (kp : Kept b c H H') (hB : Bag H' b c) (nt : H' t = none) : H t = none := by
  cases e : H t with
  | none => rfl
  | some o =>
    obtain ⟨z1, z2⟩ := hB.off nt
    rw [kp t o e z1 z2] at nt
    cases nt
def spSpot : Sp := fun vs H Q _ => ∃ (b c : Addr) (m : Int), vs = [.ref b, .int m] ∧ Bag H b c ∧ 0 ≤ m ∧ m ≤ 8000 ∧ ∀ (t : Addr) (s : Spot) (H' : Hp), SpotAt H' t s → Bn 20 s.1 → Bn 20 s.2 → Bag H' b c → Kept b c H H' → Q (.ref t) H'
theorem ok_law_spot (ev : Env K mg) : FnOk P w K mg base CX0 4 ev.f_law_spot ev.d_law_spot p_law_spot spSpot := by
  refine ev.A_law_spot.F.ok sc_law_spot (fun vs H Q E h => ?_) (fun cdv A outer s H vs Q E hr h => ?_)
  · obtain ⟨b, c, m, rfl, _⟩ := h
    rfl
  obtain ⟨b, c, m, rfl, hB, m0, m1, q⟩ := h
  refine ⟨_, (pss_one (ps_ret (pe_tup (pa_cons (pe_call (ok_law_ratio ev) (hr.mono (by decide)) (by rfl) ev.A_law_ratio.m ev.A_law_ratio.F.kp ev.A_law_ratio.b .nil pass0 (pa_cons (pv 0) (pa_cons (pv 1) pa_nil))) (pa_cons (pe_call (ok_law_ratio ev) (hr.mono (by decide)) (by rfl) ev.A_law_ratio.m ev.A_law_ratio.F.kp ev.A_law_ratio.b .nil pass0 (pa_cons (pv 0) (pa_cons (pv 1) pa_nil))) pa_nil))))), ?_⟩
  refine ⟨_, rfl, _, rfl, b, c, m, rfl, hB, m0, m1, fun t1 r1 H1 _ h1 b1 hB1 kp1 => ⟨_, rfl, _, rfl, b, c, m, rfl, hB1, m0, m1, fun t2 r2 H2 _ h2 b2 hB2 kp2 => ⟨two, fun t nt => ?_⟩⟩⟩
  refine q t (r1, r2) _ ⟨t1, t2, upd_same, same_upd nt _ _ (tups_kept hB1 kp2 _ _ h1), same_upd nt _ _ h2⟩ b1 b2 (hB2.upd nt) (kp1.trans (kp2.trans (kept_same (same_upd nt))))
/-! ### dicts of one and the same things -/
theorem eqAt_all {A : Around} {s : Shared} {v : V} {u u' : Value} (r : RelV v u) (r' : RelV v u') (f : flatB v = true ∨ ∃ a, v = .ref a) : SeqAt.EqAt A s u u' true := by
  rcases f with f | ⟨a, rfl⟩
  · exact eqAt_same r r' f
  · cases (show u = Value.ref a from r)
    cases (show u' = Value.ref a from r')
    exact SeqAt.EqAt.same _
theorem hits_ref {A : Around} {s : Shared} {kvs : List (Key × V)} {vb : List (Key × Value)} (rb : KV kvs vb) {ks : List (Key × V)} {va : List (Key × Value)} (ra : KV ks va) :
    (∀ p ∈ ks, valV kvs p.1 = some p.2 ∧ (flatB p.2 = true ∨ ∃ a, p.2 = .ref a)) → PySem.W.KeqHits A s vb va true := by
  unfold KV at ra
  induction ra with
  | nil => exact fun _ => .nil
  | @cons p q ps qs h t ih =>
    intro hp
    obtain ⟨e, f⟩ := hp p List.mem_cons_self
    have rr : RelO (some p.2) (valueAt vb p.1) := e ▸ rb.val p.1
    obtain ⟨y, hy, ry⟩ := rr.some_of
    obtain ⟨k, v⟩ := q
    have h1' : p.1 = k := h.1
    rw [h1'] at hy
    show PySem.W.KeqHits A s vb ((k, v) :: qs) (true && true)
    exact .hit hy (eqAt_all h.2 ry f) (ih fun p' hm => hp p' (List.mem_cons_of_mem _ hm))
def rEqDR : R2 := fun x y H Q => ∃ a b kvs, x = .ref a ∧ y = .ref b ∧ H a = some (.dK kvs) ∧ H b = some (.dK kvs) ∧ (kvs.map (·.1)).Nodup ∧ (∀ p ∈ kvs, flatB p.2 = true ∨ ∃ a, p.2 = .ref a) ∧ Q (.bl true) H
theorem op_eq_dictR {X : Cx} (hu : X.A.units < cLine) : OpR X (compareOp .Eq) rEqDR := by
  intro pins s σ H x y v u Q I rx ry h
  obtain ⟨a, b, kvs, rfl, rfl, ea, eb, nd, fl, q⟩ := h
  cases (show v = Value.ref a from rx)
  cases (show u = Value.ref b from ry)
  obtain ⟨_, ya, va, ra, da⟩ := I.hok a _ ea
  obtain ⟨_, yb, vb, rb, db⟩ := I.hok b _ eb
  have hl : va.length = vb.length := ra.length.symm.trans rb.length
  exact PySem.W.keq_eq (knd := mixKind X.prog X.w) (r := true) ya yb da db hu (fun _ => hits_ref rb ra fun p hp => ⟨val_nodup nd p hp, fl p hp⟩) (fin_bl I q (by simp [hl]))
/-! ### a placing grows -/
theorem put_pl {H : Hp} {ps : List (Str × V)} {pf : Str → Spot} {z : Str} {a : Addr} {s : Spot} (hP : PlacIn H ps pf) (hz : lowB z = true) (hs : SpotAt H a s) (b1 : Bn 20 s.1) (b2 : Bn 20 s.2) :
    ∃ (ps' : List (Str × V)) (pf' : Str → Spot), putK (mkv ps) (Sum.inr z : Key) (.ref a) = mkv ps' ∧ PlacIn H ps' pf' ∧ ps'.length ≤ ps.length + 1 := by
  by_cases c : z ∈ ps.map (·.1)
  · refine ⟨ps.map fun p => if p.1 = z then (p.1, .ref a) else p, fun x => if x = z then s else pf x, ?_, ⟨?_, ?_, ?_⟩, ?_⟩
    · unfold putK
      have an : ((mkv ps).any fun kv => decide (kv.1 = (Sum.inr z : Key))) = true := by
        rw [List.any_eq_true]
        obtain ⟨v, hv⟩ := find_pl c
        exact ⟨(Sum.inr z, v), List.mem_map.mpr ⟨(z, v), hv, rfl⟩, decide_eq_true rfl⟩
      rw [if_pos an]
      unfold mkv
      rw [List.map_map, List.map_map]
      refine List.map_congr_left fun p _ => ?_
      by_cases e : p.1 = z
      · simp [e]
      · simp [e]
    · rw [List.map_map]
      rw [show (ps.map ((·.1) ∘ fun p => if p.1 = z then (p.1, V.ref a) else p)) = ps.map (·.1) from List.map_congr_left fun p _ => by by_cases e : p.1 = z <;> simp [e]]
      exact hP.nd
    · rw [List.map_map]
      rw [show (ps.map ((·.1) ∘ fun p => if p.1 = z then (p.1, V.ref a) else p)) = ps.map (·.1) from List.map_congr_left fun p _ => by by_cases e : p.1 = z <;> simp [e]]
      exact hP.low
    · intro p hp
      obtain ⟨p0, hp0, rfl⟩ := List.mem_map.mp hp
      by_cases e : p0.1 = z
      · simp only [e, if_pos]
        exact ⟨a, rfl, hs, b1, b2⟩
      · simp only [e, if_neg, not_false_eq_true, if_false]
        exact hP.val p0 hp0
    · rw [List.length_map]
      omega
  · refine ⟨ps ++ [(z, .ref a)], fun x => if x = z then s else pf x, ?_, ⟨?_, ?_, ?_⟩, ?_⟩
    · rw [putK_new _ (pl_none c), mkv_app]
    · rw [List.map_append, List.nodup_append]
      refine ⟨hP.nd, List.nodup_cons.mpr ⟨(fun h => nomatch h), List.nodup_nil⟩, fun x hx y hy e => ?_⟩
      rw [List.map_singleton, List.mem_singleton] at hy
      rw [e, hy] at hx
      exact c hx
    · intro x hx
      rw [List.map_append] at hx
      rcases List.mem_append.mp hx with h | h
      · exact hP.low x h
      · rw [List.map_singleton, List.mem_singleton] at h
        rw [h]
        exact hz
    · intro p hp
      rcases List.mem_append.mp hp with h | h
      · have e : p.1 ≠ z := fun e => c (by rw [← e]; exact List.mem_map.mpr ⟨p, h, rfl⟩)
        simp only [e, if_neg, not_false_eq_true, if_false]
        exact hP.val p h
      · rw [List.mem_singleton.mp h]
        simp only [if_pos]
        exact ⟨a, rfl, hs, b1, b2⟩
    · rw [List.length_append]
      exact Nat.le_refl _

def spLaw (K : PySem.W.Frag) : Sp := fun vs H Q _ => ∃ (a : Addr) (ns : List Int), vs = [.ref a] ∧ SqL K H a (ns.map V.int) ∧ ns.length ≤ 63 ∧ ∀ H', Q (.bl true) H'
theorem ok_law (ev : Env K mg) : FnOk P w K mg base CX0 6 ev.f_law ev.d_law p_law (spLaw K) := by
  refine ev.A_law.F.ok sc_law (fun vs H Q E h => ?_) (fun cdv A outer s H vs Q E hr h => ?_)
  · obtain ⟨a, ns, rfl, _⟩ := h
    rfl
  obtain ⟨a, ns, rfl, hS, h63, q⟩ := h
  have hu := hu_of hr
  refine ⟨_, (pss_cons (ps_set (i := 1) sc_law.nd rfl (Or.inl rfl) (pe_call (ok_law_bag ev) (hr.mono (by decide)) (by rfl) ev.A_law_bag.m ev.A_law_bag.F.kp ev.A_law_bag.b .nil pass0 (pa_cons (pv 0) pa_nil)))
    (pss_cons (ps_set (i := 2) sc_law.nd rfl (Or.inl rfl) (pe_call (ok_law_marks ev) (hr.mono (by decide)) (by rfl) ev.A_law_marks.m ev.A_law_marks.F.kp ev.A_law_marks.b .nil pass0 (pa_cons (pv 1) (pa_cons (pe_op op_add pe_int (pe_call (ok_law_draw ev) (hr.mono (by decide)) (by rfl) ev.A_law_draw.m ev.A_law_draw.F.kp ev.A_law_draw.b .nil pass0 (pa_cons (pv 1) (pa_cons pe_int pa_nil)))) pa_nil))))
    (pss_cons (ps_set (i := 3) sc_law.nd rfl (Or.inl rfl) (pe_call (ok_law_readings ev) (hr.mono (by decide)) (by rfl) ev.A_law_readings.m ev.A_law_readings.F.kp ev.A_law_readings.b .nil pass0 (pa_cons (pv 1) (pa_cons (pe_callB (call_srtK rfl) (by rfl) ev.B.sorted_ (by decide +kernel) (pa_cons (pv 2) pa_nil)) (pa_cons (pe_call (ok_law_draw ev) (hr.mono (by decide)) (by rfl) ev.A_law_draw.m ev.A_law_draw.F.kp ev.A_law_draw.b .nil pass0 (pa_cons (pv 1) (pa_cons pe_int pa_nil))) pa_nil)))))
    (pss_cons (ps_set (i := 4) sc_law.nd rfl (Or.inl rfl) (pe_make ev.M_Survey (ok_Survey___init__ ev) (hr.mono (by decide)) (by rfl) ev.g_Survey ev.A_Survey___init__.b .nil pass0 (pa_cons (pv 2) (pa_cons (pv 3) pa_nil))))
    (pss_cons (ps_set (i := 5) sc_law.nd rfl (Or.inl rfl) pe_bl)
    (pss_cons (ps_for PassesOwn.never rfl (pi_range1 rfl ev.B.range_ (pa_cons pe_int pa_nil)) (pg_name (i := 6) sc_law.nd rfl (Or.inl rfl))
    (pss_cons (ps_set (i := 7) sc_law.nd rfl (Or.inl rfl) pe_dnewK)
    (pss_cons (ps_for PassesOwn.never rfl (pi_list (pe_op op_cat (pe_callB (call_srtK rfl) (by rfl) ev.B.sorted_ (by decide +kernel) (pa_cons (pv 2) pa_nil)) (pe_lst (pa_cons pe_str pa_nil)))) (pg_name (i := 8) sc_law.nd rfl (Or.inl rfl))
    (pss_one (ps_if (pt_cmpR op_gt (pe_call (ok_law_draw ev) (hr.mono (by decide)) (by rfl) ev.A_law_draw.m ev.A_law_draw.F.kp ev.A_law_draw.b .nil pass0 (pa_cons (pv 1) (pa_cons pe_int pa_nil))) pe_int (nomark _))
    (pss_one (ps_dput hu (pv 7) (pv 8) (pe_call (ok_law_spot ev) (hr.mono (by decide)) (by rfl) ev.A_law_spot.m ev.A_law_spot.F.kp ev.A_law_spot.b .nil pass0 (pa_cons (pv 1) (pa_cons pe_int pa_nil))) rfl)) pss_nil)))
    (pss_cons (ps_set (i := 9) sc_law.nd rfl (Or.inl rfl) pe_dnewK)
    (pss_cons (ps_set (i := 10) sc_law.nd rfl (Or.inl rfl) (pe_tup (pa_cons pe_int (pa_cons pe_int pa_nil))))
    (pss_cons (ps_lock (ps_for PassesOwn.never rfl (pi_keys (pv 3)) (pg_name (i := 11) sc_law.nd rfl (Or.inl rfl))
    (pss_cons (ps_asg (pe_dget hu (pv 3) (pv 11) (fun _ _ => rfl)) (pg_tup rfl (pgs_cons (pg_name (i := 12) sc_law.nd rfl (Or.inl rfl)) (pgs_cons (pg_name (i := 13) sc_law.nd rfl (Or.inl rfl)) (pgs_cons (pg_name (i := 14) sc_law.nd rfl (Or.inl rfl)) (pgs_cons (pg_name (i := 15) sc_law.nd rfl (Or.inl rfl)) (pgs_cons (pg_name (i := 16) sc_law.nd rfl (Or.inl rfl)) pgs_nil)))))))
    (pss_one (ps_if (PW.pt (pw_and (pt_cmp (pc_din hu (pv 12) (pv 7))) (pw_and1 (pt_cmp (pc_din hu (pv 13) (pv 7))))))
    (pss_cons (ps_set (i := 17) sc_law.nd rfl (Or.inl rfl) (pe_call (ok_law_dif ev) (hr.mono (by decide)) (by rfl) ev.A_law_dif.m ev.A_law_dif.F.kp ev.A_law_dif.b .nil pass0 (pa_cons (pe_call (ok_law_dif ev) (hr.mono (by decide)) (by rfl) ev.A_law_dif.m ev.A_law_dif.F.kp ev.A_law_dif.b .nil pass0 (pa_cons (pe_ix ix_tup (pe_dget hu (pv 7) (pv 13) (fun _ _ => rfl)) pe_int (fun _ _ => rfl)) (pa_cons (pe_ix ix_tup (pe_dget hu (pv 7) (pv 12) (fun _ _ => rfl)) pe_int (fun _ _ => rfl)) pa_nil))) (pa_cons (pe_tup (pa_cons (pv 14) (pa_cons pe_int pa_nil))) pa_nil))))
    (pss_cons (ps_set (i := 18) sc_law.nd rfl (Or.inl rfl) (pe_call (ok_law_dif ev) (hr.mono (by decide)) (by rfl) ev.A_law_dif.m ev.A_law_dif.F.kp ev.A_law_dif.b .nil pass0 (pa_cons (pe_call (ok_law_dif ev) (hr.mono (by decide)) (by rfl) ev.A_law_dif.m ev.A_law_dif.F.kp ev.A_law_dif.b .nil pass0 (pa_cons (pe_ix ix_tup (pe_dget hu (pv 7) (pv 13) (fun _ _ => rfl)) pe_int (fun _ _ => rfl)) (pa_cons (pe_ix ix_tup (pe_dget hu (pv 7) (pv 12) (fun _ _ => rfl)) pe_int (fun _ _ => rfl)) pa_nil))) (pa_cons (pe_tup (pa_cons (pv 15) (pa_cons pe_int pa_nil))) pa_nil))))
    (pss_cons (ps_dput hu (pv 9) (pv 11) (pe_tup (pa_cons (pv 17) (pa_cons (pv 18) pa_nil))) rfl)
    (pss_cons (ps_set (i := 19) sc_law.nd rfl (Or.inl rfl) (pe_call (ok_law_sum ev) (hr.mono (by decide)) (by rfl) ev.A_law_sum.m ev.A_law_sum.F.kp ev.A_law_sum.b .nil pass0 (pa_cons (pe_call (ok_law_prod ev) (hr.mono (by decide)) (by rfl) ev.A_law_prod.m ev.A_law_prod.F.kp ev.A_law_prod.b .nil pass0 (pa_cons (pv 17) (pa_cons (pv 17) pa_nil))) (pa_cons (pe_call (ok_law_prod ev) (hr.mono (by decide)) (by rfl) ev.A_law_prod.m ev.A_law_prod.F.kp ev.A_law_prod.b .nil pass0 (pa_cons (pv 18) (pa_cons (pv 18) pa_nil))) pa_nil))))
    (pss_one (ps_set (i := 10) sc_law.nd rfl (Or.inl rfl) (pe_call (ok_law_sum ev) (hr.mono (by decide)) (by rfl) ev.A_law_sum.m ev.A_law_sum.F.kp ev.A_law_sum.b .nil pass0 (pa_cons (pv 10) (pa_cons (pe_call (ok_law_prod ev) (hr.mono (by decide)) (by rfl) ev.A_law_prod.m ev.A_law_prod.F.kp ev.A_law_prod.b .nil pass0 (pa_cons (pe_tup (pa_cons (pv 16) (pa_cons pe_int pa_nil))) (pa_cons (pv 19) pa_nil))) pa_nil))))))))) pss_nil)))))
    (pss_cons (ps_set (i := 20) sc_law.nd rfl (Or.inl rfl) (pe_callTy call_dictD (by rfl) ev.B.dict_ (by decide +kernel) (pa_cons (pv 7) pa_nil)))
    (pss_cons (ps_set (i := 21) sc_law.nd rfl (Or.inl rfl) (pe_call (ok_rests ev) (hr.mono (by decide)) (by rfl) ev.A_rests.m ev.A_rests.F.kp ev.A_rests.b .nil pass0 (pa_cons (pv 4) (pa_cons (pv 20) pa_nil))))
    (pss_cons (ps_set (i := 5) sc_law.nd rfl (Or.inl rfl) (pe_and (pv 5) (pe_and (pe_call (ok_same ev 4) (hr.mono (by decide)) (by rfl) ev.A_law_same.m ev.A_law_same.F.kp ev.A_law_same.b .nil pass0 (pa_cons (pv 21) (pa_cons (pv 9) pa_nil))) (pe_one (pe_call (ok_same ev 4) (hr.mono (by decide)) (by rfl) ev.A_law_same.m ev.A_law_same.F.kp ev.A_law_same.b .nil pass0 (pa_cons (pe_call (ok_cost ev) (hr.mono (by decide)) (by rfl) ev.A_cost.m ev.A_cost.F.kp ev.A_cost.b .nil pass0 (pa_cons (pv 4) (pa_cons (pv 20) pa_nil))) (pa_cons (pv 10) pa_nil)))))))
    (pss_one (ps_set (i := 5) sc_law.nd rfl (Or.inl rfl) (pe_and (pv 5) (pe_one (pe_cmpR (op_eq_dictR hr.units0) (pv 20) (pv 7) (nomark _)))))))))))))))
    (pss_one (ps_ret (pv 5))))))))), ?_⟩
  refine seq_asg ⟨_, rfl, a, ns, rfl, hS, h63, fun b c H1 hB1 nb nc s1 => ?_⟩
  -- the marks
  refine seq_asg ⟨_, rfl, _, rfl, b, c, 6, rfl, hB1, by decide, by decide, fun r H2 r0 r1 hB2 ex2 => ⟨_, _, rfl, rfl, b, c, _, rfl, hB2, by omega, by omega, fun dm ks H3 _ hdm hM k1 k20 hB3 kp3 dmb dmc => ?_⟩⟩
  -- the readings
  have kn : (ks.map (·.1)).length < 64 := by rw [List.length_map]; omega
  refine seq_asg ⟨_, rfl, _, rfl, .inl ⟨dm, _, ks.map (·.1), rfl, .inl hdm, mkv_keys ks, kn, fun ys l pm sr nl => ?_⟩⟩
  obtain ⟨lb, lc⟩ := hB3.off nl
  have yl : ys.length = ks.length := by rw [pm.length_eq, List.length_map]
  refine ⟨_, rfl, b, c, 10, rfl, hB3.upd nl, by decide, by decide, fun g H4 g0 g1 hB4 ex4 => ?_⟩
  have hl4 : H4 l = some (.lst (ys.map V.str)) := (ex4 l lb lc).trans upd_same
  have hdm4 : H4 dm = some (.dK (mkv ks)) := (ex4 dm dmb dmc).trans (same_upd nl _ _ hdm)
  have tu34 : Tups H3 H4 := (tups_same (same_upd nl)).trans (tups_kept (hB3.upd nl) ex4.kept)
  refine ⟨b, c, l, ys, _, rfl, hB4, lb, lc, hl4, by omega, by omega, by omega, by omega, fun dr rs H5 ndr hdr hR rle hB5 kp5 drb drc => ?_⟩
  have hdm5 : H5 dm = some (.dK (mkv ks)) := kp5 _ _ hdm4 dmb dmc
  have hM5 : MarksIn H5 ks := (hM.mono tu34).mono (tups_kept hB4 kp5)
  have hR5 : ReadsIn H5 (ks.map (·.1)) rs := ⟨hR.up, hR.one, fun p hp => by
    obtain ⟨t, o, w, ac, hi, wt, e, h, o1, o2, rest⟩ := hR.val p hp
    exact ⟨t, o, w, ac, hi, wt, e, h, pm.mem_iff.mp o1, pm.mem_iff.mp o2, rest⟩⟩
  -- the survey
  refine seq_asg ⟨_, rfl, _, rfl, fun sv dx nsv ndx nex => ?_⟩
  have sx : Same H5 (upd (upd H5 dx (.own sv)) sv (.ins ev.C_Survey dx [])) := fun p o e => by
    rw [upd_ne (ne_of_none e nsv), upd_ne (ne_of_none e ndx)]
    exact e
  refine ⟨sv, dx, dm, dr, ks, rs, rfl, upd_same, sx _ _ hdm5, hM5.mono (tups_same sx), by omega, sx _ _ hdr, hR5.mono (tups_same sx), by omega, fun HS hSv fr => ⟨rfl, ?_⟩⟩
  have s5S : Same H5 HS := fun p o e => fr p o (sx _ _ e) (ne_of_none e nsv)
  have hBS := hB5.same s5S
  have hdmS := s5S _ _ hdm5
  have hdrS := s5S _ _ hdr
  have hMS := hM5.mono (tups_same s5S)
  have hRS := hR5.mono (tups_same s5S)
  have rnd := rise_nd hRS.up
  have r9 : rs.length ≤ 9 := by omega
  obtain ⟨rf, hD⟩ := dat_of hRS.val
  have nsvb : sv ≠ b ∧ sv ≠ c := hB5.off nsv
  clear sx fr s5S hR5 hM5 hdm5 hR hdr tu34 hdm4 hl4 hM hdm
  refine seq_c ?_
  refine ⟨3, rfl, by decide, by decide, for_range (lo := 0) (n := 3) (fun i σ H' => Bag H' b c ∧ Kept b c HS H' ∧ ∃ y6 y7 y8 y9 y10 y11 y12 y13 y14 y15 y16 y17 y18 y19 y20 y21, σ = [some (.ref a), some (.ref b), some (.ref dm), some (.ref dr), some (.ref sv), some (.bl true), y6, y7, y8, y9, y10, y11, y12, y13, y14, y15, y16, y17, y18, y19, y20, y21]) ⟨hBS, Kept.refl, none, none, none, none, none, none, none, none, none, none, none, none, none, none, none, none, rfl⟩ ?_ ?_⟩
  rotate_left
  · rintro σ H6 ⟨_, _, y6, y7, y8, y9, y10, y11, y12, y13, y14, y15, y16, y17, y18, y19, y20, y21, rfl⟩
    exact ⟨_, rfl, q H6⟩
  rintro i σ H6 hi ⟨hB6, kp6, y6, y7, y8, y9, y10, y11, y12, y13, y14, y15, y16, y17, y18, y19, y20, y21, rfl⟩
  -- placing
  refine seq_asg (fun pl npl => ?_)
  obtain ⟨plb, plc⟩ := hB6.off npl
  have plS : HS pl = none := none_back kp6 hB6 npl
  have hB7 := hB6.upd (o := .dK []) npl
  have kp7 : Kept b c HS (upd H6 pl (.dK [])) := kp6.trans (kept_same (same_upd npl))
  have hpl7 : (upd H6 pl (.dK [])) pl = some (.dK []) := upd_same
  generalize upd H6 pl (.dK []) = H7 at hB7 kp7 hpl7
  refine ⟨_, rfl, .inl ⟨dm, _, ks.map (·.1), rfl, .inl (kp7 _ _ hdmS dmb dmc), mkv_keys ks, kn, fun zs l1 pm1 sr1 nl1 => ⟨(by show 1 ≤ sizeLine; decide), fun l2 nl2 => ?_⟩⟩⟩
  have zl : zs.length = ks.length := by rw [pm1.length_eq, List.length_map]
  refine ⟨l1, l2, _, _, rfl, rfl, same_upd nl2 _ _ upd_same, upd_same, (by rw [List.length_map]; show zs.length + 1 ≤ sizeLine; exact small_le (by omega)), fun l3 nl3 => ?_⟩
  have s710 : Same H7 (upd (upd (upd H7 l1 (.lst (zs.map V.str))) l2 (.lst [.str "zyx"])) l3 (.lst (zs.map V.str ++ [.str "zyx"]))) := (same_upd nl1).trans ((same_upd nl2).trans (same_upd nl3))
  have hl10 : (upd (upd (upd H7 l1 (.lst (zs.map V.str))) l2 (.lst [.str "zyx"])) l3 (.lst (zs.map V.str ++ [.str "zyx"]))) l3 = some (.lst (zs.map V.str ++ [.str "zyx"])) := upd_same
  obtain ⟨l3b, l3c⟩ := ((hB7.upd (o := .lst (zs.map V.str)) nl1).upd (o := .lst [.str "zyx"]) nl2).off nl3
  have l3pl : l3 ≠ pl := (ne_of_none (same_upd nl2 _ _ (same_upd nl1 _ _ hpl7)) nl3).symm
  have hB10 := hB7.same s710
  have kp10 := kp7.trans (kept_same s710)
  have hpl10 := s710 _ _ hpl7
  generalize upd (upd (upd H7 l1 (.lst (zs.map V.str))) l2 (.lst [.str "zyx"])) l3 (.lst (zs.map V.str ++ [.str "zyx"])) = H10 at s710 hl10 hB10 kp10 hpl10
  refine ⟨l3, rfl, ⟨_, SqL.of hl10⟩, for_list (K := K) (a := l3) (xs := zs.map V.str ++ [.str "zyx"]) (fun j σ H' => Bag H' b c ∧ Kept b c HS H' ∧ H' l3 = some (.lst (zs.map V.str ++ [.str "zyx"])) ∧ ∃ y6 y8 y9 y10 y11 y12 y13 y14 y15 y16 y17 y18 y19 y20 y21 ps pf, σ = [some (.ref a), some (.ref b), some (.ref dm), some (.ref dr), some (.ref sv), some (.bl true), y6, some (.ref pl), y8, y9, y10, y11, y12, y13, y14, y15, y16, y17, y18, y19, y20, y21] ∧ H' pl = some (.dK (mkv ps)) ∧ PlacIn H' ps pf ∧ ps.length ≤ j)
    ⟨hB10, kp10, hl10, _, _, _, _, _, _, _, _, _, _, _, _, _, _, _, [], fun _ => ((0, 1), (0, 1)), rfl, hpl10, ⟨List.nodup_nil, (fun _ h => nomatch h), (fun _ h => nomatch h)⟩, Nat.le_refl _⟩ (fun j σ H' _ h => SqL.of h.2.2.1) ?_ ?_⟩
  · rintro j x σ H11 hj ⟨hB11, kp11, hl11, y6, y8, y9, y10, y11, y12, y13, y14, y15, y16, y17, y18, y19, y20, y21, ps, pf, rfl, hpl11, hP, le⟩
    have jl := (List.getElem?_eq_some_iff.mp hj).1
    rw [List.length_append, List.length_map, List.length_singleton] at jl
    obtain ⟨z, rfl, hz⟩ : ∃ z : Str, x = .str z ∧ lowB z = true := by
      rcases List.mem_append.mp (List.mem_of_getElem? hj) with h | h
      · obtain ⟨z, hzz, rfl⟩ := List.mem_map.mp h
        exact ⟨z, rfl, hMS.low z (pm1.mem_iff.mp hzz)⟩
      · rw [List.mem_singleton.mp h]
        exact ⟨_, rfl, by decide +kernel⟩
    refine ⟨_, rfl, b, c, 5, rfl, hB11, by decide, by decide, fun r H12 r0 r1 hB12 ex12 => ⟨_, _, rfl, rfl, _, rfl, ite2 (fun _ => ?_) (fun _ => ?_)⟩⟩
    · refine ⟨_, rfl, b, c, 999, rfl, hB12, by decide, by decide, fun t s H14 hsp b1 b2 hB14 kp14 => ?_⟩
      have kp1114 : Kept b c H11 H14 := ex12.kept.trans kp14
      have hpl14 := kp1114 _ _ hpl11 plb plc
      obtain ⟨ps', pf', e, hP', le'⟩ := put_pl (hP.mono (tups_kept hB11 kp1114)) hz hsp b1 b2
      refine ⟨_, rfl, _, rfl, pl, _, rfl, DPut.k (k := Sum.inr z) hpl14 (by unfold mkv; rw [List.length_map]; exact small1000 (by omega)), ?_⟩
      rw [e]
      exact ⟨bag_upd hB14 plb plc, kept_upd (kp11.trans kp1114) plS, by rw [upd_ne l3pl]; exact kp1114 _ _ hl11 l3b l3c, _, _, _, _, _, _, _, _, _, _, _, _, _, _, _, ps', pf', rfl, upd_same, hP'.mono (tups_upd hpl14 (fun xs z => nomatch z)), by omega⟩
    · exact ⟨hB12, kp11.trans ex12.kept, (ex12 l3 l3b l3c).trans hl11, _, _, _, _, _, _, _, _, _, _, _, _, _, _, _, ps, pf, rfl, (ex12 pl plb plc).trans hpl11, hP.mono (tups_kept hB11 ex12.kept), by omega⟩
  rintro σ H11 ⟨hB11, kp11, _, y6, y8, y9, y10, y11, y12, y13, y14, y15, y16, y17, y18, y19, y20, y21, ps, pf, rfl, hpl11, hP, lps⟩
  rw [List.length_append, List.length_map, List.length_singleton] at lps
  refine nx_u ?_
  -- what is due
  refine seq_asg (fun du ndu => ?_)
  obtain ⟨dub, duc⟩ := hB11.off ndu
  have duS : HS du = none := none_back kp11 hB11 ndu
  refine seq_asg ⟨two, fun t0 nt0 => ?_⟩
  have s13 : Same H11 (upd (upd H11 du (.dK [])) t0 (.tup [.int 0, .int 1])) := (same_upd ndu).trans (same_upd nt0)
  have hdu13 : (upd (upd H11 du (.dK [])) t0 (.tup [.int 0, .int 1])) du = some (.dK []) := same_upd nt0 _ _ upd_same
  have ht13 : RatAt (upd (upd H11 du (.dK [])) t0 (.tup [.int 0, .int 1])) t0 (0, 1) := upd_same
  generalize upd (upd H11 du (.dK [])) t0 (.tup [.int 0, .int 1]) = H13 at s13 hdu13 ht13
  have hB13 := hB11.same s13
  have kp13 := kp11.trans (kept_same s13)
  have hpl13 := s13 _ _ hpl11
  have hP13 := hP.mono (tups_same s13)
  have hdr13 := kp13 _ _ hdrS drb drc
  have dudr : du ≠ dr := (ne_of_none hdrS duS).symm
  have pldr : pl ≠ dr := (ne_of_none hdrS plS).symm
  have pldu : pl ≠ du := ne_of_none hpl11 ndu
  have tuS13 : Tups HS H13 := tups_kept hBS kp13
  have hD13 : ∀ p ∈ rs, DatV H13 (ks.map (·.1)) p.2 (rf p.2) := fun p hp => (hD p hp).mono tuS13
  refine ⟨dr, _, hdr13, trivial, fun od => ?_⟩
  refine ⟨_, rfl, dr, od, rfl, .inl ⟨_, upd_same, ?_⟩⟩
  refine for_keys (fun i σ H' => H' dr = some (.frz od (.dK (rdv rs))) ∧ (∀ p o, H13 p = some o → p ≠ dr → p ≠ du → H' p = some o) ∧ ∃ y6 y8 y11 y12 y13 y14 y15 y16 y17 y18 y19 y20 y21 ts tt, σ = [some (.ref a), some (.ref b), some (.ref dm), some (.ref dr), some (.ref sv), some (.bl true), y6, some (.ref pl), y8, some (.ref du), some (.ref tt), y11, y12, y13, y14, y15, y16, y17, y18, y19, y20, y21] ∧ H' du = some (.dK (rdv ts)) ∧ RestIn H' pf rf ((rs.take i).filter (selP ps rf)) ts ∧ RatAt H' tt (((rs.take i).filter (selP ps rf)).foldl (stepR pf rf) (0, 1)) ∧ Bn (1 + 214 * i) (((rs.take i).filter (selP ps rf)).foldl (stepR pf rf) (0, 1)))
    ⟨upd_same, fun p o e n _ => by rw [upd_ne n]; exact e, _, _, _, _, _, _, _, _, _, _, _, _, _, [], t0, rfl, by rw [upd_ne dudr]; exact hdu13, ⟨rfl, fun i p q e => by simp at e⟩, by unfold RatAt; rw [upd_ne (ne_of ht13 hdr13 (by intro z; cases z))]; exact ht13, bn01⟩ (fun i σ H' _ h => h.1) ?_ ?_
  · rintro i k v σ H2 hi ⟨hd2, f2, y6, y8, y11, y12, y13, y14, y15, y16, y17, y18, y19, y20, y21, ts, tt, rfl, ht2, hR, hT, hbn⟩
    obtain ⟨n, rfl, hri⟩ : ∃ n : Int, k = Sum.inl n ∧ rs[i]? = some (n, v) := by
      unfold rdv at hi
      rw [List.getElem?_map] at hi
      cases e : rs[i]? with
      | none => rw [e] at hi; cases hi
      | some y => rw [e] at hi; cases hi; exact ⟨y.1, rfl, rfl⟩
    have hin := List.mem_of_getElem? hri
    have tk : rs.take (i + 1) = rs.take i ++ [(n, v)] := by rw [List.take_add_one, hri]; rfl
    have il := (List.getElem?_eq_some_iff.mp hri).1
    have tup2 : Tups H13 H2 := fun p xs e => f2 _ _ e (fun z => by rw [z, hdr13] at e; cases e) (fun z => by rw [z, hdu13] at e; cases e)
    have hpl2 : H2 pl = some (.dK (mkv ps)) := f2 _ _ hpl13 pldr pldu
    have hP2 := hP13.mono tup2
    obtain ⟨w, hvw, htw, o1, o2, hne, a0, a1, h0, h1, w0, w1⟩ := (hD13 _ hin).mono tup2
    dsimp only at hvw htw o1 o2 hne a0 a1 h0 h1 w0 w1
    have no : selP ps rf (n, v) = false → (rs.take (i + 1)).filter (selP ps rf) = (rs.take i).filter (selP ps rf) := fun z => by
      rw [tk, List.filter_append, List.filter_cons, z]
      simp
    have yes : selP ps rf (n, v) = true → (rs.take (i + 1)).filter (selP ps rf) = (rs.take i).filter (selP ps rf) ++ [(n, v)] := fun z => by
      rw [tk, List.filter_append, List.filter_cons, z]
      simp
    refine ⟨_, rfl, _, rfl, dr, v, rfl, .inl ⟨_, Sum.inl n, .inr ⟨od, hd2⟩, rfl, (rdv_val rnd hin).symm⟩, w, _, hvw, SqT.of htw, rfl, _, _, rfl, _, _, rfl, _, _, rfl, _, _, rfl, _, _, rfl, rfl, ?_⟩
    refine ⟨_, rfl, _, rfl, pl, _, rfl, DGet.k (k := Sum.inr (rf v).one) hpl2, _, rfl, ?_⟩
    by_cases c1 : (rf v).one ∈ ps.map (·.1)
    rotate_left
    · rw [pl_none c1]
      refine iteF (iteF ?_)
      refine ⟨hd2, f2, _, _, _, _, _, _, _, _, _, _, _, _, _, ts, tt, rfl, ht2, ?_⟩
      rw [no (by unfold selP; rw [decide_eq_false c1]; rfl)]
      exact ⟨hR, hT, hbn.le (by omega)⟩
    obtain ⟨v1, hv1⟩ := find_pl c1
    have g1 := mkv_val hP2.nd hv1
    dsimp only at g1
    rw [g1]
    refine iteT ?_
    refine ⟨_, rfl, _, rfl, pl, _, rfl, DGet.k (k := Sum.inr (rf v).two) hpl2, _, rfl, ?_⟩
    by_cases c2 : (rf v).two ∈ ps.map (·.1)
    rotate_left
    · rw [pl_none c2]
      refine iteF ?_
      refine ⟨hd2, f2, _, _, _, _, _, _, _, _, _, _, _, _, _, ts, tt, rfl, ht2, ?_⟩
      rw [no (by unfold selP; rw [decide_eq_false c2, Bool.and_false])]
      exact ⟨hR, hT, hbn.le (by omega)⟩
    obtain ⟨v2, hv2⟩ := find_pl c2
    have g2 := mkv_val hP2.nd hv2
    dsimp only at g2
    rw [g2]
    refine iteT ?_
    have selT : selP ps rf (n, v) = true := by unfold selP; rw [decide_eq_true c1, decide_eq_true c2]; rfl
    have bR := sel_bn (p := (n, v)) hP2 ((hD13 _ hin).mono tup2) selT
    dsimp only at bR
    obtain ⟨sa, esa, ⟨f0, f1, hSa, hF0, hF1⟩, bF0, bF1⟩ := hP2.val _ hv1
    obtain ⟨ea, eea, ⟨e0, e1, hEa, hE0, hE1⟩, bE0, bE1⟩ := hP2.val _ hv2
    dsimp only at esa hF0 hF1 bF0 bF1 eea hE0 hE1 bE0 bE1
    subst esa eea
    have dg1 : ∀ Hx, Same H2 Hx → DGet Hx pl (.str (rf v).one) (some (.ref sa)) := fun Hx sx => by rw [← g1]; exact DGet.k (k := Sum.inr (rf v).one) (sx _ _ hpl2)
    have dg2 : ∀ Hx, Same H2 Hx → DGet Hx pl (.str (rf v).two) (some (.ref ea)) := fun Hx sx => by rw [← g2]; exact DGet.k (k := Sum.inr (rf v).two) (sx _ _ hpl2)
    have teX : Same H2 H2 := Same.refl _
    · refine seq_asg ⟨_, rfl, _, rfl, pl, _, rfl, dg2 _ teX, ea, _, _, _, rfl, rfl, SqT.of hEa, atI_nat (j := 0) rfl, _, rfl, _, rfl, pl, _, rfl, dg1 _ teX, sa, _, _, _, rfl, rfl, SqT.of hSa, atI_nat (j := 0) rfl, e0, f0, _, _, rfl, SqT.of (teX _ _ hE0), SqT.of (teX _ _ hF0), bE0.le (by decide), bF0.le (by decide), fun u1 nu1 => ?_⟩
      have saX : Same H2 (upd H2 u1 (.tup [.int (difR (pf (rf v).two).1 (pf (rf v).one).1).1, .int (difR (pf (rf v).two).1 (pf (rf v).one).1).2])) := same_upd nu1
      have raX : RatAt (upd H2 u1 (.tup [.int (difR (pf (rf v).two).1 (pf (rf v).one).1).1, .int (difR (pf (rf v).two).1 (pf (rf v).one).1).2])) u1 (difR (pf (rf v).two).1 (pf (rf v).one).1) := upd_same
      generalize upd H2 u1 (.tup [.int (difR (pf (rf v).two).1 (pf (rf v).one).1).1, .int (difR (pf (rf v).two).1 (pf (rf v).one).1).2]) = HAX at saX raX
      refine ⟨_, rfl, two, fun u2 nu2 => ?_⟩
      have scX : Same HAX (upd HAX u2 (.tup [.int (rf v).ac, .int 1])) := same_upd nu2
      have rcX : RatAt (upd HAX u2 (.tup [.int (rf v).ac, .int 1])) u2 ((rf v).ac, 1) := upd_same
      generalize upd HAX u2 (.tup [.int (rf v).ac, .int 1]) = HBX at scX rcX
      refine ⟨u1, u2, (difR (pf (rf v).two).1 (pf (rf v).one).1), ((rf v).ac, 1), rfl, SqT.of (scX _ _ raX), SqT.of rcX, (bE0.dif bF0).le (by decide), (bn10 (by omega) (by omega)).le (by decide), fun u3X nu3 => ?_⟩
      have sbX : Same H2 (upd HBX u3X (.tup [.int (difR (difR (pf (rf v).two).1 (pf (rf v).one).1) ((rf v).ac, 1)).1, .int (difR (difR (pf (rf v).two).1 (pf (rf v).one).1) ((rf v).ac, 1)).2])) := saX.trans (scX.trans (same_upd nu3))
      have rbX : RatAt (upd HBX u3X (.tup [.int (difR (difR (pf (rf v).two).1 (pf (rf v).one).1) ((rf v).ac, 1)).1, .int (difR (difR (pf (rf v).two).1 (pf (rf v).one).1) ((rf v).ac, 1)).2])) u3X (difR (difR (pf (rf v).two).1 (pf (rf v).one).1) ((rf v).ac, 1)) := upd_same
      generalize upd HBX u3X (.tup [.int (difR (difR (pf (rf v).two).1 (pf (rf v).one).1) ((rf v).ac, 1)).1, .int (difR (difR (pf (rf v).two).1 (pf (rf v).one).1) ((rf v).ac, 1)).2]) = H3 at sbX rbX
      have teY : Same H2 H3 := sbX
      refine seq_asg ⟨_, rfl, _, rfl, pl, _, rfl, dg2 _ teY, ea, _, _, _, rfl, rfl, SqT.of (teY _ _ hEa), atI_nat (j := 1) rfl, _, rfl, _, rfl, pl, _, rfl, dg1 _ teY, sa, _, _, _, rfl, rfl, SqT.of (teY _ _ hSa), atI_nat (j := 1) rfl, e1, f1, _, _, rfl, SqT.of (teY _ _ hE1), SqT.of (teY _ _ hF1), bE1.le (by decide), bF1.le (by decide), fun u1 nu1 => ?_⟩
      have saY : Same H3 (upd H3 u1 (.tup [.int (difR (pf (rf v).two).2 (pf (rf v).one).2).1, .int (difR (pf (rf v).two).2 (pf (rf v).one).2).2])) := same_upd nu1
      have raY : RatAt (upd H3 u1 (.tup [.int (difR (pf (rf v).two).2 (pf (rf v).one).2).1, .int (difR (pf (rf v).two).2 (pf (rf v).one).2).2])) u1 (difR (pf (rf v).two).2 (pf (rf v).one).2) := upd_same
      generalize upd H3 u1 (.tup [.int (difR (pf (rf v).two).2 (pf (rf v).one).2).1, .int (difR (pf (rf v).two).2 (pf (rf v).one).2).2]) = HAY at saY raY
      refine ⟨_, rfl, two, fun u2 nu2 => ?_⟩
      have scY : Same HAY (upd HAY u2 (.tup [.int (rf v).hi, .int 1])) := same_upd nu2
      have rcY : RatAt (upd HAY u2 (.tup [.int (rf v).hi, .int 1])) u2 ((rf v).hi, 1) := upd_same
      generalize upd HAY u2 (.tup [.int (rf v).hi, .int 1]) = HBY at scY rcY
      refine ⟨u1, u2, (difR (pf (rf v).two).2 (pf (rf v).one).2), ((rf v).hi, 1), rfl, SqT.of (scY _ _ raY), SqT.of rcY, (bE1.dif bF1).le (by decide), (bn10 (by omega) (by omega)).le (by decide), fun u3Y nu3 => ?_⟩
      have sbY : Same H3 (upd HBY u3Y (.tup [.int (difR (difR (pf (rf v).two).2 (pf (rf v).one).2) ((rf v).hi, 1)).1, .int (difR (difR (pf (rf v).two).2 (pf (rf v).one).2) ((rf v).hi, 1)).2])) := saY.trans (scY.trans (same_upd nu3))
      have rbY : RatAt (upd HBY u3Y (.tup [.int (difR (difR (pf (rf v).two).2 (pf (rf v).one).2) ((rf v).hi, 1)).1, .int (difR (difR (pf (rf v).two).2 (pf (rf v).one).2) ((rf v).hi, 1)).2])) u3Y (difR (difR (pf (rf v).two).2 (pf (rf v).one).2) ((rf v).hi, 1)) := upd_same
      generalize upd HBY u3Y (.tup [.int (difR (difR (pf (rf v).two).2 (pf (rf v).one).2) ((rf v).hi, 1)).1, .int (difR (difR (pf (rf v).two).2 (pf (rf v).one).2) ((rf v).hi, 1)).2]) = H4 at sbY rbY
      refine ⟨_, rfl, _, rfl, two, fun t5 n5 => ?_⟩
      have s25 : Same H2 (upd H4 t5 (.tup [.ref u3X, .ref u3Y])) := sbX.trans (sbY.trans (same_upd n5))
      have hsp : SpotAt (upd H4 t5 (.tup [.ref u3X, .ref u3Y])) t5 (restR pf (rf v)) := ⟨u3X, u3Y, upd_same, same_upd n5 _ _ (sbY _ _ rbX), same_upd n5 _ _ rbY⟩
      have hX5 := same_upd (o := .tup [.ref u3X, .ref u3Y]) n5 _ _ (sbY _ _ rbX)
      have hY5 := same_upd (o := .tup [.ref u3X, .ref u3Y]) n5 _ _ rbY
      generalize upd H4 t5 (.tup [.ref u3X, .ref u3Y]) = H5' at s25 hsp hX5 hY5
      have ht5 := s25 _ _ ht2
      have lts : ts.length ≤ 60 := by
        have z := congrArg List.length hR.key
        rw [List.length_map, List.length_map] at z
        have z2 := List.length_filter_le (selP ps rf) (rs.take i)
        rw [List.length_take] at z2
        omega
      have nn : n ∉ ts.map (·.1) := by
        rw [hR.key]
        intro hm
        obtain ⟨q', hq', eq'⟩ := List.mem_map.mp hm
        have nd2 := rnd
        rw [← List.take_append_drop (i + 1) rs, tk, List.append_assoc, List.map_append, List.nodup_append] at nd2
        exact nd2.2.2 n (List.mem_map.mpr ⟨q', (List.mem_filter.mp hq').1, eq'⟩) n (by simp) rfl
      refine ⟨_, rfl, _, rfl, du, _, rfl, DPut.k (k := Sum.inl n) ht5 (by unfold rdv; rw [List.length_map]; exact small1000 (by omega)), ?_⟩
      rw [putK_new _ (valV_none (rdv_no nn)), rdv_app]
      have tu6 : Tups H5' (upd H5' du (.dK (rdv (ts ++ [(n, .ref t5)])))) := tups_upd ht5 (fun xs z => nomatch z)
      have f6 : ∀ p o, H2 p = some o → p ≠ du → (upd H5' du (.dK (rdv (ts ++ [(n, .ref t5)])))) p = some o := fun p o e z => by rw [upd_ne z]; exact s25 _ _ e
      have hdu6 : (upd H5' du (.dK (rdv (ts ++ [(n, .ref t5)])))) du = some (.dK (rdv (ts ++ [(n, .ref t5)]))) := upd_same
      generalize upd H5' du (.dK (rdv (ts ++ [(n, .ref t5)]))) = H6' at tu6 f6 hdu6
      have hX6 := tu6 _ _ hX5
      have hY6 := tu6 _ _ hY5
      have tu26 : Tups H2 H6' := (tups_same s25).trans tu6
      refine nx_u ?_
      refine seq_asg ⟨_, rfl, _, rfl, u3X, u3X, (restR pf (rf v)).1, (restR pf (rf v)).1, rfl, SqT.of hX6, SqT.of hX6, bR.1.le (by decide), bR.1.le (by decide), fun q1 m1 => ?_⟩
      have sA : Same H6' (upd H6' q1 (.tup [.int (mulR (restR pf (rf v)).1 (restR pf (rf v)).1).1, .int (mulR (restR pf (rf v)).1 (restR pf (rf v)).1).2])) := same_upd m1
      have rA : RatAt (upd H6' q1 (.tup [.int (mulR (restR pf (rf v)).1 (restR pf (rf v)).1).1, .int (mulR (restR pf (rf v)).1 (restR pf (rf v)).1).2])) q1 (mulR (restR pf (rf v)).1 (restR pf (rf v)).1) := upd_same
      generalize upd H6' q1 (.tup [.int (mulR (restR pf (rf v)).1 (restR pf (rf v)).1).1, .int (mulR (restR pf (rf v)).1 (restR pf (rf v)).1).2]) = HA at sA rA
      refine ⟨_, rfl, _, rfl, u3Y, u3Y, (restR pf (rf v)).2, (restR pf (rf v)).2, rfl, SqT.of (sA _ _ hY6), SqT.of (sA _ _ hY6), bR.2.le (by decide), bR.2.le (by decide), fun q2 m2 => ?_⟩
      have sB : Same HA (upd HA q2 (.tup [.int (mulR (restR pf (rf v)).2 (restR pf (rf v)).2).1, .int (mulR (restR pf (rf v)).2 (restR pf (rf v)).2).2])) := same_upd m2
      have rB : RatAt (upd HA q2 (.tup [.int (mulR (restR pf (rf v)).2 (restR pf (rf v)).2).1, .int (mulR (restR pf (rf v)).2 (restR pf (rf v)).2).2])) q2 (mulR (restR pf (rf v)).2 (restR pf (rf v)).2) := upd_same
      generalize upd HA q2 (.tup [.int (mulR (restR pf (rf v)).2 (restR pf (rf v)).2).1, .int (mulR (restR pf (rf v)).2 (restR pf (rf v)).2).2]) = HB at sB rB
      refine ⟨q1, q2, _, _, rfl, SqT.of (sB _ _ rA), SqT.of rB, (bR.1.mul bR.1).le (by decide), (bR.2.mul bR.2).le (by decide), fun q3 m3 => ?_⟩
      have sC : Same HB (upd HB q3 (.tup [.int (addR (mulR (restR pf (rf v)).1 (restR pf (rf v)).1) (mulR (restR pf (rf v)).2 (restR pf (rf v)).2)).1, .int (addR (mulR (restR pf (rf v)).1 (restR pf (rf v)).1) (mulR (restR pf (rf v)).2 (restR pf (rf v)).2)).2])) := same_upd m3
      have rC : RatAt (upd HB q3 (.tup [.int (addR (mulR (restR pf (rf v)).1 (restR pf (rf v)).1) (mulR (restR pf (rf v)).2 (restR pf (rf v)).2)).1, .int (addR (mulR (restR pf (rf v)).1 (restR pf (rf v)).1) (mulR (restR pf (rf v)).2 (restR pf (rf v)).2)).2])) q3 (sqR (restR pf (rf v))) := upd_same
      generalize upd HB q3 (.tup [.int (addR (mulR (restR pf (rf v)).1 (restR pf (rf v)).1) (mulR (restR pf (rf v)).2 (restR pf (rf v)).2)).1, .int (addR (mulR (restR pf (rf v)).1 (restR pf (rf v)).1) (mulR (restR pf (rf v)).2 (restR pf (rf v)).2)).2]) = HC at sC rC
      have s6C : Same H6' HC := sA.trans (sB.trans sC)
      refine ⟨_, rfl, _, rfl, two, fun q4 m4 => ?_⟩
      have sD : Same HC (upd HC q4 (.tup [.int (rf v).wt, .int 1])) := same_upd m4
      have rD' : RatAt (upd HC q4 (.tup [.int (rf v).wt, .int 1])) q4 ((rf v).wt, 1) := upd_same
      generalize upd HC q4 (.tup [.int (rf v).wt, .int 1]) = HD at sD rD'
      refine ⟨_, rfl, q4, q3, ((rf v).wt, 1), sqR (restR pf (rf v)), rfl, SqT.of rD', SqT.of (sD _ _ rC), (bn4 w0 w1).le (by decide), (sq_bn bR).le (by decide), fun q5 m5 => ?_⟩
      have sE : Same HD (upd HD q5 (.tup [.int (mulR ((rf v).wt, 1) (sqR (restR pf (rf v)))).1, .int (mulR ((rf v).wt, 1) (sqR (restR pf (rf v)))).2])) := same_upd m5
      have rE : RatAt (upd HD q5 (.tup [.int (mulR ((rf v).wt, 1) (sqR (restR pf (rf v)))).1, .int (mulR ((rf v).wt, 1) (sqR (restR pf (rf v)))).2])) q5 (mulR ((rf v).wt, 1) (sqR (restR pf (rf v)))) := upd_same
      generalize upd HD q5 (.tup [.int (mulR ((rf v).wt, 1) (sqR (restR pf (rf v)))).1, .int (mulR ((rf v).wt, 1) (sqR (restR pf (rf v)))).2]) = HE at sE rE
      have s6E : Same H6' HE := s6C.trans (sD.trans sE)
      refine ⟨tt, q5, ((rs.take i).filter (selP ps rf)).foldl (stepR pf rf) (0, 1), mulR ((rf v).wt, 1) (sqR (restR pf (rf v))), rfl, SqT.of (s6E _ _ (tu26 _ _ hT)), SqT.of rE, hbn.le (by omega), ((bn4 w0 w1).mul (sq_bn bR)).le (by decide), fun q6 m6 => ?_⟩
      have e6 : ((rs.take (i + 1)).filter (selP ps rf)).foldl (stepR pf rf) (0, 1) = addR (((rs.take i).filter (selP ps rf)).foldl (stepR pf rf) (0, 1)) (mulR ((rf v).wt, 1) (sqR (restR pf (rf v)))) := by
        rw [yes selT, List.foldl_append]
        rfl
      have sF : Same H6' (upd HE q6 (.tup [.int (addR (((rs.take i).filter (selP ps rf)).foldl (stepR pf rf) (0, 1)) (mulR ((rf v).wt, 1) (sqR (restR pf (rf v))))).1, .int (addR (((rs.take i).filter (selP ps rf)).foldl (stepR pf rf) (0, 1)) (mulR ((rf v).wt, 1) (sqR (restR pf (rf v))))).2])) := s6E.trans (same_upd m6)
      refine ⟨sF _ _ (f6 _ _ hd2 dudr.symm), fun p o e n1 n2 => sF _ _ (f6 _ _ (f2 _ _ e n1 n2) n2), _, _, _, _, _, _, _, _, _, _, _, _, _, ts ++ [(n, .ref t5)], q6, rfl, sF _ _ hdu6, ?_, ?_, ?_⟩
      · rw [yes selT]
        exact (hR.mono (tu26.trans (tups_same sF))).app (p := (n, v)) (hsp.mono (tu6.trans (tups_same sF)))
      · rw [e6]
        exact upd_same
      · rw [e6]
        exact (step_bn (p := (n, v)) hbn bR w0 w1).le (by omega)
  rintro σ H14 ⟨hd14, f14, y6, y8, y11, y12, y13, y14, y15, y16, y17, y18, y19, y20, y21, ts, tt, rfl, hdu14, hR, hT, hbn⟩
  have el : (rdv rs).length = rs.length := by unfold rdv; rw [List.length_map]
  rw [el, List.take_length] at hR hT
  refine ⟨hd14, nx_u ?_⟩
  have f15 : ∀ p o, H13 p = some o → p ≠ du → (upd H14 dr (.dK (rdv rs))) p = some o := fun p o e n => by
    by_cases z : p = dr
    · rw [z, upd_same, ← hdr13, ← z, e]
    · rw [upd_ne z]
      exact f14 p o e z n
  have tu1415 : Tups H14 (upd H14 dr (.dK (rdv rs))) := tups_upd hd14 (fun xs z => nomatch z)
  have hdu15 : (upd H14 dr (.dK (rdv rs))) du = some (.dK (rdv ts)) := by rw [upd_ne dudr]; exact hdu14
  generalize upd H14 dr (.dK (rdv rs)) = H15 at f15 tu1415 hdu15
  have hR15 := hR.mono tu1415
  have hT15 := tu1415 _ _ hT
  have hB15 : Bag H15 b c := by
    obtain ⟨ne, ns', sl, sd, z1, z2, rr⟩ := hB13
    exact ⟨ne, ns', sl, sd, f15 _ _ z1 dub.symm, f15 _ _ z2 duc.symm, rr⟩
  have kp15 : Kept b c HS H15 := fun p o e n1 n2 => f15 p o (kp13 p o e n1 n2) (ne_of_none e duS)
  have hpl15 := f15 _ _ hpl13 pldu
  have tu1315 : Tups H13 H15 := fun p xs e => f15 _ _ e (fun z => by rw [z, hdu13] at e; cases e)
  have hP15 := hP13.mono tu1315
  have hD15 : ∀ p ∈ rs, DatV H15 (ks.map (·.1)) p.2 (rf p.2) := fun p hp => (hD13 p hp).mono tu1315
  have hSv15 : SurvAt ev.C_Survey H15 sv ks rs := by
    obtain ⟨dx, x1, x2, ms, z1, z2, z3, rest⟩ := hSv
    obtain ⟨ne, ns', sl, sd, g1, g2, rr⟩ := hBS
    have up : ∀ p o, HS p = some o → (∀ xs, o ≠ .lst xs) → H15 p = some o := fun p o e nl => kp15 p o e (fun z => by rw [z, g1] at e; exact nl _ (Option.some.inj e).symm) (fun z => by rw [z, g2] at e; exact nl _ (Option.some.inj e).symm)
    exact ⟨dx, x1, x2, ms, up _ _ z1 (fun xs z => nomatch z), up _ _ z2 (fun xs z => nomatch z), up _ _ z3 (fun xs z => nomatch z), rest⟩
  -- rests and cost
  refine seq_asg ⟨_, rfl, pl, _, rfl, .inl hpl15, fun hd nhd => ?_⟩
  have s16 : Same H15 (upd H15 hd (.dK (mkv ps))) := same_upd nhd
  have hh16 : (upd H15 hd (.dK (mkv ps))) hd = some (.dK (mkv ps)) := upd_same
  generalize upd H15 hd (.dK (mkv ps)) = H16 at s16 hh16
  refine seq_asg ⟨_, rfl, _, rfl, sv, hd, ks, ps, rs, ks.map (·.1), pf, rf, rfl, hSv15.same s16, rnd, by omega, hh16, hP15.mono (tups_same s16), fun p hp => (hD15 p hp).mono (tups_same s16), fun t ts' H17 nt ht' hR' s17 => ?_⟩
  have s15 : Same H15 H17 := s16.trans s17
  have lnd : ((rs.filter (selP ps rf)).map (·.1)).Nodup := List.Sublist.nodup (List.Sublist.map _ List.filter_sublist) rnd
  have l60 : (rs.filter (selP ps rf)).length ≤ 60 := Nat.le_trans (List.length_filter_le _ _) (by omega)
  refine seq_asg ⟨_, rfl, true, rfl, iteT ⟨_, rfl, _, rfl, _, _, rfl, RestIn.sm hR' (hR15.mono (tups_same s15)) lnd l60 ht' (s15 _ _ hdu15), fun H18 s18 => ⟨true, rfl, iteT ?_⟩⟩⟩
  have s1618 : Same H16 H18 := s17.trans s18
  have s1518 : Same H15 H18 := s15.trans s18
  refine ⟨_, rfl, _, rfl, sv, hd, ks, ps, rs, ks.map (·.1), pf, rf, rfl, hSv15.same s1518, rnd, by omega, s1618 _ _ hh16, hP15.mono (tups_same s1518), fun p hp => (hD15 p hp).mono (tups_same s1518), fun tc H19 htc s19 => ?_⟩
  refine ⟨_, rfl, _, _, rfl, (SmT.tup2 (n := 2) htc (SqT.of (s19 _ _ (s1518 _ _ hT15))) (SmT.flat rfl 2) (SmT.flat rfl 2)).sm, fun H20 s20 => ?_⟩
  have s1520 : Same H15 H20 := s1518.trans (s19.trans s20)
  refine ⟨_, rfl, true, rfl, iteT ⟨_, rfl, _, rfl, hd, pl, mkv ps, rfl, rfl, s20 _ _ (s19 _ _ (s1618 _ _ hh16)), s1520 _ _ hpl15, mkv_nd hP.nd, fun p hp => ?_, ?_⟩⟩
  · obtain ⟨p0, hp0, rfl⟩ := List.mem_map.mp hp
    obtain ⟨x, ex, _⟩ := hP.val p0 hp0
    exact .inr ⟨x, ex⟩
  · exact ⟨hB15.same s1520, kp15.trans (kept_same s1520), _, _, _, _, _, _, _, _, _, _, _, _, _, _, _, _, rfl⟩


end
structure Put (K : PySem.W.Frag) (name : String) (st : Stmt) (f : Addr) : Prop where
  a : PySem.W.nsIn K mainGlobals (Str.ofString name) = some (some (.ref f))
  l : ∃ (oc : Value) (od : Option Addr) (kV dc pm : Value) (an : Option Addr) (cd ct : Value) (sl : Array (Option Value)), K.lookup f = some ⟨oc, od, .func (PySem.W.fnOf (Str.ofString name) (Str.ofString name) (defArgs st) (defBody st) (defScope st) .none kV dc pm an cd ct), sl⟩ ∧ PySem.W.codeIn K cd (Str.ofString name) = true
  k : PySem.W.keepIn K (.ref f) = true
theorem put_mk {K : PySem.W.Frag} {name : String} {st : Stmt} {f : Addr} {oc : Value} {od : Option Addr} {kV dc pm : Value} {an : Option Addr} {cd ct : Value} {sl : Array (Option Value)} (a : PySem.W.nsIn K mainGlobals (Str.ofString name) = some (some (.ref f)))
    (l : K.lookup f = some ⟨oc, od, .func (PySem.W.fnOf (Str.ofString name) (Str.ofString name) (defArgs st) (defBody st) (defScope st) .none kV dc pm an cd ct), sl⟩) (c : PySem.W.codeIn K cd (Str.ofString name) = true) (k : PySem.W.keepIn K (.ref f) = true) : Put K name st f :=
  ⟨a, ⟨oc, od, kV, dc, pm, an, cd, ct, sl, l, c⟩, k⟩
structure PutM (K : PySem.W.Frag) (C : Addr) (name qual : String) (st : Stmt) (f : Addr) : Prop where
  me : Meth K C (Str.ofString name) f
  l : ∃ (oc : Value) (od : Option Addr) (kV dc pm : Value) (an : Option Addr) (cd ct : Value) (sl : Array (Option Value)), K.lookup f = some ⟨oc, od, .func (PySem.W.fnOf (Str.ofString name) (Str.ofString qual) (defArgs st) (defBody st) (defScope st) .none kV dc pm an cd ct), sl⟩ ∧ PySem.W.codeIn K cd (Str.ofString qual) = true
theorem putM_mk {K : PySem.W.Frag} {C : Addr} {name qual : String} {st : Stmt} {f : Addr} {oc : Value} {od : Option Addr} {kV dc pm : Value} {an : Option Addr} {cd ct : Value} {sl : Array (Option Value)} (a : PySem.W.findIn K (.ref C) (Str.ofString name) = some (some (.ref f))) (i : PySem.W.isFn K (.ref f) = true)
    (l : K.lookup f = some ⟨oc, od, .func (PySem.W.fnOf (Str.ofString name) (Str.ofString qual) (defArgs st) (defBody st) (defScope st) .none kV dc pm an cd ct), sl⟩) (c : PySem.W.codeIn K cd (Str.ofString qual) = true) (k : PySem.W.keepIn K (.ref f) = true) : PutM K C name qual st f :=
  ⟨⟨a, i, k⟩, ⟨oc, od, kV, dc, pm, an, cd, ct, sl, l, c⟩⟩
theorem all_mk {l : PySem.W.OpenLaw} {w : World} {K : PySem.W.Frag} {h : Heap} {mg : Str → Option Value} {fa f_greatest_common f_ratio f_plus f_minus f_times f_is_word f_is_name f_is_within f_check_name f_check_number f_check_place f_check_reading f_Survey___init__ f_Survey_readings f_rests f_cost f_law_bag f_law_draw f_law_whole f_law_same f_law_any f_law_rat f_law_sum f_law_dif f_law_prod f_law_name f_law_names f_law_marks f_law_readings f_law_ratio f_law_spot f_law C_NoRatio C_Survey a_NOUGHT : Addr} {t1 t2 t3 t4 t5 t6 t7 : Tok} {ddN : Option Addr} {nN : Nat} {slN : Array (Option Value)} (X : K.In h) (G : h.Ns mainGlobals mg) (hfa : mg "law" = some (.ref fa))
    (p_greatest_common : Put K "greatest_common" s_greatest_common f_greatest_common)
    (p_ratio : Put K "ratio" s_ratio f_ratio)
    (p_plus : Put K "plus" s_plus f_plus)
    (p_minus : Put K "minus" s_minus f_minus)
    (p_times : Put K "times" s_times f_times)
    (p_is_word : Put K "is_word" s_is_word f_is_word)
    (p_is_name : Put K "is_name" s_is_name f_is_name)
    (p_is_within : Put K "is_within" s_is_within f_is_within)
    (p_check_name : Put K "check_name" s_check_name f_check_name)
    (p_check_number : Put K "check_number" s_check_number f_check_number)
    (p_check_place : Put K "check_place" s_check_place f_check_place)
    (p_check_reading : Put K "check_reading" s_check_reading f_check_reading)
    (p_Survey___init__ : PutM K C_Survey "__init__" "Survey.__init__" s_Survey___init__ f_Survey___init__)
    (p_Survey_readings : PutM K C_Survey "readings" "Survey.readings" s_Survey_readings f_Survey_readings)
    (p_rests : Put K "rests" s_rests f_rests)
    (p_cost : Put K "cost" s_cost f_cost)
    (p_law_bag : Put K "_law_bag" s_law_bag f_law_bag)
    (p_law_draw : Put K "_law_draw" s_law_draw f_law_draw)
    (p_law_whole : Put K "_law_whole" s_law_whole f_law_whole)
    (p_law_same : Put K "_law_same" s_law_same f_law_same)
    (p_law_any : Put K "_law_any" s_law_any f_law_any)
    (p_law_rat : Put K "_law_rat" s_law_rat f_law_rat)
    (p_law_sum : Put K "_law_sum" s_law_sum f_law_sum)
    (p_law_dif : Put K "_law_dif" s_law_dif f_law_dif)
    (p_law_prod : Put K "_law_prod" s_law_prod f_law_prod)
    (p_law_name : Put K "_law_name" s_law_name f_law_name)
    (p_law_names : Put K "_law_names" s_law_names f_law_names)
    (p_law_marks : Put K "_law_marks" s_law_marks f_law_marks)
    (p_law_readings : Put K "_law_readings" s_law_readings f_law_readings)
    (p_law_ratio : Put K "_law_ratio" s_law_ratio f_law_ratio)
    (p_law_spot : Put K "_law_spot" s_law_spot f_law_spot)
    (p_law : Put K "law" s_law f_law)
    (aC : PySem.W.nsIn K mainGlobals "NoRatio" = some (some (.ref C_NoRatio)))
    (x : PySem.W.excIn K C_NoRatio [.type "ZeroDivisionError", .type "ArithmeticError", .type "Exception", .type "BaseException", .type "object"] "ZeroDivisionError.__new__" = true)
    (k : PySem.W.keepIn K (.ref C_NoRatio) = true)
    (b : PySem.W.subIn K (.ref C_NoRatio) (.type "BaseException") = some true)
    (t : PySem.W.typeIn K (.ref C_NoRatio) = some (.type "type"))
    (e4 : PySem.W.hasDictIn K C_NoRatio = true)
    (sc : PySem.W.subIn K (.ref C_NoRatio) (.ref C_NoRatio) = some true)
    (aS : PySem.W.nsIn K mainGlobals "Survey" = some (some (.ref C_Survey)))
    (pgS : PySem.W.plainGet K C_Survey Str.empty = true)
    (hdS : PySem.W.hasDictIn K C_Survey = true)
    (poS : PySem.W.plainOver K C_Survey = true)
    (saS : PySem.W.findIn K (.ref C_Survey) "__setattr__" = some (some (.builtin "object.__setattr__")))
    (mkS : PySem.W.makesIn K C_Survey = true)
    (kcS : PySem.W.keepIn K (.ref C_Survey) = true)
    (n1S : PySem.W.findIn K (.ref C_Survey) "own_marks" = some none)
    (n2S : PySem.W.findIn K (.ref C_Survey) "own_readings" = some none)
    (cM : PySem.W.nsIn K mainGlobals "MOST" = some (some (.int 999 t1)))
    (cL : PySem.W.nsIn K mainGlobals "LEAST_WEIGHT" = some (some (.int 1 t2)))
    (cW : PySem.W.nsIn K mainGlobals "MOST_WEIGHT" = some (some (.int 9 t3)))
    (cG : PySem.W.nsIn K mainGlobals "LONGEST" = some (some (.int 6 t4)))
    (cT : PySem.W.nsIn K mainGlobals "LETTERS" = some (some (.str "abcdefghijklmnopqrstuvwxyz" t5)))
    (cN : PySem.W.nsIn K mainGlobals "NOUGHT" = some (some (.ref a_NOUGHT)))
    (lN : K.lookup a_NOUGHT = some ⟨.type "tuple", ddN, .seq #[.int 0 t6, .int 1 t7] nN, slN⟩)
    (z_len : PySem.W.nsIn K mainGlobals "len" = some none)
    (z_list : PySem.W.nsIn K mainGlobals "list" = some none)
    (z_abs : PySem.W.nsIn K mainGlobals "abs" = some none)
    (z_isinstance : PySem.W.nsIn K mainGlobals "isinstance" = some none)
    (z_int : PySem.W.nsIn K mainGlobals "int" = some none)
    (z_bool : PySem.W.nsIn K mainGlobals "bool" = some none)
    (z_str : PySem.W.nsIn K mainGlobals "str" = some none)
    (z_dict : PySem.W.nsIn K mainGlobals "dict" = some none)
    (z_tuple : PySem.W.nsIn K mainGlobals "tuple" = some none)
    (z_all : PySem.W.nsIn K mainGlobals "all" = some none)
    (z_range : PySem.W.nsIn K mainGlobals "range" = some none)
    (z_sorted : PySem.W.nsIn K mainGlobals "sorted" = some none) :
    ∃ fd : FuncData, (∀ (s : Shared) (v : Value), BindsTo s fd ⟨[v], []⟩ [("_law_script", v)]) ∧ ∀ base : Heap, K.In base → base.Ns mainGlobals mg → FnOk l.prog w K mg base CX0 6 fa fd ["_law_script"] (spLaw K) := by
  have e := hfa.symm.trans (PySem.W.mg_of X G p_law.a)
  cases e
  obtain ⟨a_greatest_common, ⟨oc_greatest_common, od_greatest_common, kV_greatest_common, dc_greatest_common, pm_greatest_common, an_greatest_common, cd_greatest_common, ct_greatest_common, sl_greatest_common, l_greatest_common, c_greatest_common⟩, k_greatest_common⟩ := p_greatest_common
  have F_greatest_common := fun_mk (st := s_greatest_common) l_greatest_common c_greatest_common k_greatest_common
  have b_greatest_common := F_greatest_common.binds (ps := p_greatest_common) fun _ _ _ _ _ _ us hl => match us, hl with | [_, _], _ => rfl
  obtain ⟨a_ratio, ⟨oc_ratio, od_ratio, kV_ratio, dc_ratio, pm_ratio, an_ratio, cd_ratio, ct_ratio, sl_ratio, l_ratio, c_ratio⟩, k_ratio⟩ := p_ratio
  have F_ratio := fun_mk (st := s_ratio) l_ratio c_ratio k_ratio
  have b_ratio := F_ratio.binds (ps := p_ratio) fun _ _ _ _ _ _ us hl => match us, hl with | [_, _], _ => rfl
  obtain ⟨a_plus, ⟨oc_plus, od_plus, kV_plus, dc_plus, pm_plus, an_plus, cd_plus, ct_plus, sl_plus, l_plus, c_plus⟩, k_plus⟩ := p_plus
  have F_plus := fun_mk (st := s_plus) l_plus c_plus k_plus
  have b_plus := F_plus.binds (ps := p_plus) fun _ _ _ _ _ _ us hl => match us, hl with | [_, _], _ => rfl
  obtain ⟨a_minus, ⟨oc_minus, od_minus, kV_minus, dc_minus, pm_minus, an_minus, cd_minus, ct_minus, sl_minus, l_minus, c_minus⟩, k_minus⟩ := p_minus
  have F_minus := fun_mk (st := s_minus) l_minus c_minus k_minus
  have b_minus := F_minus.binds (ps := p_minus) fun _ _ _ _ _ _ us hl => match us, hl with | [_, _], _ => rfl
  obtain ⟨a_times, ⟨oc_times, od_times, kV_times, dc_times, pm_times, an_times, cd_times, ct_times, sl_times, l_times, c_times⟩, k_times⟩ := p_times
  have F_times := fun_mk (st := s_times) l_times c_times k_times
  have b_times := F_times.binds (ps := p_times) fun _ _ _ _ _ _ us hl => match us, hl with | [_, _], _ => rfl
  obtain ⟨a_is_word, ⟨oc_is_word, od_is_word, kV_is_word, dc_is_word, pm_is_word, an_is_word, cd_is_word, ct_is_word, sl_is_word, l_is_word, c_is_word⟩, k_is_word⟩ := p_is_word
  have F_is_word := fun_mk (st := s_is_word) l_is_word c_is_word k_is_word
  have b_is_word := F_is_word.binds (ps := p_is_word) fun _ _ _ _ _ _ us hl => match us, hl with | [_], _ => rfl
  obtain ⟨a_is_name, ⟨oc_is_name, od_is_name, kV_is_name, dc_is_name, pm_is_name, an_is_name, cd_is_name, ct_is_name, sl_is_name, l_is_name, c_is_name⟩, k_is_name⟩ := p_is_name
  have F_is_name := fun_mk (st := s_is_name) l_is_name c_is_name k_is_name
  have b_is_name := F_is_name.binds (ps := p_is_name) fun _ _ _ _ _ _ us hl => match us, hl with | [_], _ => rfl
  obtain ⟨a_is_within, ⟨oc_is_within, od_is_within, kV_is_within, dc_is_within, pm_is_within, an_is_within, cd_is_within, ct_is_within, sl_is_within, l_is_within, c_is_within⟩, k_is_within⟩ := p_is_within
  have F_is_within := fun_mk (st := s_is_within) l_is_within c_is_within k_is_within
  have b_is_within := F_is_within.binds (ps := p_is_within) fun _ _ _ _ _ _ us hl => match us, hl with | [_, _, _], _ => rfl
  obtain ⟨a_check_name, ⟨oc_check_name, od_check_name, kV_check_name, dc_check_name, pm_check_name, an_check_name, cd_check_name, ct_check_name, sl_check_name, l_check_name, c_check_name⟩, k_check_name⟩ := p_check_name
  have F_check_name := fun_mk (st := s_check_name) l_check_name c_check_name k_check_name
  have b_check_name := F_check_name.binds (ps := p_check_name) fun _ _ _ _ _ _ us hl => match us, hl with | [_], _ => rfl
  obtain ⟨a_check_number, ⟨oc_check_number, od_check_number, kV_check_number, dc_check_number, pm_check_number, an_check_number, cd_check_number, ct_check_number, sl_check_number, l_check_number, c_check_number⟩, k_check_number⟩ := p_check_number
  have F_check_number := fun_mk (st := s_check_number) l_check_number c_check_number k_check_number
  have b_check_number := F_check_number.binds (ps := p_check_number) fun _ _ _ _ _ _ us hl => match us, hl with | [_, _, _], _ => rfl
  obtain ⟨a_check_place, ⟨oc_check_place, od_check_place, kV_check_place, dc_check_place, pm_check_place, an_check_place, cd_check_place, ct_check_place, sl_check_place, l_check_place, c_check_place⟩, k_check_place⟩ := p_check_place
  have F_check_place := fun_mk (st := s_check_place) l_check_place c_check_place k_check_place
  have b_check_place := F_check_place.binds (ps := p_check_place) fun _ _ _ _ _ _ us hl => match us, hl with | [_], _ => rfl
  obtain ⟨a_check_reading, ⟨oc_check_reading, od_check_reading, kV_check_reading, dc_check_reading, pm_check_reading, an_check_reading, cd_check_reading, ct_check_reading, sl_check_reading, l_check_reading, c_check_reading⟩, k_check_reading⟩ := p_check_reading
  have F_check_reading := fun_mk (st := s_check_reading) l_check_reading c_check_reading k_check_reading
  have b_check_reading := F_check_reading.binds (ps := p_check_reading) fun _ _ _ _ _ _ us hl => match us, hl with | [_, _, _], _ => rfl
  obtain ⟨me_Survey___init__, ⟨oc_Survey___init__, od_Survey___init__, kV_Survey___init__, dc_Survey___init__, pm_Survey___init__, an_Survey___init__, cd_Survey___init__, ct_Survey___init__, sl_Survey___init__, l_Survey___init__, c_Survey___init__⟩⟩ := p_Survey___init__
  have F_Survey___init__ := fun_mk (st := s_Survey___init__) l_Survey___init__ c_Survey___init__ me_Survey___init__.kp
  have b_Survey___init__ := F_Survey___init__.binds (ps := p_Survey___init__) fun _ _ _ _ _ _ us hl => match us, hl with | [_, _, _], _ => rfl
  obtain ⟨me_Survey_readings, ⟨oc_Survey_readings, od_Survey_readings, kV_Survey_readings, dc_Survey_readings, pm_Survey_readings, an_Survey_readings, cd_Survey_readings, ct_Survey_readings, sl_Survey_readings, l_Survey_readings, c_Survey_readings⟩⟩ := p_Survey_readings
  have F_Survey_readings := fun_mk (st := s_Survey_readings) l_Survey_readings c_Survey_readings me_Survey_readings.kp
  have b_Survey_readings := F_Survey_readings.binds (ps := p_Survey_readings) fun _ _ _ _ _ _ us hl => match us, hl with | [_], _ => rfl
  obtain ⟨a_rests, ⟨oc_rests, od_rests, kV_rests, dc_rests, pm_rests, an_rests, cd_rests, ct_rests, sl_rests, l_rests, c_rests⟩, k_rests⟩ := p_rests
  have F_rests := fun_mk (st := s_rests) l_rests c_rests k_rests
  have b_rests := F_rests.binds (ps := p_rests) fun _ _ _ _ _ _ us hl => match us, hl with | [_, _], _ => rfl
  obtain ⟨a_cost, ⟨oc_cost, od_cost, kV_cost, dc_cost, pm_cost, an_cost, cd_cost, ct_cost, sl_cost, l_cost, c_cost⟩, k_cost⟩ := p_cost
  have F_cost := fun_mk (st := s_cost) l_cost c_cost k_cost
  have b_cost := F_cost.binds (ps := p_cost) fun _ _ _ _ _ _ us hl => match us, hl with | [_, _], _ => rfl
  obtain ⟨a_law_bag, ⟨oc_law_bag, od_law_bag, kV_law_bag, dc_law_bag, pm_law_bag, an_law_bag, cd_law_bag, ct_law_bag, sl_law_bag, l_law_bag, c_law_bag⟩, k_law_bag⟩ := p_law_bag
  have F_law_bag := fun_mk (st := s_law_bag) l_law_bag c_law_bag k_law_bag
  have b_law_bag := F_law_bag.binds (ps := p_law_bag) fun _ _ _ _ _ _ us hl => match us, hl with | [_], _ => rfl
  obtain ⟨a_law_draw, ⟨oc_law_draw, od_law_draw, kV_law_draw, dc_law_draw, pm_law_draw, an_law_draw, cd_law_draw, ct_law_draw, sl_law_draw, l_law_draw, c_law_draw⟩, k_law_draw⟩ := p_law_draw
  have F_law_draw := fun_mk (st := s_law_draw) l_law_draw c_law_draw k_law_draw
  have b_law_draw := F_law_draw.binds (ps := p_law_draw) fun _ _ _ _ _ _ us hl => match us, hl with | [_, _], _ => rfl
  obtain ⟨a_law_whole, ⟨oc_law_whole, od_law_whole, kV_law_whole, dc_law_whole, pm_law_whole, an_law_whole, cd_law_whole, ct_law_whole, sl_law_whole, l_law_whole, c_law_whole⟩, k_law_whole⟩ := p_law_whole
  have F_law_whole := fun_mk (st := s_law_whole) l_law_whole c_law_whole k_law_whole
  have b_law_whole := F_law_whole.binds (ps := p_law_whole) fun _ _ _ _ _ _ us hl => match us, hl with | [_], _ => rfl
  obtain ⟨a_law_same, ⟨oc_law_same, od_law_same, kV_law_same, dc_law_same, pm_law_same, an_law_same, cd_law_same, ct_law_same, sl_law_same, l_law_same, c_law_same⟩, k_law_same⟩ := p_law_same
  have F_law_same := fun_mk (st := s_law_same) l_law_same c_law_same k_law_same
  have b_law_same := F_law_same.binds (ps := p_law_same) fun _ _ _ _ _ _ us hl => match us, hl with | [_, _], _ => rfl
  obtain ⟨a_law_any, ⟨oc_law_any, od_law_any, kV_law_any, dc_law_any, pm_law_any, an_law_any, cd_law_any, ct_law_any, sl_law_any, l_law_any, c_law_any⟩, k_law_any⟩ := p_law_any
  have F_law_any := fun_mk (st := s_law_any) l_law_any c_law_any k_law_any
  have b_law_any := F_law_any.binds (ps := p_law_any) fun _ _ _ _ _ _ us hl => match us, hl with | [_, _], _ => rfl
  obtain ⟨a_law_rat, ⟨oc_law_rat, od_law_rat, kV_law_rat, dc_law_rat, pm_law_rat, an_law_rat, cd_law_rat, ct_law_rat, sl_law_rat, l_law_rat, c_law_rat⟩, k_law_rat⟩ := p_law_rat
  have F_law_rat := fun_mk (st := s_law_rat) l_law_rat c_law_rat k_law_rat
  have b_law_rat := F_law_rat.binds (ps := p_law_rat) fun _ _ _ _ _ _ us hl => match us, hl with | [_, _], _ => rfl
  obtain ⟨a_law_sum, ⟨oc_law_sum, od_law_sum, kV_law_sum, dc_law_sum, pm_law_sum, an_law_sum, cd_law_sum, ct_law_sum, sl_law_sum, l_law_sum, c_law_sum⟩, k_law_sum⟩ := p_law_sum
  have F_law_sum := fun_mk (st := s_law_sum) l_law_sum c_law_sum k_law_sum
  have b_law_sum := F_law_sum.binds (ps := p_law_sum) fun _ _ _ _ _ _ us hl => match us, hl with | [_, _], _ => rfl
  obtain ⟨a_law_dif, ⟨oc_law_dif, od_law_dif, kV_law_dif, dc_law_dif, pm_law_dif, an_law_dif, cd_law_dif, ct_law_dif, sl_law_dif, l_law_dif, c_law_dif⟩, k_law_dif⟩ := p_law_dif
  have F_law_dif := fun_mk (st := s_law_dif) l_law_dif c_law_dif k_law_dif
  have b_law_dif := F_law_dif.binds (ps := p_law_dif) fun _ _ _ _ _ _ us hl => match us, hl with | [_, _], _ => rfl
  obtain ⟨a_law_prod, ⟨oc_law_prod, od_law_prod, kV_law_prod, dc_law_prod, pm_law_prod, an_law_prod, cd_law_prod, ct_law_prod, sl_law_prod, l_law_prod, c_law_prod⟩, k_law_prod⟩ := p_law_prod
  have F_law_prod := fun_mk (st := s_law_prod) l_law_prod c_law_prod k_law_prod
  have b_law_prod := F_law_prod.binds (ps := p_law_prod) fun _ _ _ _ _ _ us hl => match us, hl with | [_, _], _ => rfl
  obtain ⟨a_law_name, ⟨oc_law_name, od_law_name, kV_law_name, dc_law_name, pm_law_name, an_law_name, cd_law_name, ct_law_name, sl_law_name, l_law_name, c_law_name⟩, k_law_name⟩ := p_law_name
  have F_law_name := fun_mk (st := s_law_name) l_law_name c_law_name k_law_name
  have b_law_name := F_law_name.binds (ps := p_law_name) fun _ _ _ _ _ _ us hl => match us, hl with | [_], _ => rfl
  obtain ⟨a_law_names, ⟨oc_law_names, od_law_names, kV_law_names, dc_law_names, pm_law_names, an_law_names, cd_law_names, ct_law_names, sl_law_names, l_law_names, c_law_names⟩, k_law_names⟩ := p_law_names
  have F_law_names := fun_mk (st := s_law_names) l_law_names c_law_names k_law_names
  have b_law_names := F_law_names.binds (ps := p_law_names) fun _ _ _ _ _ _ us hl => match us, hl with | [_, _], _ => rfl
  obtain ⟨a_law_marks, ⟨oc_law_marks, od_law_marks, kV_law_marks, dc_law_marks, pm_law_marks, an_law_marks, cd_law_marks, ct_law_marks, sl_law_marks, l_law_marks, c_law_marks⟩, k_law_marks⟩ := p_law_marks
  have F_law_marks := fun_mk (st := s_law_marks) l_law_marks c_law_marks k_law_marks
  have b_law_marks := F_law_marks.binds (ps := p_law_marks) fun _ _ _ _ _ _ us hl => match us, hl with | [_, _], _ => rfl
  obtain ⟨a_law_readings, ⟨oc_law_readings, od_law_readings, kV_law_readings, dc_law_readings, pm_law_readings, an_law_readings, cd_law_readings, ct_law_readings, sl_law_readings, l_law_readings, c_law_readings⟩, k_law_readings⟩ := p_law_readings
  have F_law_readings := fun_mk (st := s_law_readings) l_law_readings c_law_readings k_law_readings
  have b_law_readings := F_law_readings.binds (ps := p_law_readings) fun _ _ _ _ _ _ us hl => match us, hl with | [_, _, _], _ => rfl
  obtain ⟨a_law_ratio, ⟨oc_law_ratio, od_law_ratio, kV_law_ratio, dc_law_ratio, pm_law_ratio, an_law_ratio, cd_law_ratio, ct_law_ratio, sl_law_ratio, l_law_ratio, c_law_ratio⟩, k_law_ratio⟩ := p_law_ratio
  have F_law_ratio := fun_mk (st := s_law_ratio) l_law_ratio c_law_ratio k_law_ratio
  have b_law_ratio := F_law_ratio.binds (ps := p_law_ratio) fun _ _ _ _ _ _ us hl => match us, hl with | [_, _], _ => rfl
  obtain ⟨a_law_spot, ⟨oc_law_spot, od_law_spot, kV_law_spot, dc_law_spot, pm_law_spot, an_law_spot, cd_law_spot, ct_law_spot, sl_law_spot, l_law_spot, c_law_spot⟩, k_law_spot⟩ := p_law_spot
  have F_law_spot := fun_mk (st := s_law_spot) l_law_spot c_law_spot k_law_spot
  have b_law_spot := F_law_spot.binds (ps := p_law_spot) fun _ _ _ _ _ _ us hl => match us, hl with | [_, _], _ => rfl
  obtain ⟨a_law, ⟨oc_law, od_law, kV_law, dc_law, pm_law, an_law, cd_law, ct_law, sl_law, l_law, c_law⟩, k_law⟩ := p_law
  have F_law := fun_mk (st := s_law) l_law c_law k_law
  have b_law := F_law.binds (ps := p_law) fun _ _ _ _ _ _ us hl => match us, hl with | [_], _ => rfl
  have B : Bt mg := ⟨PySem.W.mg_none_of X G z_len, PySem.W.mg_none_of X G z_list, PySem.W.mg_none_of X G z_abs, PySem.W.mg_none_of X G z_isinstance, PySem.W.mg_none_of X G z_int, PySem.W.mg_none_of X G z_bool, PySem.W.mg_none_of X G z_str, PySem.W.mg_none_of X G z_dict, PySem.W.mg_none_of X G z_tuple, PySem.W.mg_none_of X G z_all, PySem.W.mg_none_of X G z_range, PySem.W.mg_none_of X G z_sorted⟩
  have XN : NoR K mg C_NoRatio := ⟨PySem.W.mg_of X G aC, x, k, b, t, PySem.W.exm_ref b e4 t sc⟩
  have qN : ∀ H, SqT K H a_NOUGHT [.int 0, .int 1] := fun H => .inr ⟨_, _, _, lN, rfl, rfl, (by show 2 ≤ sizeLine; decide), .cons ⟨_, rfl⟩ (.cons ⟨_, rfl⟩ .nil)⟩
  let ev : Env K mg := { f_greatest_common := f_greatest_common, d_greatest_common := _, A_greatest_common := ⟨F_greatest_common, b_greatest_common, PySem.W.mg_of X G a_greatest_common⟩, f_ratio := f_ratio, d_ratio := _, A_ratio := ⟨F_ratio, b_ratio, PySem.W.mg_of X G a_ratio⟩, f_plus := f_plus, d_plus := _, A_plus := ⟨F_plus, b_plus, PySem.W.mg_of X G a_plus⟩, f_minus := f_minus, d_minus := _, A_minus := ⟨F_minus, b_minus, PySem.W.mg_of X G a_minus⟩, f_times := f_times, d_times := _, A_times := ⟨F_times, b_times, PySem.W.mg_of X G a_times⟩, f_is_word := f_is_word, d_is_word := _, A_is_word := ⟨F_is_word, b_is_word, PySem.W.mg_of X G a_is_word⟩, f_is_name := f_is_name, d_is_name := _, A_is_name := ⟨F_is_name, b_is_name, PySem.W.mg_of X G a_is_name⟩, f_is_within := f_is_within, d_is_within := _, A_is_within := ⟨F_is_within, b_is_within, PySem.W.mg_of X G a_is_within⟩, f_check_name := f_check_name, d_check_name := _, A_check_name := ⟨F_check_name, b_check_name, PySem.W.mg_of X G a_check_name⟩, f_check_number := f_check_number, d_check_number := _, A_check_number := ⟨F_check_number, b_check_number, PySem.W.mg_of X G a_check_number⟩, f_check_place := f_check_place, d_check_place := _, A_check_place := ⟨F_check_place, b_check_place, PySem.W.mg_of X G a_check_place⟩, f_check_reading := f_check_reading, d_check_reading := _, A_check_reading := ⟨F_check_reading, b_check_reading, PySem.W.mg_of X G a_check_reading⟩, f_Survey___init__ := f_Survey___init__, d_Survey___init__ := _, A_Survey___init__ := ⟨F_Survey___init__, b_Survey___init__, me_Survey___init__⟩, f_Survey_readings := f_Survey_readings, d_Survey_readings := _, A_Survey_readings := ⟨F_Survey_readings, b_Survey_readings, me_Survey_readings⟩, f_rests := f_rests, d_rests := _, A_rests := ⟨F_rests, b_rests, PySem.W.mg_of X G a_rests⟩, f_cost := f_cost, d_cost := _, A_cost := ⟨F_cost, b_cost, PySem.W.mg_of X G a_cost⟩, f_law_bag := f_law_bag, d_law_bag := _, A_law_bag := ⟨F_law_bag, b_law_bag, PySem.W.mg_of X G a_law_bag⟩, f_law_draw := f_law_draw, d_law_draw := _, A_law_draw := ⟨F_law_draw, b_law_draw, PySem.W.mg_of X G a_law_draw⟩, f_law_whole := f_law_whole, d_law_whole := _, A_law_whole := ⟨F_law_whole, b_law_whole, PySem.W.mg_of X G a_law_whole⟩, f_law_same := f_law_same, d_law_same := _, A_law_same := ⟨F_law_same, b_law_same, PySem.W.mg_of X G a_law_same⟩, f_law_any := f_law_any, d_law_any := _, A_law_any := ⟨F_law_any, b_law_any, PySem.W.mg_of X G a_law_any⟩, f_law_rat := f_law_rat, d_law_rat := _, A_law_rat := ⟨F_law_rat, b_law_rat, PySem.W.mg_of X G a_law_rat⟩, f_law_sum := f_law_sum, d_law_sum := _, A_law_sum := ⟨F_law_sum, b_law_sum, PySem.W.mg_of X G a_law_sum⟩, f_law_dif := f_law_dif, d_law_dif := _, A_law_dif := ⟨F_law_dif, b_law_dif, PySem.W.mg_of X G a_law_dif⟩, f_law_prod := f_law_prod, d_law_prod := _, A_law_prod := ⟨F_law_prod, b_law_prod, PySem.W.mg_of X G a_law_prod⟩, f_law_name := f_law_name, d_law_name := _, A_law_name := ⟨F_law_name, b_law_name, PySem.W.mg_of X G a_law_name⟩, f_law_names := f_law_names, d_law_names := _, A_law_names := ⟨F_law_names, b_law_names, PySem.W.mg_of X G a_law_names⟩, f_law_marks := f_law_marks, d_law_marks := _, A_law_marks := ⟨F_law_marks, b_law_marks, PySem.W.mg_of X G a_law_marks⟩, f_law_readings := f_law_readings, d_law_readings := _, A_law_readings := ⟨F_law_readings, b_law_readings, PySem.W.mg_of X G a_law_readings⟩, f_law_ratio := f_law_ratio, d_law_ratio := _, A_law_ratio := ⟨F_law_ratio, b_law_ratio, PySem.W.mg_of X G a_law_ratio⟩, f_law_spot := f_law_spot, d_law_spot := _, A_law_spot := ⟨F_law_spot, b_law_spot, PySem.W.mg_of X G a_law_spot⟩, f_law := fa, d_law := _, A_law := ⟨F_law, b_law, PySem.W.mg_of X G a_law⟩, B := B, C_NoRatio := C_NoRatio, X_NoRatio := XN, C_Survey := C_Survey, a_NOUGHT := a_NOUGHT, cl_Survey := ⟨pgS, hdS, poS, saS⟩, M_Survey := ⟨mkS, me_Survey___init__.at_, me_Survey___init__.fn, kcS⟩, g_Survey := PySem.W.mg_of X G aS, n1_Survey := n1S, n2_Survey := n2S, t1 := t1, t2 := t2, t3 := t3, t4 := t4, t5 := t5, c_MOST := PySem.W.mg_of X G cM, c_LEAST_WEIGHT := PySem.W.mg_of X G cL, c_MOST_WEIGHT := PySem.W.mg_of X G cW, c_LONGEST := PySem.W.mg_of X G cG, c_LETTERS := PySem.W.mg_of X G cT, c_NOUGHT := PySem.W.mg_of X G cN, q_NOUGHT := qN }
  exact ⟨_, fun s v => .of_eq rfl, fun base _ _ => ok_law ev⟩
end G
open PySem PySem.W PyProof.Rows
set_option maxHeartbeats 0 in
theorem PySem.Challenge.cw_gromatic_k08_rests_and_costs_holds : PySem.Challenge.rw_gromatic_k08_rests_and_costs.Holds := by
  w_on; o_law; k_head; (case hw => w_witness2)
  k_fill
  refine L2.walk_of (l := PySem.Challenge.rw_gromatic_k08_rests_and_costs) (n := 63) (k := 6) (x := "_law_script") (CX := fun _ => L2.CX0) (sp := fun w => G.spLaw _) rfl (by decide) rfl ⟨rfl, by decide, by decide⟩ (fun w h Y => PySem.W.kIn_of Y) ?F (fun _ _ a ns hl _ hS => ⟨a, ns, rfl, hS, hl, fun _ => rfl⟩) (fun _ _ _ _ _ h => h)
  case F =>
    intro w mg fa h KX GN hmg
    refine' G.all_mk KX GN hmg (G.put_mk ?a_greatest_common ?l_greatest_common ?c_greatest_common ?k_greatest_common) (G.put_mk ?a_ratio ?l_ratio ?c_ratio ?k_ratio) (G.put_mk ?a_plus ?l_plus ?c_plus ?k_plus) (G.put_mk ?a_minus ?l_minus ?c_minus ?k_minus) (G.put_mk ?a_times ?l_times ?c_times ?k_times) (G.put_mk ?a_is_word ?l_is_word ?c_is_word ?k_is_word) (G.put_mk ?a_is_name ?l_is_name ?c_is_name ?k_is_name) (G.put_mk ?a_is_within ?l_is_within ?c_is_within ?k_is_within) (G.put_mk ?a_check_name ?l_check_name ?c_check_name ?k_check_name) (G.put_mk ?a_check_number ?l_check_number ?c_check_number ?k_check_number) (G.put_mk ?a_check_place ?l_check_place ?c_check_place ?k_check_place) (G.put_mk ?a_check_reading ?l_check_reading ?c_check_reading ?k_check_reading) (G.putM_mk ?a_Survey___init__ ?i_Survey___init__ ?l_Survey___init__ ?c_Survey___init__ ?k_Survey___init__) (G.putM_mk ?a_Survey_readings ?i_Survey_readings ?l_Survey_readings ?c_Survey_readings ?k_Survey_readings) (G.put_mk ?a_rests ?l_rests ?c_rests ?k_rests) (G.put_mk ?a_cost ?l_cost ?c_cost ?k_cost) (G.put_mk ?a_law_bag ?l_law_bag ?c_law_bag ?k_law_bag) (G.put_mk ?a_law_draw ?l_law_draw ?c_law_draw ?k_law_draw) (G.put_mk ?a_law_whole ?l_law_whole ?c_law_whole ?k_law_whole) (G.put_mk ?a_law_same ?l_law_same ?c_law_same ?k_law_same) (G.put_mk ?a_law_any ?l_law_any ?c_law_any ?k_law_any) (G.put_mk ?a_law_rat ?l_law_rat ?c_law_rat ?k_law_rat) (G.put_mk ?a_law_sum ?l_law_sum ?c_law_sum ?k_law_sum) (G.put_mk ?a_law_dif ?l_law_dif ?c_law_dif ?k_law_dif) (G.put_mk ?a_law_prod ?l_law_prod ?c_law_prod ?k_law_prod) (G.put_mk ?a_law_name ?l_law_name ?c_law_name ?k_law_name) (G.put_mk ?a_law_names ?l_law_names ?c_law_names ?k_law_names) (G.put_mk ?a_law_marks ?l_law_marks ?c_law_marks ?k_law_marks) (G.put_mk ?a_law_readings ?l_law_readings ?c_law_readings ?k_law_readings) (G.put_mk ?a_law_ratio ?l_law_ratio ?c_law_ratio ?k_law_ratio) (G.put_mk ?a_law_spot ?l_law_spot ?c_law_spot ?k_law_spot) (G.put_mk ?a_law ?l_law ?c_law ?k_law) ?aC ?x ?k ?b ?t ?e4 ?sc ?aS ?pgS ?hdS ?poS ?saS ?mkS ?kcS ?n1S ?n2S ?cM ?cL ?cW ?cG ?cT ?cN ?lN ?z_len ?z_list ?z_abs ?z_isinstance ?z_int ?z_bool ?z_str ?z_dict ?z_tuple ?z_all ?z_range ?z_sorted
    (case aC => k_is)
    (case x => k_exc)
    (case k => k_is)
    (case b => k_is)
    (case t => k_is)
    (case e4 => k_is)
    (case sc => first | rfl | k_is)
    (case aS => k_is)
    (case pgS => k_is)
    (case hdS => k_is)
    (case poS => k_is)
    (case saS => k_is)
    (case mkS => k_is)
    (case kcS => k_is)
    (case n1S => k_is)
    (case n2S => k_is)
    (case cM => k_is)
    (case cL => k_is)
    (case cW => k_is)
    (case cG => k_is)
    (case cT => k_is)
    (case cN => k_is)
    (case lN => k_is)
    (case a_greatest_common => k_is)
    (case l_greatest_common => k_is)
    (case c_greatest_common => k_is)
    (case k_greatest_common => k_is)
    (case a_ratio => k_is)
    (case l_ratio => k_is)
    (case c_ratio => k_is)
    (case k_ratio => k_is)
    (case a_plus => k_is)
    (case l_plus => k_is)
    (case c_plus => k_is)
    (case k_plus => k_is)
    (case a_minus => k_is)
    (case l_minus => k_is)
    (case c_minus => k_is)
    (case k_minus => k_is)
    (case a_times => k_is)
    (case l_times => k_is)
    (case c_times => k_is)
    (case k_times => k_is)
    (case a_is_word => k_is)
    (case l_is_word => k_is)
    (case c_is_word => k_is)
    (case k_is_word => k_is)
    (case a_is_name => k_is)
    (case l_is_name => k_is)
    (case c_is_name => k_is)
    (case k_is_name => k_is)
    (case a_is_within => k_is)
    (case l_is_within => k_is)
    (case c_is_within => k_is)
    (case k_is_within => k_is)
    (case a_check_name => k_is)
    (case l_check_name => k_is)
    (case c_check_name => k_is)
    (case k_check_name => k_is)
    (case a_check_number => k_is)
    (case l_check_number => k_is)
    (case c_check_number => k_is)
    (case k_check_number => k_is)
    (case a_check_place => k_is)
    (case l_check_place => k_is)
    (case c_check_place => k_is)
    (case k_check_place => k_is)
    (case a_check_reading => k_is)
    (case l_check_reading => k_is)
    (case c_check_reading => k_is)
    (case k_check_reading => k_is)
    (case a_Survey___init__ => k_is)
    (case i_Survey___init__ => k_is)
    (case l_Survey___init__ => k_is)
    (case c_Survey___init__ => k_is)
    (case k_Survey___init__ => k_is)
    (case a_Survey_readings => k_is)
    (case i_Survey_readings => k_is)
    (case l_Survey_readings => k_is)
    (case c_Survey_readings => k_is)
    (case k_Survey_readings => k_is)
    (case a_rests => k_is)
    (case l_rests => k_is)
    (case c_rests => k_is)
    (case k_rests => k_is)
    (case a_cost => k_is)
    (case l_cost => k_is)
    (case c_cost => k_is)
    (case k_cost => k_is)
    (case a_law_bag => k_is)
    (case l_law_bag => k_is)
    (case c_law_bag => k_is)
    (case k_law_bag => k_is)
    (case a_law_draw => k_is)
    (case l_law_draw => k_is)
    (case c_law_draw => k_is)
    (case k_law_draw => k_is)
    (case a_law_whole => k_is)
    (case l_law_whole => k_is)
    (case c_law_whole => k_is)
    (case k_law_whole => k_is)
    (case a_law_same => k_is)
    (case l_law_same => k_is)
    (case c_law_same => k_is)
    (case k_law_same => k_is)
    (case a_law_any => k_is)
    (case l_law_any => k_is)
    (case c_law_any => k_is)
    (case k_law_any => k_is)
    (case a_law_rat => k_is)
    (case l_law_rat => k_is)
    (case c_law_rat => k_is)
    (case k_law_rat => k_is)
    (case a_law_sum => k_is)
    (case l_law_sum => k_is)
    (case c_law_sum => k_is)
    (case k_law_sum => k_is)
    (case a_law_dif => k_is)
    (case l_law_dif => k_is)
    (case c_law_dif => k_is)
    (case k_law_dif => k_is)
    (case a_law_prod => k_is)
    (case l_law_prod => k_is)
    (case c_law_prod => k_is)
    (case k_law_prod => k_is)
    (case a_law_name => k_is)
    (case l_law_name => k_is)
    (case c_law_name => k_is)
    (case k_law_name => k_is)
    (case a_law_names => k_is)
    (case l_law_names => k_is)
    (case c_law_names => k_is)
    (case k_law_names => k_is)
    (case a_law_marks => k_is)
    (case l_law_marks => k_is)
    (case c_law_marks => k_is)
    (case k_law_marks => k_is)
    (case a_law_readings => k_is)
    (case l_law_readings => k_is)
    (case c_law_readings => k_is)
    (case k_law_readings => k_is)
    (case a_law_ratio => k_is)
    (case l_law_ratio => k_is)
    (case c_law_ratio => k_is)
    (case k_law_ratio => k_is)
    (case a_law_spot => k_is)
    (case l_law_spot => k_is)
    (case c_law_spot => k_is)
    (case k_law_spot => k_is)
    (case a_law => k_is)
    (case l_law => k_is)
    (case c_law => k_is)
    (case k_law => k_is)
    (case z_len => k_is)
    (case z_list => k_is)
    (case z_abs => k_is)
    (case z_isinstance => k_is)
    (case z_int => k_is)
    (case z_bool => k_is)
    (case z_str => k_is)
    (case z_dict => k_is)
    (case z_tuple => k_is)
    (case z_all => k_is)
    (case z_range => k_is)
    (case z_sorted => k_is)
