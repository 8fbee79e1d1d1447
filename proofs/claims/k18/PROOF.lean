import PyProof.Rows.All
import Wide.All
import OpenK.AllK
import Wide.FinOn
import Lean
import PyProof.EqAt
import PyProof.EqKinds
import PyProof.TupleCall
import PyProof.EqLayable
import PyProof.DictIter
import PyProof.CollectWalk
import PyProof.Rows.SetFrom
import PyProof.Rows.SortWalk
import PyProof.Walks
import PyProof.WalksS
import PyProof.FactsAll.set_1
import PyProof.DictWalks
import KE.KTryMore
import PyProof.ExcClass3
import PyProof.ExcBaseAll.ValueError
import PyProof.RulesDel
import PyProof.RulesAs
import PyProof.ExcArgsOwn
import PyProof.SetRoads
import PyProof.FString
import PyProof.StrWalks
import PyProof.Rows.StrJoin2
import PyProof.StrLawsTight
import KE.KIntText
import PyProof.Rows.StrNews2
import PyProof.SliceStr2
import PyProof.StrBlockG
import KE.KRevIter
import PyProof.ListStr
import PyProof.TupleKey
import PyProof.EnumFor
import PyProof.EnumStmt
import PyProof.EnumMake
import PyProof.LayNew
import PyProof.Conv_int_bool
import PyProof.Rows.SeqMore2
import KE.KDictOf
import KE.KDictList
import PyProof.DictUpdate
import PyProof.FactsDict
import PyProof.FactsAll.dict_1
import PyProof.FactsAll.dict_2
import PyProof.MeetsSeq
import PyProof.FactsAll.dict_3
import PyProof.FactsAll.dict_4
import PyProof.ListRange
import PyProof.Rows.SumAny
import PySem.Challenge.RW_crownwalk_k18_wish_game
set_option Elab.async false
set_option linter.all false
set_option maxRecDepth 100000
set_option maxHeartbeats 4000000
noncomputable section
local macro_rules | `(tactic| array_get_dec) => `(tactic| first | exact .inl rfl | exact .inr (.inl rfl) | exact .inr (.inr rfl) | exact .inr rfl | assumption)
set_option hygiene false in
local macro_rules | `(tactic| array_mem_dec) => `(tactic| first | exact L2.nobehind _ (by decide) (by decide) | rfl)
section
variable {a b c d e f g h i j k l m n : Nat} {p q r s t u v w x y z : Int}
theorem ω1 : -2 ^ 62 ≤ (↑a : Int) := by exact Int.neg_ofNat_le_natCast (2 ^ 62) a
theorem ω2 : 0 ≤ (↑a : Int) := by exact Int.natCast_nonneg a
theorem ω3 : 0 < a → 0 < (↑a : Int) := by exact fun H1 => Int.natCast_pos.mpr H1
theorem ω4 : 1 ≤ a + 1 := by exact Nat.le_add_left 1 a
theorem ω5 : 0 + (↑a : Int) = (↑a : Int) := by exact Int.zero_add ↑a
theorem ω6 : a = b → (↑a : Int).toNat = b := by intros; subst_vars; first | assumption | rfl | lia
theorem ω7 : 0 ≤ p → p = (↑p.toNat : Int) := by exact fun H1 => Int.eq_natCast_toNat.mpr H1
theorem ω8 : 1 + a ≤ b + 1 → a ≤ b := by intro H1; refine Nat.le_of_lt_succ ?_; exact Nat.one_add_le_iff.mp H1
theorem ω9 : a ≤ b → a = c → c ≤ b := by exact fun H1 H2 => le_of_eq_of_le (id (Eq.symm H2)) H1
theorem ω10 : 0 ≤ p → p < (↑a : Int) → p.toNat < a := by exact fun H1 H2 => (Int.toNat_lt H1).mpr H2
theorem ω11 : 1 ≤ 1 + a := by exact Nat.le_add_right 1 a
theorem ω12 : a ≤ b → c < a → b = b - 1 + 1 := fun h1 h2 => (Nat.sub_add_cancel (Nat.le_trans (Nat.zero_lt_of_lt h2) h1)).symm
theorem ω13 : a < b → b ≤ c + 1 → a ≤ c := by exact fun H1 H2 => (Nat.le_of_lt_succ (Nat.lt_of_lt_of_le H1 H2))
theorem ω14 : a < 60 → b = a → (↑b : Int) < 2 ^ 62 := by intros; subst_vars; first | assumption | rfl | lia
theorem ω15 : (↑a : Int) < (↑b : Int) → a < b := by exact fun H1 => Int.ofNat_lt.mp H1
theorem ω16 : 0 ≤ p → (↑p.toNat : Int) = p := by exact fun H1 => Int.toNat_of_nonneg H1
theorem ω17 : 0 < 1 + a := by exact Nat.pos_of_neZero (1 + a)
theorem ω19 : a = b → c < (↑a : Int).toNat → c < b := by exact fun H1 H2 => Nat.lt_of_lt_of_eq H2 H1
theorem ω21 : 1 + a ≤ 1 + a := by exact Nat.le_refl (1 + a)
theorem ω22 : a ≤ b → c ≤ a → c ≤ b := by exact fun H1 H2 => Nat.le_trans H2 H1
theorem ω23 : a < 1000 → a < 10000 := by exact fun H1 => (Nat.lt_trans H1 (by decide))
theorem ω24 : 3 + a ≤ 3 + a := by exact Nat.le_refl (3 + a)
theorem ω25 : p ≤ (↑(a + 1) : Int) → p - 1 ≤ (↑a : Int) := by exact fun H1 => Int.sub_right_le_iff_le_add.mpr H1
theorem ω26 : a ≤ b + 1 → 1 + a ≤ b + 1 + 1 := by lia
theorem ω28 : 1 + a ≤ b → b = b - 1 + 1 := fun h => (Nat.sub_add_cancel (Nat.le_trans (Nat.le_add_right _ _) h)).symm
theorem ω29 : a < b → 1 + a < b * 2 := by grind
theorem ω30 : a < b → (↑a : Int) < (↑b : Int) := by exact fun H1 => Int.ofNat_lt.mpr H1
theorem ω31 : 0 < p → p ≠ 0 := by exact fun H1 => Ne.symm (Int.ne_of_lt H1)
theorem ω32 : a < 1000 → (↑a : Int) < 2 ^ 62 := by lia
theorem ω33 : a ≤ 2 → Min.min b a < 16777216 := fun h => Nat.lt_of_le_of_lt (Nat.le_trans (Nat.min_le_right _ _) h) (by decide)
theorem ω34 : -2 ^ 64 < (↑a : Int) := by exact Rat.intCast_lt_intCast.mp rfl
theorem ω36 : 1 + Max.max a b ≤ c + 1 → a ≤ c := by intro h; rw [Nat.add_comm] at h; exact Nat.le_trans (Nat.le_max_left _ _) (Nat.le_of_succ_le_succ h)
theorem ω37 : 1 + Max.max a b ≤ c + 1 → b ≤ c := by intro h; rw [Nat.add_comm] at h; exact Nat.le_trans (Nat.le_max_right _ _) (Nat.le_of_succ_le_succ h)
theorem ω38 : 0 < p → 0 ≤ p := by exact fun H1 => Int.le_of_lt H1
theorem ω39 : 1 + a + 1 ≤ 1 + a + 1 := by exact Nat.le_refl (1 + a + 1)
theorem ω40 : p / 27 % 2 = 0 ∨ p / 27 % 2 = 1 := by exact Int.emod_two_eq (p / 27)
theorem ω41 : a + (b + 1) < 1000 → a + b < 1000 := by exact fun H1 => Nat.lt_of_succ_lt H1
theorem ω43 : 2 ^ 1 ≤ a → 1 < a := by exact fun H1 => Nat.lt_of_succ_le H1
theorem ω44 : a + 1 + b = a + (b + 1) := by exact Nat.succ_add_eq_add_succ a b
theorem ω45 : a ≤ 1 → a ≤ 1 := by exact fun H1 => String.Pos.Raw.mk_le_mk.mp H1
theorem ω47 : a ≤ 1 → a + 1 ≤ 64 := by exact fun H1 => (Nat.lt_of_le_of_lt H1 (by decide))
theorem ω48 : a < 900 → a < 1000 := by exact fun H1 => (Nat.lt_trans H1 (by decide))
theorem ω49 : a < b → b - (a + 1) < b - a := by exact fun H1 => Nat.sub_succ_lt_self b a H1
theorem ω50 : a ≤ b → ¬a < b → a = b := by lia
theorem ω51 : p % 2 = 0 ∨ p % 2 = 1 := by exact Int.emod_two_eq p
theorem ω52 : a < 60 → b ≤ a → b < 1000 := by exact fun H1 H2 => (Nat.lt_of_le_of_lt H2 (Nat.lt_trans H1 (by decide)))
theorem ω55 : a < b → c = b → a < c := by exact fun H1 H2 => Nat.lt_of_lt_of_eq H1 (id (Eq.symm H2))
theorem ω59 : 1 + a ≤ b → a ≤ b := by exact fun H1 => Nat.le_of_add_left_le H1
theorem ω60 : a ≤ a + 1 := by exact Nat.le_add_right a 1
theorem ω61 : 1 + a + 2 ≤ 1 + a + 2 := by exact Nat.le_refl (1 + a + 2)
theorem ω62 : a ≤ b + 1 → c ≤ b + 1 → 1 + Max.max a c ≤ b + 1 + 1 := by lia
theorem ω63 : 1 + Max.max a b ≤ c → c = c - 1 + 1 := fun h => (Nat.sub_add_cancel (Nat.le_trans (Nat.le_add_right _ _) h)).symm
theorem ω64 : a < b → c < b → 1 + a + c < b * 2 := by grind
theorem ω66 : ¬0 ≤ p → p < 0 := by exact fun H1 => Int.lt_of_not_ge H1
theorem ω67 : ¬(↑a : Int) < 0 := by exact Int.not_ofNat_neg a
theorem ω68 : a < b - c → c + a < b := by exact fun H1 => Nat.add_lt_of_lt_sub' H1
theorem ω69 : a = b → b ≤ a := by exact fun H1 => Nat.le_of_eq (id (Eq.symm H1))
theorem ω71 : ¬a < b → b ≤ a := by exact fun H1 => Nat.le_of_not_lt H1
theorem ω73 : p < q → p ≠ q := by exact fun H1 => Int.ne_of_lt H1
theorem ω74 : a ≤ 2 → Min.min b a ≤ 2 := by grind
theorem ω75 : a ≤ 2 → a < 16777216 := by exact fun H1 => (Nat.lt_of_le_of_lt H1 (by decide))
theorem ω76 : a + b < 1000 → c ≤ a + 1 → d < b → c + d < 1000 := by grind
theorem ω77 : a < 60 → b < a → b ≤ 60 := by exact fun H1 H2 => (Nat.le_of_lt (Nat.lt_trans H2 H1))
theorem ω78 : a < 60 → (0 ≤ p ∧ p < (↑a : Int)) → 0 ≤ p ∧ p < 1000 := fun h1 h2 => ⟨h2.1, Int.lt_trans h2.2 (Int.ofNat_lt.mpr (Nat.lt_trans h1 (by decide)))⟩
theorem ω79 : a + b ≤ c → a = d → b = e → d + e ≤ c := by intro H1 H2 H3; subst H2 H3; exact String.Pos.Raw.mk_le_mk.mp H1
theorem ω100 : a ≤ b → b ≤ c → a ≤ c := by exact fun H1 H2 => Nat.le_trans H1 H2
theorem ω105 : a = b → a ≤ b := by exact fun H1 => Nat.le_of_eq H1
theorem ω110 : a + 1 = 1 + a := by exact Nat.add_comm a 1
theorem ω111 : a ≤ b → a ≤ 1 + b := by exact fun H1 => Nat.le_add_left_of_le H1
theorem ω114 : 0 < p → 0 < 6 * p := by lia
theorem ω115 : p < 1000 → 6 * p < 1073741824 := by lia
theorem ω116 : 0 < p → 0 < 2 * p := by lia
theorem ω117 : p < 1000 → 2 * p < 1073741824 := by lia
theorem ω118 : -2 ^ 62 ≤ p % 3 := by lia
theorem ω119 : p % 3 < 2 ^ 62 := by lia
theorem ω120 : p < 1000 → p < 1073741824 := by exact fun H1 => (Int.lt_trans H1 (by decide))
theorem ω121 : a < (p % 3).toNat → b ≤ a + 1 → b < 16777216 := by lia
theorem ω122 : a ≤ b + 1 → a ≤ b + 1 := by exact fun H1 => String.Pos.Raw.mk_le_mk.mp H1
theorem ω123 : a ≤ (p % 3).toNat + 1 → a ≤ 3 := by lia
theorem ω124 : a ≤ 3 → a < 4000 := by exact fun H1 => (Nat.lt_of_le_of_lt H1 (by decide))
theorem ω125 : a ≤ 3 → b ≤ a → b < 64 := by exact fun H1 H2 => (Nat.lt_of_le_of_lt H2 (Nat.lt_of_le_of_lt H1 (by decide)))
theorem ω126 : a < (↑b : Int).toNat → 0 < (↑b : Int) := by intro H1; refine Int.ofNat_lt.mpr ?_; exact Nat.zero_lt_of_lt H1
theorem ω127 : a < 1000 → (↑a : Int) < 1000 := by exact fun H1 => Int.lt_toNat.mp H1
theorem ω128 : a < 1000 → b < (↑a : Int).toNat → c = b → d = c → d < 16777216 := by intro h1 h2 e1 e2; subst e1 e2; exact Nat.lt_trans h2 (Nat.lt_trans h1 (by decide))
theorem ω129 : a = (↑b : Int).toNat → a = b := by intros; subst_vars; first | assumption | rfl | lia
theorem ω132 : a < Min.min b c → a < c := fun h => Nat.lt_of_lt_of_le h (Nat.min_le_right _ _)
theorem ω133 : a ≤ 2 → b ≤ Min.min c a → b < 16777216 := fun h1 h2 => Nat.lt_of_le_of_lt (Nat.le_trans h2 (Nat.le_trans (Nat.min_le_right _ _) h1)) (by decide)
theorem ω134 : (0 ≤ p ∧ p < 1000) → -2 ^ 64 < p := by lia
theorem ω135 : (0 ≤ p ∧ p < 1000) → p < 2 ^ 64 := by exact fun H1 => (Int.lt_trans H1.2 (by decide))
theorem ω136 : a < 1000 → (↑a : Int) < 2 ^ 64 := by lia
theorem ω137 : a + b < 1000 → a < 16777216 := by grind
theorem ω138 : (↑a : Int) + 1 + (↑b : Int) = (↑(a + 1 + b) : Int) := by exact Int.mem_toNat?.mp rfl
theorem ω139 : a < 1000 → b + c < a → c < 1000 := by grind
theorem ω140 : a < 1000 → b = c → c + d < a → e = d → b + e ≤ 16777216 := by intros; subst_vars; first | assumption | rfl | lia
theorem ω141 : a < 1000 → b = c → c < a → 1 + b ≤ 16777216 := by intros; subst_vars; first | assumption | rfl | lia
theorem ω142 : 1 ≤ 1 + a + 2 := by exact Nat.le_add_left 1 (1 + a + 1)
theorem ω143 : a < 1000 → a ≤ 1000 := by exact fun H1 => Nat.le_of_succ_le H1
theorem ω144 : a < 60 → b < a → b < 1000 := by exact fun H1 H2 => (Nat.lt_trans H2 (Nat.lt_trans H1 (by decide)))
theorem ω145 : a < 1000 → b = a → b < 1000 := by exact fun H1 H2 => lt_of_eq_of_lt H2 H1
theorem ω146 : a ≤ 2 → a < 1000 := by exact fun H1 => (Nat.lt_of_le_of_lt H1 (by decide))
theorem ω147 : a < 1000 → b = c + Min.min d a → c ≤ 60 * 1000 → b < 16777216 := fun h1 h2 h3 => Nat.lt_of_le_of_lt (Nat.le_trans (Nat.le_of_eq h2) (Nat.add_le_add h3 (Nat.le_trans (Nat.min_le_right _ _) (Nat.le_of_lt h1)))) (by decide)
theorem ω148 : 0 < a → (↑a : Int) ≠ 0 := by exact fun H1 => Int.natCast_ne_zero_iff_pos.mpr H1
theorem ω149 : (↑a : Int) + 1 = (↑(a + 1) : Int) := by exact Int.ofNat_add_one_out a
theorem ω150 : 1 ≤ 3 + a := by grind
theorem ω151 : 3 ≤ 3 + a := by exact Nat.le_add_right 3 a
theorem ω152 : p ≤ (↑a : Int) → ¬p < 1 → a = a - 1 + 1 := by intros; subst_vars; first | assumption | rfl | lia
theorem ω153 : ¬p % 9 = 0 → p % 9 < 3 → p % 9 - 1 = 0 ∨ p % 9 - 1 = 1 := by grind
theorem ω154 : ¬p % 9 < 3 → p % 9 < 5 → p % 9 - 3 = 0 ∨ p % 9 - 3 = 1 := by grind
theorem ω155 : p / 9 % 4 = 0 ∨ p / 9 % 4 = 1 ∨ p / 9 % 4 = 2 ∨ p / 9 % 4 = 3 := by grind
theorem ω156 : a + (b + 1) < 1000 → a + 1 ≤ 16777216 := by grind
theorem ω157 : a + (b + 1) < 1000 → a + 1 + b < 1000 := by lia
theorem ω158 : ¬p % 9 < 5 → p % 9 - 5 = 0 ∨ p % 9 - 5 = 1 ∨ p % 9 - 5 = 2 ∨ p % 9 - 5 = 3 := by grind
theorem ω159 : a < 1000 → a < 1000 := by exact fun H1 => Nat.lt_of_succ_le H1
theorem ω160 : 1 + p % 4 = (↑(1 + p % 4).toNat : Int) := by grind
theorem ω161 : 0 < (1 + p % 4).toNat := by lia
theorem ω162 : (1 + p % 4).toNat ≤ 4 := by lia
theorem ω163 : a ≤ 4 → (↑a : Int) < 2 ^ 62 := by lia
theorem ω164 : 0 < a → a = 0 → False := by intro H1 H2; subst H2; exact Nat.not_succ_le_zero 0 H1
theorem ω165 : 1 ≤ a → a ≤ 7 → a = 1 ∨ a = 2 ∨ a = 3 ∨ a = 4 ∨ a = 5 ∨ a = 6 ∨ a = 7 := by grind
theorem ω166 : a ≤ 6 → a < 60 := by exact fun H1 => (Nat.lt_of_le_of_lt H1 (by decide))
theorem ω167 : a ≤ 24 → a ≤ 27 := by exact fun H1 => (Nat.le_trans H1 (by decide))
theorem ω169 : a + b ≤ c → a + b ≤ c := by exact fun H1 => String.Pos.Raw.mk_le_mk.mp H1
theorem ω171 : a < 64 → b = a → b ≤ 16777216 := by exact fun H1 H2 => (Nat.le_of_lt (Nat.lt_of_le_of_lt (Nat.le_of_eq H2) (Nat.lt_trans H1 (by decide))))
theorem ω172 : a < b → a ≤ b - 1 := by exact fun H1 => Nat.le_sub_one_of_lt H1
theorem ω173 : a < 64 → b = a → b < 64 := by exact fun H1 H2 => lt_of_eq_of_lt H2 H1
theorem ω174 : 0 < p → p < 1073741824 → p.natAbs < 1073741824 := by omega
theorem ω175 : a ≤ PySem.sizeLine → p < (↑a : Int) → PySem.sizeLine < 2 ^ 63 → p < 2 ^ 63 := by lia
theorem ω176 : a ≤ PySem.sizeLine → -(↑a : Int) ≤ p → PySem.sizeLine < 2 ^ 63 → -2 ^ 63 ≤ p := by grind
theorem ω178 : a ≤ b → c < a → c < b := by exact fun H1 H2 => Nat.lt_of_lt_of_le H2 H1
theorem ω180 : 0 < 1 + a + b := by exact Nat.pos_of_neZero (1 + a + b)
theorem ω224 : a ≤ 4 → (↑a : Int) < 1000 := by lia
theorem ω225 : a ≤ 4 → b < (↑a : Int).toNat → b < 16777216 := by exact fun H1 H2 => (Nat.lt_trans H2 (Nat.lt_of_le_of_lt H1 (by decide)))
theorem ω227 : a ≤ 4 → (↑a : Int).toNat < 1000 := by lia
theorem ω230 : (↑a : Int) + (↑b : Int) + 1 = (↑a : Int) + (1 + (↑b : Int)) := by grind
theorem ω231 : 0 + 9 ≤ 16777216 := by exact Nat.le_of_ble_eq_true rfl
theorem ω232 : a ≤ 9 → 0 + 9 + a ≤ 16777216 := by lia
theorem ω233 : a ≤ 9 → 0 + 9 + a + 30 ≤ 16777216 := by lia
theorem ω234 : a ≤ 9 → a ≤ 16777216 := by exact fun H1 => (Nat.le_trans H1 (by decide))
theorem ω235 : (↑(a + 1) : Int) = (↑a : Int) → False := by grind
theorem ω236 : a + b < 1000 → b < 16777216 := by grind
theorem ω237 : a + b < 1000 → c ≤ Min.min d a → c < 16777216 := fun h1 h2 => Nat.lt_of_le_of_lt (Nat.le_trans h2 (Nat.min_le_right _ _)) (Nat.lt_of_le_of_lt (Nat.le_add_right _ _) (Nat.lt_trans h1 (by decide)))
theorem ω238 : a + b < 1000 → a + 1 ≤ 16777216 := by grind
theorem ω239 : a < b → ¬a = 0 → Min.min a b = 0 → False := by grind
theorem ω240 : (↑(a + (b + 1)) : Int) = (↑(a + 1 + b) : Int) := by rw [Nat.add_right_comm]; exact Int.ofNat_inj.mpr rfl
theorem ω241 : a + b < 1000 → c + d < a → d + (b + (c + 1)) < 1000 := by grind
theorem ω242 : 1 + a + 1 ≤ 1 + a + 2 := by exact Nat.le_succ (1 + a + 1)
theorem ω243 : a < 60 → b < a → p = (↑b : Int) → 0 ≤ p ∧ p < 1000 := by intro h1 h2 e; subst e; exact ⟨Int.natCast_nonneg _, Int.ofNat_lt.mpr (Nat.lt_trans h2 (Nat.lt_trans h1 (by decide)))⟩
theorem ω244 : a ≤ 2 → a < 10000 := by exact fun H1 => (Nat.lt_of_le_of_lt H1 (by decide))
theorem ω245 : 0 ≤ p → -2 ^ 64 < p := by lia
theorem ω246 : p < 1000 → p < 2 ^ 64 := by exact fun H1 => (Int.lt_trans H1 (by decide))
theorem ω247 : a ≤ 2 → b ≤ 2 * c → a + b ≤ 2 * (c + 1) := by grind
theorem ω248 : a < 1000 → b ≤ 2 * Min.min c a → b ≤ 2000 := fun h1 h2 => Nat.le_trans h2 (Nat.le_trans (Nat.mul_le_mul_left 2 (Nat.le_trans (Nat.min_le_right _ _) (Nat.le_of_lt h1))) (by decide))
theorem ω249 : a ≤ 2 → b ≤ 2000 → b + a ≤ 16777216 := by grind
theorem ω250 : a < 900 → b = a → b ≤ 1000 := by exact fun H1 H2 => (Nat.le_of_lt (Nat.lt_of_le_of_lt (Nat.le_of_eq H2) (Nat.lt_trans H1 (by decide))))
theorem ω251 : a < 900 → b = a → c = d + Min.min e b → d ≤ 60 * 1000 → c < 16777216 := fun h1 h0 h2 h3 => Nat.lt_of_le_of_lt (Nat.le_trans (Nat.le_of_eq h2) (Nat.add_le_add h3 (Nat.le_trans (Nat.min_le_right _ _) (Nat.le_trans (Nat.le_of_eq h0) (Nat.le_of_lt h1))))) (by decide)
theorem ω252 : a ≤ 3 + 1 → a ≤ 24 := by exact fun H1 => (Nat.le_trans H1 (by decide))
theorem ω253 : a < 2 ^ 4 → a < 100 := by exact fun H1 => (Nat.lt_trans H1 (by decide))
theorem ω254 : a = b → b ≤ 24 → a ≤ 27 := by exact fun H1 H2 => (Nat.le_trans (Nat.le_of_eq H1) (Nat.le_trans H2 (by decide)))
theorem ω255 : a ≤ 6 → (↑a : Int) < 2 ^ 64 := by lia
theorem ω256 : a = b → 1 + a = 1 + b := by exact fun H1 => Nat.add_left_cancel_iff.mpr H1
theorem ω257 : 1 + a = a + 1 := by exact Nat.add_comm 1 a
theorem ω258 : a ≤ 27 → a < 900 := by exact fun H1 => (Nat.lt_of_le_of_lt H1 (by decide))
theorem ω259 : a < 110 → a < 1000 := by exact fun H1 => (Nat.lt_trans H1 (by decide))
theorem ω260 : a ≤ 24 → a < 900 := by exact fun H1 => (Nat.lt_of_le_of_lt H1 (by decide))
theorem ω261 : a ≤ 24 → a < 1000 := by exact fun H1 => (Nat.lt_of_le_of_lt H1 (by decide))
theorem ω262 : (↑a : Int) = 0 → a = 0 := by exact fun H1 => Int.ofNat_eq_zero.mp H1
theorem ω270 : a < b → a + 1 ≤ b := by exact fun H1 => Nat.succ_le_of_lt H1
theorem ω271 : a = b → ¬c < b → a ≤ c := by intro H1 H2; subst H1; exact Nat.le_of_not_lt H2
theorem ω272 : a ≤ b → b = c - 1 → 0 < c → a + 1 ≤ c := by intro H1 H2 H3; subst H2; exact Nat.add_le_of_le_sub H3 H1
theorem ω273 : a - b ≤ a - b := by exact Nat.le_refl (a - b)
theorem ω274 : a = b → c < a → c < b := by exact fun H1 H2 => Nat.lt_of_lt_of_eq H2 H1
theorem ω275 : a - b = c + 1 → a - (b + 1) = c := by intro h; rw [Nat.sub_add_eq, h]; rfl
theorem ω276 : a - b = c + 1 → b + 1 ≤ a := fun h => Nat.lt_of_sub_eq_succ h
theorem ω280 : -2 ^ 62 ≤ 0 := by exact Int.neg_ofNat_le_ofNat (2 ^ 62) 0
theorem ω281 : a + b ≤ c → a + b ≤ c + 1 := by exact fun H1 => Nat.le_add_right_of_le H1
theorem ω285 : a = b → a ≤ c → b ≤ c := by exact fun H1 H2 => le_of_eq_of_le (id (Eq.symm H1)) H2
theorem ω286 : a ≤ b → c = a → c ≤ b := by exact fun H1 H2 => le_of_eq_of_le H2 H1
theorem ω289 : a + 3 * (b + 1) + 5 < c → a + 1 + 3 * b + 5 < c := by lia
theorem ω293 : PySem.sizeLine < 2 ^ 63 → a ≤ PySem.sizeLine → a = b → (↑b : Int) < 2 ^ 63 := by intros; subst_vars; first | assumption | rfl | lia
theorem ω294 : a < b → c ≤ a + 1 → c ≤ b := by exact fun H1 H2 => Nat.le_trans H2 H1
theorem ω302 : a < b → b < c → a < c := by exact fun H1 H2 => Nat.lt_trans H1 H2
theorem ω325 : a < 1 + a + b := by grind
theorem ω326 : a + b + 1 = 1 + a + b := by rw [Nat.add_comm]; exact Eq.symm (Nat.add_assoc 1 a b)
theorem ω327 : a ≤ b → a ≤ 1 + Max.max b c := fun h => Nat.le_trans h (Nat.le_trans (Nat.le_max_left _ _) (Nat.le_add_left _ _))
theorem ω328 : a ≤ b → a ≤ 1 + Max.max c b := fun h => Nat.le_trans h (Nat.le_trans (Nat.le_max_right _ _) (Nat.le_add_left _ _))
theorem ω329 : 1 + a + b = 1 + (a + b) := by exact Nat.add_assoc 1 a b
theorem ω330 : a < 1 + Max.max a b := by lia
theorem ω331 : a < 1 + Max.max b a := by lia
theorem ω356 : a ≤ 1 → Max.max 0 (Max.max 0 (Max.max (a + 1) 0)) + 1 ≤ 64 := by lia
theorem ω357 : a = b + 1 → a = c + 1 → c = b := by intros; subst_vars; first | assumption | rfl | lia
theorem ω358 : (p ≤ q ∧ p ≠ q) → p < q := by exact fun H1 => Int.lt_iff_le_and_ne.mpr H1
theorem ω370 : 1 + a + 1 ≤ 1 + a + 3 := by refine Nat.lt_succ_of_le ?_; exact Nat.le_add_right (1 + a) 2
theorem ω371 : 1 + a + 3 ≤ 1 + a + 3 := by exact Nat.le_refl (1 + a + 3)
theorem ω372 : a < 60 → b = a → (↑b : Int) < 2 ^ 64 := by intros; subst_vars; first | assumption | rfl | lia
theorem ω373 : ¬24 < a → a ≤ 24 := by exact fun H1 => Nat.le_of_not_lt H1
theorem ω374 : a < 7 → a < 16777216 := by exact fun H1 => (Nat.lt_trans H1 (by decide))
theorem ω375 : 1 + a + 4 ≤ 1 + a + 4 := by exact Nat.le_refl (1 + a + 4)
theorem ω376 : 1 + p % 6 = (↑(1 + p % 6).toNat : Int) := by grind
theorem ω377 : 0 < (1 + p % 6).toNat := by lia
theorem ω378 : (1 + p % 6).toNat ≤ 6 := by lia
theorem ω379 : a ≤ 6 → a < 1000 := by exact fun H1 => (Nat.lt_of_le_of_lt H1 (by decide))
theorem ω380 : 3 + (↑a : Int) = (↑(3 + a) : Int) := by exact Int.mem_toNat?.mp rfl
theorem ω381 : -2 ^ 64 < p / 12 % 2 := by lia
theorem ω382 : p / 12 % 2 < 2 ^ 64 := by lia
theorem ω383 : 24 + p < 24 * (↑a : Int) → 24 + p ≤ 24 * (↑a : Int) := by exact fun H1 => Int.le_of_lt H1
theorem ω384 : 24 * (↑a : Int) ≤ 24 * (↑a : Int) := by exact Int.le_refl (24 * ↑a)
theorem ω385 : a = b → b ≤ 24 → a ≤ 24 := by exact fun H1 H2 => le_of_eq_of_le H1 H2
theorem ω386 : a ≤ 24 → a < 100 := by exact fun H1 => (Nat.lt_of_le_of_lt H1 (by decide))
theorem ω387 : p ≤ 24 * (↑a : Int) → q ≤ p → q ≤ (↑a : Int) * 24 := by lia
theorem ω388 : (↑a : Int) + 1 ≤ 24 → a + 1 ≤ 24 := by exact fun H1 => Int.ofNat_le.mp H1
theorem ω389 : a + 1 ≤ 24 → b = a + 1 → 30 - b < 30 - a := by intro h e; subst e; exact Nat.sub_lt_sub_left (Nat.lt_of_lt_of_le h (by decide)) (Nat.lt_succ_self _)
theorem ω390 : a + 1 ≤ 24 → b = a + 1 → b ≤ 24 := by exact fun H1 H2 => le_of_eq_of_le H2 H1
theorem ω391 : (↑a : Int) % 2 = 0 ∨ (↑a : Int) % 2 = 1 := by exact Int.emod_two_eq ↑a
theorem ω392 : p / 4 % 3 = 0 ∨ p / 4 % 3 = 1 ∨ p / 4 % 3 = 2 := by grind
theorem ω393 : a ≤ 24 → 1 + Max.max a (1 + (1 + Max.max 1 1)) ≤ 27 := by lia
theorem ω394 : a < 100 → 1 + a + (1 + (1 + 1 + 1)) < 110 := by lia
theorem ω395 : p = 1 → p ≠ 2 := by intro H1; subst H1; exact not_eq_of_beq_eq_false rfl
theorem ω396 : a ≤ 24 → 1 + Max.max (1 + a) (1 + 1) ≤ 27 := by lia
theorem ω397 : a < 100 → 1 + (1 + a) + (1 + 1) < 110 := by lia
theorem ω398 : p = 0 → p ≠ 2 := by intro H1; subst H1; exact NeZero.ne' 2
theorem ω399 : (p = 0 ∨ p = 1 ∨ p = 2) → p ≠ 1 → p ≠ 0 → p = 2 := by grind
theorem ω400 : a ≤ 24 → 1 + Max.max (1 + 1) (1 + a) ≤ 27 := by lia
theorem ω401 : a < 100 → 1 + (1 + 1) + (1 + a) < 110 := by lia
theorem ω402 : a < 100 → a < 1000 := by exact fun H1 => (Nat.lt_trans H1 (by decide))
theorem ω403 : a < 100 → a < 900 := by exact fun H1 => (Nat.lt_trans H1 (by decide))
theorem ω459 : a < 10000 → b ≤ a → b < 16777216 := by exact fun H1 H2 => (Nat.lt_of_le_of_lt H2 (Nat.lt_trans H1 (by decide)))
theorem ω488 : a < 4000 → b = a → b + 1 < 4096 := by intros; subst_vars; first | assumption | rfl | lia
theorem ω490 : a ≤ b → (↑a : Int) - (↑b : Int) ≤ 0 := by lia
theorem ω491 : p < q → (↑(q - p).toNat : Int) - (↑0 : Int) = q - p := by grind
theorem ω492 : ¬p < q → (↑(q - p).toNat : Int) - (↑0 : Int) = 0 := by grind
theorem ω496 : (0 : Int) < (2 : Int) ^ (62 : Nat) := by exact Int.sign_eq_one_iff_pos.mp rfl
theorem ω501 : a ≤ b → c + 3 * b + 5 < d → c + 3 * a + 5 < d := fun h1 h2 => Nat.lt_of_le_of_lt (Nat.add_le_add_right (Nat.add_le_add_left (Nat.mul_le_mul_left _ h1) _) _) h2
theorem ω502 : a ≤ b → c + 16 * b + 200 < d → c + 16 * a + 200 < d := fun h1 h2 => Nat.lt_of_le_of_lt (Nat.add_le_add_right (Nat.add_le_add_left (Nat.mul_le_mul_left _ h1) _) _) h2
theorem ω503 : a + 16 * (b + 1) + 200 < c → a + 3 + 16 * b + 200 < c := by lia
theorem ω505 : a + 3 * b + 5 < c → a < c := by grind
theorem ω506 : a + 16 * b + 200 < c → a + 64 < c := by grind
theorem ω508 : Min.min a b = a → a ≤ b := by lia
theorem ω509 : a = b → b ≤ c → a + (c - a) = c := by intro H1 H2; subst H1; exact Nat.add_sub_of_le H2
theorem ω515 : p < 0 → (p + (↑a : Int)).toNat ≤ a := by grind
theorem ω516 : Max.max (p + (↑a : Int)) 0 = (↑(p + (↑a : Int)).toNat : Int) := by exact Eq.symm (Int.ofNat_toNat (p + ↑a))
theorem ω517 : ¬p < 0 → Min.min p (↑a : Int) = (↑(Min.min p.toNat a) : Int) := by grind
theorem ω518 : ¬(1 : Int) < (0 : Int) := by exact Std.Rxo.size_eq_zero_iff_not_le.mp rfl
theorem ω519 : (1 : Int) > (0 : Int) := by exact Int.one_pos
theorem ω520 : ((↑a : Int) - (↑b : Int) - 1 + 1).toNat = a - b := by rw [Int.sub_add_cancel]; exact Int.toNat_sub _ _
theorem ω521 : ¬(↑a : Int) < (↑b : Int) → Int.toNat 0 = b - a := fun h => (Nat.sub_eq_zero_of_le (Int.ofNat_le.mp (Int.not_lt.mp h))).symm
theorem ω522 : ((↑a : Int) + (↑b : Int) * 1).toNat = a + b := by rw [Int.mul_one]; rfl
theorem ω523 : a ≤ b → Min.min (c - d) (a - d) ≤ b := fun h => Nat.le_trans (Nat.min_le_right _ _) (Nat.le_trans (Nat.sub_le _ _) h)
theorem ω524 : (↑a : Int) = 0 → b - a = c → b = c := fun h1 h2 => by have := Int.ofNat.inj h1; subst this; exact h2
theorem ω525 : Min.min (a - b) (c - b) ≤ c := Nat.le_trans (Nat.min_le_right _ _) (Nat.sub_le _ _)
theorem ω526 : 0 ≤ p → p < (↑a : Int) → p.toNat = b → b < a := by intro H1 H2 H3; subst H3; exact (Int.toNat_lt H1).mpr H2
theorem ω527 : 0 ≤ p → -(↑a : Int) ≤ p := by grind
theorem ω528 : ¬0 ≤ p → -(↑a : Int) ≤ p → (p + (↑a : Int)).toNat = b → b < a := by grind
theorem ω529 : ¬0 ≤ p → p < (↑a : Int) := by grind
theorem ω530 : -(↑(a + 1) : Int) ≤ (-1 : Int) := by exact Rat.intCast_le_intCast.mp rfl
theorem ω531 : ((-1 : Int) + (↑(a + 1) : Int)).toNat = a := by grind
theorem ω532 : -(↑a : Int) ≤ p → a = b → -(↑b : Int) ≤ p := by intro H1 H2; subst H2; exact Int.le_def.mpr H1
theorem ω537 : a ≤ b → ¬a > b := by exact fun H1 => Nat.not_lt.mpr H1
theorem ω548 : a + (0 + 1) ≤ a + 1 := by exact Nat.le_refl (a + (0 + 1))
theorem ω577 : a = b → a = b := by intros; subst_vars; first | assumption | rfl | lia
theorem ω579 : a = b → b ≤ c → a ≤ c := by exact fun H1 H2 => le_of_eq_of_le H1 H2
theorem ω582 : ¬a < b → c = b → c ≤ a := by intro H1 H2; subst H2; exact Nat.le_of_not_lt H1
theorem ω583 : a = b → c = a + 1 → c = b + 1 := by intro H1 H2; subst H1 H2; exact Nat.add_left_inj.mpr rfl
theorem ω584 : a + 1 < b → c = a + 1 → c < b := by exact fun H1 H2 => lt_of_eq_of_lt H2 H1
theorem ω585 : a < b → c = a → c < b := by exact fun H1 H2 => lt_of_eq_of_lt H2 H1
theorem ω586 : a = b + 1 → c = a → c = b + 1 := by intro H1 H2; subst H1 H2; exact Nat.add_left_inj.mpr rfl
theorem ω587 : a - b = 0 → b ≤ a → b = a := by grind
theorem ω588 : a - b = c + 1 → b < a := by exact fun H1 => Nat.lt_of_sub_eq_succ H1
theorem ω589 : a + 1 < b → a - c = d + 1 → e ≤ c → e + 1 < b := fun h1 h2 h3 => Nat.lt_of_le_of_lt (Nat.succ_le_succ (Nat.le_trans h3 (Nat.le_of_lt (Nat.lt_of_sub_eq_succ h2)))) h1
theorem ω590 : a - 0 = a - 0 := by exact Nat.sub_zero a
theorem ω591 : ¬a + 1 < a := by exact Nat.not_succ_lt_self
theorem ω592 : a - b ≤ 0 → b ≤ a → b = a := fun h1 h2 => Nat.le_antisymm h2 (Nat.le_of_sub_eq_zero (Nat.le_zero.mp h1))
theorem ω593 : a < b → a ≤ (a + b) / 2 := by grind
theorem ω594 : a < b → (a + b) / 2 < b := by grind
theorem ω595 : a ≤ b → (c + a) / 2 < a → (c + a) / 2 < b := by exact fun H1 H2 => Nat.lt_of_lt_of_le H2 H1
theorem ω596 : a - b ≤ c + 1 → a - ((b + a) / 2 + 1) ≤ c := by omega
theorem ω597 : (a + b) / 2 < b → (a + b) / 2 + 1 ≤ b := by exact fun H1 => Nat.succ_le_of_lt H1
theorem ω598 : a < (b + c) / 2 + 1 → ¬a = (b + c) / 2 → a < (b + c) / 2 := by lia
theorem ω599 : a - b ≤ c + 1 → (b + a) / 2 - b ≤ c := by omega
theorem ω600 : (a + b) / 2 < b → a ≤ (a + b) / 2 := by grind
theorem ω601 : (a + b) / 2 < c → (a + b) / 2 ≤ c := by exact fun H1 => Nat.le_of_succ_le H1
theorem ω602 : (a + b) / 2 ≤ c → ¬c = (a + b) / 2 → (a + b) / 2 < c := by exact fun H1 H2 => Nat.lt_of_le_of_ne H1 fun a_1 => H2 (id (Eq.symm a_1))
theorem ω603 : ¬a < b → a ≤ c → b ≤ c := by lia
theorem ω604 : a - 0 ≤ a := by exact Nat.sub_le a 0
theorem ω605 : a < 0 → b < c := by intro H1; exfalso; exact Nat.not_succ_le_zero a H1
theorem ω606 : a < b → b ≤ a → c ≤ d := by lia
theorem ω607 : a + b < c → a < c := by exact fun H1 => Nat.lt_of_add_right_lt H1
theorem ω608 : ¬a = 0 → b < b + a := by grind
theorem ω609 : a < Min.min b c → a < b := fun h => Nat.lt_of_lt_of_le h (Nat.min_le_left _ _)
theorem ω610 : a < b → b ≤ c → c = d → a < d := by exact fun H1 H2 H3 => (Nat.lt_of_lt_of_le H1 (Nat.le_trans H2 (Nat.le_of_eq H3)))
theorem ω611 : a + 1 = b → 0 < b := by exact fun H1 => Nat.lt_of_sub_eq_succ (id (Eq.symm H1))
theorem ω612 : a + 1 = b → a = b - 1 := by exact fun H1 => Nat.eq_sub_of_add_eq H1
theorem ω613 : a ≤ b → c < a → a - 1 < b := fun h1 h2 => Nat.lt_of_lt_of_le (Nat.sub_lt (Nat.zero_lt_of_lt h2) (by decide)) h1
theorem ω614 : a < b → ¬b = 0 := by exact fun H1 => Nat.ne_zero_of_lt H1
theorem ω615 : a = b + 1 → a ≤ b → False := by intros; subst_vars; first | assumption | rfl | lia
theorem ω616 : a < b → a - 1 < b := by exact fun H1 => Nat.sub_lt_of_lt H1
theorem ω617 : ¬a = 0 → a - 1 < a := by exact fun H1 => Nat.sub_one_lt H1
theorem ω618 : a < b → c = b → a ≤ c := by intro H1 H2; subst H2; exact Nat.le_of_succ_le H1
theorem ω619 : ¬a + 1 = 0 := by exact Nat.add_one_ne_zero a
theorem ω658 : (↑a : Int) + (↑b : Int) + (↑c : Int) = (↑a : Int) + ((↑b : Int) + (↑c : Int)) := by exact Int.add_assoc ↑a ↑b ↑c
theorem ω659 : a ≤ b → c = 1 + b → a < c := by intro H1 H2; subst H2; exact Nat.lt_one_add_iff.mpr H1
end
theorem εa2 {p0 p1 P : Prop} (h : p0 ∧ p1) (k : p0 → p1 → P) : P := k h.1 h.2
theorem εa3 {p0 p1 p2 P : Prop} (h : p0 ∧ p1 ∧ p2) (k : p0 → p1 → p2 → P) : P := k h.1 h.2.1 h.2.2
theorem εa4 {p0 p1 p2 p3 P : Prop} (h : p0 ∧ p1 ∧ p2 ∧ p3) (k : p0 → p1 → p2 → p3 → P) : P := k h.1 h.2.1 h.2.2.1 h.2.2.2
theorem εa5 {p0 p1 p2 p3 p4 P : Prop} (h : p0 ∧ p1 ∧ p2 ∧ p3 ∧ p4) (k : p0 → p1 → p2 → p3 → p4 → P) : P := k h.1 h.2.1 h.2.2.1 h.2.2.2.1 h.2.2.2.2
theorem εa6 {p0 p1 p2 p3 p4 p5 P : Prop} (h : p0 ∧ p1 ∧ p2 ∧ p3 ∧ p4 ∧ p5) (k : p0 → p1 → p2 → p3 → p4 → p5 → P) : P := k h.1 h.2.1 h.2.2.1 h.2.2.2.1 h.2.2.2.2.1 h.2.2.2.2.2
theorem εa7 {p0 p1 p2 p3 p4 p5 p6 P : Prop} (h : p0 ∧ p1 ∧ p2 ∧ p3 ∧ p4 ∧ p5 ∧ p6) (k : p0 → p1 → p2 → p3 → p4 → p5 → p6 → P) : P := k h.1 h.2.1 h.2.2.1 h.2.2.2.1 h.2.2.2.2.1 h.2.2.2.2.2.1 h.2.2.2.2.2.2
theorem εa8 {p0 p1 p2 p3 p4 p5 p6 p7 P : Prop} (h : p0 ∧ p1 ∧ p2 ∧ p3 ∧ p4 ∧ p5 ∧ p6 ∧ p7) (k : p0 → p1 → p2 → p3 → p4 → p5 → p6 → p7 → P) : P := k h.1 h.2.1 h.2.2.1 h.2.2.2.1 h.2.2.2.2.1 h.2.2.2.2.2.1 h.2.2.2.2.2.2.1 h.2.2.2.2.2.2.2
theorem εa9 {p0 p1 p2 p3 p4 p5 p6 p7 p8 P : Prop} (h : p0 ∧ p1 ∧ p2 ∧ p3 ∧ p4 ∧ p5 ∧ p6 ∧ p7 ∧ p8) (k : p0 → p1 → p2 → p3 → p4 → p5 → p6 → p7 → p8 → P) : P := k h.1 h.2.1 h.2.2.1 h.2.2.2.1 h.2.2.2.2.1 h.2.2.2.2.2.1 h.2.2.2.2.2.2.1 h.2.2.2.2.2.2.2.1 h.2.2.2.2.2.2.2.2
theorem εa10 {p0 p1 p2 p3 p4 p5 p6 p7 p8 p9 P : Prop} (h : p0 ∧ p1 ∧ p2 ∧ p3 ∧ p4 ∧ p5 ∧ p6 ∧ p7 ∧ p8 ∧ p9) (k : p0 → p1 → p2 → p3 → p4 → p5 → p6 → p7 → p8 → p9 → P) : P := k h.1 h.2.1 h.2.2.1 h.2.2.2.1 h.2.2.2.2.1 h.2.2.2.2.2.1 h.2.2.2.2.2.2.1 h.2.2.2.2.2.2.2.1 h.2.2.2.2.2.2.2.2.1 h.2.2.2.2.2.2.2.2.2
theorem εx1 {α0 : Sort _} {p : α0 → Prop} {P : Prop} (h : ∃ x0, p x0) (k : ∀ x0, p x0 → P) : P := match h with | ⟨x0, q⟩ => k x0 q
theorem εx2 {α0 : Sort _} {α1 : Sort _} {p : α0 → α1 → Prop} {P : Prop} (h : ∃ x0 x1, p x0 x1) (k : ∀ x0 x1, p x0 x1 → P) : P := match h with | ⟨x0, x1, q⟩ => k x0 x1 q
theorem εx3 {α0 : Sort _} {α1 : Sort _} {α2 : Sort _} {p : α0 → α1 → α2 → Prop} {P : Prop} (h : ∃ x0 x1 x2, p x0 x1 x2) (k : ∀ x0 x1 x2, p x0 x1 x2 → P) : P := match h with | ⟨x0, x1, x2, q⟩ => k x0 x1 x2 q
theorem εx4 {α0 : Sort _} {α1 : Sort _} {α2 : Sort _} {α3 : Sort _} {p : α0 → α1 → α2 → α3 → Prop} {P : Prop} (h : ∃ x0 x1 x2 x3, p x0 x1 x2 x3) (k : ∀ x0 x1 x2 x3, p x0 x1 x2 x3 → P) : P := match h with | ⟨x0, x1, x2, x3, q⟩ => k x0 x1 x2 x3 q
theorem εx5 {α0 : Sort _} {α1 : Sort _} {α2 : Sort _} {α3 : Sort _} {α4 : Sort _} {p : α0 → α1 → α2 → α3 → α4 → Prop} {P : Prop} (h : ∃ x0 x1 x2 x3 x4, p x0 x1 x2 x3 x4) (k : ∀ x0 x1 x2 x3 x4, p x0 x1 x2 x3 x4 → P) : P := match h with | ⟨x0, x1, x2, x3, x4, q⟩ => k x0 x1 x2 x3 x4 q
theorem ιEE {α0 : Sort _} {α1 : Sort _} {R : α0 → α1 → Prop} (x0 : α0) (x1 : α1) (h : R x0 x1) : ∃ x0 : α0, ∃ x1 : α1, R x0 x1 := ⟨x0, x1, h⟩
theorem ιEAE {α0 : Sort _} {α2 : Sort _} {p1 : α0 → Prop} {R : α0 → α2 → Prop} (x0 : α0) (h1 : p1 x0) (x2 : α2) (h : R x0 x2) : ∃ x0 : α0, p1 x0 ∧ ∃ x2 : α2, R x0 x2 := ⟨x0, h1, x2, h⟩
theorem ιEEE {α0 : Sort _} {α1 : Sort _} {α2 : Sort _} {R : α0 → α1 → α2 → Prop} (x0 : α0) (x1 : α1) (x2 : α2) (h : R x0 x1 x2) : ∃ x0 : α0, ∃ x1 : α1, ∃ x2 : α2, R x0 x1 x2 := ⟨x0, x1, x2, h⟩
theorem ιEAAE {α0 : Sort _} {α3 : Sort _} {p1 : α0 → Prop} {p2 : α0 → Prop} {R : α0 → α3 → Prop} (x0 : α0) (h1 : p1 x0) (h2 : p2 x0) (x3 : α3) (h : R x0 x3) : ∃ x0 : α0, p1 x0 ∧ p2 x0 ∧ ∃ x3 : α3, R x0 x3 := ⟨x0, h1, h2, x3, h⟩
theorem ιEAEE {α0 : Sort _} {α2 : Sort _} {α3 : Sort _} {p1 : α0 → Prop} {R : α0 → α2 → α3 → Prop} (x0 : α0) (h1 : p1 x0) (x2 : α2) (x3 : α3) (h : R x0 x2 x3) : ∃ x0 : α0, p1 x0 ∧ ∃ x2 : α2, ∃ x3 : α3, R x0 x2 x3 := ⟨x0, h1, x2, x3, h⟩
theorem ιEEEE {α0 : Sort _} {α1 : Sort _} {α2 : Sort _} {α3 : Sort _} {R : α0 → α1 → α2 → α3 → Prop} (x0 : α0) (x1 : α1) (x2 : α2) (x3 : α3) (h : R x0 x1 x2 x3) : ∃ x0 : α0, ∃ x1 : α1, ∃ x2 : α2, ∃ x3 : α3, R x0 x1 x2 x3 := ⟨x0, x1, x2, x3, h⟩
theorem ιEAAAE {α0 : Sort _} {α4 : Sort _} {p1 : α0 → Prop} {p2 : α0 → Prop} {p3 : α0 → Prop} {R : α0 → α4 → Prop} (x0 : α0) (h1 : p1 x0) (h2 : p2 x0) (h3 : p3 x0) (x4 : α4) (h : R x0 x4) : ∃ x0 : α0, p1 x0 ∧ p2 x0 ∧ p3 x0 ∧ ∃ x4 : α4, R x0 x4 := ⟨x0, h1, h2, h3, x4, h⟩
theorem ιEAAEE {α0 : Sort _} {α3 : Sort _} {α4 : Sort _} {p1 : α0 → Prop} {p2 : α0 → Prop} {R : α0 → α3 → α4 → Prop} (x0 : α0) (h1 : p1 x0) (h2 : p2 x0) (x3 : α3) (x4 : α4) (h : R x0 x3 x4) : ∃ x0 : α0, p1 x0 ∧ p2 x0 ∧ ∃ x3 : α3, ∃ x4 : α4, R x0 x3 x4 := ⟨x0, h1, h2, x3, x4, h⟩
theorem ιEAEAE {α0 : Sort _} {α2 : Sort _} {α4 : Sort _} {p1 : α0 → Prop} {p3 : α0 → α2 → Prop} {R : α0 → α2 → α4 → Prop} (x0 : α0) (h1 : p1 x0) (x2 : α2) (h3 : p3 x0 x2) (x4 : α4) (h : R x0 x2 x4) : ∃ x0 : α0, p1 x0 ∧ ∃ x2 : α2, p3 x0 x2 ∧ ∃ x4 : α4, R x0 x2 x4 := ⟨x0, h1, x2, h3, x4, h⟩
theorem ιEAEEE {α0 : Sort _} {α2 : Sort _} {α3 : Sort _} {α4 : Sort _} {p1 : α0 → Prop} {R : α0 → α2 → α3 → α4 → Prop} (x0 : α0) (h1 : p1 x0) (x2 : α2) (x3 : α3) (x4 : α4) (h : R x0 x2 x3 x4) : ∃ x0 : α0, p1 x0 ∧ ∃ x2 : α2, ∃ x3 : α3, ∃ x4 : α4, R x0 x2 x3 x4 := ⟨x0, h1, x2, x3, x4, h⟩
theorem ιEEAAE {α0 : Sort _} {α1 : Sort _} {α4 : Sort _} {p2 : α0 → α1 → Prop} {p3 : α0 → α1 → Prop} {R : α0 → α1 → α4 → Prop} (x0 : α0) (x1 : α1) (h2 : p2 x0 x1) (h3 : p3 x0 x1) (x4 : α4) (h : R x0 x1 x4) : ∃ x0 : α0, ∃ x1 : α1, p2 x0 x1 ∧ p3 x0 x1 ∧ ∃ x4 : α4, R x0 x1 x4 := ⟨x0, x1, h2, h3, x4, h⟩
theorem ιEAAAAE {α0 : Sort _} {α5 : Sort _} {p1 : α0 → Prop} {p2 : α0 → Prop} {p3 : α0 → Prop} {p4 : α0 → Prop} {R : α0 → α5 → Prop} (x0 : α0) (h1 : p1 x0) (h2 : p2 x0) (h3 : p3 x0) (h4 : p4 x0) (x5 : α5) (h : R x0 x5) : ∃ x0 : α0, p1 x0 ∧ p2 x0 ∧ p3 x0 ∧ p4 x0 ∧ ∃ x5 : α5, R x0 x5 := ⟨x0, h1, h2, h3, h4, x5, h⟩
theorem ιEAAAEE {α0 : Sort _} {α4 : Sort _} {α5 : Sort _} {p1 : α0 → Prop} {p2 : α0 → Prop} {p3 : α0 → Prop} {R : α0 → α4 → α5 → Prop} (x0 : α0) (h1 : p1 x0) (h2 : p2 x0) (h3 : p3 x0) (x4 : α4) (x5 : α5) (h : R x0 x4 x5) : ∃ x0 : α0, p1 x0 ∧ p2 x0 ∧ p3 x0 ∧ ∃ x4 : α4, ∃ x5 : α5, R x0 x4 x5 := ⟨x0, h1, h2, h3, x4, x5, h⟩
theorem ιEAAEAE {α0 : Sort _} {α3 : Sort _} {α5 : Sort _} {p1 : α0 → Prop} {p2 : α0 → Prop} {p4 : α0 → α3 → Prop} {R : α0 → α3 → α5 → Prop} (x0 : α0) (h1 : p1 x0) (h2 : p2 x0) (x3 : α3) (h4 : p4 x0 x3) (x5 : α5) (h : R x0 x3 x5) : ∃ x0 : α0, p1 x0 ∧ p2 x0 ∧ ∃ x3 : α3, p4 x0 x3 ∧ ∃ x5 : α5, R x0 x3 x5 := ⟨x0, h1, h2, x3, h4, x5, h⟩
theorem ιEAEAEE {α0 : Sort _} {α2 : Sort _} {α4 : Sort _} {α5 : Sort _} {p1 : α0 → Prop} {p3 : α0 → α2 → Prop} {R : α0 → α2 → α4 → α5 → Prop} (x0 : α0) (h1 : p1 x0) (x2 : α2) (h3 : p3 x0 x2) (x4 : α4) (x5 : α5) (h : R x0 x2 x4 x5) : ∃ x0 : α0, p1 x0 ∧ ∃ x2 : α2, p3 x0 x2 ∧ ∃ x4 : α4, ∃ x5 : α5, R x0 x2 x4 x5 := ⟨x0, h1, x2, h3, x4, x5, h⟩
theorem ιEEAAAE {α0 : Sort _} {α1 : Sort _} {α5 : Sort _} {p2 : α0 → α1 → Prop} {p3 : α0 → α1 → Prop} {p4 : α0 → α1 → Prop} {R : α0 → α1 → α5 → Prop} (x0 : α0) (x1 : α1) (h2 : p2 x0 x1) (h3 : p3 x0 x1) (h4 : p4 x0 x1) (x5 : α5) (h : R x0 x1 x5) : ∃ x0 : α0, ∃ x1 : α1, p2 x0 x1 ∧ p3 x0 x1 ∧ p4 x0 x1 ∧ ∃ x5 : α5, R x0 x1 x5 := ⟨x0, x1, h2, h3, h4, x5, h⟩
theorem ιEEAAEE {α0 : Sort _} {α1 : Sort _} {α4 : Sort _} {α5 : Sort _} {p2 : α0 → α1 → Prop} {p3 : α0 → α1 → Prop} {R : α0 → α1 → α4 → α5 → Prop} (x0 : α0) (x1 : α1) (h2 : p2 x0 x1) (h3 : p3 x0 x1) (x4 : α4) (x5 : α5) (h : R x0 x1 x4 x5) : ∃ x0 : α0, ∃ x1 : α1, p2 x0 x1 ∧ p3 x0 x1 ∧ ∃ x4 : α4, ∃ x5 : α5, R x0 x1 x4 x5 := ⟨x0, x1, h2, h3, x4, x5, h⟩
theorem ιEAAAAAE {α0 : Sort _} {α6 : Sort _} {p1 : α0 → Prop} {p2 : α0 → Prop} {p3 : α0 → Prop} {p4 : α0 → Prop} {p5 : α0 → Prop} {R : α0 → α6 → Prop} (x0 : α0) (h1 : p1 x0) (h2 : p2 x0) (h3 : p3 x0) (h4 : p4 x0) (h5 : p5 x0) (x6 : α6) (h : R x0 x6) : ∃ x0 : α0, p1 x0 ∧ p2 x0 ∧ p3 x0 ∧ p4 x0 ∧ p5 x0 ∧ ∃ x6 : α6, R x0 x6 := ⟨x0, h1, h2, h3, h4, h5, x6, h⟩
theorem ιEAAAAEE {α0 : Sort _} {α5 : Sort _} {α6 : Sort _} {p1 : α0 → Prop} {p2 : α0 → Prop} {p3 : α0 → Prop} {p4 : α0 → Prop} {R : α0 → α5 → α6 → Prop} (x0 : α0) (h1 : p1 x0) (h2 : p2 x0) (h3 : p3 x0) (h4 : p4 x0) (x5 : α5) (x6 : α6) (h : R x0 x5 x6) : ∃ x0 : α0, p1 x0 ∧ p2 x0 ∧ p3 x0 ∧ p4 x0 ∧ ∃ x5 : α5, ∃ x6 : α6, R x0 x5 x6 := ⟨x0, h1, h2, h3, h4, x5, x6, h⟩
theorem ιEAAAEEE {α0 : Sort _} {α4 : Sort _} {α5 : Sort _} {α6 : Sort _} {p1 : α0 → Prop} {p2 : α0 → Prop} {p3 : α0 → Prop} {R : α0 → α4 → α5 → α6 → Prop} (x0 : α0) (h1 : p1 x0) (h2 : p2 x0) (h3 : p3 x0) (x4 : α4) (x5 : α5) (x6 : α6) (h : R x0 x4 x5 x6) : ∃ x0 : α0, p1 x0 ∧ p2 x0 ∧ p3 x0 ∧ ∃ x4 : α4, ∃ x5 : α5, ∃ x6 : α6, R x0 x4 x5 x6 := ⟨x0, h1, h2, h3, x4, x5, x6, h⟩
theorem ιEAEAEAE {α0 : Sort _} {α2 : Sort _} {α4 : Sort _} {α6 : Sort _} {p1 : α0 → Prop} {p3 : α0 → α2 → Prop} {p5 : α0 → α2 → α4 → Prop} {R : α0 → α2 → α4 → α6 → Prop} (x0 : α0) (h1 : p1 x0) (x2 : α2) (h3 : p3 x0 x2) (x4 : α4) (h5 : p5 x0 x2 x4) (x6 : α6) (h : R x0 x2 x4 x6) : ∃ x0 : α0, p1 x0 ∧ ∃ x2 : α2, p3 x0 x2 ∧ ∃ x4 : α4, p5 x0 x2 x4 ∧ ∃ x6 : α6, R x0 x2 x4 x6 := ⟨x0, h1, x2, h3, x4, h5, x6, h⟩
theorem ιEAEEAAE {α0 : Sort _} {α2 : Sort _} {α3 : Sort _} {α6 : Sort _} {p1 : α0 → Prop} {p4 : α0 → α2 → α3 → Prop} {p5 : α0 → α2 → α3 → Prop} {R : α0 → α2 → α3 → α6 → Prop} (x0 : α0) (h1 : p1 x0) (x2 : α2) (x3 : α3) (h4 : p4 x0 x2 x3) (h5 : p5 x0 x2 x3) (x6 : α6) (h : R x0 x2 x3 x6) : ∃ x0 : α0, p1 x0 ∧ ∃ x2 : α2, ∃ x3 : α3, p4 x0 x2 x3 ∧ p5 x0 x2 x3 ∧ ∃ x6 : α6, R x0 x2 x3 x6 := ⟨x0, h1, x2, x3, h4, h5, x6, h⟩
theorem ιEEAAAAE {α0 : Sort _} {α1 : Sort _} {α6 : Sort _} {p2 : α0 → α1 → Prop} {p3 : α0 → α1 → Prop} {p4 : α0 → α1 → Prop} {p5 : α0 → α1 → Prop} {R : α0 → α1 → α6 → Prop} (x0 : α0) (x1 : α1) (h2 : p2 x0 x1) (h3 : p3 x0 x1) (h4 : p4 x0 x1) (h5 : p5 x0 x1) (x6 : α6) (h : R x0 x1 x6) : ∃ x0 : α0, ∃ x1 : α1, p2 x0 x1 ∧ p3 x0 x1 ∧ p4 x0 x1 ∧ p5 x0 x1 ∧ ∃ x6 : α6, R x0 x1 x6 := ⟨x0, x1, h2, h3, h4, h5, x6, h⟩
theorem ιEEAAAEE {α0 : Sort _} {α1 : Sort _} {α5 : Sort _} {α6 : Sort _} {p2 : α0 → α1 → Prop} {p3 : α0 → α1 → Prop} {p4 : α0 → α1 → Prop} {R : α0 → α1 → α5 → α6 → Prop} (x0 : α0) (x1 : α1) (h2 : p2 x0 x1) (h3 : p3 x0 x1) (h4 : p4 x0 x1) (x5 : α5) (x6 : α6) (h : R x0 x1 x5 x6) : ∃ x0 : α0, ∃ x1 : α1, p2 x0 x1 ∧ p3 x0 x1 ∧ p4 x0 x1 ∧ ∃ x5 : α5, ∃ x6 : α6, R x0 x1 x5 x6 := ⟨x0, x1, h2, h3, h4, x5, x6, h⟩
theorem ιEAAAAEAE {α0 : Sort _} {α5 : Sort _} {α7 : Sort _} {p1 : α0 → Prop} {p2 : α0 → Prop} {p3 : α0 → Prop} {p4 : α0 → Prop} {p6 : α0 → α5 → Prop} {R : α0 → α5 → α7 → Prop} (x0 : α0) (h1 : p1 x0) (h2 : p2 x0) (h3 : p3 x0) (h4 : p4 x0) (x5 : α5) (h6 : p6 x0 x5) (x7 : α7) (h : R x0 x5 x7) : ∃ x0 : α0, p1 x0 ∧ p2 x0 ∧ p3 x0 ∧ p4 x0 ∧ ∃ x5 : α5, p6 x0 x5 ∧ ∃ x7 : α7, R x0 x5 x7 := ⟨x0, h1, h2, h3, h4, x5, h6, x7, h⟩
theorem ιEAEEAAAE {α0 : Sort _} {α2 : Sort _} {α3 : Sort _} {α7 : Sort _} {p1 : α0 → Prop} {p4 : α0 → α2 → α3 → Prop} {p5 : α0 → α2 → α3 → Prop} {p6 : α0 → α2 → α3 → Prop} {R : α0 → α2 → α3 → α7 → Prop} (x0 : α0) (h1 : p1 x0) (x2 : α2) (x3 : α3) (h4 : p4 x0 x2 x3) (h5 : p5 x0 x2 x3) (h6 : p6 x0 x2 x3) (x7 : α7) (h : R x0 x2 x3 x7) : ∃ x0 : α0, p1 x0 ∧ ∃ x2 : α2, ∃ x3 : α3, p4 x0 x2 x3 ∧ p5 x0 x2 x3 ∧ p6 x0 x2 x3 ∧ ∃ x7 : α7, R x0 x2 x3 x7 := ⟨x0, h1, x2, x3, h4, h5, h6, x7, h⟩
theorem ιEEAAAAAE {α0 : Sort _} {α1 : Sort _} {α7 : Sort _} {p2 : α0 → α1 → Prop} {p3 : α0 → α1 → Prop} {p4 : α0 → α1 → Prop} {p5 : α0 → α1 → Prop} {p6 : α0 → α1 → Prop} {R : α0 → α1 → α7 → Prop} (x0 : α0) (x1 : α1) (h2 : p2 x0 x1) (h3 : p3 x0 x1) (h4 : p4 x0 x1) (h5 : p5 x0 x1) (h6 : p6 x0 x1) (x7 : α7) (h : R x0 x1 x7) : ∃ x0 : α0, ∃ x1 : α1, p2 x0 x1 ∧ p3 x0 x1 ∧ p4 x0 x1 ∧ p5 x0 x1 ∧ p6 x0 x1 ∧ ∃ x7 : α7, R x0 x1 x7 := ⟨x0, x1, h2, h3, h4, h5, h6, x7, h⟩
theorem ιEEAAAAEE {α0 : Sort _} {α1 : Sort _} {α6 : Sort _} {α7 : Sort _} {p2 : α0 → α1 → Prop} {p3 : α0 → α1 → Prop} {p4 : α0 → α1 → Prop} {p5 : α0 → α1 → Prop} {R : α0 → α1 → α6 → α7 → Prop} (x0 : α0) (x1 : α1) (h2 : p2 x0 x1) (h3 : p3 x0 x1) (h4 : p4 x0 x1) (h5 : p5 x0 x1) (x6 : α6) (x7 : α7) (h : R x0 x1 x6 x7) : ∃ x0 : α0, ∃ x1 : α1, p2 x0 x1 ∧ p3 x0 x1 ∧ p4 x0 x1 ∧ p5 x0 x1 ∧ ∃ x6 : α6, ∃ x7 : α7, R x0 x1 x6 x7 := ⟨x0, x1, h2, h3, h4, h5, x6, x7, h⟩
theorem ιEEEAAAAE {α0 : Sort _} {α1 : Sort _} {α2 : Sort _} {α7 : Sort _} {p3 : α0 → α1 → α2 → Prop} {p4 : α0 → α1 → α2 → Prop} {p5 : α0 → α1 → α2 → Prop} {p6 : α0 → α1 → α2 → Prop} {R : α0 → α1 → α2 → α7 → Prop} (x0 : α0) (x1 : α1) (x2 : α2) (h3 : p3 x0 x1 x2) (h4 : p4 x0 x1 x2) (h5 : p5 x0 x1 x2) (h6 : p6 x0 x1 x2) (x7 : α7) (h : R x0 x1 x2 x7) : ∃ x0 : α0, ∃ x1 : α1, ∃ x2 : α2, p3 x0 x1 x2 ∧ p4 x0 x1 x2 ∧ p5 x0 x1 x2 ∧ p6 x0 x1 x2 ∧ ∃ x7 : α7, R x0 x1 x2 x7 := ⟨x0, x1, x2, h3, h4, h5, h6, x7, h⟩
theorem ιEEAAAAEAE {α0 : Sort _} {α1 : Sort _} {α6 : Sort _} {α8 : Sort _} {p2 : α0 → α1 → Prop} {p3 : α0 → α1 → Prop} {p4 : α0 → α1 → Prop} {p5 : α0 → α1 → Prop} {p7 : α0 → α1 → α6 → Prop} {R : α0 → α1 → α6 → α8 → Prop} (x0 : α0) (x1 : α1) (h2 : p2 x0 x1) (h3 : p3 x0 x1) (h4 : p4 x0 x1) (h5 : p5 x0 x1) (x6 : α6) (h7 : p7 x0 x1 x6) (x8 : α8) (h : R x0 x1 x6 x8) : ∃ x0 : α0, ∃ x1 : α1, p2 x0 x1 ∧ p3 x0 x1 ∧ p4 x0 x1 ∧ p5 x0 x1 ∧ ∃ x6 : α6, p7 x0 x1 x6 ∧ ∃ x8 : α8, R x0 x1 x6 x8 := ⟨x0, x1, h2, h3, h4, h5, x6, h7, x8, h⟩
theorem ιEEEAAAAAE {α0 : Sort _} {α1 : Sort _} {α2 : Sort _} {α8 : Sort _} {p3 : α0 → α1 → α2 → Prop} {p4 : α0 → α1 → α2 → Prop} {p5 : α0 → α1 → α2 → Prop} {p6 : α0 → α1 → α2 → Prop} {p7 : α0 → α1 → α2 → Prop} {R : α0 → α1 → α2 → α8 → Prop} (x0 : α0) (x1 : α1) (x2 : α2) (h3 : p3 x0 x1 x2) (h4 : p4 x0 x1 x2) (h5 : p5 x0 x1 x2) (h6 : p6 x0 x1 x2) (h7 : p7 x0 x1 x2) (x8 : α8) (h : R x0 x1 x2 x8) : ∃ x0 : α0, ∃ x1 : α1, ∃ x2 : α2, p3 x0 x1 x2 ∧ p4 x0 x1 x2 ∧ p5 x0 x1 x2 ∧ p6 x0 x1 x2 ∧ p7 x0 x1 x2 ∧ ∃ x8 : α8, R x0 x1 x2 x8 := ⟨x0, x1, x2, h3, h4, h5, h6, h7, x8, h⟩
namespace CW
open PySem
abbrev Ris (t : SetTable) : Prop := t.place.toList.Pairwise (· < ·)
theorem ris_lt {xs : Array Nat} (h : xs.toList.Pairwise (· < ·)) {i k : Nat} (hik : i < k) (hk : k < xs.size) : xs[i]'(by exact ω302 hik hk) < xs[k] := by
  have := (List.pairwise_iff_getElem.mp h) i k (by simpa using (by exact ω302 hik hk : i < xs.size)) (by simpa using hk) hik
  simpa using this
theorem below_go {xs : Array Nat} (h : xs.toList.Pairwise (· < ·)) (j : Nat) : ∀ (fuel lo hi : Nat), hi - lo ≤ fuel → lo ≤ hi → (hh : hi ≤ xs.size) →
    (∀ i (hi' : i < xs.size), i < lo → xs[i] < j) → (∀ i (hi' : i < xs.size), hi ≤ i → j ≤ xs[i]) →
    SetTable.below.go xs j fuel lo hi ≤ xs.size ∧ (∀ i (hi' : i < xs.size), i < SetTable.below.go xs j fuel lo hi → xs[i] < j) ∧ (∀ i (hi' : i < xs.size), SetTable.below.go xs j fuel lo hi ≤ i → j ≤ xs[i])
  | 0, lo, hi, hf, hl, hh, h1, h2 => by
    have e : lo = hi := by exact ω592 hf hl
    unfold SetTable.below.go
    exact ⟨by exact ω100 hl hh, h1, fun i hi' hle => h2 i hi' (by exact ω285 e hle)⟩
  | fuel + 1, lo, hi, hf, hl, hh, h1, h2 => by
    unfold SetTable.below.go
    by_cases hlt : lo < hi
    · rw [if_pos hlt]
      have hm1 : lo ≤ (lo + hi) / 2 := by exact ω593 hlt
      have hm2 : (lo + hi) / 2 < hi := by exact ω594 hlt
      have hm3 : (lo + hi) / 2 < xs.size := by exact ω595 hh hm2
      have eg : xs.getD ((lo + hi) / 2) j = xs[(lo + hi) / 2] := by simp [Array.getD, hm3]
      dsimp only
      rw [eg]
      by_cases hc : xs[(lo + hi) / 2] < j
      · rw [if_pos hc]
        refine below_go h j fuel _ _ (by exact ω596 hf) (by exact ω597 hm2) hh (fun i hi' hlt' => ?_) h2
        by_cases e : i = (lo + hi) / 2
        · subst e; exact hc
        · exact Nat.lt_trans (ris_lt h (by exact ω598 hlt' e) hm3) hc
      · rw [if_neg hc]
        refine below_go h j fuel _ _ (by exact ω599 hf) (by exact ω600 hm2) (by exact ω601 hm3) h1 (fun i hi' hle => ?_)
        by_cases e : i = (lo + hi) / 2
        · subst e; exact Nat.le_of_not_lt hc
        · exact Nat.le_trans (Nat.le_of_not_lt hc) (Nat.le_of_lt (ris_lt h (by exact ω602 hle e) hi'))
    · rw [if_neg hlt]
      exact ⟨by exact ω100 hl hh, h1, fun i hi' hle => h2 i hi' (by exact ω603 hlt hle)⟩
theorem below_spec {xs : Array Nat} (h : xs.toList.Pairwise (· < ·)) (j : Nat) : SetTable.below xs j ≤ xs.size ∧ (∀ i (hi' : i < xs.size), i < SetTable.below xs j → xs[i] < j) ∧ (∀ i (hi' : i < xs.size), SetTable.below xs j ≤ i → j ≤ xs[i]) :=
  below_go h j xs.size 0 xs.size (by exact ω604) (Nat.zero_le _) (Nat.le_refl _) (fun i _ z => by exact ω605 z) (fun i hi' z => by exact ω606 hi' z)
theorem ris_insert {xs : Array Nat} (h : xs.toList.Pairwise (· < ·)) {j : Nat} (hn : xs[SetTable.below xs j]? ≠ some j) : (SetTable.insertAt xs (SetTable.below xs j) j).toList.Pairwise (· < ·) := by
  obtain ⟨b0, b1, b2⟩ := below_spec h j
  rw [SetTable.toList_insertAt]
  rw [List.pairwise_append]
  refine ⟨h.sublist (List.take_sublist _ _), ?_, ?_⟩
  · rw [List.pairwise_cons]
    refine ⟨fun y hy => ?_, h.sublist (List.drop_sublist _ _)⟩
    obtain ⟨k, hk, e⟩ := List.mem_iff_getElem.mp hy
    rw [List.getElem_drop] at e
    rw [List.length_drop, Array.length_toList] at hk
    have hks : SetTable.below xs j + k < xs.size := by exact ω68 hk
    have e' : xs[SetTable.below xs j + k] = y := by rw [← e]; simp
    have l1 := b2 _ hks (Nat.le_add_right _ _)
    rw [e'] at l1
    refine Nat.lt_of_le_of_ne l1 fun z => ?_
    subst z
    have hb : SetTable.below xs j < xs.size := by exact ω607 hks
    have l2 := b2 _ hb (Nat.le_refl _)
    by_cases k0 : k = 0
    · subst k0
      exact hn (by rw [Array.getElem?_eq_getElem hb]; exact congrArg some e')
    · have l3 := ris_lt h (show SetTable.below xs j < SetTable.below xs j + k by exact ω608 k0) hks
      rw [e'] at l3
      exact absurd (Nat.lt_of_le_of_lt l2 l3) (Nat.lt_irrefl _)
  · intro y hy z hz
    obtain ⟨k, hk, e⟩ := List.mem_iff_getElem.mp hy
    rw [List.getElem_take] at e
    rw [List.length_take, Array.length_toList] at hk
    have hks : k < xs.size := by exact ω132 hk
    have l1 : y < j := by
      have := b1 k hks (by exact ω609 hk)
      rw [← e]; simpa using this
    rcases List.mem_cons.mp hz with rfl | hz
    · exact l1
    · obtain ⟨i, hi, e2⟩ := List.mem_iff_getElem.mp hz
      rw [List.getElem_drop] at e2
      rw [List.length_drop, Array.length_toList] at hi
      have hks2 : SetTable.below xs j + i < xs.size := by exact ω68 hi
      have := b2 _ hks2 (Nat.le_add_right _ _)
      have e3 : xs[SetTable.below xs j + i] = z := by rw [← e2]; simp
      exact ω610 l1 this e3
noncomputable def Off (t : SetTable) (j : Nat) : Prop := t.place[SetTable.below t.place j]? ≠ some j
theorem slot_off {t : SetTable} {j : Nat} (h : t.slot j = .empty ∨ t.slot j = .dummy) : Off t j := by
  intro e
  have : t.slot j = .live (SetTable.below t.place j) := by
    unfold SetTable.slot
    simp [e]
  rw [this] at h
  rcases h with h | h <;> cases h
theorem advance_dummy (t : SetTable) (p : SetTable.Probe) : (t.advance p).dummy = p.dummy := by
  unfold SetTable.advance
  split
  · rfl
  · dsimp only
theorem probe_off {t : SetTable} {hashAt : Nat → Int} {h : Int} : ∀ (fuel : Nat) (p : SetTable.Probe) {j : Nat} {d : Option Nat}, (∀ k, p.dummy = some k → Off t k) → SetTable.probe.go t hashAt h fuel p = some (.empty j d) → Off t j ∧ ∀ k, d = some k → Off t k
  | 0, p, j, d, hp, e => by unfold SetTable.probe.go at e; cases e
  | fuel + 1, p, j, d, hp, e => by
    unfold SetTable.probe.go at e
    cases hs : t.slot p.j with
    | empty =>
      rw [hs] at e
      simp only [Option.some.injEq, SetTable.Met.empty.injEq] at e
      obtain ⟨rfl, rfl⟩ := e
      exact ⟨slot_off (.inl hs), hp⟩
    | dummy =>
      rw [hs] at e
      refine probe_off fuel _ (fun k hk => ?_) e
      rw [advance_dummy] at hk
      simp only [Option.some.injEq] at hk
      subst hk
      exact slot_off (.inr hs)
    | live i =>
      rw [hs] at e
      dsimp only at e
      split at e
      · cases e
      · exact probe_off fuel _ (fun k hk => hp k (by rw [advance_dummy] at hk; exact hk)) e
theorem freeSlot_off {t : SetTable} {h : Int} {j : Nat} {b : Bool} (e : t.freeSlot h = some (j, b)) : Off t j := by
  unfold SetTable.freeSlot at e
  split at e
  · rename_i j' d hp
    have := probe_off _ _ (fun k hk => by simp [SetTable.probeStart] at hk) hp
    simp only [Option.some.injEq, Prod.mk.injEq] at e
    obtain ⟨e1, _⟩ := e
    cases d with
    | none => simp at e1; subst e1; exact this.1
    | some k => simp at e1; subst e1; exact this.2 k rfl
  · cases e
theorem standIn_ris (t : SetTable) (n : Nat) : Ris (t.standIn n) := by
  unfold Ris SetTable.standIn
  simpa using List.pairwise_lt_range
theorem orStandIn_ris {t : SetTable} {n : Nat} (h : Ris t) : Ris (t.orStandIn n) := by
  unfold SetTable.orStandIn
  split
  · exact h
  · exact standIn_ris t n
theorem orStandIn_led (t : SetTable) (n : Nat) : (t.orStandIn n).led = t.led := by
  unfold SetTable.orStandIn
  split <;> rfl
theorem layNew_tab (t : SetTable) (es : Array (Int × Value)) (h : Int) (x : Value) (hr : Ris t) : Ris (layNew t es h x).2.1 ∧ (layNew t es h x).2.1.led = t.led := by
  unfold layNew
  cases e : t.freeSlot h with
  | none => exact ⟨standIn_ris _ _, rfl⟩
  | some q =>
    obtain ⟨j, b⟩ := q
    dsimp only
    refine ⟨orStandIn_ris ?_, by rw [orStandIn_led]; rfl⟩
    exact ris_insert hr (freeSlot_off e)
theorem laid_tab {mask finger moves : Nat} {led plain : Bool} {hs : Array Int} {t : SetTable} {o : Array Nat} (e : SetTable.laid mask finger moves led plain hs = some (t, o)) : Ris t ∧ t.led = led := by
  unfold SetTable.laid at e
  cases hc : SetTable.layClean mask hs with
  | none => rw [hc] at e; cases e
  | some owner =>
    rw [hc] at e
    simp only [Option.bind_eq_bind, Option.bind_some, Option.pure_def, Option.some.injEq, Prod.mk.injEq] at e
    obtain ⟨rfl, _⟩ := e
    refine ⟨?_, rfl⟩
    unfold Ris
    simp only [List.map_filterMap]
    rw [List.pairwise_filterMap]
    refine List.Pairwise.imp ?_ (List.pairwise_lt_range (n := mask + 1))
    intro a b hab x hx y hy
    simp only [Option.map_map, Option.mem_def, Option.map_eq_some_iff] at hx hy
    obtain ⟨_, _, rfl⟩ := hx
    obtain ⟨_, _, rfl⟩ := hy
    exact hab
theorem relayAll_tab (t : SetTable) (es : Array (Int × Value)) (wanted : Nat) : Ris (relayAll t es wanted).2.1 ∧ (relayAll t es wanted).2.1.led = t.led := by
  unfold relayAll
  cases e : t.relaid (es.map (·.1)) wanted with
  | none => exact ⟨standIn_ris _ _, rfl⟩
  | some q =>
    obtain ⟨t', o⟩ := q
    dsimp only
    have := laid_tab (by unfold SetTable.relaid at e; exact e)
    split
    · exact this
    · exact ⟨standIn_ris _ _, rfl⟩
theorem cons_erase {α : Type} {l : List α} {i : Nat} (h : i < l.length) : List.Perm (l[i] :: l.eraseIdx i) l := by
  rw [List.eraseIdx_eq_take_drop_succ]
  have e : l = l.take i ++ l[i] :: l.drop (i + 1) := by
    rw [← List.drop_eq_getElem_cons h, List.take_append_drop]
  have p : List.Perm (l.take i ++ l[i] :: l.drop (i + 1)) (l[i] :: (l.take i ++ l.drop (i + 1))) := List.perm_middle
  exact p.symm.trans (by rw [← e])
theorem pickOrder_go {α : Type} (next : Nat → Nat) : ∀ (fuel k : Nat) (left : List α) (out : Array α), fuel = left.length → List.Perm (pickOrder.go next fuel k left out).toList (out.toList ++ left)
  | 0, k, left, out, e => by
    have : left = [] := List.length_eq_zero_iff.mp e.symm
    subst this
    unfold pickOrder.go
    simp
  | fuel + 1, k, left, out, e => by
    unfold pickOrder.go
    have hp : 0 < left.length := by exact ω611 e
    have hm : next k % left.length < left.length := Nat.mod_lt _ hp
    rw [List.getElem?_eq_getElem hm]
    dsimp only
    refine (pickOrder_go next fuel (k + 1) _ _ (by rw [List.length_eraseIdx_of_lt hm]; exact ω612 e)).trans ?_
    rw [Array.toList_push, List.append_assoc]
    refine List.Perm.append_left _ ?_
    show List.Perm (left[next k % left.length] :: left.eraseIdx (next k % left.length)) left
    exact cons_erase hm
theorem pickOrder_perm {α : Type} (next : Nat → Nat) (xs : Array α) : List.Perm (pickOrder next xs).toList xs.toList := by
  unfold pickOrder
  have := pickOrder_go next xs.size 0 xs.toList #[] (by simp)
  simpa using this
end CW
namespace CW
open PySem
theorem si_next : Slot "set_iterator" "__next__" "set_iterator.__next__" := by
  refine .of (owner := "set_iterator") (n := "__next__") ?_ ?_ ?_ ?_ ?_ ?_
  · rw [typeLookup_type, builtinLookup_eq_fast]; kernel_rfl
  · decide +kernel
  · decide +kernel
  · decide +kernel
  · first | exact .inl (by decide +kernel) | exact .inr (by decide +kernel)
  · rw [isSubtype_type]; kernel_rfl
theorem si_iter : Slot "set_iterator" "__iter__" "set_iterator.__iter__" := by
  refine .of (owner := "set_iterator") (n := "__iter__") ?_ ?_ ?_ ?_ ?_ ?_
  · rw [typeLookup_type, builtinLookup_eq_fast]; kernel_rfl
  · decide +kernel
  · decide +kernel
  · decide +kernel
  · first | exact .inl (by decide +kernel) | exact .inr (by decide +kernel)
  · rw [isSubtype_type]; kernel_rfl
theorem si_owner : Manifest.owners.lookup (String.ofList "set_iterator".toList.reverse.reverse) = some Manifest.sig_set_iterator := by kernel_rfl
theorem si_next_ok (a : Value) : argsOk "set_iterator.__next__" ⟨[a], []⟩ := by
  unfold argsOk
  rw [signature?_of (id := "set_iterator.__next__") (n := "__next__".toList.reverse) (o := "set_iterator".toList.reverse) (by kernel_rfl) si_owner]
  kernel_rfl
theorem si_iter_ok (a : Value) : argsOk "set_iterator.__iter__" ⟨[a], []⟩ := by
  unfold argsOk
  rw [signature?_of (id := "set_iterator.__iter__") (n := "__iter__".toList.reverse) (o := "set_iterator".toList.reverse) (by kernel_rfl) si_owner]
  kernel_rfl
theorem si_next_entry : entryFor table "set_iterator.__next__" = some Builtin.«set_iterator.__next__» := entryFor_of_tree (by kernel_rfl)
theorem si_iter_entry : entryFor table "set_iterator.__iter__" = some Builtin.«dict_keyiterator.__iter__» :=
  entryFor_alias (id' := "dict_keyiterator.__iter__") (by kernel_rfl) rfl (by decide +kernel) (by kernel_rfl)
theorem set_iter_entry : entryFor table "set.__iter__" = some Builtin.«frozenset.__iter__» :=
  entryFor_alias (id' := "frozenset.__iter__") (by kernel_rfl) rfl (by decide +kernel) (by kernel_rfl)
theorem set_lookup_len : typeLookup (.type "set") "__len__" = pure (some (.builtin "set.__len__")) := by rw [typeLookup_type, builtinLookup_eq_fast]; kernel_rfl
end CW
namespace CW
open PySem
noncomputable def IsSI (h : Heap) (I S : Addr) (f : Value) (i n ep : Nat) : Prop :=
  ∃ o, h.get? I = some o ∧ o.cls = .type "set_iterator" ∧ o.data = .fields #[f, .int i 0, .ref S, .int n 0, .int ep 0]
theorem IsSI.ty {s : Shared} {I S : Addr} {f : Value} {i n ep : Nat} (x : IsSI s.heap I S f i n ep) : s.TypeIs (.ref I) "set_iterator" := let ⟨o, ho, hc, _⟩ := x; ⟨o, ho, hc⟩
theorem IsSI.at {h h' : Heap} {I S : Addr} {f : Value} {i n ep : Nat} (x : IsSI h I S f i n ep) (e : ∀ o, h.get? I = some o → h'.get? I = some o) : IsSI h' I S f i n ep := let ⟨o, ho, r⟩ := x; ⟨o, e _ ho, r⟩
noncomputable def SetAt (h : Heap) (S : Addr) (es : Array (Int × Value)) (ep : Nat) (t : SetTable) : Prop := ∃ o, h.get? S = some o ∧ o.ExactSet ∧ o.data = .set es ep t
theorem SetAt.at {h h' : Heap} {S : Addr} {es : Array (Int × Value)} {ep : Nat} {t : SetTable} (x : SetAt h S es ep t) (e : ∀ o, h.get? S = some o → h'.get? S = some o) : SetAt h' S es ep t := let ⟨o, ho, r⟩ := x; ⟨o, e _ ho, r⟩
section
variable {prog : Program} {w : World} {A : Around} {E : Value → Shared → Prop} {s : Shared} {I S : Addr} {es : Array (Int × Value)} {ep : Nat} {t : SetTable}
noncomputable def Nxt (prog : Program) (w : World) (s : Shared) (S : Addr) (f i ep : Nat) (r : Option (Value × Nat)) : Prop :=
  ∀ (A : Around) (E : Value → Shared → Prop) (Q : Option (Value × Nat) → Shared → Prop), Q r s → wpAny (model prog w) A (setNext S f i ep) Q E s
theorem si_item {f f' i : Nat} {x : Value} {Q : Option Value → Shared → Prop} (hit : IsSI s.heap I S (.int f 0) i es.size ep) (hS : SetAt s.heap S es ep t) (hf : t.fits es.size = true)
    (hn : Nxt prog w s S f i ep (some (x, f'))) (hQ : ∀ h', IsSI h' I S (.int f' 0) (i + 1) es.size ep → Heap.SameBut I s.heap h' → Q (some x) { s with heap := h' }) :
    wpAny (model prog w) A (pyNext (.ref I)) Q E s := by
  (refine εx1 (id hit) fun o c'1932 => εa3 c'1932 fun ho hc hd => ?_; clear c'1932)
  (refine εx1 (id hS) fun oS c'1933 => εa3 c'1933 fun hoS hx hdS => ?_; clear c'1933)
  unfold pyNext
  refine wpAny_bind (wpAny_attempt (wpAny_callSpecial?_slot (name := Str.ofString "__next__") hit.ty si_next (wpAny_call_entry si_next hit.ty si_next_entry ?_ (si_next_ok _))))
  unfold Builtin.«set_iterator.__next__»
  refine wpAny_bind (wpAny_pure ?_)
  refine wpAny_bind (wpAny_fieldsOf ho hd ?_)
  show wpAny _ _ (setEntries S >>= _) _ _ s
  refine wpAny_bind (wpAny_setEntries_of hoS hdS hf ?_)
  rw [if_neg (by simp)]
  show wpAny _ _ (setNext S f i ep >>= _) _ _ s
  refine wpAny_bind (hn _ _ _ ?_)
  show wpAny _ _ (setField (.ref I) 0 (rawInt f') >>= _) _ _ s
  refine wpAny_bind (wpAny_setField ho hd (by simp) ?_)
  have g1 : (s.heap.update I (Obj.mapFields (·.setIfInBounds 0 (rawInt f')))).get? I = some (Obj.mapFields (·.setIfInBounds 0 (rawInt f')) o) := Heap.get?_update_self _ ho (Obj.isFreed_of_fields (Obj.data_mapFields hd _))
  have d1 := Obj.data_mapFields hd (·.setIfInBounds 0 (rawInt f'))
  show wpAny _ _ (setField (.ref I) 1 (rawInt ((i : Int) + 1)) >>= _) _ _ _
  refine wpAny_bind (wpAny_setField g1 d1 (by simp) ?_)
  have d2 := Obj.data_mapFields d1 (·.setIfInBounds 1 (rawInt ((i : Int) + 1)))
  have g2 := Heap.get?_update_self (Obj.mapFields (·.setIfInBounds 1 (rawInt ((i : Int) + 1)))) g1 (Obj.isFreed_of_fields d2)
  refine wpAny_pure ⟨_, rfl, wpAny_pure (hQ _ ⟨_, g2, ?_, ?_⟩ ?_)⟩
  · exact ((Obj.cls_mapFields ..).trans (Obj.cls_mapFields ..)).trans hc
  · rw [d2]; simp [rawInt]
  · exact (Heap.SameBut.update ..).trans (Heap.SameBut.update ..)
theorem si_stop {Q : Option Value → Shared → Prop} {A : Around} (hh : A.handled = none) {h1 : Heap} (hQ : ∀ h', (∀ b o, h1.get? b = some o → h'.get? b = some o) → Q none { s with heap := h' }) :
    wpAny (model prog w) A.in1 (newExc (.type "StopIteration") [] >>= fun e => (raiseNew e : Sem Fin)) (fun _ _ => False) (fun e s' => wpAny (model prog w) A (isInstance e (.type "StopIteration") >>= fun b => if b = true then pure none else throw e) Q E s') { s with heap := h1 } := by
  refine wpAny_bind ?_
  simp only [newExc, newTuple]
  refine wpAny_bind (wpAny_newObj_type ?_ (by size_fits))
  refine wpAny_bind (m := firstArgMember _ _) (wpAny_of_eq (a := Value.none) (by first | rfl | (simp only [firstArgMember]; rfl)) ?_)
  refine wpAny_newObj_type ?_ (by size_fits)
  simp only [raiseNew]
  refine wpAny_bind (wpAny_handled ?_)
  rw [show A.in1.handled = none from hh]
  refine wpAny_bind (wpAny_pure (wpAny_throw ?_))
  refine wpAny_bind (wpAny_isInstance (T := "StopIteration") (b := true) ⟨_, Heap.get?_push_size _ rfl, rfl⟩ isSubtype_stop ?_)
  exact wpAny_pure (hQ _ fun b o e => Heap.get?_push_of_some _ (Heap.get?_push_of_some _ e))
theorem si_done {f i : Nat} {Q : Option Value → Shared → Prop} (hh : A.handled = none) (hit : IsSI s.heap I S (.int f 0) i es.size ep) (hS : SetAt s.heap S es ep t) (hf : t.fits es.size = true)
    (hn : Nxt prog w s S f i ep none) (hQ : ∀ h', (∀ b o, b ≠ I → s.heap.get? b = some o → h'.get? b = some o) → Q none { s with heap := h' }) :
    wpAny (model prog w) A (pyNext (.ref I)) Q E s := by
  (refine εx1 (id hit) fun o c'1934 => εa3 c'1934 fun ho hc hd => ?_; clear c'1934)
  (refine εx1 (id hS) fun oS c'1935 => εa3 c'1935 fun hoS hx hdS => ?_; clear c'1935)
  unfold pyNext
  refine wpAny_bind (wpAny_attempt (wpAny_callSpecial?_slot (name := Str.ofString "__next__") hit.ty si_next (wpAny_call_entry si_next hit.ty si_next_entry ?_ (si_next_ok _))))
  unfold Builtin.«set_iterator.__next__»
  refine wpAny_bind (wpAny_pure ?_)
  refine wpAny_bind (wpAny_fieldsOf ho hd ?_)
  show wpAny _ _ (setEntries S >>= _) _ _ s
  refine wpAny_bind (wpAny_setEntries_of hoS hdS hf ?_)
  rw [if_neg (by simp)]
  show wpAny _ _ (setNext S f i ep >>= _) _ _ s
  refine wpAny_bind (hn _ _ _ ?_)
  show wpAny _ _ (setField (.ref I) 2 .none >>= _) _ _ s
  refine wpAny_bind (wpAny_setField ho hd (by simp) ?_)
  refine wpAny_mono (si_stop (s := s) (E := E) hh (h1 := s.heap.update I (Obj.mapFields (·.setIfInBounds 2 .none))) fun h' hk => hQ h' fun b o hb e => hk b o ((Heap.get?_update_other _ _ (Ne.symm hb)).trans e)) (fun _ _ z => z.elim) fun _ _ z => z
end
end CW
namespace CW
open PySem
section
variable {prog : Program} {w : World} {A : Around} {E : Value → Shared → Prop} {s : Shared} {I S : Addr} {es : Array (Int × Value)} {ep : Nat} {t : SetTable}
theorem byText {Q : Bool → Shared → Prop} (h : Q (w.params.followText "set-order") s) : wpAny (model prog w) A setsByText Q E s := by
  unfold setsByText
  exact wpAny_bind (wpAny_askSetting (wpAny_pure h))
theorem setNext_eq (S : Addr) (f i e : Nat) : setNext S f i e = (setState S >>= fun q => setsByText >>= fun b =>
    if b = true then (if (q.2.1 != e) = true then (unsupported "set_iterator.__next__:elements-changed" >>= fun (_ : PUnit) => setWalk S >>= fun z => pure ((z[i]?).map fun e => (e.2, f))) else (setWalk S >>= fun z => pure ((z[i]?).map fun e => (e.2, f))))
    else (if (!q.2.2.plain && decide (q.1.size > 1)) = true then (unsupported "set_iterator.__next__:the-table-is-plain-no-more" >>= fun (_ : PUnit) => (if (!q.2.2.led && !q.1.isEmpty) = true then unsupported "set:maker-not-led" else pure ()) >>= fun (_ : Unit) =>
        pure (match q.1[SetTable.below q.2.2.place f]?, q.2.2.place[SetTable.below q.2.2.place f]? with | some (_, x), some j => some (x, j + 1) | _, _ => none))
      else ((if (!q.2.2.led && !q.1.isEmpty) = true then unsupported "set:maker-not-led" else pure ()) >>= fun (_ : Unit) =>
        pure (match q.1[SetTable.below q.2.2.place f]?, q.2.2.place[SetTable.below q.2.2.place f]? with | some (_, x), some j => some (x, j + 1) | _, _ => none)))) := by
  rfl
theorem setWalk_eq (S : Addr) : setWalk S = (setState S >>= fun q => setsByText >>= fun b =>
    if b = true then (ask >>= fun z => pure (pickOrder (z.params.setOrder S q.2.1) q.1)) else
    if (!q.2.2.plain && decide (q.1.size > 1)) = true then (drawOrder q.1.size q.1.toList >>= fun l => pure l.toArray) else
    ((if (!q.2.2.led && decide (q.1.size > 1)) = true then unsupported "set:maker-not-led" else pure ()) >>= fun (_ : Unit) => pure q.1)) := by
  rfl
theorem nxt_text (ht : w.params.followText "set-order" = true) (hS : SetAt s.heap S es ep t) (hf : t.fits es.size = true) (f i : Nat) :
    Nxt prog w s S f i ep (((pickOrder (w.params.setOrder S ep) es)[i]?).map fun e => (e.2, f)) := by
  intro A E Q hQ
  (refine εx1 hS fun oS c'1936 => εa3 c'1936 fun hoS hx hdS => ?_; (try clear hS); clear c'1936)
  rw [setNext_eq]
  refine wpAny_bind (wpAny_setState_of hoS hdS hf (wpAny_bind (byText ?_)))
  rw [ht, if_pos rfl, if_neg (by simp), setWalk_eq]
  refine wpAny_bind (wpAny_bind (wpAny_setState_of hoS hdS hf (wpAny_bind (byText ?_))))
  rw [ht, if_pos rfl]
  exact wpAny_bind (wpAny_askSetting (wpAny_pure (wpAny_pure hQ)))
theorem nxt_plain (ht : w.params.followText "set-order" = false) (hS : SetAt s.heap S es ep t) (hf : t.fits es.size = true) (hl : t.led = true) (hp : (!t.plain && decide (es.size > 1)) = false) (f i : Nat) :
    Nxt prog w s S f i ep (match es[SetTable.below t.place f]?, t.place[SetTable.below t.place f]? with | some (_, x), some j => some (x, j + 1) | _, _ => none) := by
  intro A E Q hQ
  (refine εx1 hS fun oS c'1937 => εa3 c'1937 fun hoS hx hdS => ?_; (try clear hS); clear c'1937)
  rw [setNext_eq]
  refine wpAny_bind (wpAny_setState_of hoS hdS hf (wpAny_bind (byText ?_)))
  rw [ht, if_neg (by simp)]
  dsimp only
  rw [if_neg (by rw [hp]; simp), if_neg (by rw [hl]; simp)]
  exact wpAny_bind (wpAny_pure (wpAny_pure hQ))
end
noncomputable def slotAt (t : SetTable) (i : Nat) : Nat := if i = 0 then 0 else t.place.getD (i - 1) 0 + 1
theorem below_slotAt {t : SetTable} (hr : Ris t) {i : Nat} (hi : i ≤ t.place.size) : SetTable.below t.place (slotAt t i) = i := by
  obtain ⟨b0, b1, b2⟩ := below_spec hr (slotAt t i)
  rcases Nat.lt_trichotomy (SetTable.below t.place (slotAt t i)) i with h | h | h
  · exfalso
    have h1 := b2 _ (by exact ω178 hi h) (Nat.le_refl _)
    have hi1 : i - 1 < t.place.size := by exact ω613 hi h
    have e : slotAt t i = t.place[i - 1] + 1 := by unfold slotAt; rw [if_neg (by exact ω614 h)]; simp [Array.getD, hi1]
    have h3 := b2 (i - 1) hi1 (by exact ω172 h)
    exact ω615 e h3
  · exact h
  · exfalso
    have hlt : i < t.place.size := by exact ω178 b0 h
    have h1 := b1 i hlt h
    by_cases i0 : i = 0
    · subst i0; simp [slotAt] at h1
    · have hi1 : i - 1 < t.place.size := by exact ω616 hlt
      have e : slotAt t i = t.place[i - 1] + 1 := by unfold slotAt; rw [if_neg i0]; simp [Array.getD, hi1]
      have := ris_lt hr (show i - 1 < i by exact ω617 i0) hlt
      omega
section
variable {prog : Program} {w : World} {A : Around}
theorem walks_text (hh : A.handled = none) (ht : w.params.followText "set-order" = true) (I S : Addr) (hne : S ≠ I) (es : Array (Int × Value)) (ep : Nat) (t : SetTable) (hf : t.fits es.size = true) :
    Walks prog w A I [I, S] [I] es.size (fun i v => ((pickOrder (w.params.setOrder S ep) es).toList.map (·.2))[i]? = some v) (fun i h => IsSI h I S (.int 0 0) i es.size ep ∧ SetAt h S es ep t) where
  sub := fun b hb => by simp at hb; simp [hb]
  frame := fun _ _ _ st hk => ⟨st.1.at fun o e => hk I (by simp) o e, st.2.at fun o e => hk S (by simp) o e⟩
  item := fun i s Q E hi st hQ => by
    have hz : (pickOrder (w.params.setOrder S ep) es).size = es.size := by
      have := (pickOrder_perm (w.params.setOrder S ep) es).length_eq
      simpa using this
    have hlt : i < (pickOrder (w.params.setOrder S ep) es).size := by exact ω55 hi hz
    have hn := nxt_text (prog := prog) ht st.2 hf 0 i
    rw [Array.getElem?_eq_getElem hlt] at hn
    refine si_item (f := 0) (f' := 0) st.1 st.2 hf hn fun h' hit hs => ?_
    refine hQ _ h' s.toks ?_ ⟨hit, st.2.at fun o e => hs.extBut S o hne e⟩ fun b o hb e => hs.extBut b o (fun z => hb (by simp [z])) e
    simp [hlt]
  done := fun s Q E st hQ => by
    have hz : (pickOrder (w.params.setOrder S ep) es).size = es.size := by
      have := (pickOrder_perm (w.params.setOrder S ep) es).length_eq
      simpa using this
    have hn := nxt_text (prog := prog) ht st.2 hf 0 es.size
    rw [Array.getElem?_eq_none (by exact ω105 hz)] at hn
    exact si_done (f := 0) hh st.1 st.2 hf hn fun h' hk => hQ h' s.toks fun b o hb e => hk b o (fun z => hb (by simp [z])) e
  self := fun _ s Q E st hQ => by
    refine wpAny_pyIter_slot st.1.ty si_iter (wpAny_call_entry si_iter st.1.ty si_iter_entry ?_ (si_iter_ok _))
    show wpAny _ _ (ret (.ref I)) _ _ s
    exact wpAny_pure (ιEAEE _ rfl ("set_iterator") _ ⟨st.1.ty, si_next.lookup, hQ⟩)
theorem walks_plain (hh : A.handled = none) (ht : w.params.followText "set-order" = false) (I S : Addr) (hne : S ≠ I) (es : Array (Int × Value)) (ep : Nat) (t : SetTable) (hf : t.fits es.size = true) (hr : Ris t) (hl : t.led = true)
    (hp : (!t.plain && decide (es.size > 1)) = false) :
    Walks prog w A I [I, S] [I] es.size (fun i v => (es.toList.map (·.2))[i]? = some v) (fun i h => IsSI h I S (.int (slotAt t i : Nat) 0) i es.size ep ∧ SetAt h S es ep t) where
  sub := fun b hb => by simp at hb; simp [hb]
  frame := fun _ _ _ st hk => ⟨st.1.at fun o e => hk I (by simp) o e, st.2.at fun o e => hk S (by simp) o e⟩
  item := fun i s Q E hi st hQ => by
    have hz : t.place.size = es.size := by
      unfold SetTable.fits at hf
      simp only [Bool.and_eq_true, beq_iff_eq] at hf
      exact hf.1
    have hn := nxt_plain (prog := prog) ht st.2 hf hl hp (slotAt t i) i
    rw [below_slotAt hr (by exact ω618 hi hz), Array.getElem?_eq_getElem hi, Array.getElem?_eq_getElem (show i < t.place.size by exact ω55 hi hz)] at hn
    dsimp only at hn
    refine si_item (f := slotAt t i) (f' := t.place[i] + 1) st.1 st.2 hf hn fun h' hit hs => ?_
    refine hQ _ h' s.toks ?_ ⟨?_, st.2.at fun o e => hs.extBut S o hne e⟩ fun b o hb e => hs.extBut b o (fun z => hb (by simp [z])) e
    · simp [hi]
    · have e : slotAt t (i + 1) = t.place[i] + 1 := by unfold slotAt; rw [if_neg (by exact ω619)]; simp [Array.getD, show i < t.place.size by exact ω55 hi hz]
      rw [e]; exact hit
  done := fun s Q E st hQ => by
    have hz : t.place.size = es.size := by
      unfold SetTable.fits at hf
      simp only [Bool.and_eq_true, beq_iff_eq] at hf
      exact hf.1
    have hn := nxt_plain (prog := prog) ht st.2 hf hl hp (slotAt t es.size) es.size
    rw [below_slotAt hr (by exact ω69 hz), Array.getElem?_eq_none (Nat.le_refl _)] at hn
    exact si_done (f := slotAt t es.size) hh st.1 st.2 hf hn fun h' hk => hQ h' s.toks fun b o hb e => hk b o (fun z => hb (by simp [z])) e
  self := fun _ s Q E st hQ => by
    refine wpAny_pyIter_slot st.1.ty si_iter (wpAny_call_entry si_iter st.1.ty si_iter_entry ?_ (si_iter_ok _))
    show wpAny _ _ (ret (.ref I)) _ _ s
    exact wpAny_pure (ιEAEE _ rfl ("set_iterator") _ ⟨st.1.ty, si_next.lookup, hQ⟩)
end
section
variable {prog : Program} {w : World} {A : Around} {E : Value → Shared → Prop} {s : Shared} {I S T : Addr} {es : Array (Int × Value)} {ep : Nat} {t : SetTable} {ps : List Nat}
noncomputable def TupAt (h : Heap) (T : Addr) (ps : List Nat) : Prop := ∃ o n, h.get? T = some o ∧ o.data = .seq (ps.map fun (i : Nat) => Value.int i 0).toArray n
theorem TupAt.at {h h' : Heap} (x : TupAt h T ps) (e : ∀ o, h.get? T = some o → h'.get? T = some o) : TupAt h' T ps := let ⟨o, n, ho, r⟩ := x; (ιEE o n ⟨e _ ho, r⟩)
theorem sd_item {i p : Nat} {q : Int × Value} {Q : Option Value → Shared → Prop} (hit : IsSI s.heap I S (.ref T) i es.size ep) (hS : SetAt s.heap S es ep t) (hT : TupAt s.heap T ps) (hf : t.fits es.size = true)
    (hp : ps[i]? = some p) (hq : es[p]? = some q) (hQ : ∀ h', IsSI h' I S (.ref T) (i + 1) es.size ep → Heap.SameBut I s.heap h' → Q (some q.2) { s with heap := h' }) :
    wpAny (model prog w) A (pyNext (.ref I)) Q E s := by
  (refine εx1 (id hit) fun o c'1938 => εa3 c'1938 fun ho hc hd => ?_; clear c'1938)
  (refine εx1 (id hS) fun oS c'1939 => εa3 c'1939 fun hoS hx hdS => ?_; clear c'1939)
  (refine εx2 (id hT) fun oT nT c'1940 => εa2 c'1940 fun hoT hdT => ?_; clear c'1940)
  unfold pyNext
  refine wpAny_bind (wpAny_attempt (wpAny_callSpecial?_slot (name := Str.ofString "__next__") hit.ty si_next (wpAny_call_entry si_next hit.ty si_next_entry ?_ (si_next_ok _))))
  unfold Builtin.«set_iterator.__next__»
  refine wpAny_bind (wpAny_pure ?_)
  refine wpAny_bind (wpAny_fieldsOf ho hd ?_)
  show wpAny _ _ (setEntries S >>= _) _ _ s
  refine wpAny_bind (wpAny_setEntries_of hoS hdS hf ?_)
  rw [if_neg (by simp)]
  show wpAny _ _ (seqItems? (.ref T) >>= _) _ _ s
  refine wpAny_bind (wpAny_seqItems hoT hdT ?_)
  have e1 : (ps.map fun (i : Nat) => Value.int i 0).toArray[((i : Nat) : Int).toNat]? = some (.int (p : Nat) 0) := by
    simp [hp]
  dsimp only
  rw [e1]
  show wpAny _ _ (setNextDrawn S p ep >>= _) _ _ s
  refine wpAny_bind ?_
  unfold setNextDrawn
  refine wpAny_bind (wpAny_setState_of hoS hdS hf ?_)
  dsimp only
  rw [if_neg (by simp), hq]
  refine wpAny_pure ?_
  show wpAny _ _ (setField (.ref I) 1 (rawInt ((i : Int) + 1)) >>= _) _ _ _
  refine wpAny_bind (wpAny_setField ho hd (by simp) ?_)
  have d2 := Obj.data_mapFields hd (·.setIfInBounds 1 (rawInt ((i : Int) + 1)))
  have g2 := Heap.get?_update_self (Obj.mapFields (·.setIfInBounds 1 (rawInt ((i : Int) + 1)))) ho (Obj.isFreed_of_fields d2)
  refine wpAny_pure ⟨_, rfl, wpAny_pure (hQ _ ⟨_, g2, ?_, ?_⟩ ?_)⟩
  · exact (Obj.cls_mapFields ..).trans hc
  · rw [d2]; simp [rawInt]
  · exact Heap.SameBut.update ..
theorem sd_done {i : Nat} {Q : Option Value → Shared → Prop} (hh : A.handled = none) (hit : IsSI s.heap I S (.ref T) i es.size ep) (hS : SetAt s.heap S es ep t) (hT : TupAt s.heap T ps) (hf : t.fits es.size = true)
    (hp : ps[i]? = none) (hQ : ∀ h', (∀ b o, b ≠ I → s.heap.get? b = some o → h'.get? b = some o) → Q none { s with heap := h' }) :
    wpAny (model prog w) A (pyNext (.ref I)) Q E s := by
  (refine εx1 (id hit) fun o c'1941 => εa3 c'1941 fun ho hc hd => ?_; clear c'1941)
  (refine εx1 (id hS) fun oS c'1942 => εa3 c'1942 fun hoS hx hdS => ?_; clear c'1942)
  (refine εx2 (id hT) fun oT nT c'1943 => εa2 c'1943 fun hoT hdT => ?_; clear c'1943)
  unfold pyNext
  refine wpAny_bind (wpAny_attempt (wpAny_callSpecial?_slot (name := Str.ofString "__next__") hit.ty si_next (wpAny_call_entry si_next hit.ty si_next_entry ?_ (si_next_ok _))))
  unfold Builtin.«set_iterator.__next__»
  refine wpAny_bind (wpAny_pure ?_)
  refine wpAny_bind (wpAny_fieldsOf ho hd ?_)
  show wpAny _ _ (setEntries S >>= _) _ _ s
  refine wpAny_bind (wpAny_setEntries_of hoS hdS hf ?_)
  rw [if_neg (by simp)]
  show wpAny _ _ (seqItems? (.ref T) >>= _) _ _ s
  refine wpAny_bind (wpAny_seqItems hoT hdT ?_)
  have e1 : (ps.map fun (i : Nat) => Value.int i 0).toArray[((i : Nat) : Int).toNat]? = none := by
    simp only [Int.toNat_natCast, List.getElem?_toArray, List.getElem?_map, hp, Option.map_none]
  dsimp only
  rw [e1]
  show wpAny _ _ (setField (.ref I) 0 (rawInt 0) >>= _) _ _ _
  refine wpAny_bind (wpAny_setField ho hd (by simp) ?_)
  have d2 := Obj.data_mapFields hd (·.setIfInBounds 0 (rawInt 0))
  have g2 := Heap.get?_update_self (Obj.mapFields (·.setIfInBounds 0 (rawInt 0))) ho (Obj.isFreed_of_fields d2)
  show wpAny _ _ (setField (.ref I) 2 .none >>= _) _ _ _
  refine wpAny_bind (wpAny_setField g2 d2 (by simp) ?_)
  refine wpAny_mono (si_stop (s := s) (E := E) hh (h1 := (s.heap.update I (Obj.mapFields (·.setIfInBounds 0 (rawInt 0)))).update I (Obj.mapFields (·.setIfInBounds 2 .none))) fun h' hk => hQ h' fun b o hb e =>
    hk b o ((Heap.get?_update_other _ _ (Ne.symm hb)).trans ((Heap.get?_update_other _ _ (Ne.symm hb)).trans e))) (fun _ _ z => z.elim) fun _ _ z => z
theorem walks_drawn (hh : A.handled = none) (I S T : Addr) (hne : S ≠ I) (hnT : T ≠ I) (es : Array (Int × Value)) (ep : Nat) (t : SetTable) (hf : t.fits es.size = true) (ps : List Nat) (hps : List.Perm ps (List.range es.size)) :
    Walks prog w A I [I, S, T] [I] es.size (fun i v => (ps.filterMap fun p => es[p]?.map (·.2))[i]? = some v) (fun i h => IsSI h I S (.ref T) i es.size ep ∧ SetAt h S es ep t ∧ TupAt h T ps) where
  sub := fun b hb => by simp at hb; simp [hb]
  frame := fun _ _ _ st hk => ⟨st.1.at fun o e => hk I (by simp) o e, st.2.1.at fun o e => hk S (by simp) o e, st.2.2.at fun o e => hk T (by simp) o e⟩
  item := fun i s Q E hi st hQ => by
    have hl : ps.length = es.size := by rw [hps.length_eq, List.length_range]
    have hlt : i < ps.length := by exact ω55 hi hl
    have hm : ps[i] < es.size := by
      have := hps.mem_iff.mp (List.getElem_mem hlt)
      simpa using this
    refine sd_item (p := ps[i]) (q := es[ps[i]]) st.1 st.2.1 st.2.2 hf (List.getElem?_eq_getElem hlt) (Array.getElem?_eq_getElem hm) fun h' hit hs => ?_
    refine hQ _ h' s.toks ?_ ⟨hit, st.2.1.at fun o e => hs.extBut S o hne e, st.2.2.at fun o e => hs.extBut T o hnT e⟩ fun b o hb e => hs.extBut b o (fun z => hb (by simp [z])) e
    have hall : ∀ p ∈ ps, p < es.size := fun p hp => by
      have := hps.mem_iff.mp hp
      simpa using this
    have em : (ps.filterMap fun p => es[p]?.map (·.2)) = ps.map fun p => (es.getD p (0, .none)).2 := by
      clear hlt hm hl hps hit hs st hQ
      induction ps with
      | nil => rfl
      | cons p r ih =>
        have hp := hall p List.mem_cons_self
        rw [List.filterMap_cons, List.map_cons, ih fun q hq => hall q (List.mem_cons_of_mem _ hq)]
        simp [hp, Array.getD]
    rw [em, List.getElem?_map, List.getElem?_eq_getElem hlt]
    simp [Array.getD, hm]
  done := fun s Q E st hQ => by
    have hl : ps.length = es.size := by rw [hps.length_eq, List.length_range]
    exact sd_done hh st.1 st.2.1 st.2.2 hf (List.getElem?_eq_none (by exact ω105 hl)) fun h' hk => hQ h' s.toks fun b o hb e => hk b o (fun z => hb (by simp [z])) e
  self := fun _ s Q E st hQ => by
    refine wpAny_pyIter_slot st.1.ty si_iter (wpAny_call_entry si_iter st.1.ty si_iter_entry ?_ (si_iter_ok _))
    show wpAny _ _ (ret (.ref I)) _ _ s
    exact wpAny_pure (ιEAEE _ rfl ("set_iterator") _ ⟨st.1.ty, si_next.lookup, hQ⟩)
end
end CW
namespace CW
open PySem
section
variable {prog : Program} {w : World} {A : Around} {E : Value → Shared → Prop} {s : Shared} {S : Addr} {es : Array (Int × Value)} {ep : Nat} {t : SetTable}
theorem choose_any {src : Source} {n : Nat} {Q : Nat → Shared → Prop} (hn : n ≠ 0) (h : ∀ i, i < n → ∀ d', Q i { s with drawn := d' }) : wpAny (model prog w) A (choose src n) Q E s :=
  fun Γ p _ => ⟨hn, h _ (Nat.mod_lt _ (Nat.pos_of_ne_zero hn)) _⟩
theorem draw_any {α : Type} : ∀ (n : Nat) (xs : List α) (s : Shared) (Q : List α → Shared → Prop), xs.length = n → (∀ l d', List.Perm l xs → Q l { s with drawn := d' }) → wpAny (model prog w) A (drawOrder n xs) Q E s
  | 0, xs, s, Q, e, h => by
    have : xs = [] := List.length_eq_zero_iff.mp e
    subst this
    unfold drawOrder
    exact wpAny_pure (h [] s.drawn (List.Perm.refl _))
  | n + 1, [], s, Q, e, h => by simp at e
  | n + 1, x :: xs, s, Q, e, h => by
    unfold drawOrder
    refine wpAny_bind (choose_any (by simp) fun i hi d' => ?_)
    rw [List.getElem?_eq_getElem hi]
    dsimp only
    refine wpAny_bind (draw_any n _ _ _ (by rw [List.length_eraseIdx_of_lt hi]; simp at e ⊢; exact ω577 e) fun l d'' hp => wpAny_pure (h _ d'' ?_))
    exact (List.Perm.cons _ hp).trans (cons_erase hi)
structure SWalk (prog : Program) (w : World) (m : Nat) (h' : Heap) (S I : Addr) (es : Array (Int × Value)) (vs : List Value) (fp : List Addr) (St : Nat → Heap → Prop) : Prop where
  perm : List.Perm vs (es.toList.map (·.2))
  wk : ∀ A : Around, A.handled = none → Walks prog w A I fp [I] es.size (fun i v => vs[i]? = some v) St
  st : St 0 h'
  lt : ∀ b ∈ fp, b < h'.objs.size
  mem : I ∈ fp
  new : ∀ b ∈ fp, b = S ∨ m ≤ b
  ty : ∀ i (s : Shared), St i s.heap → s.TypeIs (.ref I) "set_iterator"
theorem setDrawn_eq (S : Addr) : setDrawn S = (setState S >>= fun q => setsByText >>= fun b => pure (!b && (!q.2.2.plain && decide (q.1.size > 1)))) := by rfl
theorem pyIter_set {Q : Value → Shared → Prop} (hS : SetAt s.heap S es ep t) (hf : t.fits es.size = true) (hr : Ris t) (hl : w.params.followText "set-order" = true ∨ t.led = true) (hb : es.size < scanBound)
    (hQ : ∀ I h' d' vs fp St, (∀ b o, s.heap.get? b = some o → h'.get? b = some o) → s.heap.objs.size ≤ I → SWalk prog w s.heap.objs.size h' S I es vs fp St → Q (.ref I) { s with heap := h', drawn := d' }) :
    wpAny (model prog w) A (pyIter (.ref S)) Q E s := by
  (refine εx1 (id hS) fun oS c'1916 => εa3 c'1916 fun hoS hx hdS => ?_; clear c'1916)
  have hT : s.TypeIs (.ref S) "set" := ⟨oS, hoS, hx.1⟩
  have hlt : S < s.heap.objs.size := Heap.lt_size hoS
  refine wpAny_pyIter_slot hT F.slot_set_iter (wpAny_call_entry F.slot_set_iter hT set_iter_entry ?_ (F.args_set_iter_1 _))
  unfold Builtin.«frozenset.__iter__» Builtin.Frozenset.slot0
  refine wpAny_bind (wpAny_bind (wpAny_pure ?_))
  refine wpAny_pure ?_
  unfold Builtin.Frozenset.sizeOf
  refine wpAny_bind (wpAny_bind (wpAny_setEntries_of hoS hdS hf (wpAny_pure ?_)))
  rw [setDrawn_eq]
  refine wpAny_bind (wpAny_bind (wpAny_setState_of hoS hdS hf (wpAny_bind (byText (wpAny_pure ?_)))))
  dsimp only
  have fin : ∀ (f : Value) (s' : Shared) (vs : List Value) (fp : List Addr) (St : Nat → Heap → Prop) (d' : Drawn), (∃ h' , s' = { s with heap := h', drawn := d' }) → (∀ b o, s.heap.get? b = some o → s'.heap.get? b = some o) → s.heap.objs.size ≤ s'.heap.objs.size →
      SWalk prog w s.heap.objs.size (s'.heap.push { cls := .type "set_iterator", data := .fields #[f, .int 0 0, .ref S, .int es.size 0, .int ep 0] }) S s'.heap.objs.size es vs fp St →
      ∀ A', wpAny (model prog w) A' (setEpoch S >>= fun e => newFields "set_iterator" [f, rawInt 0, .ref S, rawInt es.size, rawInt e] >>= fun v => ret v)
        (fun fin s'' => ∃ r, fin = .done (.ret r) ∧ ∃ T, ∃ (nx : Value), s''.TypeIs r T ∧ typeLookup (.type T) "__next__" = pure (some nx) ∧ Q r s'') E s' := by
    intro f s' vs fp St d' hs' hk hsz W A'
    obtain ⟨h', rfl⟩ := hs'
    refine wpAny_bind (wpAny_setEpoch_of (hk S oS hoS) hdS hf ?_)
    unfold newFields
    refine wpAny_bind (wpAny_newObj_type (wpAny_pure (ιEAEE _ rfl ("set_iterator") _ ⟨⟨_, Heap.get?_push_size _ rfl, rfl⟩, si_next.lookup, ?_⟩)))
    exact hQ _ _ d' vs fp St (fun b o e => Heap.get?_push_of_some _ (hk b o e)) hsz W
  have atS : ∀ {h' : Heap} (o : Obj), (∀ b o, s.heap.get? b = some o → h'.get? b = some o) → SetAt (h'.push o) S es ep t := fun {h'} o hk => hS.at fun o' e => Heap.get?_push_of_some _ (hk S o' e)
  cases htx : w.params.followText "set-order" with
  | true =>
    show wpAny _ _ (pure (rawInt 0) >>= _) _ _ _
    refine wpAny_bind (wpAny_pure ?_)
    refine fin (rawInt 0) s _ _ _ s.drawn ⟨s.heap, rfl⟩ (fun _ _ e => e) (Nat.le_refl _) ⟨?_, fun A' ha => walks_text ha htx s.heap.objs.size S (Nat.ne_of_lt hlt) es ep t hf, ⟨⟨_, Heap.get?_push_size _ rfl, rfl, rfl⟩, atS _ fun _ _ e => e⟩, ?_, by simp, ?_, fun i s' st => st.1.ty⟩ _
    · exact (pickOrder_perm _ es).map _
    · intro b hb
      rw [Heap.size_push]
      simp at hb
      rcases hb with rfl | rfl
      · exact Nat.lt_succ_self _
      · exact Nat.lt_succ_of_lt hlt
    · intro b hb
      simp at hb
      rcases hb with rfl | rfl
      · exact .inr (Nat.le_refl _)
      · exact .inl rfl
  | false =>
    have hled : t.led = true := by
      rcases hl with z | z
      · rw [htx] at z; cases z
      · exact z
    cases hdr : (!t.plain && decide (es.size > 1)) with
    | false =>
      show wpAny _ _ (pure (rawInt 0) >>= _) _ _ _
      refine wpAny_bind (wpAny_pure ?_)
      refine fin (rawInt 0) s _ _ _ s.drawn ⟨s.heap, rfl⟩ (fun _ _ e => e) (Nat.le_refl _) ⟨List.Perm.refl _, fun A' ha => walks_plain ha htx s.heap.objs.size S (Nat.ne_of_lt hlt) es ep t hf hr hled hdr, ⟨⟨_, Heap.get?_push_size _ rfl, rfl, rfl⟩, atS _ fun _ _ e => e⟩, ?_, by simp, ?_, fun i s' st => st.1.ty⟩ _
      · intro b hb
        rw [Heap.size_push]
        simp at hb
        rcases hb with rfl | rfl
        · exact Nat.lt_succ_self _
        · exact Nat.lt_succ_of_lt hlt
      · intro b hb
        simp at hb
        rcases hb with rfl | rfl
        · exact .inr (Nat.le_refl _)
        · exact .inl rfl
    | true =>
      rw [if_pos (show (!false && true) = true from rfl)]
      refine wpAny_bind (draw_any _ _ _ _ (by simp) fun ps d' hps => ?_)
      refine wpAny_bind ?_
      unfold newTuple
      have hpl : ps.length = es.size := by rw [hps.length_eq, List.length_range]
      have hcap : es.size ≤ sizeLine := fits_of_scanBound hb
      refine wpAny_newObj_type ?_ (by show (ps.map fun (i : Nat) => rawInt i).toArray.size ≤ sizeLine; simp; exact ω579 hpl hcap)
      refine fin (.ref s.heap.objs.size) _ _ _ _ d' ⟨_, rfl⟩ (fun _ _ e => Heap.get?_push_of_some _ e) (by show s.heap.objs.size ≤ (s.heap.push _).objs.size; rw [Heap.size_push]; exact Nat.le_succ _)
        ⟨?_, fun A' ha => walks_drawn ha _ S s.heap.objs.size ?_ ?_ es ep t hf ps hps, ⟨⟨_, Heap.get?_push_size _ rfl, rfl, rfl⟩, atS _ fun _ _ e => Heap.get?_push_of_some _ e, (ιEE _ _ ⟨Heap.get?_push_of_some _ (Heap.get?_push_size _ rfl), rfl⟩)⟩, ?_, by simp, ?_, fun i s' st => st.1.ty⟩ _
      · have e1 : (es.toList.map (·.2)) = (List.range es.size).filterMap fun p => es[p]?.map (·.2) := by
          rw [← List.map_filterMap, filterMap_getElem?_range]
        rw [e1]
        exact hps.filterMap _
      · show S ≠ (s.heap.push _).objs.size
        rw [Heap.size_push]; exact Nat.ne_of_lt (Nat.lt_succ_of_lt hlt)
      · show s.heap.objs.size ≠ (s.heap.push _).objs.size
        rw [Heap.size_push]; exact Nat.ne_of_lt (Nat.lt_succ_self _)
      · intro b hb
        have z1 : ∀ (h : Heap) (o : Obj), (h.push o).objs.size = h.objs.size + 1 := fun h o => Heap.size_push ..
        show b < ((s.heap.push _).push _).objs.size
        rw [z1, z1]
        rcases List.mem_cons.mp hb with e | hb
        · rw [e]; show (s.heap.push _).objs.size < _; rw [z1]; exact Nat.lt_succ_self _
        · rcases List.mem_cons.mp hb with e | hb
          · rw [e]; exact Nat.lt_succ_of_lt (Nat.lt_succ_of_lt hlt)
          · rw [List.mem_singleton.mp hb]; exact Nat.lt_succ_of_lt (Nat.lt_succ_self _)
      · intro b hb
        rcases List.mem_cons.mp hb with e | hb
        · refine .inr ?_
          rw [e]; show _ ≤ (s.heap.push _).objs.size; rw [Heap.size_push]; exact Nat.le_succ _
        · rcases List.mem_cons.mp hb with e | hb
          · exact .inl e
          · rw [List.mem_singleton.mp hb]; exact .inr (Nat.le_refl _)
end
end CW
namespace CW
open PySem
section
variable {prog : Program} {w : World} {A : Around} {E : Value → Shared → Prop} {s : Shared} {S : Addr} {es : Array (Int × Value)} {ep : Nat} {t : SetTable}
theorem split_len : splitId "set.__len__" = some ("set", "__len__") := by kernel_rfl
theorem sub_self : isSubtype (.type "set") (.type "set") = pure true := by rw [isSubtype_type]; kernel_rfl
theorem hint_set {Q : Bool → Shared → Prop} (hT : s.TypeIs (.ref S) "set") (h : Q false s) : wpAny (model prog w) A (Builtin.List.listLengthHint (.ref S)) Q E s := by
  unfold Builtin.List.listLengthHint
  refine wpAny_bind (wpAny_specialOf hT set_lookup_len ?_)
  dsimp only
  rw [split_len]
  dsimp only
  refine wpAny_bind (wpAny_isInstance hT sub_self ?_)
  rw [if_neg (by decide)]
  rw [if_pos]
  · refine wpAny_bind (wpAny_typeOf hT ?_)
    exact wpAny_pure h
  · decide +kernel
abbrev newL : Obj := { cls := .type "list", data := .seq ([] : List Value).toArray }
theorem collect_set {Q : List Value → Shared → Prop} (hh : A.handled = none) (hS : SetAt s.heap S es ep t) (hf : t.fits es.size = true) (hr : Ris t) (hl : w.params.followText "set-order" = true ∨ t.led = true) (hb : es.size < scanBound)
    (hQ : ∀ h' tk d' vs, (∀ b o, s.heap.get? b = some o → h'.get? b = some o) → s.heap.objs.size ≤ h'.objs.size → List.Perm vs (es.toList.map (·.2)) → Q vs { s with heap := h', toks := tk, drawn := d' }) : wpAny (model prog w) A (collect (.ref S)) Q E s := by
  (refine εx1 (id hS) fun oS c'1917 => εa3 c'1917 fun hoS hx hdS => ?_; clear c'1917)
  have hlt : S < s.heap.objs.size := Heap.lt_size hoS
  unfold collect
  refine wpAny_bind (wpAny_runValue (codeAny_builtin F.entry_proto_collect ?_))
  rw [Around.under_plainId F.plain_proto_collect _]
  show wpAny _ A.in1 (newList [] >>= fun l => again (.builtin "list.__iadd__" ⟨[l, .ref S], []⟩)) _ _ s
  refine wpAny_bind (wpAny_newObj_type (wpAny_pure ⟨plainId_quiet F.plain_list_iadd _, codeAny_builtin F.entry_list_iadd ?_⟩))
  rw [Around.under_plainId F.plain_list_iadd _]
  have up : ∀ b o, s.heap.get? b = some o → (s.heap.push newL).get? b = some o := fun b o e => Heap.get?_push_of_some _ e
  have hT1 : Shared.TypeIs { s with heap := s.heap.push newL } (.ref S) "set" := ⟨oS, up S oS hoS, hx.1⟩
  have hL1 : (s.heap.push newL).get? s.heap.objs.size = some newL := Heap.get?_push_size _ rfl
  have hne : Builtin.List.listSameRef (.ref s.heap.objs.size) (.ref S) = false := by
    have : s.heap.objs.size ≠ S := Nat.ne_of_gt hlt
    simp [Builtin.List.listSameRef, this]
  show wpAny _ A.in1 (Builtin.List.listExtendWith (.ref s.heap.objs.size) (.ref S) (.ref s.heap.objs.size)) _ _ { s with heap := s.heap.push newL }
  unfold Builtin.List.listExtendWith
  refine wpAny_bind (wpAny_typeOf hT1 ?_)
  rw [if_neg (by rw [hne]; decide)]
  refine wpAny_bind (pyIter_set (hS.at fun o e => up S o e) hf hr hl hb fun I h1 d1 vs fp St hk hI W => ?_)
  have hT2 : Shared.TypeIs { s with heap := h1, drawn := d1 } (.ref S) "set" := ⟨oS, hk S oS (up S oS hoS), hx.1⟩
  refine wpAny_bind (wpAny_holding (hint_set hT2 ?_))
  rw [if_pos]
  rotate_left
  · decide +kernel
  show wpAny _ A.in1 (rule "list.extend.makes-room" >>= fun _ => Builtin.List.listTouch (.ref s.heap.objs.size) >>= fun _ => again (.builtin "list.extend.loop" ⟨[.ref s.heap.objs.size, .ref I, .ref s.heap.objs.size], []⟩)) _ _ _
  refine wpAny_bind (wpAny_rule (wpAny_bind ?_))
  have hL2 : h1.get? s.heap.objs.size = some newL := hk _ _ hL1
  show wpAny _ A.in1 (updateSeq s.heap.objs.size (·.push .none) >>= fun _ => updateSeq s.heap.objs.size (·.pop)) _ _ _
  refine wpAny_bind (wpAny_updateSeq hL2 rfl ?_)
  have hL3 := Heap.get?_update_self (Obj.mapSeq (·.push Value.none)) hL2 rfl
  refine wpAny_updateSeq hL3 rfl ?_
  have hL4 := Heap.get?_update_self (Obj.mapSeq (·.pop)) hL3 rfl
  have oth : ∀ b o, b ≠ s.heap.objs.size → h1.get? b = some o → ((h1.update s.heap.objs.size (Obj.mapSeq (·.push Value.none))).update s.heap.objs.size (Obj.mapSeq (·.pop))).get? b = some o :=
    fun b o hb e => (Heap.get?_update_other _ _ (Ne.symm hb)).trans ((Heap.get?_update_other _ _ (Ne.symm hb)).trans e)
  have hIn : s.heap.objs.size ≠ I := Nat.ne_of_lt (Nat.lt_of_lt_of_le (by show s.heap.objs.size < (s.heap.push newL).objs.size; rw [Heap.size_push]; exact Nat.lt_succ_self _) hI)
  have hLf : s.heap.objs.size ∉ fp := fun z => by
    rcases W.new _ z with e | e
    · exact Nat.ne_of_gt hlt e
    · have : (s.heap.push newL).objs.size ≤ s.heap.objs.size := e
      rw [Heap.size_push] at this
      exact absurd this (Nat.not_succ_le_self _)
  refine wpAny_pure ⟨plainId_quiet F.plain_extend_loop _, codeAny_extend_loopS (W.wk A.in1 hh).toS (fits_of_scanBound hb) _ hLf _ es.size 0 _ _ _ rfl (Nat.zero_le _) ?_ hL4 (ItemsOf.nil _) fun s' acc c hm hS' hacc => ?_⟩
  · exact (W.wk A.in1 hh).frame 0 h1 _ W.st fun b hbf o e => oth b o (fun z => hLf (z ▸ hbf)) e
  · show wpAny _ A (load s.heap.objs.size >>= _) _ _ s'
    refine wpAny_bind (wpAny_load hS' (wpAny_pure ?_))
    have ev : acc.toList = vs := by
      have hvl : vs.length = es.size := by rw [W.perm.length_eq]; simp
      refine List.ext_getElem? fun i => ?_
      by_cases hi : i < es.size
      · have h1 : i < acc.size := by rw [hacc.1]; exact hi
        have h2 := hacc.2 i acc[i] (Array.getElem?_eq_getElem h1)
        rw [h2]; simp [h1]
      · rw [List.getElem?_eq_none (show acc.toList.length ≤ i by have := hacc.1; simp; exact ω582 hi this), List.getElem?_eq_none (show vs.length ≤ i by exact ω271 hvl hi)]
    rw [ev]
    obtain ⟨h2, g2, d2, tk2, os2⟩ := s'
    have eg : g2 = s.gens := hm.gens
    have ed : d2 = d1 := hm.drawn
    have eo : os2 = s.os := hm.os
    subst eg ed eo
    refine hQ h2 tk2 d2 vs (fun b o e => ?_) (Nat.le_of_lt (Heap.lt_size hS')) W.perm
    refine hm.heap b o (fun z => ?_) (oth b o (Nat.ne_of_lt (Heap.lt_size e)) (hk b o (up b o e)))
    rcases List.mem_cons.mp z with q | q
    · exact Nat.ne_of_lt (Heap.lt_size e) q
    · have q' := List.mem_singleton.mp q
      rw [q'] at e
      exact absurd (Nat.lt_of_lt_of_le (Heap.lt_size e) (Nat.le_trans (Nat.le_succ _) (by have z := hI; rw [show (s.heap.push newL).objs.size = s.heap.objs.size + 1 from Heap.size_push ..] at z; exact z))) (Nat.lt_irrefl _)
end
end CW
namespace CW
open PySem
noncomputable def SetI (prog : Program) (w : World) (h : Heap) (a : Addr) (S : Int → Bool) (n : Nat) : Prop :=
  ∃ es ep t, SetAt h a es ep t ∧ ElemsOf (intKind prog w) es.toList ∧ (∀ k, S k = true ↔ ∃ e ∈ es.toList, (intKind prog w).is k e.2 = true) ∧ es.size < scanBound ∧ t.fits es.size = true ∧ es.size = n ∧
    Ris t ∧ (w.params.followText "set-order" = true ∨ t.led = true)
section
variable {prog : Program} {w : World} {A : Around} {E : Value → Shared → Prop} {s : Shared} {a : Addr} {es : Array (Int × Value)} {ep : Nat} {t : SetTable}
theorem SetI.at {h h' : Heap} {S : Int → Bool} {n : Nat} (x : SetI prog w h a S n) (e : ∀ o, h.get? a = some o → h'.get? a = some o) : SetI prog w h' a S n := let ⟨es, ep, t, q, r⟩ := x; (ιEEE es ep t ⟨q.at e, r⟩)
theorem put_I {es1 : Array (Int × Value)} {t2 : SetTable} {S' : Int → Bool} {n : Nat} (hS : SetAt s.heap a es ep t) (h1 : ElemsOf (intKind prog w) es1.toList) (h2 : ∀ k, S' k = true ↔ ∃ e ∈ es1.toList, (intKind prog w).is k e.2 = true)
    (h3 : es1.size < scanBound) (h4 : t2.fits es1.size = true) (h5 : es1.size = n) (h6 : Ris t2) (h7 : w.params.followText "set-order" = true ∨ t2.led = true) {Q : Unit → Shared → Prop}
    (h : ∀ h', Heap.SameBut a s.heap h' → SetAt h' a es1 (ep + 1) t2 → SetI prog w h' a S' n → Q () { s with heap := h' }) : wpAny (model prog w) A (storeSet a es1 t2) Q E s := by
  (refine εx1 hS fun o c'1918 => εa3 c'1918 fun ho hx hd => ?_; (try clear hS); clear c'1918)
  refine wpAny_storeSet_of ho hd ?_ (fits_of_scanBound h3)
  obtain ⟨g1, _⟩ := SetOf_store (knd := intKind prog w) ho hx hd h1 h2 h3 h4
  have g : SetAt (s.heap.update a (Obj.putSet es1 t2)) a es1 (ep + 1) t2 := ⟨_, g1, hx, rfl⟩
  exact h _ (Heap.SameBut.update ..) g (ιEEE es1 (ep + 1) t2 ⟨g, h1, h2, h3, h4, h5, h6, h7⟩)
theorem add_I {S : Int → Bool} {n : Nat} {k : Int} {u : Tok} {Q : Bool → Shared → Prop} (hS : SetI prog w s.heap a S n) (hroom : n + 1 < scanBound)
    (h : ∀ h', Heap.SameBut a s.heap h' → SetI prog w h' a (fun k' => S k' || decide (k' = k)) (if S k then n else n + 1) → Q (!S k) { s with heap := h' }) :
    wpAny (model prog w) A (setAddHashed a (.int k u) ((intKind prog w).hash k)) Q E s := by
  (refine εx3 (id hS) fun es ep t c'1919 => εa8 c'1919 fun hA h1 h2 h3 h4 h5 h6 h7 => ?_; clear c'1919)
  (refine εx1 (id hA) fun o c'1920 => εa3 c'1920 fun ho hx hd => ?_; clear c'1920)
  have hkey : (intKind prog w).is k (.int k u) = true := intKind_is _ _ _ _
  unfold setAddHashed setAddHashedIn
  refine wpAny_holding (wpAny_bind (wpAny_setState_of ho hd h4 ?_))
  dsimp only
  rw [byScan_of (knd := intKind prog w) rfl h3 h1, if_pos rfl]
  unfold setAddByScan
  refine wpAny_bind (wpAny_bind (wpAny_rule (wpAny_bind (wpAny_setScan_of hkey ho hd h4 h1 ?_))))
  cases hr : List.findIdx? (fun e => (intKind prog w).is k e.2) es.toList with
  | some j =>
    obtain ⟨hj, hpj, _⟩ := List.findIdx?_eq_some_iff_getElem.mp hr
    have hSk : S k = true := (h2 k).mpr ⟨es.toList[j], List.getElem_mem hj, hpj⟩
    refine wpAny_pure (wpAny_pure ?_)
    have q := h s.heap (Heap.SameBut.refl a s.heap) (ιEEE es ep t ⟨hA, h1, fun k' => ?_, h3, h4, by rw [hSk]; exact h5, h6, h7⟩)
    · rw [hSk] at q; exact q
    · rw [← h2 k', Bool.or_eq_true, decide_eq_true_eq]
      exact ⟨fun z => z.elim id fun e => e ▸ hSk, .inl⟩
  | none =>
    have hSk : S k = false := by
      cases hk : S k with
      | false => rfl
      | true =>
        obtain ⟨e, he, hp⟩ := (h2 k).mp hk
        have := List.findIdx?_eq_none_iff.mp hr e he
        rw [hp] at this; cases this
    have tab := layNew_tab t es ((intKind prog w).hash k) (.int k u) h6
    have prm := layNew_perm t es ((intKind prog w).hash k) (.int k u)
    have fit := layNew_fits t es ((intKind prog w).hash k) (.int k u)
    dsimp only
    generalize layNew t es ((intKind prog w).hash k) (.int k u) = L at tab prm fit ⊢
    obtain ⟨es1, t1, dm, gv⟩ := L
    dsimp only at tab prm fit ⊢
    rw [Array.toList_push] at prm
    have e1 : ElemsOf (intKind prog w) es1.toList := (h1.push hkey rfl).perm prm
    have e2 : ∀ k', (S k' || decide (k' = k)) = true ↔ ∃ e ∈ es1.toList, (intKind prog w).is k' e.2 = true := mem_push_iff hkey h2 prm
    have ez : es1.size = n + 1 := by
      have := prm.length_eq
      simp at this
      exact ω583 h5 this
    have e3 : es1.size < scanBound := by exact ω584 hroom ez
    have e7 : w.params.followText "set-order" = true ∨ t1.led = true := h7.imp id fun z => by rw [tab.2]; exact z
    have gw : ∀ (b : Bool) (s₁ : Shared) (Q' : Unit → Shared → Prop), Q' () s₁ → wpAny (model prog w) A (match b with | true => rule "set.scan.the-table-gave-way" | false => pure ()) Q' E s₁ :=
      fun b s₁ Q' hq => by cases b <;> first | exact wpAny_pure hq | exact wpAny_rule hq
    refine wpAny_bind (gw gv _ _ ?_)
    have fin : ∀ t2 : SetTable, t2.fits es1.size = true → Ris t2 → (w.params.followText "set-order" = true ∨ t2.led = true) →
        wpAny (model prog w) A (storeSet a es1 t2 >>= fun _ => if (!dm && t2.tooFull) = true then
          (match (relayAll t2 es1 (SetTable.grown es1.size)).2.2 with | true => rule "set.scan.the-table-gave-way" | false => pure ()) >>= fun (_ : Unit) =>
            storeSet a (relayAll t2 es1 (SetTable.grown es1.size)).1 (relayAll t2 es1 (SetTable.grown es1.size)).2.1 >>= fun _ => pure (some true) else pure (some true))
          (fun r s' => ∃ h', Heap.SameBut a s.heap h' ∧ SetI prog w h' a (fun k' => S k' || decide (k' = k)) (n + 1) ∧ r = some true ∧ s' = { s with heap := h' }) E s := by
      intro t2 f2 r2 l2
      refine wpAny_bind (put_I hA e1 e2 e3 f2 ez r2 l2 fun h' sb hA' hI => ?_)
      split
      · have tab2 := relayAll_tab t2 es1 (SetTable.grown es1.size)
        have prm2 := relayAll_perm t2 es1 (SetTable.grown es1.size)
        have fit2 := relayAll_fits t2 es1 (SetTable.grown es1.size)
        generalize relayAll t2 es1 (SetTable.grown es1.size) = R at tab2 prm2 fit2 ⊢
        obtain ⟨es2, t3, gv2⟩ := R
        dsimp only at tab2 prm2 fit2 ⊢
        have ez2 : es2.size = es1.size := by simpa using prm2.length_eq
        refine wpAny_bind (gw gv2 _ _ ?_)
        refine wpAny_bind (put_I (n := n + 1) hA' (e1.perm prm2) (fun k' => (e2 k').trans ⟨fun z'398 => εx1 z'398 fun e m'399 => εa2 m'399 fun he q => ⟨e, prm2.mem_iff.mpr he, q⟩, fun z'400 => εx1 z'400 fun e m'401 => εa2 m'401 fun he q => ⟨e, prm2.mem_iff.mp he, q⟩⟩) (by exact ω585 e3 ez2) fit2 (by exact ω586 ez ez2) tab2.1 (l2.imp id fun z => by rw [tab2.2]; exact z) fun h'' sb' _ hI' => ?_)
        exact wpAny_pure ⟨h'', sb.trans sb', hI', rfl, rfl⟩
      · exact wpAny_pure ⟨h', sb, hI, rfl, rfl⟩
    have out : ∀ t2 : SetTable, t2.fits es1.size = true → Ris t2 → (w.params.followText "set-order" = true ∨ t2.led = true) → wpAny (model prog w) A (storeSet a es1 t2 >>= fun _ => if (!dm && t2.tooFull) = true then
          (match (relayAll t2 es1 (SetTable.grown es1.size)).2.2 with | true => rule "set.scan.the-table-gave-way" | false => pure ()) >>= fun (_ : Unit) =>
            storeSet a (relayAll t2 es1 (SetTable.grown es1.size)).1 (relayAll t2 es1 (SetTable.grown es1.size)).2.1 >>= fun _ => pure (some true) else pure (some true))
          (fun r s' => wpAny (model prog w) A (match r with | some added => pure added | none => setAddHashedIn a (.int k u) ((intKind prog w).hash k) 99999) Q E s') E s := fun t2 f2 r2 l2 => by
      refine wpAny_mono (fin t2 f2 r2 l2) (fun r s' hq => ?_) fun _ _ z => z
      (refine εx1 hq fun h' c'1923 => εa4 c'1923 fun sb hI e'1921 e'1922 => ?_; (try clear hq); clear c'1923; subst e'1921; subst e'1922)
      refine wpAny_pure ?_
      have q := h h' sb
      rw [hSk] at q
      exact q hI
    split
    · rw [hashByValue_scannable 8 (x := .int k u) rfl]
      refine wpAny_bind (wpAny_pure ?_)
      exact out t1 fit tab.1 e7
    · refine wpAny_bind (wpAny_pure ?_)
      exact out t1 fit tab.1 e7
end
end CW
namespace CW
open PySem PyProof.Rows
theorem SetI.congr {prog : Program} {w : World} {h : Heap} {a : Addr} {S S' : Int → Bool} {n n' : Nat} (x : SetI prog w h a S n) (e : ∀ k, S k = S' k) (en : n = n') : SetI prog w h a S' n' := by
  have : S = S' := funext e
  subst this; subst en; exact x
section
variable {prog : Program} {w : World} {A : Around} {R : Result → Shared → Prop} {I : Addr} {fp wr : List Addr} {G : Array GenState → Array GenState → Prop} {n : Nat} {P : Nat → Value → Prop} {St : Nat → Shared → Prop}
theorem loop_I (W : WalksS prog w A.in1 I fp wr G n P St) (S : Addr) (off : S ∉ fp) (val : Nat → Int) (hval : ∀ i v, P i v → ∃ t, v = .int (val i) t) (hb : n + 1 < scanBound) :
    ∀ (k i : Nat) (s : Shared), n - i = k → i ≤ n → St i s → SetI prog w s.heap S (fun x => (firstMet val i).any (· == x)) (firstMet val i).length →
      (∀ s', Moved (S :: wr) G s s' → SetI prog w s'.heap S (fun x => (firstMet val n).any (· == x)) (firstMet val n).length → R (.ok (.ret .none)) s') →
      codeAny (model prog w) A (.builtin "set.update.loop" ⟨[.ref S, .ref I], []⟩) R s := by
  have offw : S ∉ wr := fun z => off (W.sub _ z)
  have more : ∀ b ∈ wr, b ∈ S :: wr := fun b z => List.mem_cons_of_mem _ z
  intro k
  induction k with
  | zero =>
    intro i s hk hi st hS fin
    obtain rfl : i = n := by exact ω587 hk hi
    refine codeAny_builtin F.entry_set_update_loop ?_
    rw [Around.under_plainId F.plain_set_update_loop _]
    show wpAny _ A.in1 (pyNext (.ref I) >>= _) _ _ s
    refine wpAny_bind (W.done s _ _ st fun s' mv => ?_)
    show wpAny _ A.in1 (ret Value.none) _ _ s'
    exact wpAny_pure (fin s' (mv.mono more) (hS.at fun o e => mv.heap S o offw e))
  | succ k ih =>
    intro i s hk hi st hS fin
    refine codeAny_builtin F.entry_set_update_loop ?_
    rw [Around.under_plainId F.plain_set_update_loop _]
    show wpAny _ A.in1 (pyNext (.ref I) >>= _) _ _ s
    refine wpAny_bind (W.item i s _ _ (by exact ω588 hk) st fun v s' hP st' mv => ?_)
    obtain ⟨t, rfl⟩ := hval i v hP
    have hS' := hS.at (h' := s'.heap) fun o e => mv.heap S o offw e
    show wpAny _ A.in1 (holding [Value.int (val i) t] (setAdd S (.int (val i) t)) >>= _) _ _ s'
    refine wpAny_bind (wpAny_holding ?_)
    unfold setAdd
    refine wpAny_holding (wpAny_bind ((intKind prog w).pyHash (k := val i) (intKind_is _ _ _ _) ?_))
    refine add_I (s := { s' with toks := s'.toks + 1 }) hS' (by have := firstMet_length_le val i; exact ω589 hb hk this) fun h' sb hS2 => ?_
    have hSi := hS2.congr (S' := fun x => (firstMet val (i + 1)).any (· == x)) (n' := (firstMet val (i + 1)).length) (fun x => by rw [firstMet_succ, step_any]) (by rw [firstMet_succ, step_length])
    refine wpAny_pure ⟨plainId_quiet F.plain_set_update_loop _, ih (i + 1) _ (by exact ω275 hk) (by exact ω276 hk) (W.frame _ s' _ _ st' (Nat.le_succ _) fun b z o e => ?_) hSi fun s2 mv2 hS3 => ?_⟩
    · rw [sb.2 b fun q : b = S => off (q ▸ z)]; exact e
    · refine fin s2 (Moved.trans W.gtrans ((mv.mono more).then_heap (Nat.le_succ _) fun b o z e => ?_) mv2) hS3
      rw [sb.2 b fun q : b = S => z (q ▸ List.mem_cons_self)]; exact e
end
section
variable {prog : Program} {w : World} {A : Around} {E : Value → Shared → Prop} {s : Shared}
abbrev newS (w : World) : Obj := { cls := .type "set", dict := none, data := .set #[] 0 (.fresh 0 0 (!(w.params.followText "set-order"))) }
theorem new_I (a : Value) {Q : Value → Shared → Prop} (h : Q (.ref s.heap.objs.size) { s with heap := s.heap.push (newS w) }) : codeAny (model prog w) A (.call (.builtin "set.__new__") ⟨[.type "set", a], []⟩) (wants Q E) s := by
  refine codeAny_of_tree ?_
  show wpAny _ A.in1 (do checkBuiltinCall "set.__new__" ⟨[.type "set", a], []⟩; again (.builtin "set.__new__" ⟨[.type "set", a], []⟩)) _ _ s
  refine wpAny_bind (wpAny_of_eq (F.newCall_set_1 a) (wpAny_pure ⟨plainId_quiet F.plain_set_new _, codeAny_builtin F.entry_set_new ?_⟩))
  rw [Around.under_plainId F.plain_set_new _]
  unfold Builtin.«set.__new__» Builtin.Frozenset.newClass
  have sub := sub_set_self
  obtain ⟨h0, g0, d0, t0, o0⟩ := s
  dsimp only
  wp_walk
  refine wpAny_askSetting (wpAny_pure ?_)
  dsimp only
  simp only [newObj]
  exact wpAny_bind (wpAny_alloc (wpAny_pure (wpAny_pure h)))
theorem fresh_I {h : Heap} {a : Addr} (e : h.get? a = some (newS w)) : SetI prog w h a (fun _ => false) 0 := by
  refine (ιEEE (#[]) 0 _ ⟨⟨_, e, ⟨rfl, rfl, rfl⟩, rfl⟩, fun e he => by simp at he, fun k => by simp, by decide, rfl, rfl, ?_, ?_⟩)
  · show List.Pairwise _ (#[] : Array Nat).toList
    simp
  · cases w.params.followText "set-order" with
    | true => exact .inl rfl
    | false => exact .inr rfl
set_option maxHeartbeats 3200000 in
theorem call_set_I {l : Addr} {items : Array Value} {ns : List Int} {Q : Value → Shared → Prop} (hh : A.handled = none) (hl : s.heap.IsList l items) (hi : IntsAre items.toList ns) (hb : items.size + 1 < scanBound)
    (h : ∀ (h' : Heap) (tk : Nat), SetI prog w h' s.heap.objs.size (fun x => (firstMet (fun i => ns.getD i 0) items.size).any (· == x)) (firstMet (fun i => ns.getD i 0) items.size).length →
      (∀ b o, b < s.heap.objs.size → s.heap.get? b = some o → h'.get? b = some o) → Q (.ref s.heap.objs.size) { s with heap := h', toks := tk }) :
    wpAny (model prog w) A (call (.type "set") [.ref l]) Q E s := by
  obtain ⟨c, tl, hmro⟩ := F.called_set.mro
  have hmade := F.called_set.made
  have hsub := F.called_set.sub
  refine wpAny_call (codeAny_of_tree ?_)
  show wpAny _ _ (callAny (.type "set") _) _ _ _
  refine wpAny_pure ⟨Code.quiet_builtin _ (by decide +kernel), codeAny_builtin F.entry_type_call ?_⟩
  rw [Around.under_plain (weight_type_call_type "set" [.ref l] []) rfl]
  have f1 := F.called_set.notType
  have f2 := F.called_set.canCreate
  have f3 := F.typeCall_set_1 (.ref l)
  repeat (any_goals (first | assumption | wp_step))
  refine codeAny_mono (new_I (.ref l) (E := E) (Q := fun ob s₁ => ob = .ref s.heap.objs.size ∧ s₁ = { s with heap := s.heap.push (newS w) }) ⟨rfl, rfl⟩) fun r s₁ hr => ?_
  match r, hr with
  | .error e, hr => exact hr
  | .ok .next, hr => exact hr.elim
  | .ok .brk, hr => exact hr.elim
  | .ok .cont, hr => exact hr.elim
  | .ok (.ret ob), hr =>
    obtain ⟨rfl, rfl⟩ := hr
    have hS : (s.heap.push (newS w)).get? s.heap.objs.size = some (newS w) := Heap.get?_push_size _ rfl
    have hT : Shared.TypeIs { s with heap := s.heap.push (newS w) } (.ref s.heap.objs.size) "set" := ⟨_, hS, rfl⟩
    have i1 := F.called_set.init.lookup
    have i2 := F.called_set.init.bind (.ref s.heap.objs.size)
    repeat (any_goals (first | assumption | wp_step))
    refine codeAny_mono (codeAny_call_builtin (R := wants (fun r s₂ => r = .none ∧ ∃ h' tk, s₂ = { s with heap := h', toks := tk } ∧
        SetI prog w h' s.heap.objs.size (fun x => (firstMet (fun i => ns.getD i 0) items.size).any (· == x)) (firstMet (fun i => ns.getD i 0) items.size).length ∧
        (∀ b o, b < s.heap.objs.size → s.heap.get? b = some o → h'.get? b = some o)) E) F.called_set.init.plain F.entry_set_init (check_set_init_1 hT ?_)) fun r₂ s₂ hr₂ => ?_
    · (refine εx1 hl fun ol c'1924 => εa3 c'1924 fun hol hcl c'1925 => εx1 c'1925 fun nl hdl => ?_; (try clear hl); clear c'1924 c'1925)
      obtain ⟨oc, od, oda, osl⟩ := ol
      simp only at hcl hdl
      subst hcl; subst hdl
      have hol' : (s.heap.push (newS w)).get? l = some { cls := .type "list", dict := od, data := .seq items nl, slots := osl } := Heap.get?_push_of_some _ hol
      have g1 := F.sub_list_set
      have g2 := F.sub_list_frozenset
      have g3 : (Value.type "list" == Value.type "dict") = false := by decide
      have hl1 : (s.heap.push (newS w)).IsList l items := (ιEAAE _ hol' rfl nl rfl)
      unfold Builtin.«set.__init__» noKeywords Builtin.Frozenset.updateFrom
      generalize hPI : pyIter = PI
      wp_walk
      subst hPI
      refine wpAny_pyIter_list hl1 (wpAny_bind (wpAny_runValue ?_))
      have hlS : l < s.heap.objs.size := Heap.lt_size hol
      have z1 : (s.heap.push (newS w)).objs.size = s.heap.objs.size + 1 := Heap.size_push ..
      have hneI : l ≠ (s.heap.push (newS w)).objs.size := by rw [z1]; exact Nat.ne_of_lt (Nat.lt_succ_of_lt hlS)
      have hSf : s.heap.objs.size ∉ [(s.heap.push (newS w)).objs.size, l] := by
        rw [z1]
        intro z
        rcases List.mem_cons.mp z with e | z
        · exact Nat.ne_of_lt (Nat.lt_succ_self _) e
        · exact Nat.ne_of_gt hlS (List.mem_singleton.mp z)
      have hval : ∀ (i : Nat) (v : Value), items[i]? = some v → ∃ t, v = .int ((fun i => ns.getD i 0) i) t := fun i v hv => IntsAre.int_at hi i v (by rw [Array.getElem?_toList]; exact hv)
      refine loop_I ((Walks.list (by show A.handled = none; exact hh) _ l hneI items).toS) s.heap.objs.size hSf (fun i => ns.getD i 0) hval hb (items.size - 0) 0 _ (by exact ω590) (Nat.zero_le _)
        ⟨⟨_, Heap.get?_push_size _ rfl, rfl, rfl⟩, (hl1.push _)⟩ ((fresh_I (Heap.get?_push_of_some _ hS)).congr (fun _ => rfl) rfl) fun s' mv hS' => ?_
      obtain ⟨h', g', d', tk', os'⟩ := s'
      obtain rfl : g' = s.gens := mv.gens
      obtain rfl : d' = s.drawn := mv.drawn
      obtain rfl : os' = s.os := mv.os
      show wpAny _ _ _ _ _ _
      refine wpAny_pure ?_
      show wpAny _ _ (ret Value.none) _ _ _
      refine wpAny_pure ⟨rfl, ιEE h' tk' ⟨rfl, hS', fun b o hb e => ?_⟩⟩
      refine mv.heap b o (fun z => ?_) (Heap.get?_push_of_some _ (Heap.get?_push_of_some _ e))
      rcases List.mem_cons.mp z with q | z
      · exact Nat.ne_of_lt hb q
      · rw [List.mem_singleton.mp z] at hb
        exact absurd hb (by show ¬ (s.heap.push (newS w)).objs.size < s.heap.objs.size; rw [z1]; exact ω591)
    · match r₂, hr₂ with
      | .error e, hr => exact hr
      | .ok .next, hr => exact hr.elim
      | .ok .brk, hr => exact hr.elim
      | .ok .cont, hr => exact hr.elim
      | .ok (.ret r), hr =>
        (refine εa2 hr fun e'1926 c'1928 => εx2 c'1928 fun h' tk c'1929 => εa3 c'1929 fun e'1927 hS' hk' => ?_; (try clear hr); clear c'1928 c'1929; subst e'1926; subst e'1927)
        repeat (any_goals (first | assumption | wp_step))
        exact h _ _ hS' hk'
end
end CW
namespace CW
open PySem PyProof.Rows
theorem int_of_is {prog : Program} {w : World} {k : Int} {v : Value} (h : (intKind prog w).is k v = true) : ∃ t, v = .int k t := by
  cases v <;> simp [intKind, Value.isInt] at h
  rename_i i t
  exact ⟨t, by rw [h]⟩
theorem ints_of_elems {prog : Program} {w : World} : ∀ {vs : List Value}, (∀ v ∈ vs, ∃ k, (intKind prog w).is k v = true) → ∃ ns, IntsAre vs ns
  | [], _ => ⟨[], .nil⟩
  | v :: r, h => by
    obtain ⟨k, hk⟩ := h v List.mem_cons_self
    obtain ⟨t, rfl⟩ := int_of_is hk
    obtain ⟨ns, hn⟩ := ints_of_elems fun x hx => h x (List.mem_cons_of_mem _ hx)
    exact ⟨k :: ns, .cons k t hn⟩
theorem ints_mem {vs : List Value} {ns : List Int} (h : IntsAre vs ns) (k : Int) : k ∈ ns ↔ ∃ t, Value.int k t ∈ vs := by
  induction h with
  | nil => simp
  | cons n t hr ih =>
    rw [List.mem_cons, ih]
    constructor
    · rintro (rfl | ⟨u, hu⟩)
      · exact ⟨t, List.mem_cons_self⟩
      · exact ⟨u, List.mem_cons_of_mem _ hu⟩
    · rintro ⟨u, hu⟩
      rcases List.mem_cons.mp hu with e | hu
      · cases e; exact .inl rfl
      · exact .inr ⟨u, hu⟩
section
variable {prog : Program} {w : World} {A : Around} {E : Value → Shared → Prop} {s : Shared} {a : Addr}
theorem sorted_I {S : Int → Bool} {n : Nat} {Q : Value → Shared → Prop} (hh : A.handled = none) (hS : SetI prog w s.heap a S n) (h64 : n < 64)
    (h : ∀ (h' : Heap) (tk : Nat) (d' : Drawn) (out : List Value) (ns : List Int) (D : Addr) (e : Nat), (∀ b o, s.heap.get? b = some o → h'.get? b = some o) → s.heap.objs.size ≤ D → h'.get? D = some { cls := .type "list", data := .seq out.toArray e } → IntsAre out ns →
      ns.Pairwise (· ≤ ·) → ns.length = n → (∀ k, k ∈ ns ↔ S k = true) → Q (.ref D) { s with heap := h', toks := tk, drawn := d' }) :
    wpAny (model prog w) A (call (.builtin "sorted") [.ref a]) Q E s := by
  (refine εx3 hS fun es ep t c'1930 => εa8 c'1930 fun hA h1 h2 h3 h4 h5 h6 h7 => ?_; (try clear hS); clear c'1930)
  refine Calls.call_function_entry kind_sorted plain_sorted entry_sorted (args_sorted1 _) ?_
  unfold Builtin.«sorted»
  refine wpAny_bind (m := checkCount "sorted" 1 1 _) (wpAny_pure ?_)
  refine wpAny_bind (collect_set (by show A.handled = none; exact hh) hA h4 h6 h7 h3 fun h0 tk d0 vs hk le0 hp => ?_)
  have hvl : vs.length = n := by rw [hp.length_eq]; simpa using h5
  refine wpAny_bind (wpAny_newList (hsz := by rw [sizeLine_eq]; exact ω171 h64 hvl) ?_)
  obtain ⟨ns, hI⟩ : ∃ ns, IntsAre vs ns := ints_of_elems (prog := prog) (w := w) fun v hv => by
    obtain ⟨e, he, rfl⟩ := List.mem_map.mp (hp.mem_iff.mp hv)
    obtain ⟨⟨k, hk, _⟩, _⟩ := h1 e he
    exact ⟨k, hk⟩
  have hoL : (h0.push (seqObj "list" vs.toArray 0)).get? h0.objs.size = some (seqObj "list" vs.toArray 0) := Heap.get?_push_size _ rfl
  refine wpAny_bind (wpAny_holding (wpAny_call_entry slot_list_sort ⟨_, hoL, rfl⟩ entry_list_sort (list_sort_tree hoL hI (by exact ω173 h64 hvl) fun out ns' a1 a2 a3 => ⟨_, rfl, ?_⟩) (args_list_sort _)))
  obtain ⟨e, hat⟩ := sortedHeap_at (out := out) hoL
  refine wpAny_pure ⟨_, rfl, h (sortedHeap (h0.push (seqObj "list" vs.toArray 0)) h0.objs.size vs out) tk d0 out.toList ns' h0.objs.size e (fun b o e' => ?_) le0 ?_ a1 a3 ?_ fun k => ?_⟩
  · have e1 := hk b o e'
    have hl := Heap.lt_size e1
    rw [sortedHeap_old (Nat.ne_of_lt hl) (by rw [size_push']; exact Nat.lt_succ_of_lt hl)]
    exact Heap.get?_push_of_some _ e1
  · simpa using hat
  · rw [a2.length_eq, ← hI.length, hvl]
  · rw [a2.mem_iff, ints_mem hI, h2]
    constructor
    · rintro ⟨u, hu⟩
      obtain ⟨e, he, q⟩ := List.mem_map.mp (hp.mem_iff.mp hu)
      exact ⟨e, he, by rw [q]; exact intKind_is _ _ _ _⟩
    · rintro ⟨e, he, q⟩
      obtain ⟨u, hu⟩ := int_of_is q
      exact ⟨u, hp.mem_iff.mpr (List.mem_map.mpr ⟨e, he, hu⟩)⟩
end
end CW
namespace L2
open PySem PySem.Spec PyProof.Rows
abbrev Key := Sum Int Str
noncomputable def keyIs : Key → Value → Bool
  | .inl k, v => Value.isInt k v
  | .inr x, v => Value.isStrOf x v
noncomputable def keyH (w : World) : Key → Int
  | .inl k => hashInt k
  | .inr x => hashStr w x
theorem keyIs_shape : ∀ {k : Key} {v : Value}, keyIs k v = true → (∃ i t, k = Sum.inl i ∧ v = Value.int i t) ∨ (∃ x t, k = Sum.inr x ∧ v = Value.str x t)
  | .inl i, v, h => by
    obtain ⟨t, e⟩ := Value.isInt_shape (k := i) (v := v) h
    exact .inl (ιEE i t ⟨rfl, e⟩)
  | .inr x, v, h => by
    obtain ⟨t, e⟩ := Value.isStrOf_shape (x := x) (v := v) h
    exact .inr (ιEE x t ⟨rfl, e⟩)
theorem keyIs_int (i : Int) (t : Tok) : keyIs (.inl i) (.int i t) = true := by simp [keyIs, Value.isInt]
theorem keyIs_str (x : Str) (t : Tok) : keyIs (.inr x) (.str x t) = true := by simp [keyIs, Value.isStrOf]
theorem key_ll (a b : Int) : decide ((Sum.inl a : Key) = Sum.inl b) = (a == b) := by
  by_cases e : a = b
  · subst e; simp
  · have h : ¬ (Sum.inl a : Key) = Sum.inl b := fun q => e (Sum.inl.inj q)
    rw [decide_eq_false h]
    exact (beq_eq_false_iff_ne.mpr e).symm
theorem key_rr (a b : Str) : decide ((Sum.inr a : Key) = Sum.inr b) = decide (a = b) := by
  by_cases e : a = b
  · subst e; simp
  · have h : ¬ (Sum.inr a : Key) = Sum.inr b := fun q => e (Sum.inr.inj q)
    rw [decide_eq_false h, decide_eq_false e]
theorem key_lr (a : Int) (b : Str) : decide ((Sum.inl a : Key) = Sum.inr b) = false := decide_eq_false (fun q => nomatch q)
theorem key_rl (a : Str) (b : Int) : decide ((Sum.inr a : Key) = Sum.inl b) = false := decide_eq_false (fun q => nomatch q)
noncomputable def mixKind (prog : Program) (w : World) : PySem.KeyKind prog w Key where
  is := keyIs
  hash := keyH w
  inj := fun v a b ha hb => by
    rcases keyIs_shape ha with ⟨i, t, rfl, rfl⟩ | ⟨x, t, rfl, rfl⟩
    · rcases keyIs_shape hb with ⟨j, u, rfl, e⟩ | ⟨y, u, rfl, e⟩
      · injection e with e1 _; rw [e1]
      · exact nomatch e
    · rcases keyIs_shape hb with ⟨j, u, rfl, e⟩ | ⟨y, u, rfl, e⟩
      · exact nomatch e
      · injection e with e1 _; rw [e1]
  byValue := fun k v h => by
    rcases keyIs_shape h with ⟨i, t, rfl, rfl⟩ | ⟨x, t, rfl, rfl⟩ <;> rfl
  pyHash := fun hv h => by
    rcases keyIs_shape hv with ⟨i, t, rfl, rfl⟩ | ⟨x, t, rfl, rfl⟩
    · exact wpAny_pyHash_int h
    · exact wpAny_pyHash_str h
  eqBool := fun hu hv h => by
    rcases keyIs_shape hu with ⟨i, t, rfl, rfl⟩ | ⟨x, t, rfl, rfl⟩
    · rcases keyIs_shape hv with ⟨j, u, rfl, rfl⟩ | ⟨y, u, rfl, rfl⟩
      · rw [key_ll] at h; exact wpAny_eqBool_int h
      · rw [key_lr] at h; exact SeqAt.EqAt.int_str i t y u _ _ _ _ h
    · rcases keyIs_shape hv with ⟨j, u, rfl, rfl⟩ | ⟨y, u, rfl, rfl⟩
      · rw [key_rl] at h; exact SeqAt.EqAt.str_int x t j u _ _ _ _ h
      · rw [key_rr] at h; exact wpAny_eqBool_str h
  «strs» := fun k x t v h => by
    rcases keyIs_shape h with ⟨i, u, rfl, e⟩ | ⟨y, u, rfl, e⟩
    · exact nomatch e
    · injection e with e1 _
      subst e1
      cases v <;> rfl
theorem mixKind_int (prog : Program) (w : World) (i : Int) (t : Tok) : (mixKind prog w).is (.inl i) (.int i t) = true := keyIs_int i t
theorem mixKind_str (prog : Program) (w : World) (x : Str) (t : Tok) : (mixKind prog w).is (.inr x) (.str x t) = true := keyIs_str x t
end L2
namespace L2
open PySem PySem.Spec PyProof.Rows
inductive V where
  | non | bl (b : Bool) | int (i : Int) | str (x : Str) | byt (b : Array UInt8) | flt (b : UInt64) | ref (a : Addr) | ty (n : String)
  deriving DecidableEq
noncomputable def RelV : V → Value → Prop
  | .non, u => u = Value.none
  | .bl b, u => u = Value.bool b
  | .int i, u => ∃ t, u = Value.int i t
  | .str x, u => ∃ t, u = Value.str x t
  | .byt b, u => ∃ t, u = Value.bytes b t
  | .flt b, u => ∃ t, u = Value.float b t
  | .ref a, u => u = Value.ref a
  | .ty n, u => u = Value.type n
abbrev Vals : List V → List Value → Prop := Paired RelV
theorem Vals.length {xs : List V} {us : List Value} (r : Vals xs us) : xs.length = us.length := Paired.length r
theorem Vals.get : ∀ {xs : List V} {us : List Value} {i : Nat} {x : V}, Vals xs us → xs[i]? = some x → ∃ u, us[i]? = some u ∧ RelV x u
  | _, _, _, _, .nil, e => by simp at e
  | _, _, 0, _, .cons r _, e => by simp at e; subst e; exact ⟨_, rfl, r⟩
  | _, _, i + 1, x, .cons _ t, e => by
    obtain ⟨u, h1, h2⟩ := Vals.get (i := i) (x := x) t (by simpa using e)
    exact ⟨u, by simpa using h1, h2⟩
theorem Vals.set {x : V} {u : Value} (r : RelV x u) : ∀ {xs : List V} {us : List Value} (i : Nat), Vals xs us → Vals (xs.set i x) (us.set i u)
  | _, _, _, .nil => .nil
  | _, _, 0, .cons _ t => .cons r t
  | _, _, i + 1, .cons q t => .cons q (Vals.set r i t)
theorem Vals.append {xs ys : List V} {us ws : List Value} (h : Vals xs us) (s : Vals ys ws) : Vals (xs ++ ys) (us ++ ws) := by
  induction h with
  | nil => exact s
  | cons r t ih => exact .cons r ih
theorem Vals.take : ∀ {xs : List V} {us : List Value} (n : Nat), Vals xs us → Vals (xs.take n) (us.take n)
  | _, _, 0, _ => .nil
  | _, _, _ + 1, .nil => .nil
  | _, _, n + 1, .cons r t => .cons r (Vals.take n t)
theorem Vals.drop : ∀ {xs : List V} {us : List Value} (n : Nat), Vals xs us → Vals (xs.drop n) (us.drop n)
  | _, _, 0, r => r
  | _, _, _ + 1, .nil => .nil
  | _, _, n + 1, .cons _ t => Vals.drop n t
noncomputable def RelO : Option V → Option Value → Prop
  | some v, some u => RelV v u
  | none, none => True
  | _, _ => False
noncomputable def KV {κ : Type} : List (κ × V) → List (κ × Value) → Prop := Paired fun (p : κ × V) (q : κ × Value) => p.1 = q.1 ∧ RelV p.2 q.2
noncomputable def kV : Key → V
  | .inl i => .int i
  | .inr x => .str x
inductive HO where
  | lst (xs : List V)
  | tup (xs : List V)
  | dK (kvs : List (Key × V)) | dT (kvs : List (List Key × V))
  | set (S : Int → Bool) (n : Nat)
  | ins (C dx : Addr) (fs : List (Str × V))
  | own (x : Addr)
  | xd (fs : List (Str × V))
  | met (f x : Addr)
  | rng (lo hi : Int)
  | frz (o : Obj) (u : HO)
  | tbl (ps : Array Value)
  | ext (φ : Heap → Prop)
abbrev Hp := Addr → Option HO
noncomputable def upd (H : Hp) (a : Addr) (o : HO) : Hp := fun b => if b = a then some o else H b
theorem upd_same {H : Hp} {a : Addr} {o : HO} : upd H a o a = some o := by unfold upd; rw [if_pos rfl]
theorem upd_ne {H : Hp} {a b : Addr} {o : HO} (h : b ≠ a) : upd H a o b = H b := by unfold upd; rw [if_neg h]
theorem ne_of {H : Hp} {a b : Addr} {o u : HO} (h : H a = some o) (h' : H b = some u) (d : o ≠ u) : a ≠ b := by
  intro e; subst e; rw [h] at h'; exact d (Option.some.inj h')
theorem ne_of_none {H : Hp} {a b : Addr} {o : HO} (h : H a = some o) (h' : H b = none) : a ≠ b := by
  intro e; subst e; rw [h] at h'; cases h'
section
variable (P : Program) (w : World)
noncomputable def ObjOk (H : Hp) (h : Heap) (a : Addr) : HO → Prop
  | .lst xs => xs.length ≤ sizeLine ∧ ∃ (its : List Value) (n : Nat), Vals xs its ∧ h.get? a = some { cls := .type "list", data := .seq its.toArray n }
  | .tup xs => xs.length ≤ sizeLine ∧ ∃ its : List Value, Vals xs its ∧ IsTup h a its.toArray
  | .dK kvs => kvs.length ≤ sizeLine ∧ (a == sysModules) = false ∧ ∃ vs, KV kvs vs ∧ h.DictOf (mixKind P w) a vs
  | .dT kvs => kvs.length ≤ sizeLine ∧ (a == sysModules) = false ∧ ∃ xs : List (List Key × Addr × Value),
      Paired (fun (p : List Key × V) (q : List Key × Addr × Value) => p.1 = q.1 ∧ H q.2.1 = some (.tup (p.1.map kV)) ∧ RelV p.2 q.2.2) kvs xs ∧
      ∃ o es ep, h.get? a = some o ∧ o.ExactDict ∧ o.data = .dict es ep ∧ es.toList = xs.map (entryOfKey (tupleKind (mixKind P w))) ∧ (xs.map (·.1)).Nodup
  | .set S n => h.SetOf (intKind P w) a S n
  | .ins C dx fs => H dx = some (.own a) ∧ fs.length ≤ 1000 ∧ dx ≠ a ∧ h.get? a = some (PySem.W.instObj C dx) ∧
      ∃ mA, h.Ns1 dx mA ∧ (∀ f, RelO (fs.lookup f) (mA f)) ∧ PySem.Within mA (fs.map (·.1))
  | .own _ => ∃ o, h.get? a = some o
  | .xd fs => ∃ mA, h.Ns1 a mA ∧ ∀ f, RelO (fs.lookup f) (mA f)
  | .rng lo hi => ∃ t u v, h.get? a = some { cls := .type "range", data := .fields #[.int lo t, .int hi u, .int 1 v] }
  | .frz o u => h.get? a = some o ∧ ObjOk H h a u
  | .tbl ps => h.get? a = some { cls := .none, data := .fields ps }
  | .met f x => h.get? a = some (PySem.W.methodObj (.ref f) (.ref x))
  | .ext φ => φ h ∧ (∃ o, h.get? a = some o) ∧ ∀ h1 h2 : Heap, φ h1 → (∀ o, h1.get? a = some o → h2.get? a = some o) → φ h2
noncomputable def HOk (H : Hp) (h : Heap) : Prop := ∀ a o, H a = some o → ObjOk P w H h a o
end
section
variable {P : Program} {w : World} {H H' : Hp} {h h' : Heap} {a : Addr} {o : HO}
theorem ObjOk.lt (x : ObjOk P w H h a o) : a < h.objs.size := by
  cases o with
  | lst xs => (refine εa2 x fun _ c'1359 => εx2 c'1359 fun _ _ c'1360 => εa2 c'1360 fun _ e => ?_; (try clear x); clear c'1359 c'1360); exact Heap.lt_size e
  | tup xs => (refine εa2 x fun _ c'1361 => εx1 c'1361 fun _ c'1362 => εa2 c'1362 fun _ p => ?_; (try clear x); clear c'1361 c'1362); exact p.lt
  | dK kvs => (refine εa3 x fun _ _ c'1363 => εx1 c'1363 fun _ c'1364 => εa2 c'1364 fun _ c'1365 => εx3 c'1365 fun o _ _ c'1366 => εa2 c'1366 fun e _ => ?_; (try clear x); clear c'1363 c'1364 c'1365 c'1366); exact Heap.lt_size e
  | dT kvs => (refine εa3 x fun _ _ c'1367 => εx1 c'1367 fun _ c'1368 => εa2 c'1368 fun _ c'1369 => εx3 c'1369 fun o _ _ c'1370 => εa2 c'1370 fun e _ => ?_; (try clear x); clear c'1367 c'1368 c'1369 c'1370); exact Heap.lt_size e
  | set S n => (refine εx4 x fun o _ _ _ c'1371 => εa2 c'1371 fun e _ => ?_; (try clear x); clear c'1371); exact Heap.lt_size e
  | ins C dx fs => (refine εa5 x fun _ _ _ e _ => ?_; (try clear x)); exact Heap.lt_size e
  | own y => obtain ⟨_, e⟩ := x; exact Heap.lt_size e
  | xd fs => obtain ⟨_, ⟨_, _, _, e, _⟩, _⟩ := x; exact Heap.lt_size e
  | rng lo hi => (refine εx3 x fun _ _ _ e => ?_; (try clear x)); exact Heap.lt_size e
  | frz ob u => obtain ⟨e, _⟩ := x; exact Heap.lt_size e
  | tbl ps => exact Heap.lt_size (show h.get? a = some _ from x)
  | met f y => exact Heap.lt_size (show h.get? a = some _ from x)
  | ext φ => obtain ⟨_, ⟨_, e⟩, _⟩ := x; exact Heap.lt_size e
theorem Paired.mapP {α β : Type} {F G : α → β → Prop} {l₁ : List α} {l₂ : List β} (h : Paired F l₁ l₂) (f : ∀ a b, F a b → G a b) : Paired G l₁ l₂ := by
  induction h with
  | nil => exact .nil
  | cons r t ih => exact .cons (f _ _ r) ih
theorem ObjOk.stay (x : ObjOk P w H h a o) (k : ∀ b u, (b = a ∨ H b = some (.own a)) → h.get? b = some u → h'.get? b = some u)
    (ho : ∀ b, H b = some (.own a) → H' b = some (.own a)) (ht : ∀ b xs, H b = some (.tup xs) → H' b = some (.tup xs)) : ObjOk P w H' h' a o := by
  induction o with
  | lst xs => (refine εa2 x fun z c'1372 => εx2 c'1372 fun its n c'1373 => εa2 c'1373 fun r e => ?_; (try clear x); clear c'1372 c'1373); exact ⟨z, ιEE its n ⟨r, k _ _ (.inl rfl) e⟩⟩
  | tup xs => (refine εa2 x fun z c'1374 => εx1 c'1374 fun its c'1375 => εa2 c'1375 fun r c'1376 => εx1 c'1376 fun ob c'1377 => εa2 c'1377 fun e c => ?_; (try clear x); clear c'1374 c'1375 c'1376 c'1377); exact ⟨z, ιEAE its r ob ⟨k _ _ (.inl rfl) e, c⟩⟩
  | dK kvs => (refine εa3 x fun z y c'1378 => εx1 c'1378 fun vs c'1379 => εa2 c'1379 fun r c'1380 => εx3 c'1380 fun ob es ep c'1381 => εa2 c'1381 fun e c => ?_; (try clear x); clear c'1378 c'1379 c'1380 c'1381); exact ⟨z, y, ιEAEEE vs r ob es ep ⟨k _ _ (.inl rfl) e, c⟩⟩
  | dT kvs =>
    (refine εa3 x fun z y c'1382 => εx1 c'1382 fun xs c'1383 => εa2 c'1383 fun r c'1384 => εx3 c'1384 fun ob es ep c'1385 => εa2 c'1385 fun e c => ?_; (try clear x); clear c'1382 c'1383 c'1384 c'1385)
    exact ⟨z, y, ιEAEEE xs (Paired.mapP r fun p q z => ⟨z.1, ht _ _ z.2.1, z.2.2⟩) ob es ep ⟨k _ _ (.inl rfl) e, c⟩⟩
  | set S n => (refine εx4 x fun ob es ep t c'1386 => εa2 c'1386 fun e c => ?_; (try clear x); clear c'1386); exact (ιEEEE ob es ep t ⟨k _ _ (.inl rfl) e, c⟩)
  | ins C dx fs =>
    (refine εa5 x fun d z ne e c'1388 => εx1 c'1388 fun mA c'1389 => εa2 c'1389 fun n'1387 r => ?_; (try clear x); clear c'1388 c'1389; obtain ⟨od, es, ep, e2, c⟩ := n'1387)
    exact ⟨ho _ d, z, ne, k _ _ (.inl rfl) e, mA, (ιEEE od es ep ⟨k _ _ (.inr d) e2, c⟩), r⟩
  | own y => obtain ⟨ob, e⟩ := x; exact ⟨ob, k _ _ (.inl rfl) e⟩
  | xd fs => obtain ⟨mA, ⟨od, es, ep, e, c⟩, r⟩ := x; exact ⟨mA, (ιEEE od es ep ⟨k _ _ (.inl rfl) e, c⟩), r⟩
  | rng lo hi => (refine εx3 x fun t u v e => ?_; (try clear x)); exact (ιEEE t u v (k _ _ (.inl rfl) e))
  | frz ob u ih => obtain ⟨e, q⟩ := x; exact ⟨k _ _ (.inl rfl) e, ih q⟩
  | tbl ps =>
    have e : h.get? a = some { cls := .none, data := .fields ps } := x
    show h'.get? a = some { cls := .none, data := .fields ps }
    exact k a _ (.inl rfl) e
  | met f y =>
    have e : h.get? a = some (PySem.W.methodObj (.ref f) (.ref y)) := x
    show h'.get? a = some (PySem.W.methodObj (.ref f) (.ref y))
    exact k a _ (.inl rfl) e
  | ext φ => obtain ⟨p, ⟨o, e⟩, st⟩ := x; exact ⟨st _ _ p fun o q => k _ _ (.inl rfl) q, ⟨o, k _ _ (.inl rfl) e⟩, st⟩
theorem HOk.lt (x : HOk P w H h) (e : H a = some o) : a < h.objs.size := (x a o e).lt
theorem HOk.fresh (x : HOk P w H h) (e : h.objs.size ≤ a) : H a = none := by
  cases q : H a with
  | none => rfl
  | some u => exact absurd (Nat.lt_of_lt_of_le (x.lt q) e) (Nat.lt_irrefl _)
theorem HOk.kept (x : HOk P w H h) (k : ∀ b u, h.get? b = some u → h'.get? b = some u) : HOk P w H h' := fun a o e =>
  (x a o e).stay (fun b u _ q => k b u q) (fun _ q => q) fun _ _ q => q
theorem HOk.laid (x : HOk P w H h) (k : ∀ b u, h.get? b = some u → h'.get? b = some u) (hp : h.objs.size ≤ a) (new : ObjOk P w (upd H a o) h' a o) : HOk P w (upd H a o) h' := fun b u e => by
  have hn := x.fresh hp
  by_cases hb : b = a
  · subst hb; rw [upd_same] at e; cases e; exact new
  · rw [upd_ne hb] at e
    exact (x b u e).stay (fun c v _ q => k c v q) (fun c q => by rw [upd_ne (ne_of_none q hn)]; exact q) fun c xs q => by rw [upd_ne (ne_of_none q hn)]; exact q
end
noncomputable def Rd (H : Hp) (a : Addr) (u : HO) : Prop := H a = some u ∨ ∃ o, H a = some (.frz o u)
theorem Rd.ok {P : Program} {w : World} {H : Hp} {h : Heap} {a : Addr} {u : HO} (r : Rd H a u) (x : HOk P w H h) : ObjOk P w H h a u := by
  rcases r with r | ⟨o, r⟩
  · exact x a u r
  · obtain ⟨_, q⟩ := x a _ r
    exact q
noncomputable def Mut : Option HO → Prop
  | some (.lst _) => True
  | some (.dK _) => True
  | some (.dT _) => True
  | some (.set _ _) => True
  | some (.ins _ _ _) => True
  | some (.ext _) => True
  | _ => False
section
variable {P : Program} {w : World} {H : Hp} {h h' : Heap} {x e : Addr} {o' : HO}
theorem HOk.write (ok : HOk P w H h) (mu : Mut (H x)) (he : e = x ∨ H e = some (.own x)) (k : ∀ b u, b ≠ e → h.get? b = some u → h'.get? b = some u) (heo : ∃ u, h'.get? e = some u)
    (new : ObjOk P w (upd H x o') h' x o') : HOk P w (upd H x o') h' := fun b u q => by
  have nown : ∀ c y, H c = some (.own y) → c ≠ x := fun c y r z => by subst z; rw [r] at mu; exact mu
  have ntup : ∀ c xs, H c = some (.tup xs) → c ≠ x := fun c xs r z => by subst z; rw [r] at mu; exact mu
  by_cases hb : b = x
  · subst hb; rw [upd_same] at q; cases q; exact new
  · rw [upd_ne hb] at q
    by_cases hbe : b = e
    · have q' : H b = some (.own x) := by
        rcases he with z | z
        · exact absurd (hbe.trans z) hb
        · rw [hbe]; exact z
      rw [q] at q'; cases q'
      obtain ⟨v, hv⟩ := heo
      exact ⟨v, by rw [hbe]; exact hv⟩
    · refine (ok b u q).stay (fun c v hc r => k c v ?_ r) (fun c r => by rw [upd_ne (nown c b r)]; exact r) fun c xs r => by rw [upd_ne (ntup c xs r)]; exact r
      rcases hc with rfl | hc
      · exact hbe
      · rintro rfl
        rcases he with z | z
        · exact nown c b hc z
        · rw [hc] at z; cases z; exact hb rfl
end
structure Un (fs ex : List Addr) (H H' : Hp) (h h' : Heap) : Prop where
  keep : ∀ b o, h.get? b = some o → H b = none → b ∉ fs → b ∉ ex → h'.get? b = some o
  slot : ∀ b o, h.get? b = some o → H b = none → b ∈ fs → b ∉ ex → ∃ sl, h'.get? b = some { o with slots := sl }
  free : ∀ b o, h.get? b = some o → H b = none → b ∉ ex → H' b = none
  there : ∀ b o, h.get? b = some o → b ∉ ex → ∃ o', h'.get? b = some o'
  tups : ∀ b xs, H b = some (.tup xs) → H' b = some (.tup xs)
  frzs : ∀ b o u, H b = some (.frz o u) → H' b = some (.frz o u)
  tbls : ∀ b ps, H b = some (.tbl ps) → ∃ more, H' b = some (.tbl (ps ++ more))
section
variable {fs fs' ex ex' : List Addr} {H H1 H2 : Hp} {h h1 h2 h' : Heap} {a x e : Addr} {o : HO}
theorem Un.any (u : Un fs ex H H1 h h1) {b : Addr} {ob : Obj} (q : h.get? b = some ob) (n : H b = none) (hx : b ∉ ex) : ∃ sl, h1.get? b = some { ob with slots := sl } := by
  by_cases hb : b ∈ fs
  · exact u.slot b ob q n hb hx
  · exact ⟨ob.slots, u.keep b ob q n hb hx⟩
theorem Un.kept (k : ∀ b u, h.get? b = some u → h'.get? b = some u) : Un fs ex H H h h' :=
  ⟨fun b ob q _ _ _ => k b ob q, fun b ob q _ _ _ => ⟨ob.slots, k b ob q⟩, fun _ _ _ n _ => n, fun b ob q _ => ⟨ob, k b ob q⟩, fun _ _ q => q, fun _ _ _ q => q, fun _ ps q => ⟨#[], by rw [q]; simp⟩⟩
theorem Un.refl : Un fs ex H H h h := Un.kept fun _ _ q => q
theorem Un.laid (k : ∀ b u, h.get? b = some u → h'.get? b = some u) (hp : h.objs.size ≤ a) (hn : H a = none) : Un fs ex H (upd H a o) h h' where
  keep := fun b u q _ _ _ => k b u q
  slot := fun b u q _ _ _ => ⟨u.slots, k b u q⟩
  free := fun b u q n _ => by rw [upd_ne (Nat.ne_of_lt (Nat.lt_of_lt_of_le (Heap.lt_size q) hp))]; exact n
  there := fun b u q _ => ⟨u, k b u q⟩
  tups := fun b xs q => by rw [upd_ne (ne_of_none q hn)]; exact q
  frzs := fun b u xs q => by rw [upd_ne (ne_of_none q hn)]; exact q
  tbls := fun b ps q => ⟨#[], by rw [upd_ne (ne_of_none q hn), q]; simp⟩
theorem Un.write (mu : Mut (H x)) (he : e = x ∨ H e = some (.own x)) (k : ∀ b u, b ≠ e → h.get? b = some u → h'.get? b = some u) (heo : ∃ u, h'.get? e = some u) : Un fs ex H (upd H x o) h h' := by
  have hx : ∀ b, H b = none → b ≠ x := fun b n z => by subst z; rw [n] at mu; exact mu
  have hb : ∀ b, H b = none → b ≠ e := fun b n z => by
    subst z
    rcases he with r | r
    · exact hx b n r
    · rw [n] at r; cases r
  have hm : ∀ b u, H b = some u → ¬ Mut (some u) → b ≠ x := fun b u q nm z => by subst z; rw [q] at mu; exact nm mu
  refine ⟨fun b u q n _ _ => k b u (hb b n) q, fun b u q n _ _ => ⟨u.slots, k b u (hb b n) q⟩, fun b u q n _ => by rw [upd_ne (hx b n)]; exact n, fun b u q _ => ?_,
    fun b xs q => by rw [upd_ne (hm b _ q fun z => z)]; exact q, fun b u xs q => by rw [upd_ne (hm b _ q fun z => z)]; exact q, fun b ps q => ⟨#[], by rw [upd_ne (hm b _ q fun z => z), q]; simp⟩⟩
  by_cases hbe : b = e
  · subst hbe; exact heo
  · exact ⟨u, k b u hbe q⟩
end
noncomputable def trk (h : Heap) (H : Hp) : List Addr := (List.range h.objs.size).filter fun a => (H a).isSome
noncomputable def hidT (h : Heap) (H : Hp) : Heap := PySem.W.hideAll h (trk h H)
theorem hidT_size (h : Heap) (H : Hp) : (hidT h H).objs.size = h.objs.size := PySem.W.hideAll_size _ _
theorem hidT_get {h : Heap} {H : Hp} {b : Addr} {o : Obj} (e : h.get? b = some o) (n : H b = none) : (hidT h H).get? b = some o :=
  PySem.W.hideAll_get _ e fun hm => by
    have q : (H b).isSome = true := (List.mem_filter.mp hm).2
    rw [n] at q; simp at q
theorem of_hidT {h : Heap} {H : Hp} {b : Addr} {o : Obj} (e : (hidT h H).get? b = some o) : h.get? b = some o ∧ H b = none := by
  have e' : h.get? b = some o := PySem.W.of_hideAll (trk h H) e
  refine ⟨e', ?_⟩
  cases q : H b with
  | none => rfl
  | some x =>
    have hm : b ∈ trk h H := List.mem_filter.mpr ⟨List.mem_range.mpr (Heap.lt_size e'), by simp [q]⟩
    have z : (hidT h H).get? b = none := PySem.W.hideAll_none (trk h H) hm
    rw [z] at e; cases e
noncomputable def allNews (g h : Heap) (L : Addr) : List (Addr × Obj) := (List.range h.objs.size).filterMap fun a => if a = L ∨ (g.get? a).isSome = true then none else (h.get? a).map fun o => (a, o)
noncomputable def rest (g h : Heap) (L d : Addr) : List (Addr × Obj) := (allNews g h L).filter fun p => decide (p.1 ≠ d)
end L2
namespace L2
open PySem PySem.Spec PyProof.Rows
structure Mod (K : PySem.W.Frag) (mg : Str → Option Value) (base : Heap) : Prop where
  kin : K.In base
  glob : base.Ns mainGlobals mg
  blt : ∃ mb, base.Ns builtinsNs mb ∧ ∀ x : Str, x ≠ "__name__" → mb x = bootBuiltins x
  nolimit : base.NoLimit
structure Cx where
  prog : Program
  w : World
  K : PySem.W.Frag
  mg : Str → Option Value
  base : Heap
  A : Around
  N : List Str
  s₀ : Shared
  H₀ : Hp
  env : Env
  outer : List Env
  stack : List Env
  ex : List Addr
  fn : Str → Bool
  calm : Bool
  pn : List (Addr × Obj)
  xe : Value → Shared → Prop
noncomputable def frs (l : List Env) : List Addr := l.filterMap (·.frame)
abbrev Cx.fs (X : Cx) : List Addr := frs X.outer
noncomputable def Vis (sc : Scope) (x : Str) : Prop := sc.names.lookup x = some .local ∨ sc.names.lookup x = some .cell ∨ sc.names.lookup x = some .free
noncomputable def Loc (sc : Scope) (x : Str) : Prop := sc.names.lookup x = some .local ∨ sc.names.lookup x = some .cell
noncomputable def Look (env : Env) (h : Heap) (m : Str → Option Value) (x : Str) (u : Value) : Prop :=
  (env.kindOf x = some .local ∧ m x = some u) ∨ ((env.kindOf x = some .cell ∨ env.kindOf x = some .free) ∧ ∃ c, env.cells.lookup x = some c ∧ h.IsCell c (some u))
structure Cx.Ok (X : Cx) : Prop where
  mod : Mod X.K X.mg X.base
  kind : X.env.scope.kind = .function
  glob : X.env.globals = mainGlobals
  blt : X.env.builtins = builtinsNs
  above : X.s₀.heap.objs.size ≤ X.env.locals
  inj : ∀ x y c, X.env.cells.lookup x = some c → X.env.cells.lookup y = some c → x = y
  has : ∀ x, (X.env.kindOf x = some .cell ∨ X.env.kindOf x = some .free) → ∃ c, X.env.cells.lookup x = some c
  cab : ∀ x c, X.fn x = true → X.env.cells.lookup x = some c → X.s₀.heap.objs.size ≤ c
  hd : X.calm = true → X.A.handled = none
  frames : X.A.frames = some X.stack
  stk : X.stack = X.outer ∨ (X.stack = X.env :: X.outer ∧ X.env.frame = some X.env.locals)
  exf : ∀ b ∈ X.ex, b ≠ X.env.locals ∧ ∀ x c, X.env.cells.lookup x = some c → c ≠ b
  bs : ∀ b o, X.base.get? b = some o → X.s₀.heap.get? b = some o ∧ X.H₀ b = none
  bsz : X.base.objs.size ≤ X.s₀.heap.objs.size
  noex : ∀ b o, X.base.get? b = some o → b ∉ X.ex
  exfs : ∀ b ∈ X.ex, b ∉ X.fs
  funs : X.s₀.heap.FunFrames X.base X.outer
  frf : ∀ b ∈ X.fs, X.H₀ b = none
structure Inv (X : Cx) (pins : List (Addr × Obj)) (σ : List (Option V)) (H : Hp) (s : Shared) : Prop where
  ok : X.Ok
  os : s.os = X.s₀.os
  bare : AllBare s.gens
  base : Un X.fs X.ex X.H₀ H X.s₀.heap s.heap
  loc : ∃ m, s.heap.Ns X.env.locals m ∧ ∀ (i : Nat) (x : Str) (v : V), X.N[i]? = some x → σ[i]? = some (some v) → Vis X.env.scope x → ∃ u, RelV v u ∧ Look X.env s.heap m x u
  cell : ∀ x c, X.env.cells.lookup x = some c → ∃ v, s.heap.IsCell c v
  free : H X.env.locals = none
  freeC : ∀ x c, X.env.cells.lookup x = some c → H c = none
  pin : ∀ p ∈ X.pn ++ pins, s.heap.get? p.1 = some p.2 ∧ H p.1 = none ∧ p.1 ≠ X.env.locals ∧ p.1 ∉ X.fs ∧ ∀ v, p.2.data ≠ .cell v
  hok : HOk X.prog X.w H s.heap
  len : σ.length = X.N.length
section
variable {X : Cx} {pins : List (Addr × Obj)} {σ : List (Option V)} {H H' : Hp} {s : Shared} {h' : Heap}
theorem Cx.Ok.nofr (ok : X.Ok) {b : Addr} {o : Obj} (e : X.base.get? b = some o) : b ∉ X.fs := fun hb => by
  have := (ok.funs.mem hb).1
  rw [e] at this; cases this
theorem Inv.bs (I : Inv X pins σ H s) : ∀ b o, X.base.get? b = some o → s.heap.get? b = some o ∧ H b = none := fun b o e =>
  ⟨I.base.keep b o (I.ok.bs b o e).1 (I.ok.bs b o e).2 (I.ok.nofr e) (I.ok.noex b o e), I.base.free b o (I.ok.bs b o e).1 (I.ok.bs b o e).2 (I.ok.noex b o e)⟩
theorem Inv.bk (I : Inv X pins σ H s) : ∀ b o, X.base.get? b = some o → s.heap.get? b = some o := fun b o e => (I.bs b o e).1
theorem Inv.mod (I : Inv X pins σ H s) : Mod X.K X.mg X.base := I.ok.mod
theorem Inv.kIn (I : Inv X pins σ H s) : X.K.In s.heap := I.ok.mod.kin.keeps I.bk
theorem Inv.lt (I : Inv X pins σ H s) : X.env.locals < s.heap.objs.size := let ⟨_, hn, _⟩ := I.loc; hn.lt
theorem Inv.sz (I : Inv X pins σ H s) : X.s₀.heap.objs.size ≤ s.heap.objs.size := Nat.le_trans I.ok.above (Nat.le_of_lt I.lt)
theorem Inv.nofs (I : Inv X pins σ H s) {a : Addr} (h : s.heap.objs.size ≤ a) : a ∉ X.fs := fun hb => by
  (refine εa2 (I.ok.funs.mem hb) fun _ c'1390 => εx1 c'1390 fun o c'1391 => εa2 c'1391 fun ho _ => ?_; clear c'1390 c'1391)
  exact absurd (Nat.lt_of_lt_of_le (Heap.lt_size ho) (Nat.le_trans I.sz h)) (Nat.lt_irrefl _)
theorem Inv.cne (I : Inv X pins σ H s) : ∀ x c, X.env.cells.lookup x = some c → c ≠ X.env.locals := fun x c e z => by
  (refine εx2 (I.cell x c e) fun v o c'1392 => εa2 c'1392 fun ho hd => ?_; clear c'1392)
  obtain ⟨m, ⟨o', es, ep, ho', hd', _⟩, _⟩ := I.loc
  rw [z, ho'] at ho; cases ho; rw [hd'] at hd; cases hd
theorem Inv.funs (I : Inv X pins σ H s) : s.heap.FunFrames X.base X.outer := by
  have all : ∀ (l : List Env), (∀ b ∈ frs l, b ∈ X.fs) → X.s₀.heap.FunFrames X.base l → s.heap.FunFrames X.base l := by
    intro l
    induction l with
    | nil => intro _ _; trivial
    | cons env r ih =>
      intro hs hl
      obtain ⟨hk, ⟨L, o, hf, hn, ho, hd⟩, hr⟩ := hl
      have hL : L ∈ X.fs := hs L (by unfold frs; rw [List.filterMap_cons, hf]; exact List.mem_cons_self)
      obtain ⟨sl, e⟩ := I.base.slot L o ho (I.ok.frf L hL) hL fun z => I.ok.exfs L z hL
      exact ⟨hk, (ιEE L _ ⟨hf, hn, e, hd⟩), ih (fun b hb => hs b (by unfold frs; rw [List.filterMap_cons, hf]; exact List.mem_cons_of_mem _ hb)) hr⟩
  exact all X.outer (fun _ hb => hb) I.ok.funs
theorem Inv.stack (I : Inv X pins σ H s) : s.heap.FunFrames X.base X.stack := by
  rcases I.ok.stk with e | ⟨e, hf⟩
  · rw [e]; exact I.funs
  · rw [e]
    obtain ⟨m, hn, _⟩ := I.loc
    refine .cons (by rw [I.ok.kind]; decide) hf hn ?_ I.funs
    exact Heap.get?_none_of_le (Nat.le_trans I.ok.bsz I.ok.above)
theorem Inv.stkSub (I : Inv X pins σ H s) : ∀ b ∈ frs X.stack, b ∈ X.env.locals :: X.fs := fun b hb => by
  rcases I.ok.stk with e | ⟨e, hf⟩
  · rw [e] at hb; exact List.mem_cons_of_mem _ hb
  · rw [e] at hb
    unfold frs at hb
    rw [List.filterMap_cons, hf] at hb
    exact hb
theorem Inv.stkFree (I : Inv X pins σ H s) : ∀ b ∈ frs X.stack, H b = none := fun b hb => by
  rcases List.mem_cons.mp (I.stkSub b hb) with e | hb
  · rw [e]; exact I.free
  · (refine εa2 (I.ok.funs.mem hb) fun _ c'1393 => εx1 c'1393 fun o c'1394 => εa2 c'1394 fun ho _ => ?_; clear c'1393 c'1394)
    exact I.base.free b o ho (I.ok.frf b hb) fun z => I.ok.exfs b z hb
theorem Inv.step {g' : Array GenState} {t' : Nat} {d' : Drawn} {ch : List Addr} (I : Inv X pins σ H s)
    (hch : ∀ b ∈ ch, (b ∈ X.ex ∨ X.s₀.heap.objs.size ≤ b) ∧ b ≠ X.env.locals ∧ (∀ x c, X.env.cells.lookup x = some c → c ≠ b) ∧ ∀ p ∈ X.pn ++ pins, p.1 ≠ b)
    (keep : ∀ b o, b ≠ X.env.locals → b ∉ X.fs → b ∉ ch → s.heap.get? b = some o → H b = none → h'.get? b = some o)
    (slot : ∀ b o, b ≠ X.env.locals → b ∈ X.fs → b ∉ ch → s.heap.get? b = some o → H b = none → ∃ sl, h'.get? b = some { o with slots := sl }) (free : ∀ b o, b ∉ ch → s.heap.get? b = some o → H b = none → H' b = none)
    (there : ∀ b o, b ∉ ch → s.heap.get? b = some o → ∃ o', h'.get? b = some o')
    (tups : ∀ b xs, H b = some (.tup xs) → H' b = some (.tup xs)) (frzs : ∀ b o u, H b = some (.frz o u) → H' b = some (.frz o u)) (tbls : ∀ b ps, H b = some (.tbl ps) → ∃ more, H' b = some (.tbl (ps ++ more)))
    (ns : ∀ m, s.heap.Ns X.env.locals m → h'.Ns X.env.locals m) (hok : HOk X.prog X.w H' h') (hg : AllBare g') :
    Inv X pins σ H' { s with heap := h', gens := g', drawn := d', toks := t' } := by
  have neL : ∀ b o, X.s₀.heap.get? b = some o → b ≠ X.env.locals := fun b o e => Nat.ne_of_lt (Nat.lt_of_lt_of_le (Heap.lt_size e) I.ok.above)
  have neC : ∀ b o, X.s₀.heap.get? b = some o → b ∉ X.ex → b ∉ ch := fun b o e hx hb => by
    rcases (hch b hb).1 with z | z
    · exact hx z
    · exact absurd (Nat.lt_of_lt_of_le (Heap.lt_size e) z) (Nat.lt_irrefl _)
  have cellK : ∀ x c, X.env.cells.lookup x = some c → ∀ v, s.heap.IsCell c v → h'.IsCell c v := fun x c e v z'104 => εx1 z'104 fun o m'105 => εa2 m'105 fun ho hd => by
    have nch : c ∉ ch := fun z => (hch c z).2.2.1 x c e rfl
    by_cases hc : c ∈ X.fs
    · obtain ⟨sl, q⟩ := slot c o (I.cne x c e) hc nch ho (I.freeC x c e)
      exact ⟨_, q, hd⟩
    · exact ⟨o, keep c o (I.cne x c e) hc nch ho (I.freeC x c e), hd⟩
  refine ⟨I.ok, I.os, hg, ⟨fun b o e n hb hx => ?_, fun b o e n hb hx => ?_, fun b o e n hx => ?_, fun b o e hx => ?_, fun b xs e => tups b xs (I.base.tups b xs e), fun b o xs e => frzs b o xs (I.base.frzs b o xs e), fun b ps e => ?_⟩, ?_, fun x c e => ?_, ?_, fun x c e => ?_, fun p hp => ?_, hok, I.len⟩
  · exact keep b o (neL b o e) hb (neC b o e hx) (I.base.keep b o e n hb hx) (I.base.free b o e n hx)
  · obtain ⟨sl, e1⟩ := I.base.slot b o e n hb hx
    obtain ⟨sl', e2⟩ := slot b _ (neL b o e) hb (neC b o e hx) e1 (I.base.free b o e n hx)
    exact ⟨sl', e2⟩
  · obtain ⟨o', e1⟩ := I.base.there b o e hx
    exact free b o' (neC b o e hx) e1 (I.base.free b o e n hx)
  · obtain ⟨o', e1⟩ := I.base.there b o e hx
    exact there b o' (neC b o e hx) e1
  · obtain ⟨m1, e1⟩ := I.base.tbls b ps e
    obtain ⟨m2, e2⟩ := tbls b _ e1
    exact ⟨m1 ++ m2, by rw [e2, Array.append_assoc]⟩
  · obtain ⟨m, hn, hl⟩ := I.loc
    refine ⟨m, ns m hn, fun i x v e1 e2 e3 => ?_⟩
    obtain ⟨u, r, l⟩ := hl i x v e1 e2 e3
    refine ⟨u, r, ?_⟩
    rcases l with l | ⟨k, c, e, z⟩
    · exact .inl l
    · exact .inr ⟨k, c, e, cellK x c e _ z⟩
  · obtain ⟨v, z⟩ := I.cell x c e
    exact ⟨v, cellK x c e v z⟩
  · obtain ⟨m, ⟨o, _, _, ho, _⟩, _⟩ := I.loc
    exact free _ o (fun z => (hch _ z).2.1 rfl) ho I.free
  · (refine εx2 (I.cell x c e) fun v o c'1395 => εa2 c'1395 fun ho hd => ?_; clear c'1395)
    exact free c o (fun z => (hch c z).2.2.1 x c e rfl) ho (I.freeC x c e)
  · refine εa5 (I.pin p hp) fun e n ne nf d => ?_
    have nch : p.1 ∉ ch := fun z => (hch p.1 z).2.2.2 p hp rfl
    exact ⟨keep p.1 p.2 ne nf nch e n, free p.1 p.2 nch e n, ne, nf, d⟩
theorem Inv.un {t' : Nat} (I : Inv X pins σ H s) (u : Un X.fs [] H H' s.heap h') (hok : HOk X.prog X.w H' h') : Inv X pins σ H' { s with heap := h', toks := t' } := by
  obtain ⟨m, ⟨o, es, ep, ho, r⟩, _⟩ := id I.loc
  obtain ⟨sl, hL⟩ := u.any ho I.free (by simp)
  exact I.step (g' := s.gens) (d' := s.drawn) (ch := []) (fun _ z => nomatch z) (fun b o _ hb _ e n => u.keep b o e n hb (by simp)) (fun b o _ hb _ e n => u.slot b o e n hb (by simp)) (fun b o _ e n => u.free b o e n (by simp)) (fun b o _ e => u.there b o e (by simp)) u.tups u.frzs u.tbls (fun m' hm => by
    (refine εx3 hm fun o' es' ep' c'1396 => εa2 c'1396 fun ho' r' => ?_; (try clear hm); clear c'1396)
    rw [ho] at ho'; cases ho'
    exact (ιEEE _ es' ep' ⟨hL, r'⟩)) hok I.bare
theorem Inv.call {g' : Array GenState} {t' : Nat} {d' : Drawn} {ch : List Addr} (I : Inv X pins σ H s) (u : Un (frs X.stack) ch H H' s.heap h') (hok : HOk X.prog X.w H' h') (hg : AllBare g')
    (hch : ∀ b ∈ ch, (b ∈ X.ex ∨ X.s₀.heap.objs.size ≤ b) ∧ b ≠ X.env.locals ∧ (∀ x c, X.env.cells.lookup x = some c → c ≠ b) ∧ ∀ p ∈ X.pn ++ pins, p.1 ≠ b) :
    Inv X pins σ H' { s with heap := h', gens := g', drawn := d', toks := t' } := by
  obtain ⟨m, ⟨o, es, ep, ho, r⟩, _⟩ := id I.loc
  obtain ⟨sl, hL⟩ := u.any ho I.free fun z => (hch _ z).2.1 rfl
  exact I.step (ch := ch) hch (fun b o hL hb hc e n => u.keep b o e n (fun z => (List.mem_cons.mp (I.stkSub b z)).elim hL hb) hc) (fun b o _ _ hc e n => u.any e n hc) (fun b o hc e n => u.free b o e n hc) (fun b o hc e => u.there b o e hc) u.tups u.frzs u.tbls (fun m' hm => by
    (refine εx3 hm fun o' es' ep' c'1397 => εa2 c'1397 fun ho' r' => ?_; (try clear hm); clear c'1397)
    rw [ho] at ho'; cases ho'
    exact (ιEEE _ es' ep' ⟨hL, r'⟩)) hok hg
theorem Inv.turned {t' : Nat} {it : Addr} (I : Inv X pins σ H s) (k : ∀ b o, b ≠ it → s.heap.get? b = some o → h'.get? b = some o) (hn : H it = none) (hL : it ≠ X.env.locals)
    (h1 : it ∈ X.ex ∨ X.s₀.heap.objs.size ≤ it) (h2 : ∀ x c, X.env.cells.lookup x = some c → c ≠ it) (h3 : ∀ p ∈ X.pn ++ pins, p.1 ≠ it) : Inv X pins σ H { s with heap := h', toks := t' } := by
  have nit : ∀ b u, H b = some u → b ≠ it := fun b u e z => by rw [z, hn] at e; cases e
  refine I.step (g' := s.gens) (d' := s.drawn) (ch := [it]) (fun b hb => ?_) (fun b o _ _ hc e _ => k b o (fun z => hc (by simp [z])) e) (fun b o _ _ hc e _ => ⟨o.slots, k b o (fun z => hc (by simp [z])) e⟩) (fun _ _ _ _ n => n)
    (fun b o hc e => ⟨o, k b o (fun z => hc (by simp [z])) e⟩) (fun _ _ e => e) (fun _ _ _ e => e) (fun b ps e => ⟨#[], by rw [e]; simp⟩) (fun m hm => ?_) (fun b u e => ?_) I.bare
  · have e : b = it := by simpa using hb
    subst e
    exact ⟨h1, hL, h2, h3⟩
  · (refine εx3 hm fun o es ep c'1398 => εa2 c'1398 fun ho r => ?_; (try clear hm); clear c'1398)
    exact (ιEEE o es ep ⟨k _ o (Ne.symm hL) ho, r⟩)
  · refine (I.hok b u e).stay (fun c v hc q => k c v ?_ q) (fun _ q => q) fun _ _ q => q
    rcases hc with z | z
    · rw [z]; exact nit b u e
    · exact nit c _ z
theorem Inv.tok (I : Inv X pins σ H s) (t : Nat) : Inv X pins σ H { s with toks := t } := I.un (h' := s.heap) (t' := t) Un.refl I.hok
theorem Inv.kept {t' : Nat} (I : Inv X pins σ H s) (k : ∀ b u, s.heap.get? b = some u → h'.get? b = some u) : Inv X pins σ H { s with heap := h', toks := t' } := I.un (Un.kept k) (I.hok.kept k)
theorem Inv.laid {a : Addr} {o : HO} {t' : Nat} (I : Inv X pins σ H s) (k : ∀ b u, s.heap.get? b = some u → h'.get? b = some u) (hp : s.heap.objs.size ≤ a) (new : ObjOk X.prog X.w (upd H a o) h' a o) :
    Inv X pins σ (upd H a o) { s with heap := h', toks := t' } := I.un (Un.laid k hp (I.hok.fresh hp)) (I.hok.laid k hp new)
theorem Inv.write {x e : Addr} {o : HO} {t' : Nat} (I : Inv X pins σ H s) (mu : Mut (H x)) (he : e = x ∨ H e = some (.own x)) (k : ∀ b u, b ≠ e → s.heap.get? b = some u → h'.get? b = some u) (heo : ∃ u, h'.get? e = some u)
    (new : ObjOk X.prog X.w (upd H x o) h' x o) : Inv X pins σ (upd H x o) { s with heap := h', toks := t' } := I.un (Un.write mu he k heo) (I.hok.write mu he k heo new)
theorem Inv.pins_of {pins' : List (Addr × Obj)} (I : Inv X pins σ H s) (h : ∀ p ∈ pins', s.heap.get? p.1 = some p.2 ∧ H p.1 = none ∧ p.1 ≠ X.env.locals ∧ p.1 ∉ X.fs ∧ ∀ v, p.2.data ≠ .cell v) : Inv X pins' σ H s :=
  ⟨I.ok, I.os, I.bare, I.base, I.loc, I.cell, I.free, I.freeC, fun p hp => (List.mem_append.mp hp).elim (fun z => I.pin p (List.mem_append_left _ z)) (h p), I.hok, I.len⟩
theorem nodup_ix {N : List Str} (hN : N.Nodup) {i j : Nat} {x : Str} (a : N[i]? = some x) (b : N[j]? = some x) : i = j := by
  obtain ⟨h1, e1⟩ := List.getElem?_eq_some_iff.mp a
  obtain ⟨h2, e2⟩ := List.getElem?_eq_some_iff.mp b
  exact (List.getElem_inj hN).mp (e1.trans e2.symm)
theorem store_ok2 {M : Model} {A : Around} {E : Value → Shared → Prop} {i : Nat} {x : Str} {v : V} {u : Value} {Q : Unit → Shared → Prop} (I : Inv X pins σ H s) (hN : X.N.Nodup) (hi : X.N[i]? = some x) (hx : Loc X.env.scope x) (r : RelV v u)
    (h : ∀ s', Inv X pins (σ.set i (some v)) H s' → (∃ a, Heap.SameBut a s.heap s'.heap ∧ (a = X.env.locals ∨ X.env.cells.lookup x = some a)) → Q () s') (hf : X.fn x = true ∨ X.env.scope.names.lookup x = some .local) : wpAny M A (storeName X.env x u) Q E s := by
  obtain ⟨m, hn, hl⟩ := id I.loc
  have hcls : (X.env.scope.kind == .class || (X.env.scope.kind == .module && X.env.locals != X.env.globals)) = false := by rw [I.ok.kind]; rfl
  have hiσ : i < σ.length := by rw [I.len]; exact (List.getElem?_eq_some_iff.mp hi).1
  have cne := I.cne
  have tracked : ∀ {a : Addr} {h' : Heap}, (∃ o, s.heap.get? a = some o ∧ H a = none) → Heap.SameBut a s.heap h' → HOk X.prog X.w H h' := fun {a h'} ha hs b ob e => by
    obtain ⟨_, _, hfree⟩ := ha
    refine (I.hok b ob e).stay (fun c w' hc q => (hs.2 c ?_).trans q) (fun _ q => q) fun _ _ q => q
    rintro rfl
    rcases hc with rfl | hc
    · rw [hfree] at e; cases e
    · rw [hfree] at hc; cases hc
  rcases hx with hk | hk
  · refine wpAny_storeName_local hk hn (fun h' hn' hs => ?_) hcls
    (refine εx3 (id hn) fun oL _ _ c'1399 => εa2 c'1399 fun hoL _ => ?_; clear c'1399)
    refine h _ ⟨I.ok, I.os, I.bare, ⟨fun b o e n hb hx => ?_, fun b o e n hb hx => ?_, I.base.free, fun b o e hx => ?_, I.base.tups, I.base.frzs, I.base.tbls⟩, ⟨_, hn', fun j y v' e1 e2 e3 => ?_⟩, fun y c e => ?_, I.free, I.freeC, fun p hp => ?_, tracked ⟨oL, hoL, I.free⟩ hs, by simpa using I.len⟩ ⟨_, hs, .inl rfl⟩
    · exact (hs.2 b (Nat.ne_of_lt (Nat.lt_of_lt_of_le (Heap.lt_size e) I.ok.above))).trans (I.base.keep b o e n hb hx)
    · obtain ⟨sl, e1⟩ := I.base.slot b o e n hb hx
      exact ⟨sl, (hs.2 b (Nat.ne_of_lt (Nat.lt_of_lt_of_le (Heap.lt_size e) I.ok.above))).trans e1⟩
    · obtain ⟨o', e1⟩ := I.base.there b o e hx
      exact ⟨o', (hs.2 b (Nat.ne_of_lt (Nat.lt_of_lt_of_le (Heap.lt_size e) I.ok.above))).trans e1⟩
    · by_cases hj : j = i
      · subst hj
        rw [hi] at e1; cases e1
        rw [List.getElem?_set_self hiσ] at e2
        cases e2
        exact ⟨u, r, .inl ⟨hk, by simp⟩⟩
      · rw [List.getElem?_set_ne (Ne.symm hj)] at e2
        obtain ⟨u', r', q⟩ := hl j y v' e1 e2 e3
        refine ⟨u', r', ?_⟩
        rcases q with ⟨k, e⟩ | ⟨k, c, e, z⟩
        · refine .inl ⟨k, ?_⟩
          have : y ≠ x := fun e => hj (nodup_ix hN e1 (e ▸ hi))
          simp [this, e]
        · exact .inr ⟨k, c, e, z.sameBut hs (cne y c e)⟩
    · obtain ⟨w', z⟩ := I.cell y c e
      exact ⟨w', z.sameBut hs (cne y c e)⟩
    · refine εa5 (I.pin p hp) fun e n ne nf d => ?_
      exact ⟨(hs.2 p.1 ne).trans e, n, ne, nf, d⟩
  · have hfn : X.fn x = true := by
      rcases hf with z | z
      · exact z
      · rw [z] at hk; cases hk
    obtain ⟨c, hc⟩ := I.ok.has x (.inl hk)
    obtain ⟨w', z⟩ := I.cell x c hc
    refine wpAny_storeName_cell I.ok.kind hk hc z (fun h' hc' hs => ?_)
    obtain ⟨oc, hoc, hocd⟩ := id z
    refine h { s with heap := h' } ⟨I.ok, I.os, I.bare, ⟨fun b o e n hb hx => ?_, fun b o e n hb hx => ?_, I.base.free, fun b o e hx => ?_, I.base.tups, I.base.frzs, I.base.tbls⟩, ⟨m, hn.sameBut hs (Ne.symm (cne x c hc)), fun j y v' e1 e2 e3 => ?_⟩, fun y c' e => ?_, I.free, I.freeC, fun p hp => ?_, tracked ⟨oc, hoc, I.freeC x c hc⟩ hs, by simpa using I.len⟩ ⟨c, hs, .inr hc⟩
    · exact (hs.2 b (Nat.ne_of_lt (Nat.lt_of_lt_of_le (Heap.lt_size e) (I.ok.cab x c hfn hc)))).trans (I.base.keep b o e n hb hx)
    · obtain ⟨sl, e1⟩ := I.base.slot b o e n hb hx
      exact ⟨sl, (hs.2 b (Nat.ne_of_lt (Nat.lt_of_lt_of_le (Heap.lt_size e) (I.ok.cab x c hfn hc)))).trans e1⟩
    · obtain ⟨o', e1⟩ := I.base.there b o e hx
      exact ⟨o', (hs.2 b (Nat.ne_of_lt (Nat.lt_of_lt_of_le (Heap.lt_size e) (I.ok.cab x c hfn hc)))).trans e1⟩
    · by_cases hj : j = i
      · subst hj
        rw [hi] at e1; cases e1
        rw [List.getElem?_set_self hiσ] at e2
        cases e2
        exact ⟨u, r, .inr ⟨.inl hk, c, hc, hc'⟩⟩
      · rw [List.getElem?_set_ne (Ne.symm hj)] at e2
        obtain ⟨u', r', q⟩ := hl j y v' e1 e2 e3
        refine ⟨u', r', ?_⟩
        rcases q with q | ⟨k, c', e, z'⟩
        · exact .inl q
        · refine .inr ⟨k, c', e, z'.sameBut hs ?_⟩
          rintro rfl
          exact hj (nodup_ix hN e1 (I.ok.inj _ _ _ e hc ▸ hi))
    · by_cases hcc : c' = c
      · subst hcc; exact ⟨_, hc'⟩
      · obtain ⟨w2, z2⟩ := I.cell y c' e
        exact ⟨w2, z2.sameBut hs hcc⟩
    · refine εa5 (I.pin p hp) fun e n ne nf d => ?_
      refine ⟨(hs.2 p.1 ?_).trans e, n, ne, nf, d⟩
      intro q
      rw [q, hoc] at e
      have q' : oc = p.2 := Option.some.inj e
      exact d w' (by rw [← q']; exact hocd)
theorem store_ok {M : Model} {A : Around} {E : Value → Shared → Prop} {i : Nat} {x : Str} {v : V} {u : Value} {Q : Unit → Shared → Prop} (I : Inv X pins σ H s) (hN : X.N.Nodup) (hi : X.N[i]? = some x) (hx : Loc X.env.scope x) (r : RelV v u)
    (h : ∀ s', Inv X pins (σ.set i (some v)) H s' → Q () s') (hf : X.fn x = true ∨ X.env.scope.names.lookup x = some .local := by array_get_dec) : wpAny M A (storeName X.env x u) Q E s :=
  store_ok2 I hN hi hx r (fun s' I' _ => h s' I') hf
theorem Inv.call' {s' : Shared} {ch : List Addr} (I : Inv X pins σ H s) (ho : s'.os = s.os) (u : Un (frs X.stack) ch H H' s.heap s'.heap) (hok : HOk X.prog X.w H' s'.heap) (hg : AllBare s'.gens)
    (hch : ∀ b ∈ ch, (b ∈ X.ex ∨ X.s₀.heap.objs.size ≤ b) ∧ b ≠ X.env.locals ∧ (∀ x c, X.env.cells.lookup x = some c → c ≠ b) ∧ ∀ p ∈ X.pn ++ pins, p.1 ≠ b) : Inv X pins σ H' s' := by
  obtain ⟨h', g', d', t', o'⟩ := s'
  have e : o' = s.os := ho
  subst e
  exact I.call (g' := g') (t' := t') (d' := d') u hok hg hch
end
abbrev XK := Value → Option Addr → Hp → Prop
abbrev St := List (Option V)
abbrev VK := V → Hp → Prop
abbrev TE := St → Hp → VK → Prop
abbrev TT := St → Hp → (Bool → Hp → Prop) → Prop
abbrev TA := St → Hp → (List V → Hp → Prop) → Prop
structure Ends where
  nx : St → Hp → Prop
  rt : VK
  bk : St → Hp → Prop := fun _ _ => False
  ct : St → Hp → Prop := fun _ _ => False
abbrev TS := Ends → St → Hp → Prop
noncomputable def EP (X : Cx) (pins : List (Addr × Obj)) (σ : St) (Q : VK) (u : Value) (s' : Shared) : Prop := ∃ v H', Inv X pins σ H' s' ∧ RelV v u ∧ Q v H'
noncomputable def TP (X : Cx) (pins : List (Addr × Obj)) (σ : St) (Q : Bool → Hp → Prop) (b : Bool) (s' : Shared) : Prop := ∃ H', Inv X pins σ H' s' ∧ Q b H'
noncomputable def AP (X : Cx) (pins : List (Addr × Obj)) (σ : St) (Q : List V → Hp → Prop) (us : List Value) (s' : Shared) : Prop := ∃ vs H', Inv X pins σ H' s' ∧ Vals vs us ∧ Q vs H'
noncomputable def SP (X : Cx) (pins : List (Addr × Obj)) (D : Ends) (f : Flow) (s' : Shared) : Prop :=
  match f with
  | .next => ∃ σ' H', Inv X pins σ' H' s' ∧ D.nx σ' H'
  | .brk => ∃ σ' H', Inv X pins σ' H' s' ∧ D.bk σ' H'
  | .cont => ∃ σ' H', Inv X pins σ' H' s' ∧ D.ct σ' H'
  | .ret u => ∃ v σ' H', Inv X pins σ' H' s' ∧ RelV v u ∧ D.rt v H'
noncomputable def PE (X : Cx) (e : Expr) (t : TE) : Prop :=
  ∀ (pins : List (Addr × Obj)) (s : Shared) (σ : St) (H : Hp) (Q : VK), Inv X pins σ H s → t σ H Q → wpAny (model X.prog X.w) X.A (eval e X.env) (EP X pins σ Q) X.xe s
noncomputable def PT (X : Cx) (e : Expr) (t : TT) : Prop :=
  ∀ (pins : List (Addr × Obj)) (s : Shared) (σ : St) (H : Hp) (Q : Bool → Hp → Prop), Inv X pins σ H s → t σ H Q → wpAny (model X.prog X.w) X.A (isTrue e X.env (eval e X.env)) (TP X pins σ Q) X.xe s
noncomputable def PW (X : Cx) (e : Expr) (t : TT) : Prop :=
  ∀ (whole : Sem Value) (pins : List (Addr × Obj)) (s : Shared) (σ : St) (H : Hp) (Q : Bool → Hp → Prop), Inv X pins σ H s → t σ H Q → wpAny (model X.prog X.w) X.A (isTrue e X.env whole) (TP X pins σ Q) X.xe s
theorem PW.pt {X : Cx} {e : Expr} {t : TT} (h : PW X e t) : PT X e t := h _
noncomputable def PA (X : Cx) (es : List Expr) (t : TA) : Prop :=
  ∀ (pos : Pos) (pins : List (Addr × Obj)) (s : Shared) (σ : St) (H : Hp) (Q : List V → Hp → Prop), Inv X pins σ H s → t σ H Q → wpAny (model X.prog X.w) X.A (spliced (backTo pos (starEach es X.env))) (AP X pins σ Q) X.xe s
noncomputable def PS (X : Cx) (st : Stmt) (t : TS) : Prop :=
  ∀ (pins : List (Addr × Obj)) (s : Shared) (σ : St) (H : Hp) (D : Ends), Inv X pins σ H s → t D σ H → wpAny (model X.prog X.w) X.A (exec st X.env) (SP X pins D) X.xe s
noncomputable def PSs (X : Cx) (st : List Stmt) (t : TS) : Prop :=
  ∀ (pins : List (Addr × Obj)) (s : Shared) (σ : St) (H : Hp) (D : Ends), Inv X pins σ H s → t D σ H → wpAny (model X.prog X.w) X.A (execs st X.env) (SP X pins D) X.xe s
theorem thn {α : Type} {t : Sem α} {Q Q' : α → Shared → Prop} {M : Model} {A : Around} {E : Value → Shared → Prop} {s : Shared} (h : wpAny M A t Q E s) (hQ : ∀ a s, Q a s → Q' a s) : wpAny M A t Q' E s := wpAny_mono h hQ fun _ _ x => x
end L2
namespace L2
open PySem PySem.Spec PyProof.Rows
section
variable {X : Cx}
noncomputable def tVar (i : Nat) : TE := fun σ H Q => ∃ v, σ[i]? = some (some v) ∧ Q v H
noncomputable def tC (v : V) : TE := fun _ H Q => Q v H
theorem pe_var {i : Nat} {x : Str} {pos : Pos} (hN : X.N[i]? = some x) (hv : Vis X.env.scope x) (hd : (x == ("__debug__" : Str)) = false := by decide) (hcd : (x == ("__classdict__" : Str)) = false := by decide) : PE X (.Name x pos) (tVar i) := by
  intro pins s σ H Q I h
  obtain ⟨v, e, h⟩ := h
  obtain ⟨m, hn, hl⟩ := I.loc
  obtain ⟨u, r, l⟩ := hl i x v hN e hv
  have fin : EP X pins σ Q u s := (ιEE v H ⟨I, r, h⟩)
  rcases l with ⟨hk, hm⟩ | ⟨hk, c, hc, hcell⟩
  · exact wpAny_Name (wpAny_loadName_local I.ok.kind hk hn hm fin) hd
  · rcases hk with hk | hk
    · exact wpAny_Name (wpAny_loadName_cell I.ok.kind hk hc hcell fin) hd
    · exact wpAny_Name (wpAny_loadName_free I.ok.kind hk hc hcell fin hcd) hd
theorem pe_int {i j pos} : PE X (.Constant (.int i) j pos) (tC (.int i)) := fun _ _ _ H _ I h => wpAny_Constant_int (ιEE (.int i) H ⟨I.tok _, ⟨_, rfl⟩, h⟩)
theorem pe_bl {b j pos} : PE X (.Constant (.bool b) j pos) (tC (.bl b)) := fun _ _ _ H _ I h => Constant_bool (ιEE (.bl b) H ⟨I, rfl, h⟩)
theorem pe_non {j pos} : PE X (.Constant .none j pos) (tC .non) := fun _ _ _ H _ I h => Constant_none (ιEE .non H ⟨I, rfl, h⟩)
theorem pe_str {x j pos} : PE X (.Constant (.str x) j pos) (tC (.str x)) := fun _ _ _ H _ I h => Calls.Constant_str (ιEE (.str x) H ⟨I.tok _, ⟨_, rfl⟩, h⟩)
noncomputable def Gl (X : Cx) (x : Str) : Prop := X.env.kindOf x = some .globalImplicit
theorem ld_glob {E : Value → Shared → Prop} {pins : List (Addr × Obj)} {s : Shared} {σ : St} {H : Hp} {x : Str} {u : Value} {pos : Pos} {Q : Value → Shared → Prop} (I : Inv X pins σ H s) (hg : Gl X x) (hm : X.mg x = some u) (h : Q u s)
    (hd : (x == ("__debug__" : Str)) = false := by decide) : wpAny (model X.prog X.w) X.A (eval (.Name x pos) X.env) Q E s :=
  Calls.Name_function_global I.ok.kind hg (Calls.loadGlobal_global (by rw [I.ok.glob]; exact I.mod.glob.keeps I.bk) hm h) hd
theorem ld_blt {E : Value → Shared → Prop} {pins : List (Addr × Obj)} {s : Shared} {σ : St} {H : Hp} {x : Str} {u : Value} {pos : Pos} {Q : Value → Shared → Prop} (I : Inv X pins σ H s) (hg : Gl X x) (hm : X.mg x = none) (hv : bootBuiltins x = some u) (h : Q u s)
    (hn : x ≠ "__name__" := by decide) (hd : (x == ("__debug__" : Str)) = false := by decide) : wpAny (model X.prog X.w) X.A (eval (.Name x pos) X.env) Q E s := by
  obtain ⟨mb, h1, h2⟩ := I.mod.blt
  exact Calls.Name_function_global I.ok.kind hg (Calls.loadGlobal_builtin (by rw [I.ok.glob]; exact I.mod.glob.keeps I.bk) hm (by rw [I.ok.blt]; exact h1.keeps I.bk) ((h2 x hn).trans hv) h) hd
theorem pe_glob {x : Str} {v : V} {u : Value} {pos : Pos} (hg : Gl X x) (hm : X.mg x = some u) (r : RelV v u) (hd : (x == ("__debug__" : Str)) = false := by decide) : PE X (.Name x pos) (tC v) :=
  fun _ _ _ H _ I h => ld_glob I hg hm (ιEE v H ⟨I, r, h⟩) hd
theorem pe_bltn {x : Str} {v : V} {u : Value} {pos : Pos} (hg : Gl X x) (hm : X.mg x = none) (hv : bootBuiltins x = some u) (r : RelV v u) (hn : x ≠ "__name__" := by decide) (hd : (x == ("__debug__" : Str)) = false := by decide) : PE X (.Name x pos) (tC v) :=
  fun _ _ _ H _ I h => ld_blt I hg hm hv (ιEE v H ⟨I, r, h⟩) hn hd
variable {a b : Expr} {ta tb : TE} {pos : Pos}
noncomputable def PC (X : Cx) (op : CmpOp) (a b : Expr) (t : TE) : Prop :=
  ∀ (pins : List (Addr × Obj)) (s : Shared) (σ : St) (H : Hp) (Q : VK), Inv X pins σ H s → t σ H Q →
    wpAny (model X.prog X.w) X.A (eval a X.env) (fun v s₁ => wpAny (model X.prog X.w) X.A (eval b X.env) (fun u s₂ => wpAny (model X.prog X.w) X.A (compareOp op v u) (EP X pins σ Q) X.xe s₂) X.xe s₁) X.xe s
noncomputable def tB (t : TE) : TT := fun σ H Q => t σ H fun x H1 => ∃ c, x = .bl c ∧ Q c H1
theorem pt_cmp {op : CmpOp} {t : TE} (h : PC X op a b t) (h1 : behindInMarks op b = false := by array_mem_dec) : PT X (.Compare a [op] [b] pos) (tB t) := by
  intro pins s σ H Q I hw
  refine wpAny_isTrue_Compare1 (thn (h pins s σ H _ I hw) fun v s1 h1 => thn h1 fun u s2 h2 => thn h2 fun c s3 z'114 => εx2 z'114 fun x H1 m'115 => εa3 m'115 fun I1 r1 q1 => ?_) h1
  obtain ⟨d, rfl, q⟩ := q1
  cases r1
  exact wpAny_truthy_bool ⟨H1, I1, q⟩
theorem pt_val {e : Expr} {t : TE} (h : PE X e t) (he : ∀ whole, isTrue e X.env whole = (do let v ← whole; standAt e.pos; holding [v] (truthy v)) := by intro _; rfl) : PT X e (tB t) := by
  intro pins s σ H Q I hw
  refine isTrue_plain (thn (h pins s σ H _ I hw) fun v s1 z'116 => εx2 z'116 fun x H1 m'117 => εa3 m'117 fun I1 r1 q1 => ?_) (he _)
  obtain ⟨d, rfl, q⟩ := q1
  cases r1
  exact wpAny_truthy_bool ⟨H1, I1, q⟩
variable {tA tB' : TT} {rest : List Expr}
noncomputable def tAnd (t u : TT) : TT := fun σ H Q => t σ H fun c H1 => if c = true then u σ H1 Q else Q false H1
noncomputable def tOr (t u : TT) : TT := fun σ H Q => t σ H fun c H1 => if c = true then Q true H1 else u σ H1 Q
noncomputable def tNot (t : TT) : TT := fun σ H Q => t σ H fun c H1 => Q (!c) H1
theorem pw_and1 (ha : PT X a tA) : PW X (.BoolOp .And [a] pos) tA := by
  intro wh pins s σ H Q I h
  refine isTrue_and (thn (ha pins s σ H Q I h) fun c s1 e => ?_)
  cases c with
  | true => exact isTrue_and_nil e
  | false => exact e
theorem pw_or1 (ha : PT X a tA) : PW X (.BoolOp .Or [a] pos) tA := by
  intro wh pins s σ H Q I h
  refine isTrue_or (thn (ha pins s σ H Q I h) fun c s1 e => ?_)
  cases c with
  | false => exact isTrue_or_nil e
  | true => exact e
theorem pw_and (ha : PT X a tA) (hb : PW X (.BoolOp .And (b :: rest) pos) tB') : PW X (.BoolOp .And (a :: b :: rest) pos) (tAnd tA tB') := by
  intro wh pins s σ H Q I h
  refine isTrue_and (thn (ha pins s σ H _ I h) fun c s1 z'118 => εx1 z'118 fun H1 m'119 => εa2 m'119 fun I1 q1 => ?_)
  cases c with
  | true => exact hb wh pins s1 σ H1 Q I1 q1
  | false => exact ⟨H1, I1, q1⟩
theorem pw_or (ha : PT X a tA) (hb : PW X (.BoolOp .Or (b :: rest) pos) tB') : PW X (.BoolOp .Or (a :: b :: rest) pos) (tOr tA tB') := by
  intro wh pins s σ H Q I h
  refine isTrue_or (thn (ha pins s σ H _ I h) fun c s1 z'120 => εx1 z'120 fun H1 m'121 => εa2 m'121 fun I1 q1 => ?_)
  cases c with
  | true => exact ⟨H1, I1, q1⟩
  | false => exact hb wh pins s1 σ H1 Q I1 q1
theorem pt_not (ha : PT X a tA) : PT X (.UnaryOp .Not a pos) (tNot tA) := by
  intro pins s σ H Q I h
  exact isTrue_not (ha pins s σ H (fun c H1 => Q (!c) H1) I h)
noncomputable def tAndV (ta tb : TE) : TE := fun σ H Q => ta σ H fun x H1 => ∃ c, x = .bl c ∧ if c = true then tb σ H1 Q else Q (.bl false) H1
noncomputable def tOrV (ta tb : TE) : TE := fun σ H Q => ta σ H fun x H1 => ∃ c, x = .bl c ∧ if c = true then Q (.bl true) H1 else tb σ H1 Q
noncomputable def tNotV (ta : TE) : TE := fun σ H Q => ta σ H fun x H1 => ∃ c, x = .bl c ∧ Q (.bl (!c)) H1
theorem pe_one {op} {t : TE} (h : PE X a t) : PE X (.BoolOp op [a] pos) t := fun pins s σ H Q I hw => BoolOp_one (h pins s σ H Q I hw)
theorem pe_and (ha : PE X a ta) (hb : PE X (.BoolOp .And (b :: rest) pos) tb) : PE X (.BoolOp .And (a :: b :: rest) pos) (tAndV ta tb) := by
  intro pins s σ H Q I h
  refine BoolOp_and (thn (ha pins s σ H _ I h) fun v s1 z'122 => εx2 z'122 fun x H1 m'123 => εa3 m'123 fun I1 r1 q1 => ?_)
  obtain ⟨c, rfl, q1⟩ := q1
  cases r1
  refine wpAny_truthy_bool ?_
  cases c with
  | true => exact hb pins s1 σ H1 Q I1 q1
  | false => exact (ιEE (.bl false) H1 ⟨I1, rfl, q1⟩)
theorem pe_or (ha : PE X a ta) (hb : PE X (.BoolOp .Or (b :: rest) pos) tb) : PE X (.BoolOp .Or (a :: b :: rest) pos) (tOrV ta tb) := by
  intro pins s σ H Q I h
  refine BoolOp_or (thn (ha pins s σ H _ I h) fun v s1 z'124 => εx2 z'124 fun x H1 m'125 => εa3 m'125 fun I1 r1 q1 => ?_)
  obtain ⟨c, rfl, q1⟩ := q1
  cases r1
  refine wpAny_truthy_bool ?_
  cases c with
  | false => exact hb pins s1 σ H1 Q I1 q1
  | true => exact (ιEE (.bl true) H1 ⟨I1, rfl, q1⟩)
theorem pe_not (ha : PE X a ta) : PE X (.UnaryOp .Not a pos) (tNotV ta) := by
  intro pins s σ H Q I h
  refine UnaryOp_ (thn (ha pins s σ H _ I h) fun v s1 z'126 => εx2 z'126 fun x H1 m'127 => εa3 m'127 fun I1 r1 q1 => ?_)
  obtain ⟨c, rfl, q1⟩ := q1
  cases r1
  exact not_of (wpAny_truthy_bool (ιEE (.bl (!c)) H1 ⟨I1, rfl, q1⟩))
noncomputable def tIf (t : TT) (ta tb : TE) : TE := fun σ H Q => t σ H fun c H1 => if c = true then ta σ H1 Q else tb σ H1 Q
theorem pe_ifExp {c : Expr} (hc : PT X c tA) (ha : PE X a ta) (hb : PE X b tb) : PE X (.IfExp c a b pos) (tIf tA ta tb) := by
  intro pins s σ H Q I h
  refine wpAny_IfExp (thn (hc pins s σ H _ I h) fun d s1 z'128 => εx1 z'128 fun H1 m'129 => εa2 m'129 fun I1 q1 => ?_)
  cases d with
  | true => exact ha pins s1 σ H1 Q I1 q1
  | false => exact hb pins s1 σ H1 Q I1 q1
end
end L2
namespace L2
open PySem PySem.Spec PyProof.Rows
noncomputable def SqL (K : PySem.W.Frag) (H : Hp) (a : Addr) (xs : List V) : Prop :=
  Rd H a (.lst xs) ∨
    ∃ (o : Obj) (its : Array Value) (n : Nat), K.lookup a = some o ∧ o.cls = .type "list" ∧ o.dict = none ∧ o.data = .seq its n ∧ its.size ≤ sizeLine ∧ Vals xs its.toList
noncomputable def SqT (K : PySem.W.Frag) (H : Hp) (a : Addr) (xs : List V) : Prop :=
  Rd H a (.tup xs) ∨
    ∃ (o : Obj) (its : Array Value) (n : Nat), K.lookup a = some o ∧ o.cls = .type "tuple" ∧ o.data = .seq its n ∧ its.size ≤ sizeLine ∧ Vals xs its.toList
noncomputable def absV : Value → Option V
  | .none => some .non
  | .bool b => some (.bl b)
  | .int i _ => some (.int i)
  | .str x _ => some (.str x)
  | .bytes b _ => some (.byt b)
  | .float b _ => some (.flt b)
  | .ref a => some (.ref a)
  | .type n => some (.ty n)
  | _ => none
theorem RelV.abs {x : V} {u : Value} (r : RelV x u) : absV u = some x := by
  cases x with
  | non => cases r; rfl
  | bl _ => cases r; rfl
  | int _ => obtain ⟨t, rfl⟩ := r; rfl
  | str _ => obtain ⟨t, rfl⟩ := r; rfl
  | byt _ => obtain ⟨t, rfl⟩ := r; rfl
  | flt _ => obtain ⟨t, rfl⟩ := r; rfl
  | ref _ => cases r; rfl
  | ty _ => cases r; rfl
theorem RelV.inj {x y : V} {u : Value} (r : RelV x u) (q : RelV y u) : x = y := Option.some.inj (r.abs.symm.trans q.abs)
theorem Vals.inj {xs ys : List V} {us : List Value} (h : Vals xs us) (k : Vals ys us) : xs = ys := by
  induction h generalizing ys with
  | nil => cases k; rfl
  | cons r t ih => cases k with
    | cons r' t' => rw [r.inj r', ih t']
section
variable {X : Cx} {pins : List (Addr × Obj)} {σ : St} {H : Hp} {s : Shared} {a : Addr} {xs ys : List V}
theorem SqL.of {K : PySem.W.Frag} (h : H a = some (.lst xs)) : SqL K H a xs := .inl (.inl h)
theorem SqT.of {K : PySem.W.Frag} (h : H a = some (.tup xs)) : SqT K H a xs := .inl (.inl h)
theorem Inv.list (I : Inv X pins σ H s) (h : SqL X.K H a xs) : ∃ its : List Value, Vals xs its ∧ PlainL s.heap a its.toArray ∧ xs.length ≤ sizeLine := by
  rcases h with h | ⟨o, its, n, hk, hc, hd, hs, hz, r⟩
  · (refine εa2 (h.ok I.hok) fun z c'1413 => εx2 c'1413 fun its n c'1414 => εa2 c'1414 fun r e => ?_; clear c'1413 c'1414)
    exact ⟨its, r, (ιEE _ n ⟨e, rfl, rfl, rfl⟩), z⟩
  · refine ⟨its.toList, r, (ιEE o n ⟨I.kIn a o hk, hc, hd, by simpa using hs⟩), ?_⟩
    have e := r.length
    simp only [Array.length_toList] at e
    exact ω286 hz e
theorem Inv.tuple (I : Inv X pins σ H s) (h : SqT X.K H a xs) : ∃ its : List Value, Vals xs its ∧ IsTup s.heap a its.toArray ∧ xs.length ≤ sizeLine := by
  rcases h with h | ⟨o, its, n, hk, hc, hs, hz, r⟩
  · (refine εa2 (h.ok I.hok) fun z c'1415 => εx1 c'1415 fun its c'1416 => εa2 c'1416 fun r p => ?_; clear c'1415 c'1416)
    exact ⟨its, r, p, z⟩
  · refine ⟨its.toList, r, (ιEAAE o (I.kIn a o hk) hc n (by simpa using hs)), ?_⟩
    have e := r.length
    simp only [Array.length_toList] at e
    exact ω286 hz e
theorem Inv.list_inj (I : Inv X pins σ H s) (h : SqL X.K H a xs) (h' : SqL X.K H a ys) : xs = ys := by
  (refine εx1 (I.list h) fun its c'1418 => εa3 c'1418 fun r n'1417 _ => ?_; clear c'1418; obtain ⟨o, n, e, _, _, d⟩ := n'1417)
  (refine εx1 (I.list h') fun its' c'1420 => εa3 c'1420 fun r' n'1419 _ => ?_; clear c'1420; obtain ⟨o', n', e', _, _, d'⟩ := n'1419)
  rw [e] at e'; cases e'
  rw [d] at d'
  injection d' with d1 _
  have : its = its' := by simpa using congrArg Array.toList d1
  subst this
  exact r.inj r'
theorem Inv.tuple_inj (I : Inv X pins σ H s) (h : SqT X.K H a xs) (h' : SqT X.K H a ys) : xs = ys := by
  (refine εx1 (I.tuple h) fun its c'1422 => εa3 c'1422 fun r n'1421 _ => ?_; clear c'1422; obtain ⟨o, e, _, n, d⟩ := n'1421)
  (refine εx1 (I.tuple h') fun its' c'1424 => εa3 c'1424 fun r' n'1423 _ => ?_; clear c'1424; obtain ⟨o', e', _, n', d'⟩ := n'1423)
  rw [e] at e'; cases e'
  rw [d] at d'
  injection d' with d1 _
  have : its = its' := by simpa using congrArg Array.toList d1
  subst this
  exact r.inj r'
end
abbrev Cx.wish (X : Cx) (E : Value → Shared → Prop) : Cx := { X with xe := E }
abbrev Cx.nox (X : Cx) : Cx := X.wish fun _ _ => False
theorem Cx.Ok.wish {X : Cx} (ok : X.Ok) (E : Value → Shared → Prop) : (X.wish E).Ok :=
  ⟨ok.mod, ok.kind, ok.glob, ok.blt, ok.above, ok.inj, ok.has, ok.cab, ok.hd, ok.frames, ok.stk, ok.exf, ok.bs, ok.bsz, ok.noex, ok.exfs, ok.funs, ok.frf⟩
theorem Cx.Ok.unwish {X : Cx} {E : Value → Shared → Prop} (ok : (X.wish E).Ok) : X.Ok :=
  ⟨ok.mod, ok.kind, ok.glob, ok.blt, ok.above, ok.inj, ok.has, ok.cab, ok.hd, ok.frames, ok.stk, ok.exf, ok.bs, ok.bsz, ok.noex, ok.exfs, ok.funs, ok.frf⟩
section
variable {X : Cx} {pins : List (Addr × Obj)} {σ : St} {H : Hp} {s : Shared} {E : Value → Shared → Prop}
theorem Inv.wish (I : Inv X pins σ H s) (E : Value → Shared → Prop) : Inv (X.wish E) pins σ H s := ⟨I.ok.wish E, I.os, I.bare, I.base, I.loc, I.cell, I.free, I.freeC, I.pin, I.hok, I.len⟩
theorem Inv.unwish (I : Inv (X.wish E) pins σ H s) : Inv X pins σ H s := ⟨I.ok.unwish, I.os, I.bare, I.base, I.loc, I.cell, I.free, I.freeC, I.pin, I.hok, I.len⟩
theorem SP.unwish {D : Ends} {f : Flow} {s' : Shared} (h : SP (X.wish E) pins D f s') : SP X pins D f s' := by
  cases f with
  | next => (refine εx2 h fun σ' H' c'1425 => εa2 c'1425 fun I q => ?_; (try clear h); clear c'1425); exact (ιEE σ' H' ⟨I.unwish, q⟩)
  | brk => (refine εx2 h fun σ' H' c'1426 => εa2 c'1426 fun I q => ?_; (try clear h); clear c'1426); exact (ιEE σ' H' ⟨I.unwish, q⟩)
  | cont => (refine εx2 h fun σ' H' c'1427 => εa2 c'1427 fun I q => ?_; (try clear h); clear c'1427); exact (ιEE σ' H' ⟨I.unwish, q⟩)
  | ret u => (refine εx3 h fun v σ' H' c'1428 => εa3 c'1428 fun I r q => ?_; (try clear h); clear c'1428); exact (ιEEE v σ' H' ⟨I.unwish, r, q⟩)
theorem PSs.nox {st : List Stmt} {t : TS} (h : PSs X.nox st t) : PSs X st t := fun pins s σ H D I hw =>
  wpAny_mono (h pins s σ H D (I.wish _) hw) (fun _ _ q => q.unwish) fun _ _ z => False.elim z
end
section
variable {X : Cx} {st : Stmt} {rest : List Stmt} {t u : TS} {e : Expr} {te : TE} {pos : Pos}
noncomputable def tNext : TS := fun D σ H => D.nx σ H
noncomputable def tSeq (t u : TS) : TS := fun D σ H => t { D with nx := u D } σ H
theorem pss_nil : PSs X [] tNext := fun _ _ σ H _ I h => wpAny_execs_nil (ιEE σ H ⟨I, h⟩)
theorem pss_cons (h1 : PS X st t) (h2 : PSs X rest u) : PSs X (st :: rest) (tSeq t u) := by
  intro pins s σ H D I h
  refine wpAny_execs_cons (thn (h1 pins s σ H { D with nx := u D } I h) fun f s1 q => ?_)
  cases f with
  | next =>
    (refine εx2 q fun σ' H' c'1429 => ?_; (try clear q); refine εa2 c'1429 fun I' q => ?_; clear c'1429)
    exact h2 pins s1 σ' H' D I' q
  | ret v => exact q
  | brk => exact q
  | cont => exact q
theorem pss_one (h1 : PS X st t) : PSs X [st] t := by
  intro pins s σ H D I h
  refine wpAny_execs_cons (thn (h1 pins s σ H D I h) fun f s1 q => ?_)
  cases f with
  | next => exact wpAny_execs_nil q
  | ret v => exact q
  | brk => exact q
  | cont => exact q
theorem Inv.quiet {pins : List (Addr × Obj)} {σ : St} {H : Hp} {s : Shared} (I : Inv X pins σ H s) : interactive X.env = false := by simp [interactive, I.ok.kind]
noncomputable def tDrop (te : TE) : TS := fun D σ H => te σ H fun _ H1 => D.nx σ H1
theorem ps_expr (he : PE X e te) (hs : swapsWith e none pos.line X.env = pure false := by rfl) : PS X (.Expr e pos) (tDrop te) := by
  intro pins s σ H D I h
  exact wpAny_Expr_any (thn (he pins s σ H _ I h) fun v s1 z'134 => εx2 z'134 fun x H1 m'135 => εa3 m'135 fun I1 r1 q1 => (ιEE σ H1 ⟨I1, q1⟩)) I.quiet hs
noncomputable def tRet (te : TE) : TS := fun D σ H => te σ H D.rt
theorem ps_ret (he : PE X e te) : PS X (.Return (some e) pos) (tRet te) := by
  intro pins s σ H D I h
  exact wpAny_Return_some (thn (he pins s σ H _ I h) fun v s1 z'136 => εx2 z'136 fun x H1 m'137 => εa3 m'137 fun I1 r1 q1 => (ιEEE x σ H1 ⟨I1, r1, q1⟩))
noncomputable def tIfS (c : TT) (t u : TS) : TS := fun D σ H => c σ H fun b H1 => if b = true then t D σ H1 else u D σ H1
theorem ps_if {c : Expr} {a b : List Stmt} {tc : TT} (hc : PT X c tc) (ha : PSs X a t) (hb : PSs X b u) : PS X (.If c a b pos) (tIfS tc t u) := by
  intro pins s σ H D I h
  refine wpAny_If (thn (hc pins s σ H _ I h) fun d s1 z'138 => εx1 z'138 fun H1 m'139 => εa2 m'139 fun I1 q1 => ?_)
  cases d with
  | true => exact ha pins s1 σ H1 D I1 q1
  | false => exact hb pins s1 σ H1 D I1 q1
noncomputable def tNever : TS := fun _ _ _ => False
theorem pss_never {sts : List Stmt} : PSs X sts tNever := fun _ _ _ _ _ _ h => h.elim
end
abbrev TG := V → St → Hp → (St → Hp → Prop) → Prop
abbrev TGs := List V → St → Hp → (St → Hp → Prop) → Prop
noncomputable def PG (X : Cx) (target : Expr) (t : TG) : Prop :=
  ∀ (pins : List (Addr × Obj)) (s : Shared) (σ : St) (H : Hp) (v : V) (u : Value) (Q : St → Hp → Prop), Inv X pins σ H s → RelV v u → t v σ H Q →
    wpAny (model X.prog X.w) X.A (assign target X.env u) (fun _ s' => ∃ σ' H', Inv X pins σ' H' s' ∧ Q σ' H') X.xe s
noncomputable def PGs (X : Cx) (ts : List Expr) (t : TGs) : Prop :=
  ∀ (pins : List (Addr × Obj)) (s : Shared) (σ : St) (H : Hp) (vs : List V) (us : List Value) (Q : St → Hp → Prop), Inv X pins σ H s → Vals vs us → t vs σ H Q →
    wpAny (model X.prog X.w) X.A (assignInOrder ((assignEach ts X.env).map (·.2)) us) (fun _ s' => ∃ σ' H', Inv X pins σ' H' s' ∧ Q σ' H') X.xe s
abbrev TSet := V → V → V → Hp → (Hp → Prop) → Prop
noncomputable def PSet (X : Cx) (t : TSet) : Prop :=
  ∀ (pins : List (Addr × Obj)) (s : Shared) (σ : St) (H : Hp) (o i v : V) (ov iv u : Value) (Q : Hp → Prop), Inv X pins σ H s → RelV o ov → RelV i iv → RelV v u → t o i v H Q →
    wpAny (model X.prog X.w) X.A (setItem ov iv u) (fun _ s' => ∃ H', Inv X pins σ H' s' ∧ Q H') X.xe s
section
variable {X : Cx} {pos : Pos}
noncomputable def gName (i : Nat) : TG := fun v σ H Q => Q (σ.set i (some v)) H
theorem pg_name {i : Nat} {x : Str} (hN : X.N.Nodup) (hi : X.N[i]? = some x) (hx : Loc X.env.scope x) (hf : X.fn x = true ∨ X.env.scope.names.lookup x = some .local := by array_get_dec) : PG X (.Name x pos) (gName i) := by
  intro pins s σ H v u Q I r h
  exact wpAny_assign_Name (store_ok I hN hi hx r (fun s' I' => (ιEE _ H ⟨I', h⟩)) hf)
noncomputable def gNil : TGs := fun vs σ H Q => vs = [] ∧ Q σ H
noncomputable def gCons (t : TG) (u : TGs) : TGs := fun vs σ H Q => ∃ v r, vs = v :: r ∧ t v σ H fun σ' H' => u r σ' H' Q
theorem pgs_nil : PGs X [] gNil := by
  intro pins s σ H vs us Q I r h
  obtain ⟨e, h⟩ := h
  subst e
  cases r
  exact assignInOrder_nil (ιEE σ H ⟨I, h⟩)
theorem pgs_cons {e : Expr} {es : List Expr} {t : TG} {u : TGs} (h1 : PG X e t) (h2 : PGs X es u)
    (hs : (assignEach (e :: es) X.env).map (·.2) = assign e X.env :: (assignEach es X.env).map (·.2) := by rfl) : PGs X (e :: es) (gCons t u) := by
  intro pins s σ H vs us Q I r h
  (refine εx2 h fun v vr c'1430 => ?_; (try clear h); refine εa2 c'1430 fun e1 h => ?_; clear c'1430)
  subst e1
  cases r with
  | cons r rr =>
    rw [hs]
    refine assignInOrder_cons (thn (h1 pins s σ H _ _ _ I r h) fun _ s1 z'140 => εx2 z'140 fun σ1 H1 m'141 => εa2 m'141 fun I1 q1 => ?_)
    exact h2 pins s1 σ1 H1 _ _ Q I1 rr q1
noncomputable def gTup (K : PySem.W.Frag) (n : Nat) (t : TGs) : TG := fun v σ H Q => ∃ a xs, v = .ref a ∧ SqT K H a xs ∧ xs.length = n ∧ t xs σ H Q
theorem pg_tup {es : List Expr} {k : Nat} {t : TGs} {n : Nat} (hc : X.calm = true) (h : PGs X es t)
    (hn : (assignEach es X.env).length = n := by rfl) (hst : (assignEach es X.env).findIdx? (·.1) = none := by rfl) : PG X (.Tuple es k pos) (gTup X.K n t) := by
  intro pins s σ H v u Q I r hw
  (refine εx2 hw fun a xs c'1431 => ?_; (try clear hw); refine εa4 c'1431 fun e1 hq hl hw => ?_; clear c'1431)
  subst e1
  cases r
  (refine εx1 (I.tuple hq) fun its c'1432 => εa3 c'1432 fun rv ht hz => ?_; clear c'1432)
  refine assign_Tuple_tuple (I.ok.hd hc) ht (by simp [hn, ← hl, rv.length]) hst fun h' hx => ?_
  have I1 : Inv X pins σ H { s with heap := h' } := I.kept (t' := s.toks) fun b o e => hx b o (Nat.ne_of_lt (Heap.lt_size e)) e
  exact h pins _ σ H xs _ Q I1 (by simpa using rv) hw
noncomputable def gSub (to ti : TE) (t : TSet) : TG := fun v σ H Q => to σ H fun o H1 => ti σ H1 fun i H2 => t o i v H2 fun H3 => Q σ H3
theorem pg_sub {o i : Expr} {to ti : TE} {t : TSet} (ho : PE X o to) (hi : PE X i ti) (hs : PSet X t)
    (ha : ∀ v, assign (.Subscript o i pos) X.env v = (do
      let ov ← holding [v] (eval o X.env)
      let iv ← holding [v, ov] (eval i X.env)
      standAt pos
      holding [v, ov, iv] (setItem ov iv v)
      release [v, ov, iv] []) := by intro _; rfl) : PG X (.Subscript o i pos) (gSub to ti t) := by
  intro pins s σ H v u Q I r h
  rw [ha]
  refine wpAny_bind (wpAny_holding (thn (ho pins s σ H _ I h) fun ov s1 z'142 => εx2 z'142 fun x H1 m'143 => εa3 m'143 fun I1 r1 q1 => ?_))
  refine wpAny_bind (wpAny_holding (thn (hi pins s1 σ H1 _ I1 q1) fun iv s2 z'144 => εx2 z'144 fun y H2 m'145 => εa3 m'145 fun I2 r2 q2 => ?_))
  refine wpAny_bind (wpAny_standAt (wpAny_bind (wpAny_holding (thn (hs pins s2 σ H2 x y v ov iv u _ I2 r1 r2 r q2) fun _ s3 z'146 => εx1 z'146 fun H3 m'147 => εa2 m'147 fun I3 q3 => ?_))))
  exact wpAny_release (ιEE σ H3 ⟨I3, q3⟩)
noncomputable def tAsg (te : TE) (g : TG) : TS := fun D σ H => te σ H fun x H1 => g x σ H1 D.nx
theorem ps_asg {tg e : Expr} {te : TE} {g : TG} (he : PE X e te) (hg : PG X tg g) (hs : swapsWithSole [tg] e pos.line X.env = pure false := by rfl) (hw : swappedStores [tg] e X.env = pure none := by rfl)
    (h1 : (assignEach [tg] X.env).map (·.2) = [assign tg X.env] := by rfl) : PS X (.Assign [tg] e pos) (tAsg te g) := by
  intro pins s σ H D I h
  refine wpAny_Assign_stores (thn (he pins s σ H _ I h) fun v s1 z'148 => εx2 z'148 fun x H1 m'149 => εa3 m'149 fun I1 r1 q1 => ?_) hs hw
  rw [h1]
  exact thn (hg pins s1 σ H1 x v _ I1 r1 q1) fun _ s2 q => q
theorem ps_set {i : Nat} {x : Str} {e : Expr} {te : TE} {pos' : Pos} (hN : X.N.Nodup) (hi : X.N[i]? = some x) (hx : Loc X.env.scope x) (he : PE X e te) (hs : swapsWith e (some (.Name x pos')) pos.line X.env = pure false := by rfl) (hf : X.fn x = true ∨ X.env.scope.names.lookup x = some .local := by array_get_dec) :
    PS X (.Assign [.Name x pos'] e pos) (tAsg te (gName i)) := by
  intro pins s σ H D I h
  refine wpAny_Assign_Name (thn (he pins s σ H _ I h) fun v s1 z'150 => εx2 z'150 fun y H1 m'151 => εa3 m'151 fun I1 r1 q1 => ?_) hs
  exact store_ok I1 hN hi hx r1 (fun s2 I2 => (ιEE _ H1 ⟨I2, q1⟩)) hf
end
section
variable {X : Cx} {pos : Pos}
noncomputable def tWhile (c : TT) (tb : TS) : TS := fun D σ H => ∃ W : Nat → St → Hp → Prop, (∃ m, W m σ H) ∧ ∀ m σ H, W m σ H →
  c σ H fun b H1 => if b = true then ∃ N : St → Hp → Prop, (∀ σ' H', N σ' H' → ∃ m', m' < m ∧ W m' σ' H') ∧ tb { D with nx := N, ct := N, bk := D.nx } σ H1 else D.nx σ H1
theorem ps_while {c : Expr} {body : List Stmt} {tc : TT} {tb : TS} (hp : PassesOwn (model X.prog X.w) X.A X.env X.xe) (hc : PT X c tc) (hb : PSs X body tb) : PS X (.While c body [] pos) (tWhile tc tb) := by
  intro pins s σ H D I h
  obtain ⟨W, ⟨m0, w0⟩, turn⟩ := h
  refine wpAny_While (codeAny_whileLoop (fun n s' => ∃ σ' H', Inv X pins σ' H' s' ∧ W n σ' H') ?_ m0 (ιEE σ H ⟨I, w0⟩))
  (rintro n s1 h'1436; refine εx2 h'1436 fun σ1 H1 c'1437 => εa2 c'1437 fun I1 w1 => ?_; (try clear h'1436); clear c'1437)
  refine wpAny_passesOwn hp (thn (hc pins s1 σ1 H1 _ I1 (turn n σ1 H1 w1)) fun b s2 z'170 => εx1 z'170 fun H2 m'171 => εa2 m'171 fun I2 q2 => ?_)
  cases b with
  | true =>
    obtain ⟨N, hN, q2⟩ := q2
    rw [if_pos rfl]
    refine wpAny_passesOwn hp (thn (hb pins s2 σ1 H2 _ I2 q2) fun f s3 q3 => ?_)
    cases f with
    | next =>
      (refine εx2 q3 fun σ3 H3 c'1438 => εa2 c'1438 fun I3 n3 => ?_; (try clear q3); clear c'1438)
      obtain ⟨m', hm, w3⟩ := hN σ3 H3 n3
      exact (ιEAEE m' hm σ3 H3 ⟨I3, w3⟩)
    | cont =>
      (refine εx2 q3 fun σ3 H3 c'1439 => εa2 c'1439 fun I3 n3 => ?_; (try clear q3); clear c'1439)
      obtain ⟨m', hm, w3⟩ := hN σ3 H3 n3
      exact (ιEAEE m' hm σ3 H3 ⟨I3, w3⟩)
    | brk => exact q3
    | ret v => exact q3
  | false =>
    rw [if_neg Bool.false_ne_true]
    exact wpAny_execs_nil (ιEE σ1 H2 ⟨I2, q2⟩)
end
structure It where
  go : Nat → Hp → Prop
  yld : Nat → Hp → V → Hp → Prop
  stop : Nat → Hp → Prop
noncomputable def FpOk (X : Cx) (pins : List (Addr × Obj)) (H : Hp) (b : Addr) : Prop :=
  H b = none ∧ b ≠ X.env.locals ∧ b ∉ X.fs ∧ (b ∈ X.ex ∨ X.s₀.heap.objs.size ≤ b) ∧ (∀ x c, X.env.cells.lookup x = some c → c ≠ b) ∧ ∀ p ∈ X.pn ++ pins, p.1 ≠ b
theorem Inv.fpOk {X : Cx} {pins : List (Addr × Obj)} {σ : St} {H H' : Hp} {s : Shared} {b : Addr} (I : Inv X pins σ H s) (hb : s.heap.objs.size ≤ b) (hn : H' b = none) : FpOk X pins H' b := by
  refine ⟨hn, Nat.ne_of_gt (Nat.lt_of_lt_of_le I.lt hb), I.nofs hb, .inr (Nat.le_trans I.sz hb), fun x c e z => ?_, fun p hp z => ?_⟩
  · obtain ⟨v, q⟩ := I.cell x c e
    exact absurd (Nat.lt_of_lt_of_le q.lt (by rw [z]; exact hb)) (Nat.lt_irrefl _)
  · exact absurd (Nat.lt_of_lt_of_le (Heap.lt_size (I.pin p hp).1) (by rw [z]; exact hb)) (Nat.lt_irrefl _)
structure Turn (P : Program) (w : World) (K : PySem.W.Frag) (tg : Expr) (J : It) (fp : List Addr) (it : Addr) (tn : Nat → Heap → Prop) : Prop where
  mem : it ∈ fp
  obj : ∀ i h, tn i h → ∀ b ∈ fp, ∃ o, h.get? b = some o ∧ ∀ v, o.data ≠ .cell v
  keep : ∀ i h h', tn i h → (∀ b ∈ fp, ∀ o, h.get? b = some o → h'.get? b = some o) → tn i h'
  item : ∀ (X : Cx), X.prog = P → X.w = w → X.K = K → X.calm = true → ∀ (i : Nat) (pins : List (Addr × Obj)) (s : Shared) (σ : St) (H : Hp) (E : Value → Shared → Prop), Inv X pins σ H s → (∀ b ∈ fp, FpOk X pins H b) → tn i s.heap → J.go i H →
    wpAny (model P w) X.A (pyNext (.ref it)) (fun r s1 => ∃ u, r = some u ∧
      wpAny (model P w) X.A (letOwnedTupleGo tg (.ref it) u) (fun _ s2 => ∃ x H', Inv X pins σ H' s2 ∧ RelV x u ∧ J.yld i H x H' ∧ tn (i + 1) s2.heap ∧ ∀ b ∈ fp, H' b = none) E s1) E s
  done : ∀ (X : Cx), X.prog = P → X.w = w → X.K = K → X.calm = true → ∀ (i : Nat) (pins : List (Addr × Obj)) (s : Shared) (σ : St) (H : Hp) (E : Value → Shared → Prop), Inv X pins σ H s → (∀ b ∈ fp, FpOk X pins H b) → tn i s.heap → J.stop i H →
    wpAny (model P w) X.A (pyNext (.ref it)) (fun r s1 => r = none ∧ Inv X pins σ H s1) E s
  self : ∀ (A : Around) (i : Nat) (s : Shared) (Q : Value → Shared → Prop) (E : Value → Shared → Prop), tn i s.heap → Q (.ref it) s → wpAny (model P w) A (pyIter (.ref it)) Q E s
abbrev TI := St → Hp → (It → Hp → Prop) → Prop
noncomputable def PIE (X : Cx) (pins : List (Addr × Obj)) (σ : St) (tg : Expr) (R : It → Hp → Prop) (itv : Value) (s2 : Shared) : Prop :=
  ∃ (it : Addr) (fp : List Addr) (tn : Nat → Heap → Prop) (J : It) (H' : Hp), itv = .ref it ∧ Inv X pins σ H' s2 ∧ Turn X.prog X.w X.K tg J fp it tn ∧ tn 0 s2.heap ∧ (∀ b ∈ fp, FpOk X pins H' b) ∧ R J H'
noncomputable def PI (X : Cx) (tg iter : Expr) (wi : TI) : Prop :=
  ∀ (pins : List (Addr × Obj)) (s : Shared) (σ : St) (H : Hp) (R : It → Hp → Prop), Inv X pins σ H s → wi σ H R →
    wpAny (model X.prog X.w) X.A (eval iter X.env) (fun v s1 => wpAny (model X.prog X.w) X.A (pyIter v) (PIE X pins σ tg R) X.xe s1) X.xe s
theorem go_of {M : Model} {A : Around} {E : Value → Shared → Prop} {s : Shared} {tg : Expr} {it : Addr} {u : Value} {o : Obj} {n : String} {vs : Array Value} {Q : Unit → Shared → Prop} (ho : s.heap.get? it = some o) (hc : o.cls = .type n) (hd : o.data = .fields vs)
    (hn : ["enumerate", "zip", "dict_itemiterator", "dict_reverseitemiterator", "odict_iterator", "itertools.zip_longest", "itertools.pairwise"].contains n = false) (hQ : Q () s) : wpAny M A (letOwnedTupleGo tg (.ref it) u) Q E s := by
  unfold letOwnedTupleGo
  cases tg <;> first
    | exact wpAny_pure hQ
    | (cases u <;> first
        | exact wpAny_pure hQ
        | (refine wpAny_bind (wpAny_load ho ?_)
           rw [hc, hd]
           show wpAny M A (if (["enumerate", "zip", "dict_itemiterator", "dict_reverseitemiterator", "odict_iterator", "itertools.zip_longest", "itertools.pairwise"].contains n && vs[0]? == some (rawInt _)) = true then _ else _) Q E s
           rw [if_neg (by intro h; rw [hn, Bool.false_and] at h; cases h)]
           exact wpAny_pure hQ))
noncomputable def Itl (K : PySem.W.Frag) (a : Addr) : It :=
  ⟨fun i H => ∃ xs x, SqL K H a xs ∧ xs[i]? = some x, fun i H x H' => H' = H ∧ ∀ xs, SqL K H a xs → xs[i]? = some x, fun i H => ∃ xs, SqL K H a xs ∧ xs.length ≤ i⟩
noncomputable def Itt (K : PySem.W.Frag) (a : Addr) : It :=
  ⟨fun i H => ∃ xs x, SqT K H a xs ∧ xs[i]? = some x, fun i H x H' => H' = H ∧ ∀ xs, SqT K H a xs → xs[i]? = some x, fun i H => ∃ xs, SqT K H a xs ∧ xs.length ≤ i⟩
noncomputable def Itr (lo : Int) (n : Nat) : It := ⟨fun i _ => i < n, fun i H x H' => H' = H ∧ x = .int (lo + i), fun i _ => n ≤ i⟩
theorem turn_list {P : Program} {w : World} {K : PySem.W.Frag} {tg : Expr} (a it : Addr) : Turn P w K tg (Itl K a) [it] it (fun i h => h.IsListIter it a i) where
  mem := by simp
  obj := fun i h st b hb => by
    have e : b = it := by simpa using hb
    subst e
    (refine εx1 st fun o c'1440 => εa3 c'1440 fun e c d => ?_; (try clear st); clear c'1440)
    exact ⟨o, e, fun v z => by rw [d] at z; cases z⟩
  keep := fun i h h' st k => st.at fun o e => k it (by simp) o e
  item := by
    intro X hP hw hK hc i pins s σ H E I hf st hg
    subst hP hw hK
    (refine εx2 hg fun xs x c'1441 => εa2 c'1441 fun hq hx => ?_; (try clear hg); clear c'1441)
    (refine εx1 (I.list hq) fun its c'1442 => εa3 c'1442 fun rv p hz => ?_; clear c'1442)
    obtain ⟨u, hu, ru⟩ := rv.get hx
    refine εa6 (hf it (by simp)) fun f0 f1 f2 f3 f4 f5 => ?_
    refine wpAny_pyNext_list_item st p.isList (x := u) (by simpa using hu) fun h' st' sb => ?_
    have I1 : Inv X pins σ H { s with heap := h' } := I.turned (t' := s.toks) (fun b o hb e => (sb.2 b hb).trans e) f0 f1 f3 f4 f5
    (refine εx1 (id st') fun o c'1443 => εa3 c'1443 fun e c d => ?_; clear c'1443)
    exact ⟨u, rfl, go_of (s := { s with heap := h' }) e c d (by decide) (ιEE x H ⟨I1, ru, ⟨rfl, fun ys hy => by rw [I.list_inj hy hq]; exact hx⟩, st', fun b hb => (hf b hb).1⟩)⟩
  done := by
    intro X hP hw hK hc i pins s σ H E I hf st hg
    subst hP hw hK
    obtain ⟨xs, hq, hx⟩ := hg
    (refine εx1 (I.list hq) fun its c'1444 => εa3 c'1444 fun rv p hz => ?_; clear c'1444)
    refine εa6 (hf it (by simp)) fun f0 f1 f2 f3 f4 f5 => ?_
    have hl := rv.length
    exact wpAny_pyNext_list_end (I.ok.hd hc) st p.isList (by simp; exact ω9 hx hl) fun h' eb => ⟨rfl, I.turned (t' := s.toks) (fun b o hb e => eb b o hb e) f0 f1 f3 f4 f5⟩
  self := fun _ _ _ _ _ st h => wpAny_pyIter_listiter st h
theorem turn_tuple {P : Program} {w : World} {K : PySem.W.Frag} {tg : Expr} (a it : Addr) : Turn P w K tg (Itt K a) [it] it (fun i h => h.IsTupleIter it a i) where
  mem := by simp
  obj := fun i h st b hb => by
    have e : b = it := by simpa using hb
    subst e
    (refine εx1 st fun o c'1445 => εa3 c'1445 fun e c d => ?_; (try clear st); clear c'1445)
    exact ⟨o, e, fun v z => by rw [d] at z; cases z⟩
  keep := fun i h h' st k => st.at fun o e => k it (by simp) o e
  item := by
    intro X hP hw hK hc i pins s σ H E I hf st hg
    subst hP hw hK
    (refine εx2 hg fun xs x c'1446 => εa2 c'1446 fun hq hx => ?_; (try clear hg); clear c'1446)
    (refine εx1 (I.tuple hq) fun its c'1447 => εa3 c'1447 fun rv p hz => ?_; clear c'1447)
    obtain ⟨u, hu, ru⟩ := rv.get hx
    refine εa6 (hf it (by simp)) fun f0 f1 f2 f3 f4 f5 => ?_
    refine wpAny_pyNext_tuple_item st (show s.heap.IsTuple a its.toArray from p) (x := u) (by simpa using hu) fun h' st' sb => ?_
    have I1 : Inv X pins σ H { s with heap := h' } := I.turned (t' := s.toks) (fun b o hb e => (sb.2 b hb).trans e) f0 f1 f3 f4 f5
    (refine εx1 (id st') fun o c'1448 => εa3 c'1448 fun e c d => ?_; clear c'1448)
    exact ⟨u, rfl, go_of (s := { s with heap := h' }) e c d (by decide) (ιEE x H ⟨I1, ru, ⟨rfl, fun ys hy => by rw [I.tuple_inj hy hq]; exact hx⟩, st', fun b hb => (hf b hb).1⟩)⟩
  done := by
    intro X hP hw hK hc i pins s σ H E I hf st hg
    subst hP hw hK
    obtain ⟨xs, hq, hx⟩ := hg
    (refine εx1 (I.tuple hq) fun its c'1449 => εa3 c'1449 fun rv p hz => ?_; clear c'1449)
    refine εa6 (hf it (by simp)) fun f0 f1 f2 f3 f4 f5 => ?_
    have hl := rv.length
    exact wpAny_pyNext_tuple_end (I.ok.hd hc) st (show s.heap.IsTuple a its.toArray from p) (by simp; exact ω9 hx hl) fun h' eb => ⟨rfl, I.turned (t' := s.toks) (fun b o hb e => eb b o hb e) f0 f1 f3 f4 f5⟩
  self := fun _ _ _ _ _ st h => wpAny_pyIter_tupleiter st h
theorem turn_range {P : Program} {w : World} {K : PySem.W.Frag} {tg : Expr} (it : Addr) (lo : Int) (n : Nat) : Turn P w K tg (Itr lo n) [it] it (fun i h => IsRangeIter h it (lo + (i : Nat) * 1) ((n : Int) - (i : Nat)) 1) where
  mem := by simp
  obj := fun i h st b hb => by
    have e : b = it := by simpa using hb
    subst e
    exact ⟨_, st, fun v z => by
      have z' : Data.fields _ = Data.cell v := z
      cases z'⟩
  keep := fun i h h' st k => k it (by simp) _ st
  item := by
    intro X hP hw hK hc i pins s σ H E I hf st hg
    subst hP hw hK
    refine εa6 (hf it (by simp)) fun f0 f1 f2 f3 f4 f5 => ?_
    have W := Walks.range (prog := X.prog) (w := X.w) (I.ok.hd hc) it lo 1 n
    refine W.item i s _ _ hg st fun v h' tk hv st' kk => ?_
    obtain ⟨t, rfl⟩ := hv
    have I1 : Inv X pins σ H { s with heap := h', toks := tk } := I.turned (fun b o hb e => kk b o (by simpa using hb) e) f0 f1 f3 f4 f5
    refine ⟨_, rfl, go_of (s := { s with heap := h', toks := tk }) (n := "range_iterator") st' rfl rfl (by decide) (ιEE (.int (lo + i)) H ⟨I1, ⟨t, ?_⟩, ⟨rfl, rfl⟩, st', fun b hb => (hf b hb).1⟩)⟩
    rw [Int.mul_one]
  done := by
    intro X hP hw hK hc i pins s σ H E I hf st hg
    subst hP hw hK
    refine εa6 (hf it (by simp)) fun f0 f1 f2 f3 f4 f5 => ?_
    exact wpAny_pyNext_range_end (I.ok.hd hc) st (by have : n ≤ i := hg; exact ω490 this) fun h' eb => ⟨rfl, I.turned (t' := s.toks) (fun b o hb e => eb b o hb e) f0 f1 f3 f4 f5⟩
  self := fun _ _ _ _ _ st h => wpAny_pyIter_rangeiter st h
end L2
namespace L2
open PySem PySem.Spec PyProof.Rows
section
variable {X : Cx} {tg : Expr}
noncomputable def iList (K : PySem.W.Frag) (tl : TE) : TI := fun σ H R => tl σ H fun x H1 => ∃ a, x = .ref a ∧ (∃ xs, SqL K H1 a xs) ∧ R (Itl K a) H1
noncomputable def iTup (K : PySem.W.Frag) (tl : TE) : TI := fun σ H R => tl σ H fun x H1 => ∃ a, x = .ref a ∧ (∃ xs, SqT K H1 a xs) ∧ R (Itt K a) H1
theorem pi_list {l : Expr} {tl : TE} (hl : PE X l tl) : PI X tg l (iList X.K tl) := by
  intro pins s σ H R I h
  refine thn (hl pins s σ H _ I h) fun v s1 z'172 => εx2 z'172 fun x H1 m'173 => εa3 m'173 fun I1 r1 q1 => ?_
  (refine εx1 q1 fun a c'1451 => εa3 c'1451 fun e n'1450 q => ?_; (try clear q1); clear c'1451; obtain ⟨xs, hq⟩ := n'1450)
  subst e
  cases r1
  (refine εx1 (I1.list hq) fun its c'1452 => εa3 c'1452 fun rv p hz => ?_; clear c'1452)
  refine wpAny_pyIter_list p.isList ?_
  refine (ιEEEE s1.heap.objs.size ([s1.heap.objs.size]) _ _ ⟨H1, rfl, I1.kept (t' := s1.toks) fun b o e => Heap.get?_push_of_some _ e, turn_list a _, ⟨_, Heap.get?_push_size _ rfl, rfl, rfl⟩, fun b hb => ?_, q⟩)
  have e : b = s1.heap.objs.size := by simpa using hb
  subst e
  exact I1.fpOk (Nat.le_refl _) (I1.hok.fresh (Nat.le_refl _))
theorem pi_tup {l : Expr} {tl : TE} (hl : PE X l tl) : PI X tg l (iTup X.K tl) := by
  intro pins s σ H R I h
  refine thn (hl pins s σ H _ I h) fun v s1 z'174 => εx2 z'174 fun x H1 m'175 => εa3 m'175 fun I1 r1 q1 => ?_
  (refine εx1 q1 fun a c'1454 => εa3 c'1454 fun e n'1453 q => ?_; (try clear q1); clear c'1454; obtain ⟨xs, hq⟩ := n'1453)
  subst e
  cases r1
  (refine εx1 (I1.tuple hq) fun its c'1455 => εa3 c'1455 fun rv p hz => ?_; clear c'1455)
  refine wpAny_pyIter_tuple (show s1.heap.IsTuple a its.toArray from p) ?_
  refine (ιEEEE s1.heap.objs.size ([s1.heap.objs.size]) _ _ ⟨H1, rfl, I1.kept (t' := s1.toks) fun b o e => Heap.get?_push_of_some _ e, turn_tuple a _, ⟨_, Heap.get?_push_size _ rfl, rfl, rfl⟩, fun b hb => ?_, q⟩)
  have e : b = s1.heap.objs.size := by simpa using hb
  subst e
  exact I1.fpOk (Nat.le_refl _) (I1.hok.fresh (Nat.le_refl _))
theorem range_it {pins : List (Addr × Obj)} {σ : St} {H : Hp} {s : Shared} {R : It → Hp → Prop} {E : Value → Shared → Prop} {lo hi : Int} {t u v : Tok} {tk : Nat} (I : Inv X pins σ H s) (h1 : -(2 ^ 62) ≤ lo) (h2 : lo < 2 ^ 62) (h3 : -(2 ^ 62) ≤ hi) (h4 : hi < 2 ^ 62)
    (q : R (Itr lo (hi - lo).toNat) H) : wpAny (model X.prog X.w) X.A (pyIter (.ref s.heap.objs.size)) (PIE X pins σ tg R) E { s with heap := s.heap.push { cls := .type "range", data := .fields #[.int lo t, .int hi u, .int 1 v] }, toks := tk } := by
  refine wpAny_pyIter_range (IsRange.new ..) (small_one h1 h2 h3 h4) ?_
  have I1 : Inv X pins σ H { s with heap := s.heap.push { cls := .type "range", data := .fields #[.int lo t, .int hi u, .int 1 v] }, toks := tk } := I.kept fun b o e => Heap.get?_push_of_some _ e
  refine (ιEEEE ((s.heap.push { cls := .type "range", data := .fields #[.int lo t, .int hi u, .int 1 v] }).objs.size) ([(s.heap.push { cls := .type "range", data := .fields #[.int lo t, .int hi u, .int 1 v] }).objs.size]) _ _ ⟨H, rfl, I1.kept (t' := tk) fun b o e => Heap.get?_push_of_some _ e, turn_range _ lo (hi - lo).toNat, ?_, fun b hb => ?_, q⟩)
  · have e1 : lo + ((0 : Nat) : Int) * 1 = lo := by simp
    have e2 : (((hi - lo).toNat : Nat) : Int) - ((0 : Nat) : Int) = Builtin.Range.rangeSize lo hi 1 := by rw [rangeSize_one]; split <;> (first | exact ω491 (by assumption) | exact ω492 (by assumption))
    show IsRangeIter _ _ (lo + ((0 : Nat) : Int) * 1) ((((hi - lo).toNat : Nat) : Int) - ((0 : Nat) : Int)) 1
    rw [e1, e2]
    exact Heap.get?_push_size _ rfl
  · have e : b = (s.heap.push { cls := .type "range", data := .fields #[.int lo t, .int hi u, .int 1 v] }).objs.size := by simpa using hb
    subst e
    exact I1.fpOk (Nat.le_refl _) (I1.hok.fresh (Nat.le_refl _))
noncomputable def iRng1 (ta : TA) : TI := fun σ H R => ta σ H fun vs H1 => ∃ j : Int, vs = [.int j] ∧ -(2 ^ 62) ≤ j ∧ j < 2 ^ 62 ∧ R (Itr 0 j.toNat) H1
theorem pi_range1 {a : Expr} {ta : TA} {p pos : Pos} (hg : Gl X "range") (hm : X.mg "range" = none) (ha : PA X [a] ta) (hs : starEach [a] X.env = [(false, eval a X.env)] := by rfl) : PI X tg (.Call (.Name "range" p) [a] [] pos) (iRng1 ta) := by
  intro pins s σ H R I h
  refine Call_ (ld_blt I hg hm boot_range (PyProof.Rows.callWith_type1 (thn (ha pos pins s σ H _ I h) fun us s1 z'176 => εx2 z'176 fun vs H1 m'177 => εa3 m'177 fun I1 r1 q1 => ?_) hs rfl))
  (refine εx1 q1 fun j c'1566 => ?_; (try clear q1); refine εa4 c'1566 fun e q1 q2 q => ?_; clear c'1566)
  subst e
  cases r1 with
  | cons r rr =>
    cases rr
    obtain ⟨t, rfl⟩ := r
    exact call_range_1 (range_it I1 (by exact ω280) (by exact ω496) q1 q2 (by simpa using q))
noncomputable def tFor (wi : TI) (g : TG) (tb : TS) : TS := fun D σ H => wi σ H fun J H1 => ∃ W : Nat → Nat → St → Hp → Prop, (∃ m, W 0 m σ H1) ∧ ∀ i m σ H, W i m σ H →
  (J.stop i H ∧ D.nx σ H) ∨ (J.go i H ∧ ∃ N : St → Hp → Prop, (∀ σ' H', N σ' H' → ∃ m', m' < m ∧ W (i + 1) m' σ' H') ∧ ∀ x H', J.yld i H x H' → g x σ H' fun σ2 H2 => tb { D with nx := N, ct := N, bk := D.nx } σ2 H2)
noncomputable def pinsAt (fp : List Addr) (h : Heap) : List (Addr × Obj) := fp.filterMap fun b => (h.get? b).map fun o => (b, o)
theorem mem_pinsAt {fp : List Addr} {h : Heap} {b : Addr} {o : Obj} (hb : b ∈ fp) (e : h.get? b = some o) : (b, o) ∈ pinsAt fp h := List.mem_filterMap.mpr ⟨b, hb, by rw [e]; rfl⟩
theorem of_pinsAt {fp : List Addr} {h : Heap} {p : Addr × Obj} (hp : p ∈ pinsAt fp h) : p.1 ∈ fp ∧ h.get? p.1 = some p.2 := by
  obtain ⟨b, hb, e⟩ := List.mem_filterMap.mp hp
  cases q : h.get? b with
  | none => rw [q] at e; cases e
  | some o =>
    rw [q] at e
    have e' : (b, o) = p := Option.some.inj e
    subst e'
    exact ⟨hb, q⟩
theorem Inv.pinned {pins : List (Addr × Obj)} {σ : St} {H : Hp} {s : Shared} {fp : List Addr} (I : Inv X pins σ H s) (hf : ∀ b ∈ fp, FpOk X pins H b) (ho : ∀ b ∈ fp, ∃ o, s.heap.get? b = some o ∧ ∀ v, o.data ≠ .cell v) : Inv X (pins ++ pinsAt fp s.heap) σ H s :=
  I.pins_of fun p hp => (List.mem_append.mp hp).elim (fun z => I.pin p (List.mem_append_right _ z)) fun z => by
    obtain ⟨hb, e⟩ := of_pinsAt z
    refine εa4 (hf p.1 hb) fun f0 f1 f2 _ => ?_
    obtain ⟨o, e', d⟩ := ho p.1 hb
    rw [e] at e'; cases e'
    exact ⟨e, f0, f1, f2, d⟩
theorem Inv.unpinned {pins pl : List (Addr × Obj)} {σ : St} {H : Hp} {s : Shared} (I : Inv X (pins ++ pl) σ H s) : Inv X pins σ H s := I.pins_of fun p hp => I.pin p (List.mem_append_right _ (List.mem_append_left _ hp))
theorem ps_for {iter : Expr} {body : List Stmt} {wi : TI} {g : TG} {tb : TS} {pos : Pos} (hp : PassesOwn (model X.prog X.w) X.A X.env X.xe) (hc : X.calm = true) (hi : PI X tg iter wi) (hg : PG X tg g) (hb : PSs X body tb)
    (hs : ∀ x, foldedSetIterable iter X.env x = pure x := by intro _; rfl) : PS X (.For tg iter body [] pos) (tFor wi g tb) := by
  intro pins s σ H D I h
  refine wpAny_For (thn (hi pins s σ H _ I h) fun v s1 h1 => thn h1 fun itv s2 h2 => ?_) hs
  (refine εx5 h2 fun it fp tn J H2 c'1457 => εa6 c'1457 fun e I2 T st2 f2 c'1458 => εx1 c'1458 fun W c'1459 => εa2 c'1459 fun n'1456 turn => ?_; (try clear h2); clear c'1457 c'1458 c'1459; obtain ⟨m0, w0⟩ := n'1456)
  subst e
  have stat : ∀ {H' : Hp}, (∀ b ∈ fp, H' b = none) → ∀ b ∈ fp, FpOk X pins H' b := fun hn b hb => ⟨hn b hb, (f2 b hb).2⟩
  refine codeAny_forLoop_any (fun n s' => ∃ i σ' H', Inv X pins σ' H' s' ∧ tn i s'.heap ∧ (∀ b ∈ fp, H' b = none) ∧ W i n σ' H') ?_ m0 (ιEEE 0 σ H2 ⟨I2, st2, fun b hb => (f2 b hb).1, w0⟩)
  (rintro n s3 h'1460; refine εx3 h'1460 fun i σ3 H3 c'1461 => εa4 c'1461 fun I3 st3 fr3 w3 => ?_; (try clear h'1460); clear c'1461)
  rcases turn i n σ3 H3 w3 with ⟨stop, qn⟩ | ⟨go, N, hN, step⟩
  · refine wpAny_passesOwn hp (thn (T.done X rfl rfl rfl hc i pins s3 σ3 H3 X.xe I3 (stat fr3) st3 stop) fun r s4 ⟨hr, I4⟩ => ?_)
    subst hr
    exact wpAny_execs_nil (ιEE σ3 H3 ⟨I4, qn⟩)
  · refine wpAny_passesOwn hp (thn (T.item X rfl rfl rfl hc i pins s3 σ3 H3 X.xe I3 (stat fr3) st3 go) fun r s4 z'181 => εx1 z'181 fun u m'182 => εa2 m'182 fun hr h4 => ?_)
    subst hr
    refine wpAny_passesOwn hp (thn h4 fun _ s5 z'183 => εx2 z'183 fun x H5 m'184 => εa5 m'184 fun I5 r5 y5 st5 fr5 => ?_)
    have I5' := I5.pinned (stat fr5) (T.obj _ _ st5)
    refine wpAny_passesOwn hp (thn (hg _ s5 σ3 H5 x u _ I5' r5 (step x H5 y5)) fun _ s6 z'185 => εx2 z'185 fun σ6 H6 m'186 => εa2 m'186 fun I6 q6 => ?_)
    refine wpAny_passesOwn hp (thn (hb _ s6 σ6 H6 _ I6 q6) fun f s7 q7 => ?_)
    have again : ∀ {σ7 : St} {H7 : Hp}, Inv X (pins ++ pinsAt fp s5.heap) σ7 H7 s7 → N σ7 H7 → ∃ m, m < n ∧ ∃ i σ' H', Inv X pins σ' H' s7 ∧ tn i s7.heap ∧ (∀ b ∈ fp, H' b = none) ∧ W i m σ' H' := fun {σ7 H7} I7 n7 => by
      obtain ⟨m', hm, w7⟩ := hN σ7 H7 n7
      refine (ιEAEEE m' hm (i + 1) σ7 H7 ⟨I7.unpinned, T.keep _ _ _ st5 fun b hb o e => (I7.pin (b, o) (List.mem_append_right _ (List.mem_append_right _ (mem_pinsAt hb e)))).1, fun b hb => ?_, w7⟩)
      obtain ⟨o, e, d⟩ := T.obj _ _ st5 b hb
      exact (I7.pin (b, o) (List.mem_append_right _ (List.mem_append_right _ (mem_pinsAt hb e)))).2.1
    cases f with
    | next => (refine εx2 q7 fun σ7 H7 c'1462 => εa2 c'1462 fun I7 n7 => ?_; (try clear q7); clear c'1462); exact again I7 n7
    | cont => (refine εx2 q7 fun σ7 H7 c'1463 => εa2 c'1463 fun I7 n7 => ?_; (try clear q7); clear c'1463); exact again I7 n7
    | brk => (refine εx2 q7 fun σ7 H7 c'1464 => ?_; (try clear q7); refine εa2 c'1464 fun I7 q7 => ?_; clear c'1464); exact (ιEE σ7 H7 ⟨I7.unpinned, q7⟩)
    | ret v => (refine εx3 q7 fun x7 σ7 H7 c'1465 => ?_; (try clear q7); refine εa3 c'1465 fun I7 r7 q7 => ?_; clear c'1465); exact (ιEEE x7 σ7 H7 ⟨I7.unpinned, r7, q7⟩)
end
theorem for_list {K : PySem.W.Frag} {a : Addr} {xs : List V} {g : TG} {tb : TS} {D : Ends} {σ : St} {H : Hp} (Pv : Nat → St → Hp → Prop) (h0 : Pv 0 σ H) (hl : ∀ i σ H, i ≤ xs.length → Pv i σ H → SqL K H a xs)
    (hs : ∀ i x σ H, xs[i]? = some x → Pv i σ H → g x σ H fun σ2 H2 => tb { D with nx := Pv (i + 1), ct := Pv (i + 1), bk := D.nx } σ2 H2) (hd : ∀ σ H, Pv xs.length σ H → D.nx σ H) :
    ∃ W : Nat → Nat → St → Hp → Prop, (∃ m, W 0 m σ H) ∧ ∀ i m σ H, W i m σ H →
      ((Itl K a).stop i H ∧ D.nx σ H) ∨ ((Itl K a).go i H ∧ ∃ N : St → Hp → Prop, (∀ σ' H', N σ' H' → ∃ m', m' < m ∧ W (i + 1) m' σ' H') ∧ ∀ x H', (Itl K a).yld i H x H' → g x σ H' fun σ2 H2 => tb { D with nx := N, ct := N, bk := D.nx } σ2 H2) := by
  refine ⟨fun i m σ H => m = xs.length - i ∧ i ≤ xs.length ∧ Pv i σ H, ⟨xs.length, by simp, Nat.zero_le _, h0⟩, ?_⟩
  rintro i m σ H ⟨rfl, hi, p⟩
  have q := hl i σ H hi p
  by_cases hlt : i < xs.length
  · refine .inr ⟨(ιEE xs (xs[i]) ⟨q, by simp [hlt]⟩), Pv (i + 1), fun σ' H' p' => ⟨xs.length - (i + 1), by exact ω49 hlt, rfl, hlt, p'⟩, fun x H' y => ?_⟩
    obtain ⟨e, y⟩ := y
    subst e
    exact hs i x σ _ (y xs q) p
  · have e : i = xs.length := by exact ω50 hi hlt
    subst e
    exact .inl ⟨⟨xs, q, Nat.le_refl _⟩, hd σ H p⟩
theorem for_tup {K : PySem.W.Frag} {a : Addr} {xs : List V} {g : TG} {tb : TS} {D : Ends} {σ : St} {H : Hp} (Pv : Nat → St → Hp → Prop) (h0 : Pv 0 σ H) (hl : ∀ i σ H, i ≤ xs.length → Pv i σ H → SqT K H a xs)
    (hs : ∀ i x σ H, xs[i]? = some x → Pv i σ H → g x σ H fun σ2 H2 => tb { D with nx := Pv (i + 1), ct := Pv (i + 1), bk := D.nx } σ2 H2) (hd : ∀ σ H, Pv xs.length σ H → D.nx σ H) :
    ∃ W : Nat → Nat → St → Hp → Prop, (∃ m, W 0 m σ H) ∧ ∀ i m σ H, W i m σ H →
      ((Itt K a).stop i H ∧ D.nx σ H) ∨ ((Itt K a).go i H ∧ ∃ N : St → Hp → Prop, (∀ σ' H', N σ' H' → ∃ m', m' < m ∧ W (i + 1) m' σ' H') ∧ ∀ x H', (Itt K a).yld i H x H' → g x σ H' fun σ2 H2 => tb { D with nx := N, ct := N, bk := D.nx } σ2 H2) := by
  refine ⟨fun i m σ H => m = xs.length - i ∧ i ≤ xs.length ∧ Pv i σ H, ⟨xs.length, by simp, Nat.zero_le _, h0⟩, ?_⟩
  rintro i m σ H ⟨rfl, hi, p⟩
  have q := hl i σ H hi p
  by_cases hlt : i < xs.length
  · refine .inr ⟨(ιEE xs (xs[i]) ⟨q, by simp [hlt]⟩), Pv (i + 1), fun σ' H' p' => ⟨xs.length - (i + 1), by exact ω49 hlt, rfl, hlt, p'⟩, fun x H' y => ?_⟩
    obtain ⟨e, y⟩ := y
    subst e
    exact hs i x σ _ (y xs q) p
  · have e : i = xs.length := by exact ω50 hi hlt
    subst e
    exact .inl ⟨⟨xs, q, Nat.le_refl _⟩, hd σ H p⟩
theorem for_range {lo : Int} {n : Nat} {g : TG} {tb : TS} {D : Ends} {σ : St} {H : Hp} (Pv : Nat → St → Hp → Prop) (h0 : Pv 0 σ H)
    (hs : ∀ i σ H, i < n → Pv i σ H → g (.int (lo + i)) σ H fun σ2 H2 => tb { D with nx := Pv (i + 1), ct := Pv (i + 1), bk := D.nx } σ2 H2) (hd : ∀ σ H, Pv n σ H → D.nx σ H) :
    ∃ W : Nat → Nat → St → Hp → Prop, (∃ m, W 0 m σ H) ∧ ∀ i m σ H, W i m σ H →
      ((Itr lo n).stop i H ∧ D.nx σ H) ∨ ((Itr lo n).go i H ∧ ∃ N : St → Hp → Prop, (∀ σ' H', N σ' H' → ∃ m', m' < m ∧ W (i + 1) m' σ' H') ∧ ∀ x H', (Itr lo n).yld i H x H' → g x σ H' fun σ2 H2 => tb { D with nx := N, ct := N, bk := D.nx } σ2 H2) := by
  refine ⟨fun i m σ H => m = n - i ∧ i ≤ n ∧ Pv i σ H, ⟨n, by simp, Nat.zero_le _, h0⟩, ?_⟩
  rintro i m σ H ⟨rfl, hi, p⟩
  by_cases hlt : i < n
  · refine .inr ⟨hlt, Pv (i + 1), fun σ' H' p' => ⟨n - (i + 1), by exact ω49 hlt, rfl, hlt, p'⟩, fun x H' y => ?_⟩
    obtain ⟨e, y⟩ := y
    subst e y
    exact hs i σ _ hlt p
  · have e : i = n := by exact ω50 hi hlt
    subst e
    exact .inl ⟨Nat.le_refl _, hd σ H p⟩
end L2
namespace L2
open PySem PySem.Spec PyProof.Rows
abbrev R2 := V → V → Hp → VK → Prop
noncomputable def OpR (X : Cx) (f : Value → Value → Sem Value) (r : R2) : Prop :=
  ∀ (pins : List (Addr × Obj)) (s : Shared) (σ : St) (H : Hp) (x y : V) (v u : Value) (Q : VK), Inv X pins σ H s → RelV x v → RelV y u → r x y H Q →
    wpAny (model X.prog X.w) X.A (f v u) (EP X pins σ Q) X.xe s
noncomputable def UnR (X : Cx) (f : Value → Sem Value) (r : V → Hp → VK → Prop) : Prop :=
  ∀ (pins : List (Addr × Obj)) (s : Shared) (σ : St) (H : Hp) (x : V) (v : Value) (Q : VK), Inv X pins σ H s → RelV x v → r x H Q →
    wpAny (model X.prog X.w) X.A (f v) (EP X pins σ Q) X.xe s
noncomputable def CallR (X : Cx) (f : Value) (r : List V → Hp → VK → Prop) : Prop :=
  ∀ (pins : List (Addr × Obj)) (s : Shared) (σ : St) (H : Hp) (xs : List V) (us : List Value) (Q : VK), Inv X pins σ H s → Vals xs us → r xs H Q →
    wpAny (model X.prog X.w) X.A (call f us) (EP X pins σ Q) X.xe s
noncomputable def tOp (r : R2) (ta tb : TE) : TE := fun σ H Q => ta σ H fun x H1 => tb σ H1 fun y H2 => r x y H2 Q
noncomputable def tUn (r : V → Hp → VK → Prop) (ta : TE) : TE := fun σ H Q => ta σ H fun x H1 => r x H1 Q
noncomputable def rI (C : Int → Int → Prop) (g : Int → Int → V) : R2 := fun x y H Q => ∃ i j, x = .int i ∧ y = .int j ∧ C i j ∧ Q (g i j) H
noncomputable def rI0 (g : Int → Int → V) : R2 := fun x y H Q => ∃ i j, x = .int i ∧ y = .int j ∧ Q (g i j) H
noncomputable def rU (g : Int → V) : V → Hp → VK → Prop := fun x H Q => ∃ i, x = .int i ∧ Q (g i) H
section
variable {X : Cx} {a b c : Expr} {ta tb tc : TE} {pos : Pos}
theorem binT (ha : PE X a ta) (hb : PE X b tb) {pins : List (Addr × Obj)} {s : Shared} {σ : St} {H : Hp} {R : V → V → Hp → Prop} (I : Inv X pins σ H s)
    (h : ta σ H fun x H1 => tb σ H1 fun y H2 => R x y H2) {Q : Value → Shared → Prop} {f : Value → Value → Sem Value}
    (hf : ∀ v u s2 x y H2, Inv X pins σ H2 s2 → RelV x v → RelV y u → R x y H2 → wpAny (model X.prog X.w) X.A (f v u) Q X.xe s2) :
    wpAny (model X.prog X.w) X.A (eval a X.env) (fun v s₁ => wpAny (model X.prog X.w) X.A (eval b X.env) (fun u s₂ => wpAny (model X.prog X.w) X.A (f v u) Q X.xe s₂) X.xe s₁) X.xe s := by
  refine thn (ha pins s σ H _ I h) fun v s1 z'188 => εx2 z'188 fun x H1 m'189 => εa3 m'189 fun I1 r1 q1 => ?_
  refine thn (hb pins s1 σ H1 _ I1 q1) fun u s2 z'190 => εx2 z'190 fun y H2 m'191 => εa3 m'191 fun I2 r2 q2 => ?_
  exact hf v u s2 x y H2 I2 r1 r2 q2
theorem pe_op {op : Operator} {r : R2} (ho : OpR X (binaryOp op) r) (ha : PE X a ta) (hb : PE X b tb) : PE X (.BinOp a op b pos) (tOp r ta tb) := by
  intro pins s σ H Q I h
  exact wpAny_BinOp (binT ha hb I h fun v u s2 x y H2 I2 rx ry q => ho pins s2 σ H2 x y v u Q I2 rx ry q)
theorem pe_un {op : UnaryOp} {r : V → Hp → VK → Prop} (ho : UnR X (unaryOp op) r) (ha : PE X a ta) : PE X (.UnaryOp op a pos) (tUn r ta) := by
  intro pins s σ H Q I h
  exact UnaryOp_ (thn (ha pins s σ H _ I h) fun v s1 z'192 => εx2 z'192 fun x H1 m'193 => εa3 m'193 fun I1 r1 q1 => ho pins s1 σ H1 x v Q I1 r1 q1)
theorem opI {f : Value → Value → Sem Value} {C : Int → Int → Prop} {g : Int → Int → Int}
    (rule : ∀ (i j : Int) (t u : Tok) (s : Shared) (Q : Value → Shared → Prop) (E : Value → Shared → Prop), C i j → Q (.int (g i j) s.toks) { s with toks := s.toks + 1 } → wpAny (model X.prog X.w) X.A (f (.int i t) (.int j u)) Q E s) :
    OpR X f (rI C fun i j => .int (g i j)) := by
  intro pins s σ H x y v u Q I rx ry h
  (refine εx2 h fun i j c'1471 => εa4 c'1471 fun e'1469 e'1470 hc q => ?_; (try clear h); clear c'1471; subst e'1469; subst e'1470)
  obtain ⟨t, rfl⟩ := rx
  obtain ⟨t', rfl⟩ := ry
  exact rule i j t t' s _ _ hc (ιEE (.int (g i j)) H ⟨I.tok _, ⟨_, rfl⟩, q⟩)
theorem opI0 {f : Value → Value → Sem Value} {g : Int → Int → Int}
    (rule : ∀ (i j : Int) (t u : Tok) (s : Shared) (Q : Value → Shared → Prop) (E : Value → Shared → Prop), Q (.int (g i j) s.toks) { s with toks := s.toks + 1 } → wpAny (model X.prog X.w) X.A (f (.int i t) (.int j u)) Q E s) :
    OpR X f (rI0 fun i j => .int (g i j)) := by
  intro pins s σ H x y v u Q I rx ry h
  (refine εx2 h fun i j c'1474 => εa3 c'1474 fun e'1472 e'1473 q => ?_; (try clear h); clear c'1474; subst e'1472; subst e'1473)
  obtain ⟨t, rfl⟩ := rx
  obtain ⟨t', rfl⟩ := ry
  exact rule i j t t' s _ _ (ιEE (.int (g i j)) H ⟨I.tok _, ⟨_, rfl⟩, q⟩)
theorem opB0 {f : Value → Value → Sem Value} {g : Int → Int → Bool}
    (rule : ∀ (i j : Int) (t u : Tok) (s : Shared) (Q : Value → Shared → Prop) (E : Value → Shared → Prop), Q (.bool (g i j)) s → wpAny (model X.prog X.w) X.A (f (.int i t) (.int j u)) Q E s) :
    OpR X f (rI0 fun i j => .bl (g i j)) := by
  intro pins s σ H x y v u Q I rx ry h
  (refine εx2 h fun i j c'1477 => εa3 c'1477 fun e'1475 e'1476 q => ?_; (try clear h); clear c'1477; subst e'1475; subst e'1476)
  obtain ⟨t, rfl⟩ := rx
  obtain ⟨t', rfl⟩ := ry
  exact rule i j t t' s _ _ (ιEE (.bl (g i j)) H ⟨I, rfl, q⟩)
noncomputable def CDiv (i j : Int) : Prop := 0 < j ∧ j < 1073741824
noncomputable def CPow (i j : Int) : Prop := 0 ≤ j ∧ j ≤ 1000000 ∧ i.natAbs < 2 ^ 64
noncomputable def CMul (i j : Int) : Prop := (-(2 ^ 64) < i ∧ i < 2 ^ 64) ∨ (-(2 ^ 64) < j ∧ j < 2 ^ 64)
theorem CMul.ok {i j : Int} (h : CMul i j) : IntMulOk i j := by
  rcases h with ⟨h1, h2⟩ | ⟨h1, h2⟩
  · exact .of_left (intBits_le_64 h1 h2)
  · exact .of_right (intBits_le_64 h1 h2)
theorem op_add : OpR X (binaryOp .Add) (rI0 fun i j => .int (i + j)) := opI0 fun _ _ _ _ _ _ _ q => add_int q
theorem op_sub : OpR X (binaryOp .Sub) (rI0 fun i j => .int (i - j)) := opI0 fun _ _ _ _ _ _ _ q => sub_int q
theorem op_mul : OpR X (binaryOp .Mult) (rI CMul fun i j => .int (i * j)) := opI fun _ _ _ _ _ _ _ hc q => mul_int q hc.ok
theorem op_fdiv : OpR X (binaryOp .FloorDiv) (rI CDiv fun i j => .int (i / j)) := opI fun i j _ _ _ _ _ hc q => by
  have h1 : (0 : Int) < j := hc.1
  have h2 : j < 1073741824 := hc.2
  exact floordiv_int (by exact ω31 h1) (by rw [Int.fdiv_eq_ediv_of_nonneg i (by exact ω38 h1)]; exact q) (.inl (PyProof.noPylong_small (by exact ω174 h1 h2)))
theorem op_mod : OpR X (binaryOp .Mod) (rI (fun _ j => 0 < j) fun i j => .int (i % j)) := opI fun i j _ _ _ _ _ hc q => by
  have h1 : (0 : Int) < j := hc
  exact mod_int' (by exact ω31 h1) (by rw [Int.fmod_eq_emod_of_nonneg i (by exact ω38 h1)]; exact q)
theorem op_pow : OpR X (binaryOp .Pow) (rI CPow fun i j => .int (i ^ j.toNat)) := opI fun _ _ _ _ _ _ _ hc q => pow_int_small hc.1 hc.2.1 hc.2.2 q
theorem unI {f : Value → Sem Value} {g : Int → Int}
    (rule : ∀ (i : Int) (t : Tok) (s : Shared) (Q : Value → Shared → Prop) (E : Value → Shared → Prop), Q (.int (g i) s.toks) { s with toks := s.toks + 1 } → wpAny (model X.prog X.w) X.A (f (.int i t)) Q E s) :
    UnR X f (rU fun i => .int (g i)) := by
  intro pins s σ H x v Q I rx h
  obtain ⟨i, rfl, q⟩ := h
  obtain ⟨t, rfl⟩ := rx
  exact rule i t s _ _ (ιEE (.int (g i)) H ⟨I.tok _, ⟨_, rfl⟩, q⟩)
theorem un_neg : UnR X (unaryOp .USub) (rU fun i => .int (-i)) := unI fun _ _ _ _ _ q => neg_int q
end
noncomputable def scal : V → V → Bool
  | .non, .non => true | .non, .int _ => true | .int _, .non => true | .non, .bl _ => true | .bl _, .non => true | .non, .str _ => true | .str _, .non => true
  | .int _, .int _ => true | .bl _, .bl _ => true | .str _, .str _ => true | .byt _, .byt _ => true
  | .int _, .str _ => true | .str _, .int _ => true | .bl _, .str _ => true | .str _, .bl _ => true
  | _, _ => false
noncomputable def rEq : R2 := fun x y H Q => scal x y = true ∧ Q (.bl (decide (x = y))) H
noncomputable def rNe : R2 := fun x y H Q => scal x y = true ∧ Q (.bl (!decide (x = y))) H
theorem dec_int {i j : Int} : decide (V.int i = V.int j) = (i == j) := by
  rw [Bool.eq_iff_iff]
  simp
theorem dec_bl {i j : Bool} : decide (V.bl i = V.bl j) = (i == j) := by
  rw [Bool.eq_iff_iff]
  simp
theorem dec_str {i j : Str} : decide (V.str i = V.str j) = (i == j) := by
  rw [Bool.eq_iff_iff]
  simp
theorem dec_byt {i j : Array UInt8} : decide (V.byt i = V.byt j) = (i.toList == j.toList) := by
  rw [Bool.eq_iff_iff]
  cases i
  cases j
  simp
section
variable {X : Cx} {a b c : Expr} {ta tb tc : TE} {pos : Pos}
theorem fin_bl {pins : List (Addr × Obj)} {σ : St} {H : Hp} {s : Shared} {Q : VK} {k k' : Bool} (I : Inv X pins σ H s) (q : Q (.bl k) H) (e : k = k') : EP X pins σ Q (.bool k') s := by
  subst e
  exact (ιEE (.bl k) H ⟨I, rfl, q⟩)
theorem op_eq : OpR X (compareOp .Eq) rEq := by
  intro pins s σ H x y v u Q I rx ry h
  obtain ⟨hs, q⟩ := h
  cases x with
  | non =>
    cases rx
    cases y with
    | non => cases ry; exact PySem.EqNone.eq_none_none (fin_bl I q (by simp))
    | bl j => cases ry; exact PySem.EqNone.eq_none_bool (fin_bl I q (by simp))
    | int j => obtain ⟨t', rfl⟩ := ry; exact PySem.EqNone.eq_none_int (fin_bl I q (by simp))
    | str j => obtain ⟨t', rfl⟩ := ry; exact PySem.EqNone.eq_none_str (fin_bl I q (by simp))
    | _ => exact absurd (show false = true from hs) Bool.false_ne_true
  | bl i =>
    cases rx
    cases y with
    | non => cases ry; exact PySem.EqNone.eq_bool_none (fin_bl I q (by simp))
    | bl j => cases ry; exact eq_bool (fin_bl I q dec_bl)
    | str j => obtain ⟨t', rfl⟩ := ry; exact PySem.EqMixed.eq_bool_str (fin_bl I q (by simp))
    | _ => exact absurd (show false = true from hs) Bool.false_ne_true
  | int i =>
    obtain ⟨t, rfl⟩ := rx
    cases y with
    | non => cases ry; exact PySem.EqNone.eq_int_none (fin_bl I q (by simp))
    | int j => obtain ⟨t', rfl⟩ := ry; exact eq_int (fin_bl I q dec_int)
    | str j => obtain ⟨t', rfl⟩ := ry; exact PySem.EqMixed.eq_int_str (fin_bl I q (by simp))
    | _ => exact absurd (show false = true from hs) Bool.false_ne_true
  | str i =>
    obtain ⟨t, rfl⟩ := rx
    cases y with
    | non => cases ry; exact PySem.EqNone.eq_str_none (fin_bl I q (by simp))
    | bl j => cases ry; exact PySem.EqMixed.eq_str_bool (fin_bl I q (by simp))
    | int j => obtain ⟨t', rfl⟩ := ry; exact PySem.EqMixed.eq_str_int (fin_bl I q (by simp))
    | str j => obtain ⟨t', rfl⟩ := ry; exact eq_str (fin_bl I q dec_str)
    | _ => exact absurd (show false = true from hs) Bool.false_ne_true
  | byt i =>
    obtain ⟨t, rfl⟩ := rx
    cases y with
    | byt j => obtain ⟨t', rfl⟩ := ry; exact PySem.W.eq_bytes (fin_bl I q dec_byt)
    | _ => exact absurd (show false = true from hs) Bool.false_ne_true
  | _ => cases y <;> exact absurd (show false = true from hs) Bool.false_ne_true
theorem op_ne : OpR X (compareOp .NotEq) rNe := by
  intro pins s σ H x y v u Q I rx ry h
  obtain ⟨hs, q⟩ := h
  cases x with
  | non =>
    cases rx
    cases y with
    | non => cases ry; exact PySem.EqNone.ne_none_none (fin_bl I q (by simp))
    | bl j => cases ry; exact PySem.EqNone.ne_none_bool (fin_bl I q (by simp))
    | int j => obtain ⟨t', rfl⟩ := ry; exact PySem.EqNone.ne_none_int (fin_bl I q (by simp))
    | str j => obtain ⟨t', rfl⟩ := ry; exact PySem.EqNone.ne_none_str (fin_bl I q (by simp))
    | _ => exact absurd (show false = true from hs) Bool.false_ne_true
  | bl i =>
    cases rx
    cases y with
    | non => cases ry; exact PySem.EqNone.ne_bool_none (fin_bl I q (by simp))
    | bl j => cases ry; exact ne_bool (fin_bl I q (congrArg not dec_bl))
    | str j => obtain ⟨t', rfl⟩ := ry; exact PySem.EqMixed.ne_bool_str (fin_bl I q (by simp))
    | _ => exact absurd (show false = true from hs) Bool.false_ne_true
  | int i =>
    obtain ⟨t, rfl⟩ := rx
    cases y with
    | non => cases ry; exact PySem.EqNone.ne_int_none (fin_bl I q (by simp))
    | int j => obtain ⟨t', rfl⟩ := ry; exact ne_int (fin_bl I q (congrArg not dec_int))
    | str j => obtain ⟨t', rfl⟩ := ry; exact PySem.EqMixed.ne_int_str (fin_bl I q (by simp))
    | _ => exact absurd (show false = true from hs) Bool.false_ne_true
  | str i =>
    obtain ⟨t, rfl⟩ := rx
    cases y with
    | non => cases ry; exact PySem.EqNone.ne_str_none (fin_bl I q (by simp))
    | bl j => cases ry; exact PySem.EqMixed.ne_str_bool (fin_bl I q (by simp))
    | int j => obtain ⟨t', rfl⟩ := ry; exact PySem.EqMixed.ne_str_int (fin_bl I q (by simp))
    | str j => obtain ⟨t', rfl⟩ := ry; exact ne_str (fin_bl I q (congrArg not dec_str))
    | _ => exact absurd (show false = true from hs) Bool.false_ne_true
  | byt i =>
    obtain ⟨t, rfl⟩ := rx
    cases y with
    | byt j => obtain ⟨t', rfl⟩ := ry; exact PySem.W.ne_bytes (fin_bl I q (congrArg not dec_byt))
    | _ => exact absurd (show false = true from hs) Bool.false_ne_true
  | _ => cases y <;> exact absurd (show false = true from hs) Bool.false_ne_true
theorem op_lt : OpR X (compareOp .Lt) (rI0 fun i j => .bl (decide (i < j))) := opB0 fun _ _ _ _ _ _ _ q => lt_int q
theorem op_le : OpR X (compareOp .LtE) (rI0 fun i j => .bl (decide (i ≤ j))) := opB0 fun _ _ _ _ _ _ _ q => le_int q
theorem op_gt : OpR X (compareOp .Gt) (rI0 fun i j => .bl (decide (j < i))) := opB0 fun _ _ _ _ _ _ _ q => gt_int q
theorem nomark (b : Expr) {op : CmpOp} (h : op ≠ .In := by decide) (h2 : op ≠ .NotIn := by decide) : behindInMarks op b = false := by
  have e1 : (op == CmpOp.In) = false := by cases op <;> first | rfl | exact absurd rfl h
  have e2 : (op == CmpOp.NotIn) = false := by cases op <;> first | rfl | exact absurd rfl h2
  cases b <;> simp [behindInMarks, e1, e2]
theorem pe_cmpR {op : CmpOp} {r : R2} (ho : OpR X (compareOp op) r) (ha : PE X a ta) (hb : PE X b tb) (hm : behindInMarks op b = false) : PE X (.Compare a [op] [b] pos) (tOp r ta tb) := by
  intro pins s σ H Q I h
  exact wpAny_Compare1 (binT ha hb I h fun v u s2 x y H2 I2 rx ry q => ho pins s2 σ H2 x y v u Q I2 rx ry q) hm
noncomputable def tTest (t : TE) : TT := fun σ H Q => t σ H fun x H' => ∃ k, x = .bl k ∧ Q k H'
theorem pt_cmpR {op : CmpOp} {r : R2} (ho : OpR X (compareOp op) r) (ha : PE X a ta) (hb : PE X b tb) (hm : behindInMarks op b = false) : PT X (.Compare a [op] [b] pos) (tTest (tOp r ta tb)) := by
  intro pins s σ H Q I h
  refine wpAny_isTrue_Compare1 (thn (ha pins s σ H _ I h) fun v s1 z'194 => εx2 z'194 fun x H1 m'195 => εa3 m'195 fun I1 r1 q1 => thn (hb pins s1 σ H1 _ I1 q1) fun u s2 z'196 => εx2 z'196 fun y H2 m'197 => εa3 m'197 fun I2 r2 q2 =>
    thn (ho pins s2 σ H2 x y v u _ I2 r1 r2 q2) fun c s3 z'198 => εx2 z'198 fun z H3 m'199 => εa3 m'199 fun I3 r3 m'200 => εx1 m'200 fun k m'201 => εa2 m'201 fun e q3 => ?_) hm
  subst e
  cases r3
  exact wpAny_truthy_bool ⟨H3, I3, q3⟩
theorem line63 : (sizeLine : Nat) < 2 ^ 63 := by rw [sizeLine_eq]; decide
theorem vals1 {x : V} {us : List Value} (r : Vals [x] us) : ∃ u, us = [u] ∧ RelV x u := by
  cases r with
  | cons r1 r2 => cases r2; exact ⟨_, rfl, r1⟩
theorem vals2 {x y : V} {us : List Value} (r : Vals [x, y] us) : ∃ u w', us = [u, w'] ∧ RelV x u ∧ RelV y w' := by
  cases r with
  | cons r1 r2 =>
    cases r2 with
    | cons r3 r4 => cases r4; exact (ιEE _ _ ⟨rfl, r1, r3⟩)
theorem call_min2 (hc : X.calm = true) : CallR X (.builtin "min") (fun xs H Q => ∃ i j, xs = [.int i, .int j] ∧ Q (.int (if j < i then j else i)) H) := by
  intro pins s σ H xs us Q I r h
  (refine εx2 h fun i j c'1524 => εa2 c'1524 fun e'1523 q => ?_; (try clear h); clear c'1524; subst e'1523)
  (refine εx2 (vals2 r) fun u w' c'1528 => εa3 c'1528 fun e'1525 n'1526 n'1527 => ?_; clear c'1528; subst e'1525; obtain ⟨t, rfl⟩ := n'1526; obtain ⟨t', rfl⟩ := n'1527)
  refine min_two_ints (I.ok.hd hc) fun h' tk k => (ιEE _ H ⟨I.kept k, ?_, q⟩)
  by_cases hj : j < i
  · rw [if_pos hj, if_pos hj]; exact ⟨_, rfl⟩
  · rw [if_neg hj, if_neg hj]; exact ⟨_, rfl⟩
end
end L2
namespace L2
open PySem PySem.Spec PyProof.Rows
structure ObjM (h : Heap) (x dx C : Addr) (mA : Str → Option Value) : Prop where
  obj : h.get? x = some (PySem.W.instObj C dx)
  ns : h.Ns1 dx mA
  ne : dx ≠ x
theorem lookIn_ns {h : Heap} {dx : Addr} {mA : Str → Option Value} (n : h.Ns1 dx mA) : ∃ od, h.get? dx = some od ∧ ∀ name, PySem.W.lookIn name od = some (mA name) := by
  (refine εx3 n fun o es ep c'1569 => εa5 c'1569 fun ho hd hk _ hm => ?_; (try clear n); clear c'1569)
  refine ⟨o, ho, fun name => ?_⟩
  have e := hm name
  unfold nsFind findBy at e
  rw [← Array.find?_toList] at e
  unfold PySem.W.lookIn
  rw [hd]
  dsimp only
  split
  · rename_i y q
    rw [q] at e
    exact congrArg some e
  · rename_i q
    rw [q] at e
    have a : es.toList.any (·.refKey) = false := by
      rw [List.any_eq_false]
      intro y hy
      obtain ⟨z, t, hkey⟩ := hk y (Array.mem_toList_iff.mp hy)
      simp [DictEntry.refKey, hkey]
    have a' : ¬ es.toList.any (·.refKey) = true := by rw [a]; exact Bool.false_ne_true
    rw [if_neg a']
    exact congrArg some e
theorem ObjM.look {h : Heap} {x dx C : Addr} {mA : Str → Option Value} (I : ObjM h x dx C mA) : ∃ od, PySem.W.InstAt h x (PySem.W.instObj C dx) C (some od) ∧ ∀ name, PySem.W.lookIn name od = some (mA name) :=
  let ⟨od, ho, hl⟩ := lookIn_ns I.ns
  ⟨od, ⟨I.obj, rfl, rfl, ho⟩, hl⟩
section
variable {prog : Program} {w : World} {A : Around} {E : Value → Shared → Prop} {s : Shared} {K : PySem.W.Frag} {x dx C f : Addr} {mA : Str → Option Value} {name : Str} {v : Value}
end
theorem RelO.some_of {v : V} {o : Option Value} (r : RelO (some v) o) : ∃ u, o = some u ∧ RelV v u := by
  cases o with
  | none => exact (show False from r).elim
  | some u => exact ⟨u, rfl, r⟩
section
variable {P : Program} {w : World} {H H' : Hp} {h h' : Heap} {a C dx : Addr} {fs fs' : List (Str × V)}
theorem ins_get (hok : HOk P w H h) (e : H a = some (.ins C dx fs)) : ∃ mA, ObjM h a dx C mA ∧ (∀ f, RelO (fs.lookup f) (mA f)) ∧ PySem.Within mA (fs.map (·.1)) ∧ fs.length ≤ 1000 ∧ H dx = some (.own a) := by
  (refine εa5 (show ObjOk P w H h a (.ins C dx fs) from hok a _ e) fun d z ne ob c'1571 => εx1 c'1571 fun mA c'1572 => εa3 c'1572 fun n r q => ?_; clear c'1571 c'1572)
  exact ⟨mA, ⟨ob, n, ne⟩, r, q, z, d⟩
end
structure Cls (K : PySem.W.Frag) (C : Addr) : Prop where
  pg : PySem.W.plainGet K C Str.empty = true
  hd : PySem.W.hasDictIn K C = true
  po : PySem.W.plainOver K C = true
  sa : PySem.W.findIn K (.ref C) "__setattr__" = some (some (.builtin "object.__setattr__"))
theorem Cls.get {K : PySem.W.Frag} {C : Addr} (c : Cls K C) (f : Str) : PySem.W.plainGet K C f = true := c.pg
section
variable {X : Cx} {pins : List (Addr × Obj)} {σ : St} {H : Hp} {s : Shared} {a C dx : Addr} {fs : List (Str × V)} {f : Str} {v : V} {A : Around} {E : Value → Shared → Prop}
end
section
variable {X : Cx} {o e value : Expr} {f : Str} {pos pos' tpos : Pos} {ta tv : TE}
end
section
variable {X : Cx} {pins : List (Addr × Obj)} {σ : St} {H : Hp} {s : Shared} {A : Around} {E : Value → Shared → Prop} {Q : Value → Shared → Prop} {c : Value} {b : Bool}
inductive TyOf (K : PySem.W.Frag) (H : Hp) : V → Value → Prop where
  | non : TyOf K H .non (.type "NoneType")
  | bl (x : Bool) : TyOf K H (.bl x) (.type "bool")
  | int (i : Int) : TyOf K H (.int i) (.type "int")
  | str (x : Str) : TyOf K H (.str x) (.type "str")
  | flt (x : UInt64) : TyOf K H (.flt x) (.type "float")
  | lst {a : Addr} {xs : List V} (e : H a = some (.lst xs)) : TyOf K H (.ref a) (.type "list")
  | frz {a : Addr} {o : Obj} {xs : List V} (e : H a = some (.frz o (.lst xs))) : TyOf K H (.ref a) (.type "list")
  | tup {a : Addr} {xs : List V} (e : H a = some (.tup xs)) : TyOf K H (.ref a) (.type "tuple")
  | dK {a : Addr} {kvs : List (Key × V)} (e : H a = some (.dK kvs)) : TyOf K H (.ref a) (.type "dict")
  | dT {a : Addr} {kvs : List (List Key × V)} (e : H a = some (.dT kvs)) : TyOf K H (.ref a) (.type "dict")
  | ins {a C dx : Addr} {fs : List (Str × V)} (e : H a = some (.ins C dx fs)) (cl : Cls K C) (ha : PySem.W.findIn K (.ref C) "__class__" = some (some (.builtin "object.__class__")))
      (hn : PySem.W.specialIn K (.builtin "object.__class__") "__get__" = some (some (.builtin "getset_descriptor.__get__"))) (htk : PySem.W.takesIn K (.builtin "object.__class__") = some true)
      (hm : PySem.W.mroIn K C (.type "object") = some true) : TyOf K H (.ref a) (.ref C)
theorem isinst_ok {x : V} {u t : Value} (I : Inv X pins σ H s) (rx : RelV x u) (ty : TyOf X.K H x t) (e : PySem.W.kitOne X.K t c = some b) (h : ∀ tk, Q (.bool b) { s with toks := tk }) :
    wpAny (model X.prog X.w) A (call (.builtin "isinstance") [u, c]) Q E s := by
  cases ty with
  | non => cases (show u = Value.none from rx); exact PySem.W.kia_one PySem.W.kitx_none I.kIn True.intro e (fun z => nomatch z) h
  | bl y => cases (show u = Value.bool y from rx); exact PySem.W.kia_one PySem.W.kitx_bool I.kIn True.intro e (fun z => nomatch z) h
  | int i => obtain ⟨t, q⟩ := (show ∃ t, u = Value.int i t from rx); cases q; exact PySem.W.kia_one PySem.W.kitx_int I.kIn True.intro e (fun z => nomatch z) h
  | str y => obtain ⟨t, q⟩ := (show ∃ t, u = Value.str y t from rx); cases q; exact PySem.W.kia_one PySem.W.kitx_str I.kIn True.intro e (fun z => nomatch z) h
  | flt y => obtain ⟨t, q⟩ := (show ∃ t, u = Value.float y t from rx); cases q; exact PySem.W.kia_one PySem.W.kitx_float I.kIn True.intro e (fun z => nomatch z) h
  | @lst a xs ea =>
    cases (show u = Value.ref a from rx)
    (refine εa2 (show ObjOk X.prog X.w H s.heap a (.lst xs) from I.hok a _ ea) fun _ c'1585 => εx2 c'1585 fun _ n c'1586 => εa2 c'1586 fun _ h1 => ?_; clear c'1585 c'1586)
    exact PySem.W.kia_one PySem.W.kitx_list I.kIn ⟨_, h1, rfl⟩ e (fun z => nomatch z) h
  | @frz a ob xs ea =>
    cases (show u = Value.ref a from rx)
    (refine εa3 (show ObjOk X.prog X.w H s.heap a (.frz ob (.lst xs)) from I.hok a _ ea) fun _ _ c'1587 => εx2 c'1587 fun _ n c'1588 => εa2 c'1588 fun _ h1 => ?_; clear c'1587 c'1588)
    exact PySem.W.kia_one PySem.W.kitx_list I.kIn ⟨_, h1, rfl⟩ e (fun z => nomatch z) h
  | @tup a xs ea =>
    cases (show u = Value.ref a from rx)
    (refine εa2 (show ObjOk X.prog X.w H s.heap a (.tup xs) from I.hok a _ ea) fun _ c'1589 => εx1 c'1589 fun _ c'1590 => εa2 c'1590 fun _ p => ?_; clear c'1589 c'1590)
    (refine εx1 p fun o c'1591 => εa3 c'1591 fun h1 h2 _ => ?_; (try clear p); clear c'1591)
    exact PySem.W.kia_one PySem.W.kitx_tuple I.kIn ⟨o, h1, h2⟩ e (fun z => nomatch z) h
  | @dK a kvs ea =>
    cases (show u = Value.ref a from rx)
    (refine εa3 (show ObjOk X.prog X.w H s.heap a (.dK kvs) from I.hok a _ ea) fun _ _ c'1592 => εx1 c'1592 fun vs c'1593 => εa2 c'1593 fun _ p => ?_; clear c'1592 c'1593)
    (refine εx3 p fun o es ep c'1594 => εa3 c'1594 fun h1 h2 _ => ?_; (try clear p); clear c'1594)
    exact PySem.W.kia_one PySem.W.kitx_dict I.kIn ⟨o, h1, h2.1⟩ e (fun z => nomatch z) h
  | @dT a kvs ea =>
    cases (show u = Value.ref a from rx)
    (refine εa3 (show ObjOk X.prog X.w H s.heap a (.dT kvs) from I.hok a _ ea) fun _ _ c'1595 => εx1 c'1595 fun xs c'1596 => εa2 c'1596 fun _ c'1597 => εx3 c'1597 fun o es ep c'1598 => εa3 c'1598 fun h1 h2 _ => ?_; clear c'1595 c'1596 c'1597 c'1598)
    exact PySem.W.kia_one PySem.W.kitx_dict I.kIn ⟨o, h1, h2.1⟩ e (fun z => nomatch z) h
  | @ins a C dx fs ea cl ha hn htk hm =>
    cases (show u = Value.ref a from rx)
    obtain ⟨mA, O, _⟩ := ins_get I.hok ea
    obtain ⟨od, J, _⟩ := O.look
    exact PySem.W.kia_one (PySem.W.kitx_own (cl.get _) cl.hd ha hn htk hm) I.kIn J e (fun z => nomatch z) h
end
end L2
namespace L2
open PySem PySem.Spec PyProof.Rows
structure Room (k : Nat) (A : Around) : Prop where
  hd : A.handled = none
  dp : A.depth + 3 * k + 5 < recursionLimit
  un : A.units + 16 * k + 200 < cLine
theorem Room.mono {j k : Nat} {A : Around} (r : Room k A) (h : j ≤ k) : Room j A := ⟨r.hd, by have := r.dp; exact ω501 h this, by have := r.un; exact ω502 h this⟩
theorem Room.deeper {k : Nat} {A : Around} (r : Room (k + 1) A) (env : Env) : Room k (A.deeper env) :=
  ⟨r.hd, by have := r.dp; show A.depth + 1 + 3 * k + 5 < _; exact ω289 this, by have := r.un; show A.units + 3 + 16 * k + 200 < _; exact ω503 this⟩
theorem Room.depth {k : Nat} {A : Around} (r : Room k A) : A.depth < recursionLimit := by have := r.dp; exact ω505 this
theorem Room.units {k : Nat} {A : Around} (r : Room k A) : A.units + 64 < cLine := by have := r.un; exact ω506 this
noncomputable def tNil : TA := fun _ H Q => Q [] H
noncomputable def tCons (ta : TE) (tr : TA) : TA := fun σ H Q => ta σ H fun x H1 => tr σ H1 fun xs H2 => Q (x :: xs) H2
section
variable {X : Cx} {e : Expr} {es : List Expr} {te : TE} {t : TA} {pos : Pos}
theorem pa_nil : PA X [] tNil := fun _ _ _ _ H Q I h => Calls.spliced_nil (ιEE ([]) H ⟨I, .nil, h⟩)
theorem pa_cons (ha : PE X e te) (hr : PA X es t) (hs : starEach (e :: es) X.env = (false, eval e X.env) :: starEach es X.env := by rfl) : PA X (e :: es) (tCons te t) := by
  intro pos pins s σ H Q I h
  rw [hs]
  show wpAny _ _ (spliced ((false, eval e X.env) :: backTo pos (starEach es X.env))) _ _ s
  refine Calls.spliced_cons (thn (ha pins s σ H _ I h) fun u s1 z'257 => εx2 z'257 fun x H1 m'258 => εa3 m'258 fun I1 r1 q1 => ?_)
  exact thn (hr pos pins s1 σ H1 _ I1 q1) fun us s2 z'259 => εx2 z'259 fun xs H2 m'260 => εa3 m'260 fun I2 r2 q2 => (ιEE (x :: xs) H2 ⟨I2, .cons r1 r2, q2⟩)
noncomputable def tTup (t : TA) : TE := fun σ H Q => t σ H fun xs H1 => xs.length ≤ sizeLine ∧ ∀ p, H1 p = none → Q (.ref p) (upd H1 p (.tup xs))
noncomputable def tLst (t : TA) : TE := fun σ H Q => t σ H fun xs H1 => xs.length ≤ sizeLine ∧ ∀ p, H1 p = none → Q (.ref p) (upd H1 p (.lst xs))
theorem pe_tup {x1} (h : PA X es t) : PE X (.Tuple es x1 pos) (tTup t) := by
  intro pins s σ H Q I hq
  refine wpAny_Tuple_spliced (thn (h pos pins s σ H _ I hq) fun us s1 z'261 => εx2 z'261 fun xs H1 m'262 => εa4 m'262 fun I1 r z q => ⟨by rw [← r.length]; exact z, ?_⟩)
  have hf : H1 s1.heap.objs.size = none := I1.hok.fresh (Nat.le_refl _)
  refine (ιEE (.ref s1.heap.objs.size) (upd H1 s1.heap.objs.size (.tup xs)) ⟨I1.laid (t' := s1.toks) (fun b u e => Heap.get?_push_of_some _ e) (Nat.le_refl _) ?_, rfl, q _ hf⟩)
  exact ⟨z, us, r, (ιEAAE _ (Heap.get?_push_size _ rfl) rfl _ rfl)⟩
theorem pe_lst (h : PA X es t) : PE X (.List es pos) (tLst t) := by
  intro pins s σ H Q I hq
  refine wpAny_List_spliced (thn (h pos pins s σ H _ I hq) fun us s1 z'263 => εx2 z'263 fun xs H1 m'264 => εa4 m'264 fun I1 r z q => ⟨by rw [← r.length]; exact z, ?_⟩)
  have hf : H1 s1.heap.objs.size = none := I1.hok.fresh (Nat.le_refl _)
  refine (ιEE (.ref s1.heap.objs.size) (upd H1 s1.heap.objs.size (.lst xs)) ⟨I1.laid (t' := s1.toks) (fun b u e => Heap.get?_push_of_some _ e) (Nat.le_refl _) ?_, rfl, q _ hf⟩)
  exact ⟨z, ιEE us 0 ⟨r, Heap.get?_push_size _ rfl⟩⟩
end
abbrev Sp := List V → Hp → VK → XK → Prop
abbrev CXT := List Env → Hp → Shared → XK → Value → Shared → Prop
structure Env0 (P : Program) (w : World) (K : PySem.W.Frag) (mg : Str → Option Value) (base : Heap) (A : Around) (outer : List Env) (s : Shared) (H : Hp) : Prop where
  frames : A.frames = some outer
  mod : Mod K mg base
  bs : ∀ b o, base.get? b = some o → s.heap.get? b = some o ∧ H b = none
  bsz : base.objs.size ≤ s.heap.objs.size
  funs : s.heap.FunFrames base outer
  frf : ∀ b ∈ frs outer, H b = none
  hok : HOk P w H s.heap
  bare : AllBare s.gens
noncomputable def CE (outer : List Env) (P : Program) (w : World) (H : Hp) (s : Shared) (Q : VK) (u : Value) (s' : Shared) : Prop :=
  ∃ v H', s'.os = s.os ∧ AllBare s'.gens ∧ Un (frs outer) [] H H' s.heap s'.heap ∧ HOk P w H' s'.heap ∧ RelV v u ∧ Q v H'
noncomputable def CR (CX : CXT) (outer : List Env) (P : Program) (w : World) (H : Hp) (s : Shared) (Q : VK) (E : XK) (r : Result) (s' : Shared) : Prop :=
  match r with
  | .ok (.ret u) => CE outer P w H s Q u s'
  | .ok _ => False
  | .error e => CX outer H s E e s'
structure FnOk (P : Program) (w : World) (K : PySem.W.Frag) (mg : Str → Option Value) (base : Heap) (CX : CXT) (k : Nat) (f : Addr) (fd : FuncData) (ps : List Str) (sp : Sp) : Prop where
  len : ∀ vs H Q E, sp vs H Q E → vs.length = ps.length
  run : ∀ (A : Around) (outer : List Env) (s : Shared) (H : Hp) (args : Args) (us : List Value) (vs : List V) (Q : VK) (E : XK), Room k A → Env0 P w K mg base A outer s H → BindsTo s fd args (ps.zip us) → Vals vs us → sp vs H Q E →
    codeAny (model P w) A (.call (.ref f) args) (CR CX outer P w H s Q E) s
section
variable {X : Cx} {pins : List (Addr × Obj)} {σ : St} {H : Hp} {s s' : Shared}
theorem Inv.env0 (I : Inv X pins σ H s) : Env0 X.prog X.w X.K X.mg X.base X.A X.stack s H :=
  ⟨I.ok.frames, I.ok.mod, I.bs, Nat.le_trans I.ok.bsz I.sz, I.stack, I.stkFree, I.hok, I.bare⟩
theorem Inv.after {Q : VK} {u : Value} (I : Inv X pins σ H s) (h : CE X.stack X.prog X.w H s Q u s') : EP X pins σ Q u s' := by
  (refine εx2 h fun v H' c'1599 => εa6 c'1599 fun os bare un hok r q => ?_; (try clear h); clear c'1599)
  obtain ⟨hh, g, d, t, os'⟩ := s'
  obtain rfl : os' = s.os := os
  exact (ιEE v H' ⟨I.call (h' := hh) (g' := g) (d' := d) (t' := t) (ch := []) un hok bare (fun b z => absurd z (by simp)), r, q⟩)
end
noncomputable def tCall (sp : Sp) (dvs : List V) (E : XK) (t : TA) : TE := fun σ H Q => t σ H fun vs H1 => sp (vs ++ dvs) H1 Q E
noncomputable def Binds (K : PySem.W.Frag) (fd : FuncData) (ps : List Str) (ds : List Value) : Prop :=
  ∀ (s : Shared) (us : List Value), K.In s.heap → (us ++ ds).length = ps.length → BindsTo s fd ⟨us, []⟩ (ps.zip (us ++ ds))
theorem Binds.all {K : PySem.W.Frag} {fd : FuncData} {ps : List Str} (h : ∀ us : List Value, us.length = ps.length → bindArgs fd ⟨us, []⟩ = pure (ps.zip us)) : Binds K fd ps [] := fun s us _ hl => by
  rw [List.append_nil] at hl ⊢
  exact .of_eq (h us hl)
noncomputable def Passes (CX : CXT) (X : Cx) (E : XK) : Prop := ∀ (pins : List (Addr × Obj)) (σ : St) (H : Hp) (s : Shared) (e : Value) (s' : Shared), Inv X pins σ H s → CX X.stack H s E e s' → X.xe e s'
section
variable {X : Cx} {CX : CXT} {k : Nat} {f C : Addr} {fd : FuncData} {ps : List Str} {sp : Sp} {dvs : List V} {ds : List Value} {E : XK} {x m : Str} {p pos apos : Pos} {e o : Expr} {es : List Expr} {ta : TE} {t : TA}
theorem run_fn {pins : List (Addr × Obj)} {σ : St} {H : Hp} {s : Shared} {Q : VK} {us : List Value} {vs : List V} (F : FnOk X.prog X.w X.K X.mg X.base CX k f fd ps sp) (hr : Room k X.A) (hb : Binds X.K fd ps ds) (hd : Vals dvs ds) (hx : Passes CX X E)
    (I : Inv X pins σ H s) (r : Vals vs us) (h : sp (vs ++ dvs) H Q E) : wpAny (model X.prog X.w) X.A (call (.ref f) us) (EP X pins σ Q) X.xe s := by
  have r2 : Vals (vs ++ dvs) (us ++ ds) := r.append hd
  have hl : (us ++ ds).length = ps.length := by rw [← r2.length]; exact F.len _ _ _ _ h
  refine wpAny_call (codeAny_mono (F.run X.A X.stack s H ⟨us, []⟩ (us ++ ds) (vs ++ dvs) Q E hr I.env0 (hb s us I.kIn hl) r2 h) fun r s' hq => ?_)
  cases r with
  | error e => exact hx pins σ H s e s' I hq
  | ok fl =>
    cases fl with
    | ret u => exact I.after hq
    | next => exact False.elim hq
    | brk => exact False.elim hq
    | cont => exact False.elim hq
theorem pe_call (F : FnOk X.prog X.w X.K X.mg X.base CX k f fd ps sp) (hr : Room k X.A) (hg : Gl X x) (hm : X.mg x = some (.ref f)) (hk : PySem.W.keepIn X.K (.ref f) = true) (hb : Binds X.K fd ps ds) (hd : Vals dvs ds) (hx : Passes CX X E)
    (ha : PA X (e :: es) t) (hdb : (x == ("__debug__" : Str)) = false := by decide) (he : starEach (e :: es) X.env = (false, eval e X.env) :: starEach es X.env := by rfl) (hpl : (backTo pos (starEach es X.env)).any (·.1) = false := by rfl) :
    PE X (.Call (.Name x p) (e :: es) [] pos) (tCall sp dvs E t) := by
  intro pins s σ H Q I h
  refine wpAny_Call_Name_kw (ld_glob I hg hm ?_ hdb)
  refine PySem.W.callWith_K (h₀ := X.base) I.ok.mod.kin hk (thn (ha pos pins s σ H _ I h) fun us s1 z'265 => εx2 z'265 fun vs H1 m'266 => εa3 m'266 fun I1 r q => ⟨I1.kIn, ?_⟩) he hpl
  exact run_fn F hr hb hd hx I1 r q
end
section
variable {X : Cx} {CX : CXT} {k : Nat} {f C : Addr} {fd : FuncData} {ps ks : List Str} {sp : Sp} {E : XK} {x m : Str} {p pos apos kpos : Pos} {e o : Expr} {es : List Expr} {kws : List Keyword} {te ta : TE} {t tk : TA} {nm : Option Str}
variable {g : List Value → List Value → List Value} {gV : List V → List V → List V}
end
structure FnScope (N P : List Str) (sc : Scope) : Prop where
  kind : sc.kind = .function
  co : sc.isCoroutine = false
  gen : sc.isGenerator = false
  nd : N.Nodup
  pre : N.take P.length = P
  par : ∀ x ∈ P, sc.names.lookup x = some .local ∨ sc.names.lookup x = some .cell
  nofree : ∀ y ∈ sc.names, y.2 ≠ .free
theorem bindL_out {kindOf : Str → Option NameKind} {x : Str} : ∀ {binds : List (Str × Value)} {m : Str → Option Value}, (∀ v, (x, v) ∉ binds) → bindL kindOf binds m x = m x
  | [], _, _ => rfl
  | (n, v) :: r, m, h => by
    unfold bindL
    rw [bindL_out fun w hw => h w (List.mem_cons_of_mem _ hw)]
    split
    · have : x ≠ n := by rintro rfl; exact h v List.mem_cons_self
      simp [this]
    · rfl
theorem bindC_out {kindOf : Str → Option NameKind} {x : Str} : ∀ {binds : List (Str × Value)} {m : Str → Option Value}, (∀ v, (x, v) ∉ binds) → bindC kindOf binds m x = m x
  | [], _, _ => rfl
  | (n, v) :: r, m, h => by
    unfold bindC
    rw [bindC_out fun w hw => h w (List.mem_cons_of_mem _ hw)]
    split
    · rfl
    · have : x ≠ n := by rintro rfl; exact h v List.mem_cons_self
      simp [this]
theorem bindL_get {kindOf : Str → Option NameKind} {x : Str} {v : Value} : ∀ {P : List Str} {vs : List Value} {i : Nat} {m : Str → Option Value}, P.Nodup → P[i]? = some x → vs[i]? = some v → kindOf x = some .local →
    bindL kindOf (P.zip vs) m x = some v
  | [], _, _, _, _, h, _, _ => by simp at h
  | _ :: _, [], _, _, _, _, h, _ => by simp at h
  | p :: P, w :: vs, 0, m, nd, h1, h2, hk => by
    simp at h1 h2; subst h1; subst h2
    show bindL kindOf ((p, w) :: P.zip vs) m p = _
    unfold bindL
    rw [bindL_out fun v hv => (List.nodup_cons.mp nd).1 (List.of_mem_zip hv).1, if_pos hk]
    simp
  | p :: P, w :: vs, i + 1, m, nd, h1, h2, hk => by
    show bindL kindOf ((p, w) :: P.zip vs) m x = _
    unfold bindL
    exact bindL_get (i := i) (List.nodup_cons.mp nd).2 (by simpa using h1) (by simpa using h2) hk
theorem bindC_get {kindOf : Str → Option NameKind} {x : Str} {v : Value} : ∀ {P : List Str} {vs : List Value} {i : Nat} {m : Str → Option Value}, P.Nodup → P[i]? = some x → vs[i]? = some v → kindOf x ≠ some .local →
    bindC kindOf (P.zip vs) m x = some v
  | [], _, _, _, _, h, _, _ => by simp at h
  | _ :: _, [], _, _, _, _, h, _ => by simp at h
  | p :: P, w :: vs, 0, m, nd, h1, h2, hk => by
    simp at h1 h2; subst h1; subst h2
    show bindC kindOf ((p, w) :: P.zip vs) m p = _
    unfold bindC
    rw [bindC_out fun v hv => (List.nodup_cons.mp nd).1 (List.of_mem_zip hv).1, if_neg hk]
    simp
  | p :: P, w :: vs, i + 1, m, nd, h1, h2, hk => by
    show bindC kindOf ((p, w) :: P.zip vs) m x = _
    unfold bindC
    exact bindC_get (i := i) (List.nodup_cons.mp nd).2 (by simpa using h1) (by simpa using h2) hk
noncomputable def start (N : List Str) (vs : List V) : St := vs.map some ++ List.replicate (N.length - vs.length) none
noncomputable def cxOf (CX : CXT) (P : Program) (w : World) (K : PySem.W.Frag) (mg : Str → Option Value) (base : Heap) (N : List Str) (qual : Str) (scope : Scope) (f : Addr) (cd : Value) (A : Around) (outer : List Env) (s : Shared) (H : Hp) (E : XK) : Cx where
  prog := P
  w := w
  K := K
  mg := mg
  base := base
  A := A.deeper (envOfC qual scope s.heap.objs.size f cd)
  N := N
  s₀ := s
  H₀ := H
  env := envOfC qual scope s.heap.objs.size f cd
  outer := outer
  stack := envOfC qual scope s.heap.objs.size f cd :: outer
  ex := []
  calm := true
  fn := fun _ => true
  pn := []
  xe := fun e s' => wpAny (model P w) (A.deeper (envOfC qual scope s.heap.objs.size f cd)) (leaving (envOfC qual scope s.heap.objs.size f cd) e) (fun _ s'' => CX outer H s E e s'') (fun e' s'' => CX outer H s E e' s'') s'
theorem cell_has {sc : Scope} {n : Nat} {x : Str} (h : sc.names.lookup x = some .cell) : ∃ c, (cellsFrom n sc.names []).lookup x = some c := by
  have q := PySem.W.cellsFrom_some sc.names n [] (.inl h)
  exact Option.isSome_iff_exists.mp q
theorem inv_start {CX : CXT} {P : Program} {w : World} {K : PySem.W.Frag} {mg : Str → Option Value} {base : Heap} {N ps : List Str} {qual : Str} {scope : Scope} {f : Addr} {cd : Value} {A : Around} {outer : List Env} {s s1 : Shared} {H : Hp} {E : XK} {us : List Value} {vs : List V}
    (S : FnScope N ps scope) (hd : A.handled = none) (e0 : Env0 P w K mg base A outer s H) (hl : vs.length = ps.length) (r : Vals vs us)
    (x : InCallC s s.heap.objs.size (bindL (envOfC qual scope s.heap.objs.size f cd).kindOf (ps.zip us) fun _ => none) (cellsFrom (s.heap.objs.size + 1) scope.names []) (bindC (envOfC qual scope s.heap.objs.size f cd).kindOf (ps.zip us) fun _ => none) s1) :
    Inv (cxOf CX P w K mg base N qual scope f cd A outer s H E) [] (start N vs) H s1 := by
  have hpl : ps.length ≤ N.length := by have := congrArg List.length S.pre; rw [List.length_take] at this; exact ω508 this
  (refine εx2 (x.done) fun h1 tk c'1602 => εa2 c'1602 fun e'1601 hk => ?_; clear c'1602; subst e'1601)
  have noA : ∀ b : Addr, b ∉ (cxOf CX P w K mg base N qual scope f cd A outer s H E).ex := fun b z => absurd (show b ∈ ([] : List Addr) from z) (by simp)
  refine ⟨⟨e0.mod, S.kind, rfl, rfl, Nat.le_refl _, fun y z c h1 h2 => ?_, fun y hy => ?_, fun y c _ h => ?_, fun _ => hd, Around.frames_deeper e0.frames, .inr ⟨rfl, rfl⟩, fun b z => absurd z (noA b), e0.bs, e0.bsz, fun b _ _ => noA b, fun b z => absurd z (noA b), e0.funs, e0.frf⟩,
    rfl, e0.bare, Un.kept hk, ⟨_, x.toInCall.ns, fun i y v h1 h2 h3 => ?_⟩, fun y c h => ⟨_, x.cell y c h⟩, e0.hok.fresh (Nat.le_refl _), fun y c h => ?_, fun p hp => absurd (show p ∈ ([] : List (Addr × Obj)) from hp) (by simp), e0.hok.kept hk, ?_⟩
  · exact name_of_addr x.apart (PySem.mem_of_lookup h1) (PySem.mem_of_lookup h2)
  · have hy : scope.names.lookup y = some .cell ∨ scope.names.lookup y = some .free := hy
    rcases hy with hy | hy
    · exact cell_has hy
    · exact absurd rfl (S.nofree _ (PySem.mem_of_lookup hy))
  · exact Nat.le_of_lt (x.above y c (PySem.mem_of_lookup h))
  · have hi : i < vs.length := by
      unfold start at h2
      by_cases hi : i < vs.length
      · exact hi
      · rw [List.getElem?_append_right (by simpa using hi)] at h2
        rw [List.getElem?_replicate] at h2
        split at h2 <;> cases h2
    have ha : vs[i]? = some v := by
      unfold start at h2
      rw [List.getElem?_append_left (by simpa using hi), List.getElem?_map] at h2
      cases e : vs[i]? with
      | none => rw [e] at h2; cases h2
      | some a => rw [e] at h2; cases h2; rfl
    obtain ⟨u, hu, rv⟩ := r.get ha
    have hp : ps[i]? = some y := by
      rw [← S.pre, List.getElem?_take_of_lt (by exact ω274 hl hi)]; exact h1
    have ndP : ps.Nodup := by rw [← S.pre]; exact S.nd.sublist (List.take_sublist _ _)
    refine ⟨u, rv, ?_⟩
    rcases S.par y (List.mem_of_getElem? hp) with k | k
    · exact .inl ⟨k, bindL_get ndP hp hu k⟩
    · obtain ⟨c, e⟩ := cell_has (n := s.heap.objs.size + 1) k
      refine .inr ⟨.inl k, c, e, ?_⟩
      have q := x.cell y c e
      rw [bindC_get ndP hp hu (by show scope.names.lookup y ≠ _; rw [k]; decide)] at q
      exact q
  · exact e0.hok.fresh (Nat.le_of_lt (x.above y c (PySem.mem_of_lookup h)))
  · unfold start
    show _ = N.length
    rw [List.length_append, List.length_map, List.length_replicate]
    exact ω509 hl hpl
theorem fn_of {CX : CXT} {P : Program} {w : World} {K : PySem.W.Frag} {mg : Str → Option Value} {base : Heap} {k : Nat} {f : Addr} {name qual : Str} {params : Arguments} {body : List Stmt} {scope : Scope} {dV kV doc pm cdv ct oc : Value} {an od : Option Addr}
    {osl : Array (Option Value)} {N ps : List Str} {sp : Sp} (lk : K.lookup f = some ⟨oc, od, .func (PySem.W.fnOf name qual params body scope dV kV doc pm an cdv ct), osl⟩) (hcd : PySem.W.codeIn K cdv qual = true) (S : FnScope N ps scope)
    (len : ∀ vs H Q E, sp vs H Q E → vs.length = ps.length)
    (hbody : ∀ (A : Around) (outer : List Env) (s : Shared) (H : Hp) (vs : List V) (Q : VK) (E : XK), Room k (A.deeper (envOfC qual scope s.heap.objs.size f cdv)) → sp vs H Q E →
      ∃ t, PSs (cxOf CX P w K mg base N qual scope f cdv A outer s H E) body t ∧ t { nx := fun _ H' => Q .non H', rt := Q } (start N vs) H) :
    FnOk P w K mg base CX (k + 1) f (PySem.W.fnOf name qual params body scope dV kV doc pm an cdv ct) ps sp := by
  refine ⟨len, fun A outer s H args us vs Q E hr e0 hb r hsp => ?_⟩
  have hl := len _ _ _ _ hsp
  have KX : K.In s.heap := e0.mod.kin.keeps fun b o e => (e0.bs b o e).1
  have lim : s.heap.NoLimit := e0.mod.nolimit.keeps fun b o e => (e0.bs b o e).1
  have hkind : ∀ y ∈ ps.zip us, scope.names.lookup y.1 = some .local ∨ (scope.names.lookup y.1 = some .cell ∧ ((cellsFrom (s.heap.objs.size + 1) scope.names []).lookup y.1).isSome = true) := fun ⟨n, v⟩ hy => by
    rcases S.par n (List.of_mem_zip hy).1 with q | q
    · exact .inl q
    · exact .inr ⟨q, PySem.W.cellsFrom_some _ _ _ (.inl q)⟩
  refine codeAny_call_function hr.depth (KX _ _ lk) rfl S.co S.gen rfl (PySem.W.codeRec_of KX hcd) (hb _ _ _ _ ?_)
  refine wpAny_newFunctionEnv_cells S.kind hkind fun env he s1 x => ?_
  subst he
  refine ⟨lim.keeps x.toInCall.keep, codeAny_func ?_⟩
  obtain ⟨t, ht, hq⟩ := hbody A outer s H vs Q E (hr.deeper _) hsp
  have I : Inv (cxOf CX P w K mg base N qual scope f cdv A outer s H E) [] (start N vs) H s1 := inv_start S hr.hd e0 hl r x
  refine wpAny_mono (ht [] s1 (start N vs) H _ I hq) (fun fl s' hs => ?_) fun e s' hs => hs
  have fin : ∀ {σ' : St} {H' : Hp} {v : V} {u : Value}, Inv (cxOf CX P w K mg base N qual scope f cdv A outer s H E) [] σ' H' s' → RelV v u → Q v H' → CE outer P w H s Q u s' :=
    fun {σ' H' v u} J rv q => (ιEE v H' ⟨J.os, J.bare, J.base, J.hok, rv, q⟩)
  cases fl with
  | ret u =>
    (refine εx3 hs fun v σ' H' c'1603 => εa3 c'1603 fun J rv q => ?_; (try clear hs); clear c'1603)
    exact fin J rv q
  | next =>
    (refine εx2 hs fun σ' H' c'1604 => εa2 c'1604 fun J q => ?_; (try clear hs); clear c'1604)
    exact fin (v := V.non) (u := Value.none) J rfl q
  | brk =>
    (refine εx2 hs fun _ _ c'1605 => εa2 c'1605 fun _ q => ?_; (try clear hs); clear c'1605)
    exact False.elim q
  | cont =>
    (refine εx2 hs fun _ _ c'1606 => εa2 c'1606 fun _ q => ?_; (try clear hs); clear c'1606)
    exact False.elim q
end L2
namespace L2
open PySem PySem.Spec PyProof.Rows
section
variable {X : Cx} {x : Str} {p pos : Pos} {e : Expr} {es : List Expr} {t : TA} {id T : String} {r : List V → Hp → VK → Prop}
noncomputable def tCB (r : List V → Hp → VK → Prop) (t : TA) : TE := fun σ H Q => t σ H fun vs H1 => r vs H1 Q
theorem pe_callB (hc : CallR X (.builtin id) r) (hg : Gl X x) (hm : X.mg x = none) (hv : bootBuiltins x = some (.builtin id)) (ha : PA X (e :: es) t) (hn : x ≠ "__name__" := by decide) (hdb : (x == ("__debug__" : Str)) = false := by decide)
    (he : starEach (e :: es) X.env = (false, eval e X.env) :: starEach es X.env := by rfl) (hpl : (backTo pos (starEach es X.env)).any (·.1) = false := by rfl) : PE X (.Call (.Name x p) (e :: es) [] pos) (tCB r t) := by
  intro pins s σ H Q I h
  refine wpAny_Call_Name_kw (ld_blt I hg hm hv ?_ hn hdb)
  exact PyProof.Rows.callWith_builtin1 (thn (ha pos pins s σ H _ I h) fun us s1 z'288 => εx2 z'288 fun vs H1 m'289 => εa3 m'289 fun I1 r1 q1 => hc pins s1 σ H1 vs us Q I1 r1 q1) he hpl
theorem pe_callTy (hc : CallR X (.type T) r) (hg : Gl X x) (hm : X.mg x = none) (hv : bootBuiltins x = some (.type T)) (ha : PA X (e :: es) t) (hn : x ≠ "__name__" := by decide) (hdb : (x == ("__debug__" : Str)) = false := by decide)
    (he : starEach (e :: es) X.env = (false, eval e X.env) :: starEach es X.env := by rfl) (hpl : (backTo pos (starEach es X.env)).any (·.1) = false := by rfl) : PE X (.Call (.Name x p) (e :: es) [] pos) (tCB r t) := by
  intro pins s σ H Q I h
  refine wpAny_Call_Name_kw (ld_blt I hg hm hv ?_ hn hdb)
  exact PyProof.Rows.callWith_type1 (thn (ha pos pins s σ H _ I h) fun us s1 z'290 => εx2 z'290 fun vs H1 m'291 => εa3 m'291 fun I1 r1 q1 => hc pins s1 σ H1 vs us Q I1 r1 q1) he hpl
end
end L2
namespace HT
open PySem PyProof.Rows
section
open PySem.SeqAt
open PySem.AutoSeq1 (wpAny_loadPart')
open PySem.MeetsSeq PySem.MeetsSeq2 PySem.MeetsSeq3
end
section
variable {prog : Program} {w : World} {A : Around} {E : Value → Shared → Prop} {s : Shared}
noncomputable def sIx (n d : Nat) : Option Int → Nat
  | none => d
  | some v => if v < 0 then (v + (n : Int)).toNat else min v.toNat n
theorem sIx_none (n d : Nat) : sIx n d none = d := rfl
theorem sIx_nat (n d k : Nat) : sIx n d (some (k : Int)) = min k n := by
  show (if (k : Int) < 0 then ((k : Int) + (n : Int)).toNat else min (k : Int).toNat n) = min k n
  rw [if_neg (by exact ω67), Int.toNat_natCast]
theorem sIx_le (n d : Nat) (hd : d ≤ n) (o : Option Int) : sIx n d o ≤ n := by
  cases o with
  | none => exact hd
  | some v =>
    show (if v < 0 then (v + (n : Int)).toNat else min v.toNat n) ≤ n
    by_cases hv : v < 0
    · rw [if_pos hv]; exact ω515 hv
    · rw [if_neg hv]; exact Nat.min_le_right _ _
theorem clip_eq (v : Int) (n d : Nat) : (if v < 0 then max (v + (n : Int)) 0 else min v (n : Int)) = ((sIx n d (some v) : Nat) : Int) := by
  show (if v < 0 then max (v + (n : Int)) 0 else min v (n : Int)) = (((if v < 0 then (v + (n : Int)).toNat else min v.toNat n) : Nat) : Int)
  by_cases hv : v < 0
  · simp only [if_pos hv]; exact ω516
  · simp only [if_neg hv]; exact ω517 hv
theorem adjust_gen (lo hi : Option Int) (n : Nat) : Builtin.Slice.sliceAdjust lo hi 1 (n : Int) = (((sIx n 0 lo : Nat) : Int), ((sIx n n hi : Nat) : Int)) := by
  have h1 : ¬ ((1 : Int) < 0) := by exact ω518
  unfold Builtin.Slice.sliceAdjust
  simp only [h1, if_false]
  refine Prod.ext ?_ ?_
  · cases lo with
    | none => rfl
    | some v => exact clip_eq v n 0
  · cases hi with
    | none => rfl
    | some v => exact clip_eq v n n
theorem places_gen (i j : Nat) : Builtin.Slice.slicePlaces (i : Int) (j : Int) 1 = j - i := by
  unfold Builtin.Slice.slicePlaces
  have h1 : (1 : Int) > 0 := by exact ω519
  simp only [h1, if_true, Int.ediv_one]
  split <;> (first | exact ω520 | exact ω521 (by assumption))
theorem slicePart_ {v : Value} {o : Option Int} {Q : Option Int → Shared → Prop} (p : IsPart v o) (h : Q o s) : wpAny (model prog w) A (Builtin.Slice.slicePartIndex v) Q E s := by
  cases p with
  | none => exact slicePart_none h
  | int i t => exact slicePart_int h
theorem sliceApplied_gen {sl : Addr} {vl vu : Value} {lo hi : Option Int} {n : Nat} {Q : Int × Int × Nat → Shared → Prop} (hs : s.heap.IsSliceOf sl vl vu .none) (pl : IsPart vl lo) (pu : IsPart vu hi)
    (h : Q (((sIx n 0 lo : Nat) : Int), 1, sIx n n hi - sIx n 0 lo) s) : wpAny (model prog w) A (Builtin.Slice.sliceApplied (.ref sl) (pure (n : Int))) Q E s := by
  (refine εx1 (id hs) fun os c'1627 => εa3 c'1627 fun hos hcs hds => ?_; clear c'1627)
  unfold Builtin.Slice.sliceApplied Builtin.Slice.sliceFields
  refine wpAny_bind (wpAny_bind (wpAny_field hos hds (x := vl) rfl (wpAny_bind (wpAny_field hos hds (x := vu) rfl (wpAny_bind (wpAny_field hos hds (x := .none) rfl (wpAny_pure ?_)))))))
  refine wpAny_bind (slicePart_none ?_)
  show wpAny _ _ (if ((1 : Int) == 0) = true then _ else _) _ _ s
  rw [if_neg (by decide)]
  refine wpAny_bind (slicePart_ pl (wpAny_bind (slicePart_ pu (wpAny_bind (wpAny_pure ?_)))))
  show wpAny _ _ (match Builtin.Slice.sliceAdjust lo hi 1 (n : Int) with | (lo, hi) => pure (lo, (1 : Int), Builtin.Slice.slicePlaces lo hi 1)) _ _ s
  rw [adjust_gen lo hi n]
  show wpAny _ _ (pure (((sIx n 0 lo : Nat) : Int), (1 : Int), Builtin.Slice.slicePlaces ((sIx n 0 lo : Nat) : Int) ((sIx n n hi : Nat) : Int) 1)) _ _ s
  rw [places_gen]
  exact wpAny_pure h
theorem pick_gen (xs : Array Value) (i k : Nat) : ((List.range k).filterMap fun (m : Nat) => xs[((i : Int) + (m : Int) * 1).toNat]?).toArray = ((xs.toList.drop i).take k).toArray := by
  have e : (fun (m : Nat) => xs[((i : Int) + (m : Int) * 1).toNat]?) = fun m => xs[i + m]? := by
    funext m
    have : ((i : Int) + (m : Int) * 1).toNat = i + m := by exact ω522
    rw [this]
  rw [e]
  have := pick_run xs i k
  rw [List.filterMap_map] at this
  have e2 : ((fun x => xs[x]?) ∘ fun x => i + x) = fun m => xs[i + m]? := rfl
  rw [e2] at this
  rw [this]
theorem getItem_tuple_cut {t sl : Addr} {items : Array Value} {vl vu : Value} {lo hi : Option Int} {Q : Value → Shared → Prop} (ht : IsTup s.heap t items) (hs : s.heap.IsSliceOf sl vl vu .none) (pl : IsPart vl lo) (pu : IsPart vu hi)
    (hw : ¬ (sIx items.size 0 lo = 0 ∧ sIx items.size items.size hi = items.size))
    (h : Q (.ref s.heap.objs.size) { s with heap := s.heap.push { cls := .type "tuple", data := .seq ((items.toList.drop (sIx items.size 0 lo)).take (sIx items.size items.size hi - sIx items.size 0 lo)).toArray } })
    (hsz : items.size ≤ sizeLine) : wpAny (model prog w) A (getItem (.ref t) (.ref sl)) Q E s := by
  have htake : sizeOk (.seq ((items.toList.drop (sIx items.size 0 lo)).take (sIx items.size items.size hi - sIx items.size 0 lo)).toArray) := by
    show ((items.toList.drop (sIx items.size 0 lo)).take (sIx items.size items.size hi - sIx items.size 0 lo)).toArray.size ≤ sizeLine
    rw [List.size_toArray, List.length_take, List.length_drop, Array.length_toList]
    exact ω523 hsz
  have hj : sIx items.size items.size hi ≤ items.size := sIx_le _ _ (Nat.le_refl _) hi
  (refine εx1 (id hs) fun os c'1628 => εa3 c'1628 fun hos hcs hds => ?_; clear c'1628)
  have hTs : s.TypeIs (.ref sl) "slice" := ⟨os, hos, hcs⟩
  unfold getItem
  try with_reducible refine wpAny_holding ?_
  first | refine wpAny_bind (wpAny_pure ?_) | skip
  refine wpAny_bind (wpAny_sequenceKey ht.typeIs (by decide) ?_)
  refine wpAny_bind (wpAny_callSpecial?_slot (name := Str.ofString "__getitem__") ht.typeIs PyProof.Rows.slot_tuple_getitem
    (wpAny_call_entry PyProof.Rows.slot_tuple_getitem ht.typeIs entry_tuple_getitem ?_ (args_tuple_getitem _ _)))
  show wpAny _ _ (Builtin.Tuple.tupleItemsOf (.ref t) >>= _) _ _ s
  refine wpAny_bind (tupleItemsOf_ ht ?_)
  refine wpAny_bind (wpAny_typeOf hTs ?_)
  rw [if_pos (by decide)]
  refine wpAny_bind (sliceApplied_gen hs pl pu ?_)
  have hno : ¬ ((((sIx items.size 0 lo : Nat) : Int) == 0 && (1 : Int) == 1 && (sIx items.size items.size hi - sIx items.size 0 lo) == items.size) = true) := by
    intro q
    rw [Bool.and_eq_true, Bool.and_eq_true] at q
    have q1 : ((sIx items.size 0 lo : Nat) : Int) = 0 := eq_of_beq q.1.1
    have q2 : sIx items.size items.size hi - sIx items.size 0 lo = items.size := eq_of_beq q.2
    exact hw ⟨by exact ω262 q1, by exact ω524 q1 q2⟩
  show wpAny _ _ (if (((sIx items.size 0 lo : Nat) : Int) == 0 && (1 : Int) == 1 && (sIx items.size items.size hi - sIx items.size 0 lo) == items.size) = true then _ else _) _ _ s
  rw [if_neg hno, pick_gen]
  first
    | exact wpAny_bind (m := Builtin.Tuple.tupleExact _) (wpAny_newObj_type (wpAny_pure ⟨_, rfl, wpAny_pure h⟩) htake)
    | exact wpAny_bind (m := Builtin.Tuple.tupleExact _) (wpAny_newObj_type (wpAny_bind (wpAny_pure (wpAny_pure ⟨_, rfl, wpAny_pure h⟩))) htake)
    | exact wpAny_bind (wpAny_bind (m := Builtin.Tuple.tupleExact _) (wpAny_newObj_type (wpAny_pure (wpAny_pure ⟨_, rfl, wpAny_pure h⟩)) htake))
    | exact wpAny_bind (wpAny_bind (m := Builtin.Tuple.tupleExact _) (wpAny_newObj_type (wpAny_pure ⟨_, rfl, wpAny_pure h⟩) htake))
end
end HT
namespace L2
open PySem PySem.Spec PyProof.Rows
abbrev TO := St → Hp → (Option Int → Hp → Prop) → Prop
noncomputable def PO (X : Cx) (e : Option Expr) (t : TO) : Prop :=
  ∀ (pins : List (Addr × Obj)) (s : Shared) (σ : St) (H : Hp) (Q : Option Int → Hp → Prop), Inv X pins σ H s → t σ H Q →
    wpAny (model X.prog X.w) X.A (evalPart e X.env) (fun u s' => ∃ o H', Inv X pins σ H' s' ∧ IsPart u o ∧ Q o H') X.xe s
noncomputable def tNoPart : TO := fun _ H Q => Q none H
noncomputable def tPart (t : TE) : TO := fun σ H Q => t σ H fun x H1 => ∃ i, x = .int i ∧ Q (some i) H1
theorem intsAre_of {ns : List Int} : ∀ {us : List Value}, Vals (ns.map V.int) us → IntsAre us ns := by
  induction ns with
  | nil => intro us r; rw [List.map_nil] at r; cases r; exact .nil
  | cons n ns ih =>
    intro us r
    rw [List.map_cons] at r
    cases r with
    | cons r1 r2 =>
      obtain ⟨t, e⟩ := r1
      subst e
      exact .cons n t (ih r2)
section
variable {X : Cx} {e : Expr} {te : TE} {lo hi : Option Expr} {tl th : TO} {pos p2 : Pos}
theorem po_none : PO X none tNoPart := by
  intro pins s σ H Q I h
  rw [evalPart_none]
  exact wpAny_pure (ιEE none H ⟨I, .none, h⟩)
theorem po_some (h : PE X e te) : PO X (some e) (tPart te) := by
  intro pins s σ H Q I hw
  rw [evalPart_some]
  refine thn (h pins s σ H _ I hw) fun u s1 z'292 => εx2 z'292 fun x H1 m'293 => εa3 m'293 fun I1 r1 q1 => ?_
  obtain ⟨i, rfl, q⟩ := q1
  obtain ⟨t, rfl⟩ := r1
  exact (ιEE (some i) H1 ⟨I1, .int i t, q⟩)
noncomputable def SlR (X : Cx) (r : V → Option Int → Option Int → Hp → VK → Prop) : Prop :=
  ∀ (pins : List (Addr × Obj)) (s : Shared) (σ : St) (H : Hp) (x : V) (v vl vu : Value) (lo hi : Option Int) (sl : Addr) (Q : VK), Inv X pins σ H s → RelV x v → s.heap.IsSliceOf sl vl vu .none → IsPart vl lo → IsPart vu hi → r x lo hi H Q →
    ∃ T id, typeLookup (.type T) "__getitem__" = pure (some (.builtin id)) ∧ s.TypeIs v T ∧ wpAny (model X.prog X.w) X.A (getItem v (.ref sl)) (EP X pins σ Q) X.xe s
noncomputable def tSl (r : V → Option Int → Option Int → Hp → VK → Prop) (te : TE) (tl th : TO) : TE := fun σ H Q => te σ H fun x H1 => tl σ H1 fun l H2 => th σ H2 fun u H3 => r x l u H3 Q
theorem pe_slice {r : V → Option Int → Option Int → Hp → VK → Prop} (hr : SlR X r) (he : PE X e te) (hl : PO X lo tl) (hu : PO X hi th) : PE X (.Subscript e (.Slice lo hi none p2) pos) (tSl r te tl th) := by
  intro pins s σ H Q I h
  refine Subscript_ (thn (he pins s σ H _ I h) fun v s1 z'294 => εx2 z'294 fun x H1 m'295 => εa3 m'295 fun I1 r1 q1 => ?_)
  refine wpAny_Slice (thn (hl pins s1 σ H1 _ I1 q1) fun vl s2 z'296 => εx2 z'296 fun l H2 m'297 => εa3 m'297 fun I2 pl q2 => thn (hu pins s2 σ H2 _ I2 q2) fun vu s3 z'298 => εx2 z'298 fun u H3 m'299 => εa3 m'299 fun I3 pu q3 => ?_)
  rw [evalPart_none]
  refine wpAny_pure ?_
  have I4 : Inv X pins σ H3 { s3 with heap := s3.heap.push { cls := .type "slice", data := .fields #[vl, vu, .none] } } := I3.kept (t' := s3.toks) fun b ob q => Heap.get?_push_of_some _ q
  (refine εx2 (hr pins { s3 with heap := s3.heap.push { cls := .type "slice", data := .fields #[vl, vu, .none] } } σ H3 x v vl vu l u s3.heap.objs.size Q I4 r1 (Heap.IsSliceOf.new ..) pl pu q3) fun T id c'1629 => εa3 c'1629 fun hT ht hg => ?_; clear c'1629)
  show wpAny (model X.prog X.w) X.A (subscriptTail e (.Slice lo hi none p2) v (.ref s3.heap.objs.size)) (EP X pins σ Q) X.xe { s3 with heap := s3.heap.push { cls := .type "slice", data := .fields #[vl, vu, .none] } }
  exact tail_any (ops := [.ref s3.heap.objs.size, v]) ht hT hg (by with_unfolding_all rfl)
noncomputable def cutV (xs : List V) (lo hi : Option Int) : List V := (xs.drop (HT.sIx xs.length 0 lo)).take (HT.sIx xs.length xs.length hi - HT.sIx xs.length 0 lo)
theorem cutV_length (xs : List V) (lo hi : Option Int) : (cutV xs lo hi).length ≤ xs.length := by
  unfold cutV
  rw [List.length_take, List.length_drop]
  exact ω525
noncomputable def rSlT (K : PySem.W.Frag) : V → Option Int → Option Int → Hp → VK → Prop := fun x lo hi H Q => ∃ a xs, x = .ref a ∧ SqT K H a xs ∧
  ¬ (HT.sIx xs.length 0 lo = 0 ∧ HT.sIx xs.length xs.length hi = xs.length) ∧ ∀ p, H p = none → Q (.ref p) (upd H p (.tup (cutV xs lo hi)))
theorem sl_tup : SlR X (rSlT X.K) := by
  intro pins s σ H x v vl vu lo hi sl Q I rx hs pl pu h
  (refine εx2 h fun a xs c'1631 => εa4 c'1631 fun e'1630 hx hw q => ?_; (try clear h); clear c'1631; subst e'1630)
  cases rx
  (refine εx1 (I.tuple hx) fun its c'1632 => εa3 c'1632 fun r ht hz => ?_; clear c'1632)
  have hlen : its.toArray.size = xs.length := by rw [List.size_toArray]; exact r.length.symm
  refine (ιEE ("tuple") _ ⟨PyProof.Rows.slot_tuple_getitem.lookup, ht.typeIs, ?_⟩)
  refine HT.getItem_tuple_cut ht hs pl pu (by rw [hlen]; exact hw) ?_ (by rw [hlen]; exact hz)
  rw [hlen]
  refine (ιEE (.ref s.heap.objs.size) _ ⟨I.laid (t' := s.toks) (o := .tup (cutV xs lo hi)) (fun b ob q => Heap.get?_push_of_some _ q) (Nat.le_refl _) ?_, rfl, q _ (I.hok.fresh (Nat.le_refl _))⟩)
  exact ⟨Nat.le_trans (cutV_length xs lo hi) hz, _, (r.drop (HT.sIx xs.length 0 lo)).take (HT.sIx xs.length xs.length hi - HT.sIx xs.length 0 lo), IsTup.new _ _⟩
end
end L2
namespace L2
open PySem PySem.Spec PyProof.Rows
noncomputable def ixN (n : Nat) (i : Int) : Option Nat := if 0 ≤ i then (if i < n then some i.toNat else none) else if -(n : Int) ≤ i then some (i + n).toNat else none
noncomputable def atI {α : Type} (xs : List α) (i : Int) : Option α := (ixN xs.length i).bind fun j => xs[j]?
theorem ixN_seq {n : Nat} {i : Int} {j : Nat} (h : ixN n i = some j) : seqIndex? i n = some j ∧ j < n ∧ -(n : Int) ≤ i ∧ i < n := by
  unfold ixN at h
  by_cases h0 : 0 ≤ i
  · rw [if_pos h0] at h
    by_cases h1 : i < n
    · rw [if_pos h1] at h
      have e : i.toNat = j := Option.some.inj h
      exact ⟨by rw [seqIndex_of h0 h1, e], by exact ω526 h0 h1 e, by exact ω527 h0, h1⟩
    · rw [if_neg h1] at h; cases h
  · rw [if_neg h0] at h
    by_cases h1 : -(n : Int) ≤ i
    · rw [if_pos h1] at h
      have e : (i + n).toNat = j := Option.some.inj h
      exact ⟨by rw [seqIndex_neg (by exact ω66 h0) h1, e], by exact ω528 h0 h1 e, h1, by exact ω529 h0⟩
    · rw [if_neg h1] at h; cases h
theorem atI_get {α : Type} {xs : List α} {i : Int} {v : α} (h : atI xs i = some v) : ∃ j, seqIndex? i xs.length = some j ∧ xs[j]? = some v ∧ j < xs.length ∧ -(xs.length : Int) ≤ i ∧ i < xs.length := by
  unfold atI at h
  cases e : ixN xs.length i with
  | none => rw [e] at h; cases h
  | some j =>
    rw [e] at h
    refine εa4 (ixN_seq e) fun h1 h2 h3 h4 => ?_
    exact ⟨j, h1, h, h2, h3, h4⟩
theorem atI_nat {α : Type} {xs : List α} {j : Nat} {v : α} (h : xs[j]? = some v) : atI xs (j : Int) = some v := by
  have hj : j < xs.length := (List.getElem?_eq_some_iff.mp h).1
  have e : ixN xs.length (j : Int) = some j := by
    unfold ixN
    rw [if_pos (by exact ω2), if_pos (by exact ω30 hj)]; simp
  unfold atI; rw [e]; exact h
theorem atI_last {α : Type} (xs : List α) (v : α) : atI (xs ++ [v]) (-1) = some v := by
  have hl : (xs ++ [v]).length = xs.length + 1 := by simp
  have e : ixN (xs ++ [v]).length (-1) = some xs.length := by
    unfold ixN
    rw [hl, if_neg (by decide), if_pos (by exact ω530)]
    congr 1
    exact ω531
  unfold atI
  rw [e]
  show (xs ++ [v])[xs.length]? = some v
  simp
noncomputable def PlainIx (b : Expr) : Prop := ∀ o i, subscripted b false o i = operate [o, i] (getItem o i)
noncomputable def IxR (X : Cx) (r : R2) : Prop :=
  ∀ (value slice : Expr) (pins : List (Addr × Obj)) (s : Shared) (σ : St) (H : Hp) (x y : V) (v u : Value) (Q : VK), Inv X pins σ H s → RelV x v → RelV y u → r x y H Q →
    subscripted slice false v u = operate [v, u] (getItem v u) → wpAny (model X.prog X.w) X.A (subscriptTail value slice v u) (EP X pins σ Q) X.xe s
noncomputable def MtR (X : Cx) (id : String) (r : V → List V → Hp → VK → Prop) : Prop :=
  ∀ (pins : List (Addr × Obj)) (s : Shared) (σ : St) (H : Hp) (x : V) (xs : List V) (v : Value) (us : List Value) (Q : VK), Inv X pins σ H s → RelV x v → Vals xs us → r x xs H Q →
    wpAny (model X.prog X.w) X.A (call (.builtin id) (v :: us)) (EP X pins σ Q) X.xe s
section
variable {X : Cx} {a b : Expr} {ta tb : TE} {pos : Pos}
theorem pe_ix {r : R2} (hr : IxR X r) (ha : PE X a ta) (hb : PE X b tb) (hs : PlainIx b) : PE X (.Subscript a b pos) (tOp r ta tb) := by
  intro pins s σ H Q I h
  exact Subscript_ (binT ha hb I h fun v u s2 x y H2 I2 rx ry q => hr a b pins s2 σ H2 x y v u Q I2 rx ry q (hs _ _))
noncomputable def rIxL (K : PySem.W.Frag) : R2 := fun x y H Q => ∃ p xs i v, x = .ref p ∧ y = .int i ∧ SqL K H p xs ∧ atI xs i = some v ∧ Q v H
noncomputable def rIxT (K : PySem.W.Frag) : R2 := fun x y H Q => ∃ p xs i v, x = .ref p ∧ y = .int i ∧ SqT K H p xs ∧ atI xs i = some v ∧ Q v H
theorem ix_list : IxR X (rIxL X.K) := by
  intro value slice pins s σ H x y v u Q I rx ry h hs
  (refine εx4 h fun p xs i z c'1648 => εa5 c'1648 fun e'1646 e'1647 hq he q => ?_; (try clear h); clear c'1648; subst e'1646; subst e'1647)
  cases rx
  obtain ⟨t, rfl⟩ := ry
  (refine εx1 (I.list hq) fun its c'1649 => εa3 c'1649 fun r pl hz => ?_; clear c'1649)
  (refine εx1 (atI_get he) fun j c'1650 => εa5 c'1650 fun h1 h2 h3 h4 h5 => ?_; clear c'1650)
  obtain ⟨w, ew, rw'⟩ := r.get h2
  have hl := r.length
  have hn := line63
  have fin : EP X pins σ Q w s := (ιEE z H ⟨I, rw', q⟩)
  by_cases h0 : 0 ≤ i
  · have hj : i.toNat = j := by
      rw [seqIndex_of h0 h5] at h1
      exact Option.some.inj h1
    exact item_listR pl.isList h0 (by exact ω175 hz h5 hn) (by rw [hj]; simpa using ew) fin hs
  · have hj : (i + (its.toArray.size : Int)).toNat = j := by
      rw [seqIndex_neg (by exact ω66 h0) h4] at h1
      rw [List.size_toArray, ← hl]
      exact Option.some.inj h1
    exact subscriptTail_builtinR (x := w) pl.isList.typeIs slot_list_getitem.lookup
      (wpAny_getItem_list_neg (Q := fun r s' => r = w ∧ EP X pins σ Q r s') pl.isList (by exact ω66 h0) (by rw [List.size_toArray] <;> exact ω532 h4 hl) (by exact ω176 hz h4 hn) (by rw [hj]; simpa using ew) ⟨rfl, fin⟩) hs
theorem ix_tup : IxR X (rIxT X.K) := by
  intro value slice pins s σ H x y v u Q I rx ry h hs
  (refine εx4 h fun p xs i z c'1653 => εa5 c'1653 fun e'1651 e'1652 hq he q => ?_; (try clear h); clear c'1653; subst e'1651; subst e'1652)
  cases rx
  obtain ⟨t, rfl⟩ := ry
  (refine εx1 (I.tuple hq) fun its c'1654 => εa3 c'1654 fun r pl hz => ?_; clear c'1654)
  (refine εx1 (atI_get he) fun j c'1655 => εa5 c'1655 fun h1 h2 h3 h4 h5 => ?_; clear c'1655)
  obtain ⟨w, ew, rw'⟩ := r.get h2
  have hl := r.length
  have hn := line63
  have fin : EP X pins σ Q w s := (ιEE z H ⟨I, rw', q⟩)
  exact subscriptTail_builtinR (x := w) pl.typeIs slot_tuple_getitem.lookup
    (getItem_tuple (j := j) (Q := fun r s' => r = w ∧ EP X pins σ Q r s') pl (by exact ω176 hz h4 hn) (by exact ω175 hz h5 hn) (by rw [List.size_toArray, ← hl]; exact h1) (by simpa using ew) ⟨rfl, fin⟩) hs
theorem mapSeq_set (its : List Value) (n j : Nat) (u : Value) : Obj.mapSeq (·.setIfInBounds j u) { cls := .type "list", data := .seq its.toArray n } = { cls := .type "list", data := .seq (its.set j u).toArray n } := by
  simp [Obj.mapSeq]
theorem Inv.lst {pins : List (Addr × Obj)} {σ : St} {H : Hp} {s : Shared} {p : Addr} {xs : List V} (I : Inv X pins σ H s) (h : H p = some (.lst xs)) :
    ∃ (its : List Value) (n : Nat), Vals xs its ∧ s.heap.get? p = some { cls := .type "list", data := .seq its.toArray n } ∧ xs.length ≤ sizeLine := by
  (refine εa2 (I.hok p _ h) fun z c'1660 => εx2 c'1660 fun its n c'1661 => εa2 c'1661 fun r e => ?_; clear c'1660 c'1661)
  exact (ιEE its n ⟨r, e, z⟩)
theorem Inv.lstUpd {pins : List (Addr × Obj)} {σ : St} {H : Hp} {s : Shared} {p : Addr} {xs ys : List V} {its its' : List Value} {n n' : Nat} {f : Obj → Obj} (I : Inv X pins σ H s) (h : H p = some (.lst xs))
    (ho : s.heap.get? p = some { cls := .type "list", data := .seq its.toArray n }) (hf : f { cls := .type "list", data := .seq its.toArray n } = { cls := .type "list", data := .seq its'.toArray n' }) (r : Vals ys its') (hz : ys.length ≤ sizeLine) (t : Nat) :
    Inv X pins σ (upd H p (.lst ys)) { s with heap := s.heap.update p f, toks := t } := by
  have e : (s.heap.update p f).get? p = some { cls := .type "list", data := .seq its'.toArray n' } := by
    rw [Heap.get?_update_self f ho (by rw [hf] <;> rfl), hf]
  refine I.write (x := p) (e := p) (by rw [h]; trivial) (.inl rfl) (fun b u hb q => (Heap.get?_update_other _ _ (Ne.symm hb)).trans q) ⟨_, e⟩ ?_
  exact ⟨hz, ιEE its' n' ⟨r, e⟩⟩
noncomputable def rSetL : V → V → V → Hp → (Hp → Prop) → Prop := fun o i v H Q => ∃ p xs k j, o = .ref p ∧ i = .int k ∧ H p = some (.lst xs) ∧ ixN xs.length k = some j ∧ Q (upd H p (.lst (xs.set j v)))
theorem set_list : PSet X rSetL := by
  intro pins s σ H o i v ov iv u Q I ro ri rv h
  (refine εx4 h fun p xs k j c'1664 => εa5 c'1664 fun e'1662 e'1663 hp hj q => ?_; (try clear h); clear c'1664; subst e'1662; subst e'1663)
  cases ro
  obtain ⟨t, rfl⟩ := ri
  (refine εx2 (I.lst hp) fun its n c'1665 => εa3 c'1665 fun r ho hz => ?_; clear c'1665)
  refine εa4 (ixN_seq hj) fun h1 h2 h3 h4 => ?_
  have hl := r.length
  have hn := line63
  have I' : Inv X pins σ (upd H p (.lst (xs.set j v))) { s with heap := s.heap.update p (Obj.mapSeq (·.setIfInBounds j u)) } :=
    I.lstUpd hp ho (mapSeq_set its n j u) (r.set rv j) (by rw [List.length_set]; exact hz) s.toks
  by_cases h0 : 0 ≤ k
  · have hk : k.toNat = j := by
      rw [seqIndex_of h0 h4] at h1
      exact Option.some.inj h1
    exact PySem.W.ki_setAt ho h0 (by exact ω175 hz h4 hn) (by rw [List.size_toArray, ← hl]; exact h4) (by rw [hk]; exact ⟨_, I', q⟩)
  · have hk : (k + (its.toArray.size : Int)).toNat = j := by
      rw [seqIndex_neg (by exact ω66 h0) h3] at h1
      rw [List.size_toArray, ← hl]
      exact Option.some.inj h1
    exact PySem.W.ki_setBack ho (by exact ω66 h0) (by rw [List.size_toArray, ← hl]; exact h3) (by exact ω176 hz h3 hn) (by rw [hk]; exact ⟨_, I', q⟩)
noncomputable def flatV : V → Bool
  | .non => true
  | .bl _ => true
  | .int _ => true
  | .str _ => true
  | _ => false
noncomputable def eqV : V → V → Bool
  | .non, .non => true
  | .bl a, .bl b => a == b
  | .bl a, .int b => (if a then 1 else 0) == b
  | .int a, .bl b => a == (if b then 1 else 0)
  | .int a, .int b => a == b
  | .str a, .str b => a == b
  | _, _ => false
theorem eqAt_V {A : Around} {s : Shared} {y x : V} {u v : Value} (ry : RelV y u) (rx : RelV x v) (fy : flatV y = true) (fx : flatV x = true) : SeqAt.EqAt A s u v (eqV y x) := by
  cases y with
  | non =>
    cases ry
    cases x with
    | non => cases rx; exact SeqAt.EqAt.same _
    | bl b => cases rx; exact SeqAt.EqAt.none_bool b
    | int b => obtain ⟨t, rfl⟩ := rx; exact SeqAt.EqAt.none_int b t
    | str b => obtain ⟨t, rfl⟩ := rx; exact SeqAt.EqAt.none_str b t
    | _ => exact absurd (show false = true from fx) Bool.false_ne_true
  | bl a =>
    cases ry
    cases x with
    | non => cases rx; exact SeqAt.EqAt.bool_none a
    | bl b => cases rx; exact SeqAt.EqAt.bool_bool a b
    | int b => obtain ⟨t, rfl⟩ := rx; exact SeqAt.EqAt.bool_int a b t
    | str b => obtain ⟨t, rfl⟩ := rx; exact SeqAt.EqAt.bool_str a b t
    | _ => exact absurd (show false = true from fx) Bool.false_ne_true
  | int a =>
    obtain ⟨t', rfl⟩ := ry
    cases x with
    | non => cases rx; exact SeqAt.EqAt.int_none a t'
    | bl b => cases rx; exact SeqAt.EqAt.int_bool a t' b
    | int b => obtain ⟨t, rfl⟩ := rx; exact SeqAt.EqAt.int_int a t' b t
    | str b => obtain ⟨t, rfl⟩ := rx; exact SeqAt.EqAt.int_str a t' b t
    | _ => exact absurd (show false = true from fx) Bool.false_ne_true
  | str a =>
    obtain ⟨t', rfl⟩ := ry
    cases x with
    | non => cases rx; exact SeqAt.EqAt.str_none a t'
    | bl b => cases rx; exact SeqAt.EqAt.str_bool a t' b
    | int b => obtain ⟨t, rfl⟩ := rx; exact SeqAt.EqAt.str_int a t' b t
    | str b => obtain ⟨t, rfl⟩ := rx; exact SeqAt.EqAt.str_str a t' b t
    | _ => exact absurd (show false = true from fx) Bool.false_ne_true
  | _ => exact absurd (show false = true from fy) Bool.false_ne_true
noncomputable def eqU (x : V) (u : Value) : Bool := match u with
  | .none => eqV .non x
  | .bool b => eqV (.bl b) x
  | .int i _ => eqV (.int i) x
  | .str z _ => eqV (.str z) x
  | _ => false
theorem eqU_of {x y : V} {u : Value} (r : RelV y u) (f : flatV y = true) : eqU x u = eqV y x := by
  cases y with
  | non => cases r; rfl
  | bl b => cases r; rfl
  | int i => obtain ⟨t, rfl⟩ := r; rfl
  | str z => obtain ⟨t, rfl⟩ := r; rfl
  | _ => exact absurd (show false = true from f) Bool.false_ne_true
theorem any_eqU {x : V} {xs : List V} {us : List Value} (h : Vals xs us) (f : xs.all flatV = true) : us.any (eqU x) = xs.any fun y => eqV y x := by
  induction h with
  | nil => rfl
  | cons r t ih =>
    rw [List.all_cons, Bool.and_eq_true] at f
    rw [List.any_cons, List.any_cons, eqU_of r f.1, ih f.2]
theorem mem_eqAt {A : Around} {s : Shared} {x : V} {v : Value} (rx : RelV x v) (fx : flatV x = true) : ∀ {xs : List V} {us : List Value}, Vals xs us → xs.all flatV = true → ∀ u ∈ us, SeqAt.EqAt A s u v (eqU x u)
  | _, _, .nil, _ => fun u hu => by cases hu
  | y :: xs, u :: us, .cons r t, f => fun u' hu => by
    rw [List.all_cons, Bool.and_eq_true] at f
    rcases List.mem_cons.mp hu with rfl | hu
    · rw [eqU_of r f.1]; exact eqAt_V r rx f.1 fx
    · exact mem_eqAt rx fx t f.2 u' hu
noncomputable def inV (x : V) (xs : List V) : Bool := xs.any fun y => eqV y x
noncomputable def rIn (K : PySem.W.Frag) (neg : Bool) : R2 := fun x y H Q => ∃ p xs, y = .ref p ∧ (SqL K H p xs ∨ SqT K H p xs) ∧ flatV x = true ∧ xs.all flatV = true ∧ Q (.bl (if neg then !inV x xs else inV x xs)) H
theorem op_in_seq : OpR X (compareOp .In) (rIn X.K false) := by
  intro pins s σ H x y v u Q I rx ry h
  (refine εx2 h fun p xs c'1670 => εa5 c'1670 fun e'1669 hq fx fs q => ?_; (try clear h); clear c'1670; subst e'1669)
  cases ry
  rcases hq with hq | hq
  · (refine εx1 (I.list hq) fun its c'1671 => εa3 c'1671 fun r pl hz => ?_; clear c'1671)
    refine SeqAt.in_listAt (eqU x) pl.isList (fun w hw => mem_eqAt rx fx r fs w (by simpa using hw)) (ιEE (.bl _) H ⟨I, rfl, ?_⟩)
    rw [show its.toArray.any (eqU x) = its.any (eqU x) by simp, any_eqU r fs]
    exact q
  · (refine εx1 (I.tuple hq) fun its c'1672 => εa3 c'1672 fun r pl hz => ?_; clear c'1672)
    refine SeqAt.in_tupleAt (eqU x) pl (fun w hw => mem_eqAt rx fx r fs w (by simpa using hw)) (ιEE (.bl _) H ⟨I, rfl, ?_⟩)
    rw [show its.toArray.any (eqU x) = its.any (eqU x) by simp, any_eqU r fs]
    exact q
theorem call_len_seq : CallR X (.builtin "len") (fun xs H Q => ∃ p ys, xs = [.ref p] ∧ (SqL X.K H p ys ∨ SqT X.K H p ys) ∧ Q (.int ys.length) H) := by
  intro pins s σ H xs us Q I r h
  (refine εx2 h fun p ys c'1681 => εa3 c'1681 fun e'1680 hq q => ?_; (try clear h); clear c'1681; subst e'1680)
  obtain ⟨u, rfl, rx⟩ := vals1 r
  cases rx
  have hn := line63
  rcases hq with hq | hq
  · (refine εx1 (I.list hq) fun its c'1682 => εa3 c'1682 fun r' pl hz => ?_; clear c'1682)
    have hlen := r'.length
    exact Calls.call_len_list pl.isList (by simp only [List.size_toArray] <;> exact ω293 hn hz hlen) (ιEE (.int ys.length) H ⟨I.tok _, ⟨s.toks + 1, by rw [List.size_toArray, hlen]⟩, q⟩)
  · (refine εx1 (I.tuple hq) fun its c'1683 => εa3 c'1683 fun r' pl hz => ?_; clear c'1683)
    have hlen := r'.length
    exact len_tuple pl (by simp only [List.size_toArray] <;> exact ω293 hn hz hlen) (ιEE (.int ys.length) H ⟨I.tok _, ⟨s.toks + 1, by rw [List.size_toArray, hlen]⟩, q⟩)
theorem call_list_of : CallR X (.type "list") (fun xs H Q => ∃ p ys, xs = [.ref p] ∧ (SqL X.K H p ys ∨ SqT X.K H p ys) ∧ ∀ l, H l = none → Q (.ref l) (upd H l (.lst ys))) := by
  intro pins s σ H xs us Q I r h
  (refine εx2 h fun p ys c'1691 => εa3 c'1691 fun e'1690 hq q => ?_; (try clear h); clear c'1691; subst e'1690)
  obtain ⟨u, rfl, rx⟩ := vals1 r
  cases rx
  have fin : ∀ (its : List Value), Vals ys its → ys.length ≤ sizeLine → ∀ (h' : Heap) (c' : Nat), (∀ b o', s.heap.get? b = some o' → h'.get? b = some o') →
      h'.get? s.heap.objs.size = some { cls := .type "list", dict := none, data := .seq its.toArray c', slots := #[] } → EP X pins σ Q (.ref s.heap.objs.size) { s with heap := h' } := fun its r' hz h' c' kp e =>
    (ιEE (.ref s.heap.objs.size) _ ⟨I.laid (t' := s.toks) kp (Nat.le_refl _) (show ObjOk X.prog X.w _ h' _ (.lst ys) from ⟨hz, ιEE its c' ⟨r', e⟩⟩), rfl, q _ (I.hok.fresh (Nat.le_refl _))⟩)
  rcases hq with hq | hq
  · (refine εx1 (I.list hq) fun its c'1692 => εa3 c'1692 fun r' pl hz => ?_; clear c'1692)
    have hlen := r'.length
    (refine εx1 (pl.isList) fun o c'1693 => εa3 c'1693 fun ho hc c'1694 => εx1 c'1694 fun n hd => ?_; clear c'1693 c'1694)
    exact call_list_seq p (.inl rfl) ho hc hd (fun h' c' kp e => fin its r' hz h' c' kp e) (by simp only [List.size_toArray] <;> exact ω9 hz hlen)
  · (refine εx1 (I.tuple hq) fun its c'1695 => εa3 c'1695 fun r' pl hz => ?_; clear c'1695)
    have hlen := r'.length
    (refine εx1 pl fun o c'1696 => εa3 c'1696 fun ho hc c'1697 => εx1 c'1697 fun n hd => ?_; (try clear pl); clear c'1696 c'1697)
    exact call_list_seq p (.inr rfl) ho hc hd (fun h' c' kp e => fin its r' hz h' c' kp e) (by simp only [List.size_toArray] <;> exact ω9 hz hlen)
theorem call_tuple_of : CallR X (.type "tuple") (fun xs H Q => ∃ p ys, xs = [.ref p] ∧ ((SqL X.K H p ys ∧ ∀ l, H l = none → Q (.ref l) (upd H l (.tup ys))) ∨ (SqT X.K H p ys ∧ Q (.ref p) H))) := by
  intro pins s σ H xs us Q I r h
  (refine εx2 h fun p ys c'1699 => ?_; (try clear h); refine εa2 c'1699 fun e'1698 h => ?_; clear c'1699; subst e'1698)
  obtain ⟨u, rfl, rx⟩ := vals1 r
  cases rx
  rcases h with ⟨hq, q⟩ | ⟨hq, q⟩
  · (refine εx1 (I.list hq) fun its c'1700 => εa3 c'1700 fun r' pl hz => ?_; clear c'1700)
    have hlen := r'.length
    refine call_tuple_list pl.isList (fun h' kp => ?_) (by simp only [List.size_toArray] <;> exact ω9 hz hlen)
    have I1 : Inv X pins σ H { s with heap := h' } := I.kept (t' := s.toks) kp
    have I2 : Inv X pins σ (upd H h'.objs.size (.tup ys)) { s with heap := h'.push { cls := .type "tuple", data := .seq its.toArray } } :=
      I1.laid (t' := s.toks) (fun b o e => Heap.get?_push_of_some _ e) (Nat.le_refl _) (show ObjOk X.prog X.w _ _ _ (.tup ys) from ⟨hz, its, r', IsTup.new _ _⟩)
    exact (ιEE (.ref h'.objs.size) _ ⟨I2, rfl, q _ (I1.hok.fresh (Nat.le_refl _))⟩)
  · (refine εx1 (I.tuple hq) fun its c'1701 => εa3 c'1701 fun r' pl hz => ?_; clear c'1701)
    exact call_tuple_same pl (ιEE (.ref p) H ⟨I, rfl, q⟩)
noncomputable def tyV (K : PySem.W.Frag) (T : String) (x : V) (H : Hp) : Prop := match x with
  | .str _ => T = "str"
  | .int _ => T = "int"
  | .ref p => (T = "list" ∧ ∃ xs, SqL K H p xs) ∨ (T = "tuple" ∧ ∃ o, K.lookup p = some o ∧ o.cls = .type "tuple" ∧ o.dict = none) ∨
      (T = "dict" ∧ ((∃ kvs, H p = some (.dK kvs)) ∨ ∃ kvs, H p = some (.dT kvs))) ∨ (T = "set" ∧ ∃ S n, H p = some (.set S n))
  | _ => False
theorem tyV_is {pins : List (Addr × Obj)} {σ : St} {H : Hp} {s : Shared} {T : String} {x : V} {v : Value} (I : Inv X pins σ H s) (r : RelV x v) (ty : tyV X.K T x H) :
    s.TypeIs v T ∧ ∀ a, v = .ref a → ∃ ob, s.heap.get? a = some ob ∧ ob.dict = none := by
  cases x with
  | str z =>
    obtain ⟨t, rfl⟩ := r
    cases (show T = "str" from ty)
    exact ⟨typeIs_str s z t, fun _ e => nomatch e⟩
  | int i =>
    obtain ⟨t, rfl⟩ := r
    cases (show T = "int" from ty)
    exact ⟨typeIs_int s i t, fun _ e => nomatch e⟩
  | ref p =>
    cases r
    rcases ty with ⟨rfl, xs, hq⟩ | ⟨rfl, o, hk, hc, hd⟩ | ⟨rfl, hk⟩ | ⟨rfl, S, n, hk⟩
    · (refine εx1 (I.list hq) fun its c'1702 => εa3 c'1702 fun _ pl _ => ?_; clear c'1702)
      refine ⟨pl.isList.typeIs, fun a e => ?_⟩
      cases e
      (refine εx2 pl fun o n c'1703 => εa4 c'1703 fun e c hd _ => ?_; (try clear pl); clear c'1703)
      exact ⟨o, e, hd⟩
    · refine ⟨⟨o, I.kIn p o hk, hc⟩, fun a e => ?_⟩
      cases e
      exact ⟨o, I.kIn _ o hk, hd⟩
    · have z : ∃ o, s.heap.get? p = some o ∧ o.ExactDict := by
        rcases hk with ⟨kvs, hk⟩ | ⟨kvs, hk⟩
        · (refine εa3 (I.hok p _ hk) fun _ _ c'1704 => εx1 c'1704 fun _ c'1705 => εa2 c'1705 fun _ c'1706 => εx3 c'1706 fun o _ _ c'1707 => εa3 c'1707 fun e ex _ => ?_; clear c'1704 c'1705 c'1706 c'1707)
          exact ⟨o, e, ex⟩
        · (refine εa3 (I.hok p _ hk) fun _ _ c'1708 => εx1 c'1708 fun _ c'1709 => εa2 c'1709 fun _ c'1710 => εx3 c'1710 fun o _ _ c'1711 => εa3 c'1711 fun e ex _ => ?_; clear c'1708 c'1709 c'1710 c'1711)
          exact ⟨o, e, ex⟩
      obtain ⟨o, e, ex⟩ := z
      refine ⟨⟨o, e, ex.1⟩, fun a e2 => ?_⟩
      cases e2
      exact ⟨o, e, ex.2.1⟩
    · (refine εx4 (I.hok p _ hk) fun o _ _ _ c'1712 => εa3 c'1712 fun e ex _ => ?_; clear c'1712)
      refine ⟨⟨o, e, ex.1⟩, fun a e2 => ?_⟩
      cases e2
      exact ⟨o, e, ex.2.1⟩
  | _ => exact False.elim ty
noncomputable def tBM (K : PySem.W.Frag) (T : String) (r : V → List V → Hp → VK → Prop) (to : TE) (t : TA) : TE := fun σ H Q => to σ H fun x H1 => tyV K T x H1 ∧ t σ H1 fun xs H2 => r x xs H2 Q
variable {o e : Expr} {es : List Expr} {to : TE} {t : TA} {name : Str} {apos cpos : Pos} {T id : String} {r : V → List V → Hp → VK → Prop}
theorem pe_bm (pa : PlainAttrs T) (slot : Slot T name id) (hty : typeOf (.builtin id) = pure (.type "method_descriptor")) (hm : MtR X id r) (ho : PE X o to) (ha : PA X (e :: es) t)
    (hbase : attributeBase o name X.env (eval o X.env) = eval o X.env := by rfl)
    (hfew : ((backTo cpos (starEach (e :: es) X.env)).all (fun x => !x.1) && (backToKw cpos (keywordEach [] X.env)).all (fun x => x.1.isSome)
      && decide ((e :: es).length + ([] : List Keyword).length + (if ([] : List Keyword).isEmpty then 0 else 1) < 30)) = true := by rfl)
    (hline : (apos.endLine == cpos.line) = true := by rfl) (hs : starEach (e :: es) X.env = (false, eval e X.env) :: starEach es X.env := by rfl) (hplain : (backTo cpos (starEach es X.env)).any (·.1) = false := by rfl) :
    PE X (.Call (.Attribute o name apos) (e :: es) [] cpos) (tBM X.K T r to t) := by
  intro pins s σ H Q I h
  refine wpAny_Call_method_late hbase hfew hline rfl (thn (ho pins s σ H _ I h) fun v s1 z'302 => εx2 z'302 fun x H1 m'303 => εa4 m'303 fun I1 r1 ty q1 => ?_)
  obtain ⟨h1, h2⟩ := tyV_is I1 r1 ty
  refine (ιEE T id ⟨pa, slot, hty, h1, h2, ?_⟩)
  have hA := ha cpos pins s1 σ H1 _ I1 q1
  rw [hs] at hA ⊢
  refine Calls.callWith_builtin (by show (false || (backTo cpos (starEach es X.env)).any (·.1)) = false; rw [hplain] <;> rfl) (Calls.evalArgs_plain ?_)
  exact thn hA fun us s2 z'304 => εx2 z'304 fun vs H2 m'305 => εa3 m'305 fun I2 r2 q2 => hm pins s2 σ H2 x vs v us Q I2 r1 r2 q2
end
end L2
namespace L2
open PySem PySem.Spec PyProof.Rows
noncomputable def MtM (X : Cx) (id : String) (r : V → List V → Hp → VK → Prop) : Prop :=
  ∀ (pins : List (Addr × Obj)) (s : Shared) (σ : St) (H : Hp) (x : V) (xs : List V) (v : Value) (us : List Value) (Q : VK), Inv X pins σ H s → RelV x v → Vals xs us → r x xs H Q →
    wpAny (model X.prog X.w) X.A (call (.builtin id) (v :: us)) (EP X pins σ Q) X.xe s
theorem Vals.un {x : V} {xs : List V} {us : List Value} (h : Vals (x :: xs) us) : ∃ u r, us = u :: r ∧ RelV x u ∧ Vals xs r := by
  cases h with
  | cons r t => exact ⟨_, _, rfl, r, t⟩
theorem Vals.zer {us : List Value} (h : Vals [] us) : us = [] := by cases h; rfl
theorem Vals.one {x : V} {us : List Value} (h : Vals [x] us) : ∃ u, us = [u] ∧ RelV x u := by
  obtain ⟨u, r, rfl, a, t⟩ := h.un
  rw [t.zer]
  exact ⟨u, rfl, a⟩
theorem Vals.two {x y : V} {us : List Value} (h : Vals [x, y] us) : ∃ u v, us = [u, v] ∧ RelV x u ∧ RelV y v := by
  obtain ⟨u, r, rfl, a, t⟩ := h.un
  obtain ⟨v, rfl, b⟩ := t.one
  exact ⟨u, v, rfl, a, b⟩
section
variable {X : Cx} {pins : List (Addr × Obj)} {σ : St} {H : Hp} {s : Shared} {l b : Addr} {xs ys zs : List V}
theorem Inv.lset {its its' : List Value} {n : Nat} {f : Array Value → Array Value} {t' : Nat} (I : Inv X pins σ H s) (hH : H l = some (.lst xs))
    (e : s.heap.get? l = some { cls := .type "list", data := .seq its.toArray n }) (hf : f its.toArray = its'.toArray) (hv : Vals ys its') (hz : ys.length ≤ sizeLine) :
    Inv X pins σ (upd H l (.lst ys)) { s with heap := s.heap.update l (Obj.mapSeq f), toks := t' } := by
  have q := PySem.IsL.update e f
  rw [hf] at q
  refine I.write (x := l) (e := l) (by rw [hH]; exact trivial) (.inl rfl) (fun b' u hb hu => (Heap.get?_update_other s.heap (Obj.mapSeq f) (Ne.symm hb)).trans hu) ⟨_, q⟩ ?_
  exact ⟨hz, ιEE its' _ ⟨hv, q⟩⟩
theorem Inv.lnew {its : List Value} {t' : Nat} (I : Inv X pins σ H s) (hv : Vals ys its) (hz : ys.length ≤ sizeLine) :
    Inv X pins σ (upd H s.heap.objs.size (.lst ys)) { s with heap := s.heap.push { cls := .type "list", data := .seq its.toArray }, toks := t' } :=
  I.laid (fun _ _ q => Heap.get?_push_of_some _ q) (Nat.le_refl _) ⟨hz, ιEE its 0 ⟨hv, Heap.get?_push_size _ rfl⟩⟩
theorem Inv.fresh (I : Inv X pins σ H s) : H s.heap.objs.size = none := I.hok.fresh (Nat.le_refl _)
theorem Inv.lstM (I : Inv X pins σ H s) (hH : H l = some (.lst xs)) : xs.length ≤ sizeLine ∧ ∃ (its : List Value) (n : Nat), Vals xs its ∧ xs.length = its.length ∧ s.heap.get? l = some { cls := .type "list", data := .seq its.toArray n } := by
  (refine εa2 (I.hok l _ hH) fun z c'1713 => εx2 c'1713 fun its n c'1714 => εa2 c'1714 fun r e => ?_; clear c'1713 c'1714)
  exact ⟨z, ιEE its n ⟨r, r.length, e⟩⟩
theorem notLongL {n : Nat} (h : n ≤ sizeLine) : Builtin.List.listTooLong n = false := by
  unfold Builtin.List.listTooLong
  exact decide_eq_false (by exact ω537 h)
end
section
variable {X : Cx}
noncomputable def rAppend : V → List V → Hp → VK → Prop := fun x vs H Q => ∃ l xs y, x = .ref l ∧ vs = [y] ∧ H l = some (.lst xs) ∧ xs.length < sizeLine ∧ Q .non (upd H l (.lst (xs ++ [y])))
theorem mt_append : MtM X "list.append" rAppend := by
  intro pins s σ H x vs v us Q I rx rv h
  (refine εx3 h fun l xs y c'1717 => εa5 c'1717 fun e'1715 e'1716 hH hz q => ?_; (try clear h); clear c'1717; subst e'1715; subst e'1716)
  cases rx
  obtain ⟨u, rfl, ru⟩ := rv.one
  (refine εa2 (I.lstM hH) fun z c'1718 => εx2 c'1718 fun its n c'1719 => εa3 c'1719 fun r hl e => ?_; clear c'1718 c'1719)
  refine call_meets F.slot_list_append ⟨_, e, rfl⟩ F.entry_list_append (F.args_list_append_2 _ _) (PySem.list_append l its.toArray n u (by rw [List.size_toArray]; exact ω9 z hl)) ⟨e, ?_⟩
  refine (ιEE .non _ ⟨I.lset (its' := its ++ [u]) hH e (by simp) (r.append (.cons ru .nil)) ?_, rfl, q⟩)
  rw [List.length_append, List.length_singleton]
  exact ω270 hz
noncomputable def rExtend : V → List V → Hp → VK → Prop := fun x vs H Q => ∃ l b xs zs, x = .ref l ∧ vs = [.ref b] ∧ H l = some (.lst xs) ∧ H b = some (.lst zs) ∧ xs.length + zs.length ≤ sizeLine ∧ Q .non (upd H l (.lst (xs ++ zs)))
theorem mt_extend : MtM X "list.extend" rExtend := by
  intro pins s σ H x vs v us Q I rx rv h
  (refine εx4 h fun l b xs zs c'1722 => εa6 c'1722 fun e'1720 e'1721 hH hB hz q => ?_; (try clear h); clear c'1722; subst e'1720; subst e'1721)
  cases rx
  obtain ⟨u, rfl, ru⟩ := rv.one
  cases ru
  (refine εa2 (I.lstM hH) fun z c'1723 => εx2 c'1723 fun its n c'1724 => εa3 c'1724 fun r hl e => ?_; clear c'1723 c'1724)
  (refine εa2 (I.lstM hB) fun z2 c'1725 => εx2 c'1725 fun its2 n2 c'1726 => εa3 c'1726 fun r2 hl2 e2 => ?_; clear c'1725 c'1726)
  have hsz : its.toArray.size + its2.toArray.size ≤ sizeLine := by rw [List.size_toArray, List.size_toArray]; exact ω79 hz hl hl2
  have hlong : ¬ (!its.toArray.isEmpty && Builtin.List.listTooLong (its.toArray.size + its2.toArray.size)) = true := by
    rw [notLongL hsz, Bool.and_false]
    exact Bool.false_ne_true
  refine call_meets F.slot_list_extend ⟨_, e, rfl⟩ F.entry_list_extend (F.args_list_extend_2 _ _)
    (AutoSeq1.list_extend_list_list_0 l its.toArray n b its2.toArray n2 hlong (by rw [List.size_toArray]; exact ω9 z hl) (by exact ω281 hsz)) ⟨e, e2, ?_⟩
  refine (ιEE .non _ ⟨I.lset (its' := its ++ its2) hH e (by simp) (r.append r2) ?_, rfl, q⟩)
  rw [List.length_append]
  exact ω169 hz
noncomputable def rCat : R2 := fun x y H Q => ∃ l b xs zs, x = .ref l ∧ y = .ref b ∧ H l = some (.lst xs) ∧ H b = some (.lst zs) ∧ xs.length + zs.length ≤ sizeLine ∧ ∀ p, H p = none → Q (.ref p) (upd H p (.lst (xs ++ zs)))
theorem op_cat : OpR X (binaryOp .Add) rCat := by
  intro pins s σ H x y v u Q I rx ry h
  (refine εx4 h fun l b xs zs c'1749 => εa6 c'1749 fun e'1747 e'1748 hH hB hz q => ?_; (try clear h); clear c'1749; subst e'1747; subst e'1748)
  cases rx
  cases ry
  (refine εa2 (I.lstM hH) fun z c'1750 => εx2 c'1750 fun its n c'1751 => εa3 c'1751 fun r hl e => ?_; clear c'1750 c'1751)
  (refine εa2 (I.lstM hB) fun z2 c'1752 => εx2 c'1752 fun its2 n2 c'1753 => εa3 c'1753 fun r2 hl2 e2 => ?_; clear c'1752 c'1753)
  refine PySem.P.add_list e e2 ?_ (by rw [List.size_toArray, List.size_toArray]; exact ω79 hz hl hl2)
  have ea : its.toArray ++ its2.toArray = (its ++ its2).toArray := by simp
  rw [ea]
  exact (ιEE (.ref _) _ ⟨I.lnew (t' := s.toks) (r.append r2) (by rw [List.length_append]; exact ω169 hz), rfl, q _ I.fresh⟩)
end
section
variable {prog : Program} {w : World} {A : Around} {E : Value → Shared → Prop} {s : Shared}
end
section
variable {X : Cx}
end
end L2
namespace Att
open PySem PySem.W PySem.Calls PyProof.Rows
theorem ints_of_wellAll {P : Params} {h : Heap} : ∀ (ns : List Int) (vs : List Value), WellAll P h vs (ns.map WData.int) → IntsAre vs ns := by
  intro ns
  induction ns with
  | nil =>
    intro vs w
    rw [List.map_nil] at w
    cases w
    exact .nil
  | cons n ns ih =>
    intro vs w
    rw [List.map_cons] at w
    cases w with
    | cons a b =>
      cases a
      exact .cons _ _ (ih _ b)
theorem script_of {l : OpenLaw} {n : Nat} (hn : l.most = some n) {P : Params} {h : Heap} {args : List WData} {vals : List Value}
    (hpre : l.row.toRowW.claim.pre args = true) (hwl : WellAll P h vals args) :
    ∃ a vs ns, vals = [Value.ref a] ∧ args = [WData.list (ns.map WData.int)] ∧ h.get? a = some { cls := .type "list", data := .seq vs.toArray } ∧ IntsAre vs ns ∧ ns.length ≤ n := by
  have hsh : WShape.hasAll [] args [.list .int] = true := (pre_splitW hpre).1
  have hc : l.pre.holds [] { args := args } = true := (pre_splitW hpre).2
  (refine εx2 (hasAllW_cons hsh) fun d r c'1767 => εa3 c'1767 fun e'1766 h1 h2 => ?_; clear c'1767; subst e'1766)
  obtain rfl := hasAllW_nil h2
  obtain ⟨xs, rfl, h3⟩ := hasW_list h1
  obtain ⟨ns, rfl⟩ := items_int h3
  have hlen : ns.length ≤ n := by
    unfold OpenLaw.pre at hc
    have h4 : (WTm.not (.lt (.lit (.int (n : Int))) (.len (.arg 0)))).holds [] { args := [.list (ns.map .int)] } = true := by
      have h4 := (holds_andW hc).1
      rw [hn] at h4
      exact h4
    have h5 := condW_of h4 (w_not (w_lt w_lit (w_len_list (w_arg rfl))))
    rw [List.length_map] at h5
    refine Nat.le_of_not_lt fun q => ?_
    have q' : (n : Int) < ((ns.length : Nat) : Int) := by exact ω30 q
    first
      | (rw [decide_eq_true q'] at h5; exact absurd h5 (by decide))
      | (simp at h5; omega)
  cases hwl with
  | cons w1 w2 =>
    cases w2
    cases w1 with
    | list ho hall => exact (ιEEE _ _ ns ⟨rfl, rfl, ho, ints_of_wellAll ns _ hall, hlen⟩)
theorem post_true (l : OpenLaw) (args : List WData) : l.row.toRowW.claim.post args (.bool true) args = true :=
  postW_of (r := l.row.toRowW) (X := (true == true))
    (show WShape.has [] (.bool true) .bool = true by first | rfl | decide | simp [WShape.has, WShape.arms, WShape.armsAll])
    (show (WTm.eq .res (.lit (.bool true))).value [] { args := args, res := some (.bool true), after := args } = some (.bool (true == true)) from w_eq_bool (w_res rfl) w_lit) rfl
theorem attach_call {l : OpenLaw} {n : Nat} {q : Program} {loose : List Str} {XP : (Str → Option Value) → Heap → Prop} {YP : World → Heap → Prop} {d : DefRec}
    (hn : l.most = some n) (hdf : d.params.defaults = [])
    (call : ∀ (w : World) (s₀ s₁ : Shared) (mg mb : Str → Option Value) (fa : Addr) (o : Obj) (pm cd doc : Value) (a : Addr) (vs : List Value) (ns : List Int),
      Ground q loose [] XP w s₀ mg mb s₁.heap → YP w s₁.heap →
      s₁.heap.get? fa = some o → o.data = .func (docDef d.name d.params d.body d.scope pm cd doc) → s₁.heap.CodeRec cd d.name → mg d.name = some (.ref fa) →
      s₁.heap.get? a = some { cls := .type "list", data := .seq vs.toArray } → IntsAre vs ns → ns.length ≤ n → s₁.gens = #[] →
      codeAny (model l.prog w) callerA (.call (.ref fa) ⟨[.ref a], []⟩) (fun r s' => r = .ok (.ret (.bool true)) ∧ OldK s₁.heap s'.heap ∧ s'.os = s₁.os ∧ AllBare s'.gens) s₁) :
    WalkO q loose XP YP l.row.toRowW d [] (fun f vs => PySem.call f vs) := by
  intro w s₀ s₁ mg mb G Y fa o pm cd doc dV kV ho hd hcd hD hmg hg args vals as hpre hlay hrd hwl hlo
  obtain rfl : dV = .none := Dflts.none hD hdf
  obtain rfl : kV = .none := Dflts.noKw hD
  (refine εx3 (script_of hn hpre hwl) fun a vs ns c'1774 => εa5 c'1774 fun e'1772 e'1773 hobj hints hlen => ?_; clear c'1774; subst e'1772; subst e'1773)
  refine enter_call (codeAny_mono (call w s₀ s₁ mg mb fa o pm cd doc a vs ns G Y ho (fd_plain hd) hcd hmg hobj hints hlen hg) fun r s' hq => ?_)
  (refine εa4 hq fun e'1775 h2 h3 h4 => ?_; (try clear hq); subst e'1775)
  exact ⟨.inl (ιEEE (.bool true) (.bool true) ([]) ⟨rfl, fun _ => rfl, .bool true, post_true l _, fun _ => ⟨List.Pairwise.nil, fun _ hm => (nomatch hm)⟩⟩), h2, h3, h4⟩
section
variable {prog : Program} {w : World} {A : Around} {E : Value → Shared → Prop} {s : Shared} {K : Frag}
end
end Att
namespace L2
open PySem PySem.Spec PyProof.Rows
theorem vals_ints {vs : List Value} {ns : List Int} (h : IntsAre vs ns) : Vals (ns.map V.int) vs := by
  induction h with
  | nil => exact .nil
  | cons n t h ih => exact .cons ⟨t, rfl⟩ ih
noncomputable def Only (H : Hp) : Prop := ∀ b, H b = none ∨ ∃ o xs, H b = some (.frz o (.lst xs))
theorem law_call {P : Program} {w : World} {K : PySem.W.Frag} {mg mb : Str → Option Value} {CX : CXT} {k : Nat} {fa a : Addr} {fd : FuncData} {x : Str} {sp : Sp} {s₁ : Shared} {vs : List Value} {ns : List Int}
    (KX : K.In s₁.heap) (hns : s₁.heap.Ns mainGlobals mg) (hb : s₁.heap.Ns builtinsNs mb) (hbb : ∀ x : Str, x ≠ "__name__" → mb x = bootBuiltins x) (hlim : s₁.heap.NoLimit) (hg : s₁.gens = #[])
    (ha : s₁.heap.get? a = some { cls := .type "list", data := .seq vs.toArray }) (hi : IntsAre vs ns) (hl : ns.length ≤ sizeLine) (hr : Room k callerA)
    (F : ∀ base : Heap, K.In base → base.Ns mainGlobals mg → FnOk P w K mg base CX k fa fd [x] sp) (hbind : ∀ (s : Shared) (u : Value), BindsTo s fd ⟨[u], []⟩ [(x, u)])
    (hsp : ∀ H : Hp, Only H → SqL K H a (ns.map V.int) → sp [.ref a] H (fun v _ => v = .bl true) fun _ _ _ => False)
    (hCX : ∀ H e s', CX [] H s₁ (fun _ _ _ => False) e s' → False) :
    codeAny (model P w) callerA (.call (.ref fa) ⟨[.ref a], []⟩) (fun r s' => r = .ok (.ret (.bool true)) ∧ OldK s₁.heap s'.heap ∧ s'.os = s₁.os ∧ AllBare s'.gens) s₁ := by
  have rv := vals_ints hi
  have lenV := hi.length
  have core : ∀ H : Hp, Only H → SqL K H a (ns.map V.int) → HOk P w H s₁.heap → (∀ b, H b ≠ none → b = a) → (H a ≠ none → K.lookup a = none) →
      codeAny (model P w) callerA (.call (.ref fa) ⟨[.ref a], []⟩) (fun r s' => r = .ok (.ret (.bool true)) ∧ OldK s₁.heap s'.heap ∧ s'.os = s₁.os ∧ AllBare s'.gens) s₁ := by
    intro H hO hS hok hA hK
    have base_of : ∀ {b : Addr} {o : Obj}, s₁.heap.get? b = some o → H b = none → (hidT s₁.heap H).get? b = some o := fun e n => hidT_get e n
    have noA : ∀ {b : Addr} {o : Obj} {es : Array DictEntry} {ep : Nat}, s₁.heap.get? b = some o → o.data = .dict es ep → H b = none := fun {b o es ep} e d => by
      cases q : H b with
      | none => rfl
      | some u =>
        have e' : b = a := hA b (by rw [q]; simp)
        subst e'
        rw [ha] at e; cases e
        have d' : Data.seq vs.toArray _ = Data.dict es ep := d
        cases d'
    have nsK : ∀ {b : Addr} {m : Str → Option Value}, s₁.heap.Ns b m → (hidT s₁.heap H).Ns b m := fun {b m} ⟨o, es, ep, e, d, r⟩ => (ιEEE o es ep ⟨base_of e (noA e d), d, r⟩)
    have hKb : K.In (hidT s₁.heap H) := fun b o e => base_of (KX b o e) (by
      cases q : H b with
      | none => rfl
      | some u =>
        have e' : b = a := hA b (by rw [q]; simp)
        subst e'
        rw [hK (by rw [q]; simp)] at e; cases e)
    have hM : Mod K mg (hidT s₁.heap H) := ⟨hKb, nsK hns, ⟨mb, nsK hb, hbb⟩, let ⟨mc, h1, h2⟩ := hlim; ⟨mc, nsK h1, h2⟩⟩
    have e0 : Env0 P w K mg (hidT s₁.heap H) callerA [] s₁ H := ⟨rfl, hM, fun b o e => of_hidT e, Nat.le_of_eq (hidT_size _ _), trivial, fun b hb => absurd (show b ∈ ([] : List Addr) from hb) (by simp), hok, .of_eq hg⟩
    refine codeAny_mono ((F _ hKb (nsK hns)).run callerA [] s₁ H ⟨[.ref a], []⟩ [.ref a] [.ref a] _ _ hr e0 (hbind s₁ (.ref a)) (.cons rfl .nil) (hsp H hO hS)) fun r s' h => ?_
    cases r with
    | error e => exact (hCX H e s' h).elim
    | ok fl =>
      cases fl with
      | next => exact False.elim h
      | brk => exact False.elim h
      | cont => exact False.elim h
      | ret u =>
        (refine εx2 h fun v H' c'1782 => εa6 c'1782 fun os bare un hok' r' q => ?_; (try clear h); clear c'1782)
        have q' : v = .bl true := q
        subst q'
        obtain rfl : u = Value.bool true := r'
        refine ⟨rfl, OldK.of_keep fun b o e => ?_, os, bare⟩
        cases q : H b with
        | none => exact un.keep b o e q (by intro z; exact absurd (show b ∈ ([] : List Addr) from z) (by simp)) (by simp)
        | some u =>
          rcases hO b with z | ⟨ob, xs, z⟩
          · rw [q] at z; cases z
          · have z2 := un.frzs b ob _ z
            obtain ⟨e1, _⟩ := hok b _ z
            obtain ⟨e2, _⟩ := hok' b _ z2
            rw [e] at e1; cases e1
            exact e2
  cases hk : K.lookup a with
  | some o =>
    have e := KX a o hk
    rw [ha] at e
    cases e
    refine core (fun _ => none) (fun _ => .inl rfl) (.inr (ιEEE _ vs.toArray _ ⟨hk, rfl, rfl, rfl, by rw [List.size_toArray, lenV]; exact hl, by simpa using rv⟩)) (fun b u z => by have z' : (none : Option HO) = some u := z; cases z') (fun b z => absurd rfl z) fun z => absurd rfl z
  | none =>
    refine core (fun b => if b = a then some (.frz { cls := .type "list", data := .seq vs.toArray } (.lst (ns.map V.int))) else none) (fun b => ?_) (.inl (.inr ⟨{ cls := .type "list", data := .seq vs.toArray }, if_pos rfl⟩)) (fun b u z => ?_) (fun b z => ?_) fun _ => hk
    · by_cases hb : b = a
      · exact .inr ⟨_, _, if_pos hb⟩
      · exact .inl (if_neg hb)
    · by_cases hb : b = a
      · have z' := (if_pos hb).symm.trans z
        cases z'
        subst hb
        exact ⟨ha, by rw [List.length_map]; exact hl, ιEE vs _ ⟨rv, ha⟩⟩
      · have z' := (if_neg hb).symm.trans z
        cases z'
    · by_cases hb : b = a
      · exact hb
      · exact absurd (if_neg hb) z
end L2
namespace L2
open PySem PySem.Spec PyProof.Rows
theorem walk_of {l : PySem.W.OpenLaw} {n k : Nat} {q : Program} {loose : List Str} {XP : (Str → Option Value) → Heap → Prop} {YP : World → Heap → Prop} {d : DefRec} {K : Params → PySem.W.Frag} {CX : World → CXT} {sp : World → Sp} {x : Str}
    (hn : l.most = some n) (hn2 : n ≤ sizeLine) (hdf : d.params.defaults = []) (hr : Room k callerA)
    (hY : ∀ (w : World) (h : Heap), YP w h → (K w.params).In h)
    (F : ∀ (w : World) (mg : Str → Option Value) (fa : Addr) (h : Heap), (K w.params).In h → h.Ns mainGlobals mg → mg d.name = some (.ref fa) →
      ∃ fd : FuncData, (∀ (s : Shared) (u : Value), BindsTo s fd ⟨[u], []⟩ [(x, u)]) ∧
        ∀ base : Heap, (K w.params).In base → base.Ns mainGlobals mg → FnOk l.prog w (K w.params) mg base (CX w) k fa fd [x] (sp w))
    (hsp : ∀ (w : World) (H : Hp) (a : Addr) (ns : List Int), ns.length ≤ n → Only H → SqL (K w.params) H a (ns.map V.int) → sp w [.ref a] H (fun v _ => v = .bl true) fun _ _ _ => False)
    (hCX : ∀ (w : World) (H : Hp) (s : Shared) (e : Value) (s' : Shared), CX w [] H s (fun _ _ _ => False) e s' → False) :
    PySem.W.WalkO q loose XP YP l.row.toRowW d [] (fun f vs => PySem.call f vs) := by
  refine Att.attach_call hn hdf fun w s₀ s₁ mg mb fa o pm cd doc a vs ns G Y ho hd hcd hmg hobj hints hlen hg => ?_
  have KX := hY w _ Y
  obtain ⟨fd, hb, hF⟩ := F w mg fa _ KX G.T.g hmg
  exact law_call KX G.T.g G.T.b G.T.builtins G.T.nolimit hg hobj hints (Nat.le_trans hlen hn2) hr hF hb (fun H hO hS => hsp w H a ns hlen hO hS) fun H e s' => hCX w H s₁ e s'
end L2
namespace L2
open PySem PySem.Spec PyProof.Rows
noncomputable def defArgs (s : Stmt) : Arguments := match s with
  | .FunctionDef _ a _ _ _ _ _ _ _ _ => a
  | _ => { posonlyargs := [], args := [], vararg := none, kwonlyargs := [], kw_defaults := [], kwarg := none, defaults := [] }
noncomputable def defBody (s : Stmt) : List Stmt := match s with
  | .FunctionDef _ _ b _ _ _ _ _ _ _ => b
  | _ => []
noncomputable def defScope (s : Stmt) : Scope := match s with
  | .FunctionDef _ _ _ _ _ _ sc _ _ _ => sc
  | _ => { kind := .function, names := [], isGenerator := false, isCoroutine := false }
abbrev CX0 : CXT := fun _ _ _ _ _ _ => False
abbrev E0 : XK := fun _ _ _ => False
theorem pass0 {X : Cx} : Passes CX0 X E0 := fun _ _ _ _ _ _ _ h => h.elim
structure Fun (K : PySem.W.Frag) (x qual : Str) (st : Stmt) (f : Addr) (fd : FuncData) : Prop where
  ex : ∃ (oc : Value) (od : Option Addr) (kV doc pm : Value) (an : Option Addr) (cdv ct : Value) (osl : Array (Option Value)),
    fd = PySem.W.fnOf x qual (defArgs st) (defBody st) (defScope st) .none kV doc pm an cdv ct ∧ K.lookup f = some ⟨oc, od, .func fd, osl⟩ ∧ PySem.W.codeIn K cdv qual = true
  kp : PySem.W.keepIn K (.ref f) = true
section
variable {P : Program} {w : World} {K : PySem.W.Frag} {mg : Str → Option Value} {base : Heap}
theorem Fun.ok {x qual : Str} {st : Stmt} {f : Addr} {fd : FuncData} {N ps : List Str} {k : Nat} {sp : Sp} (F : Fun K x qual st f fd) (S : FnScope N ps (defScope st)) (len : ∀ vs H Q E, sp vs H Q E → vs.length = ps.length)
    (hbody : ∀ (cdv : Value) (A : Around) (outer : List Env) (s : Shared) (H : Hp) (vs : List V) (Q : VK) (E : XK), Room k (A.deeper (envOfC qual (defScope st) s.heap.objs.size f cdv)) → sp vs H Q E →
      ∃ t, PSs (cxOf CX0 P w K mg base N qual (defScope st) f cdv A outer s H E).nox (defBody st) t ∧ t { nx := fun _ H' => Q .non H', rt := Q } (start N vs) H) : FnOk P w K mg base CX0 (k + 1) f fd ps sp := by
  (refine εx5 (F.ex) fun oc od kV doc pm c'1784 => εx4 c'1784 fun an cdv ct osl c'1785 => εa3 c'1785 fun e'1783 lk hcd => ?_; clear c'1784 c'1785; subst e'1783)
  refine fn_of lk hcd S len fun A outer s H vs Q E hr hsp => ?_
  obtain ⟨t, h, q⟩ := hbody cdv A outer s H vs Q E hr hsp
  exact ⟨t, h.nox, q⟩
theorem Fun.binds {x qual : Str} {st : Stmt} {f : Addr} {fd : FuncData} {ps : List Str} (F : Fun K x qual st f fd)
    (h : ∀ (kV doc pm : Value) (an : Option Addr) (cdv ct : Value) (us : List Value), us.length = ps.length → bindArgs (PySem.W.fnOf x qual (defArgs st) (defBody st) (defScope st) .none kV doc pm an cdv ct) ⟨us, []⟩ = pure (ps.zip us)) : Binds K fd ps [] := by
  (refine εx5 (F.ex) fun oc od kV doc pm c'1787 => εx4 c'1787 fun an cdv ct osl c'1788 => εa3 c'1788 fun e'1786 lk hcd => ?_; clear c'1787 c'1788; subst e'1786)
  exact .all (h kV doc pm an cdv ct)
theorem fun_mk {x qual : Str} {st : Stmt} {f : Addr} {oc : Value} {od an : Option Addr} {osl : Array (Option Value)} {kV doc pm cdv ct : Value} (l : K.lookup f = some ⟨oc, od, .func (PySem.W.fnOf x qual (defArgs st) (defBody st) (defScope st) .none kV doc pm an cdv ct), osl⟩)
    (c : PySem.W.codeIn K cdv qual = true) (k : PySem.W.keepIn K (.ref f) = true) : Fun K x qual st f (PySem.W.fnOf x qual (defArgs st) (defBody st) (defScope st) .none kV doc pm an cdv ct) := ⟨(ιEEEE oc od kV doc (ιEEEE pm an cdv ct ⟨osl, rfl, l, c⟩)), k⟩
end
theorem hu_of {A : Around} {k : Nat} (hr : Room k A) : A.units + 1 < cLine := Nat.lt_of_le_of_lt (Nat.add_le_add_left (by decide : 1 ≤ 64) _) hr.units
section
variable {X : Cx}
theorem pv (i : Nat) {x : Str} {pos : Pos} (hN : X.N[i]? = some x := by rfl) (hv : Vis X.env.scope x := by array_get_dec) (hd : (x == ("__debug__" : Str)) = false := by decide)
    (hcd : (x == ("__classdict__" : Str)) = false := by decide) : PE X (.Name x pos) (tVar i) := pe_var hN hv hd hcd
end
theorem iteF {A B : Prop} (h : B) : if false = true then A else B := by
  rw [if_neg Bool.false_ne_true]
  exact h
theorem iteT {A B : Prop} (h : A) : if true = true then A else B := by
  rw [if_pos rfl]
  exact h
theorem ite2 {c A B : Prop} [Decidable c] (h1 : c → A) (h2 : ¬ c → B) : if c then A else B := by
  by_cases h : c
  · rw [if_pos h]
    exact h1 h
  · rw [if_neg h]
    exact h2 h
theorem iteNS {c A B : Prop} [Decidable c] (hc : c) (h : B) : if (!decide c) = true then A else B := by
  rw [decide_eq_true hc]
  exact iteF h
noncomputable def Same (H H' : Hp) : Prop := ∀ b o, H b = some o → H' b = some o
theorem Same.refl (H : Hp) : Same H H := fun _ _ h => h
theorem Same.trans {H H1 H2 : Hp} (a : Same H H1) (b : Same H1 H2) : Same H H2 := fun c o h => b c o (a c o h)
theorem Same.free {H H' : Hp} (e : Same H H') {l : Addr} (h : H' l = Option.none) : H l = Option.none := by
  cases q : H l with
  | none => rfl
  | some o =>
    rw [e l o q] at h
    cases h
theorem Same.seq {K : PySem.W.Frag} {H H' : Hp} {a : Addr} {xs : List V} (e : Same H H') (h : SqL K H a xs) : SqL K H' a xs := by
  rcases h with (h | ⟨o, h⟩) | h
  · exact .inl (.inl (e _ _ h))
  · exact .inl (.inr ⟨o, e _ _ h⟩)
  · exact .inr h
end L2
namespace L2
open PySem PySem.Spec PyProof.Rows
section
variable {κ : Type} [DecidableEq κ]
noncomputable def valV (kvs : List (κ × V)) (k : κ) : Option V := (kvs.find? fun kv => decide (kv.1 = k)).map (·.2)
noncomputable def putK (kvs : List (κ × V)) (k : κ) (v : V) : List (κ × V) :=
  if (kvs.any fun kv => decide (kv.1 = k)) = true then kvs.map (fun kv => if kv.1 = k then (kv.1, v) else kv) else kvs ++ [(k, v)]
theorem valV_pos {p : κ × V} {r : List (κ × V)} {k : κ} (e : p.1 = k) : valV (p :: r) k = some p.2 := by simp [valV, List.find?_cons, e]
theorem valV_neg {p : κ × V} {r : List (κ × V)} {k : κ} (e : ¬ p.1 = k) : valV (p :: r) k = valV r k := by simp [valV, List.find?_cons, e]
theorem valV_any (k : κ) : ∀ kvs : List (κ × V), (kvs.any fun kv => decide (kv.1 = k)) = (valV kvs k).isSome
  | [] => rfl
  | p :: r => by
    rw [List.any_cons]
    by_cases e : p.1 = k
    · simp only [valV_pos e, decide_eq_true e, Bool.true_or, Option.isSome_some]
    · rw [valV_neg e, decide_eq_false e, Bool.false_or]; exact valV_any k r
theorem valV_map (k j : κ) (y : V) : ∀ kvs : List (κ × V), valV (kvs.map fun kv => if kv.1 = k then (kv.1, y) else kv) j = (valV kvs j).map fun x => if j = k then y else x
  | [] => rfl
  | p :: r => by
    have ih := valV_map k j y r
    rw [List.map_cons]
    by_cases h : p.1 = k
    · rw [if_pos h]
      by_cases e : p.1 = j
      · rw [valV_pos (p := (p.1, y)) e, valV_pos e, Option.map_some, if_pos (e.symm.trans h)]
      · rw [valV_neg (p := (p.1, y)) e, valV_neg e, ih]
    · rw [if_neg h]
      by_cases e : p.1 = j
      · rw [valV_pos (p := p) e, valV_pos e, Option.map_some, if_neg (fun z => h (e.trans z))]
      · rw [valV_neg (p := p) e, valV_neg e, ih]
theorem valV_snoc (k j : κ) (y : V) : ∀ kvs : List (κ × V), valV kvs k = none → valV (kvs ++ [(k, y)]) j = if j = k then some y else valV kvs j
  | [], _ => by
    by_cases e : k = j
    · rw [if_pos e.symm]; exact valV_pos (p := (k, y)) e
    · rw [if_neg (fun z => e z.symm)]; exact valV_neg (p := (k, y)) e
  | p :: r, hn => by
    rw [List.cons_append]
    have hk : ¬ p.1 = k := fun z => by rw [valV_pos z] at hn; cases hn
    rw [valV_neg hk] at hn
    have ih := valV_snoc k j y r hn
    by_cases e : p.1 = j
    · rw [valV_pos e, valV_pos e, if_neg (fun z => hk (e.trans z))]
    · rw [valV_neg e, valV_neg e, ih]
theorem valV_put (kvs : List (κ × V)) (k j : κ) (y : V) : valV (putK kvs k y) j = if j = k then some y else valV kvs j := by
  unfold putK
  by_cases a : (kvs.any fun kv => decide (kv.1 = k)) = true
  · rw [if_pos a, valV_map]
    rw [valV_any] at a
    by_cases e : j = k
    · obtain ⟨x, hx⟩ := Option.isSome_iff_exists.mp a
      rw [if_pos e, e, hx, Option.map_some, if_pos rfl]
    · rw [if_neg e]
      cases valV kvs j with
      | none => rfl
      | some x => rw [Option.map_some, if_neg e]
  · rw [if_neg a]
    refine valV_snoc k j y kvs ?_
    rw [valV_any] at a
    cases q : valV kvs k with
    | none => rfl
    | some x => rw [q] at a; exact (a rfl).elim
theorem length_putK (kvs : List (κ × V)) (k : κ) (v : V) : (putK kvs k v).length ≤ kvs.length + 1 := by
  unfold putK
  split
  · rw [List.length_map]; exact ω60
  · rw [List.length_append, List.length_cons, List.length_nil]; exact ω548
theorem putK_new {kvs : List (κ × V)} {k : κ} (v : V) (h : valV kvs k = none) : putK kvs k v = kvs ++ [(k, v)] := by
  unfold putK
  rw [valV_any, h]
  exact if_neg (by decide)
theorem RelO.isSome_eq {o : Option V} {u : Option Value} (r : RelO o u) : o.isSome = u.isSome := by
  cases o with
  | none => cases u with
    | none => rfl
    | some _ => exact (show False from r).elim
  | some _ => cases u with
    | none => exact (show False from r).elim
    | some _ => rfl
theorem KV.val {kvs : List (κ × V)} {vs : List (κ × Value)} (r : KV kvs vs) (k : κ) : RelO (valV kvs k) (valueAt vs k) := by
  unfold KV at r
  induction r with
  | nil => exact True.intro
  | @cons p q ps qs h t ih =>
    obtain ⟨h1, h2⟩ := h
    by_cases e : p.1 = k
    · have e' : q.1 = k := h1.symm.trans e
      have b : valueAt (q :: qs) k = some q.2 := by simp [valueAt, List.find?_cons, e']
      rw [valV_pos e, b]; exact h2
    · have e' : ¬ q.1 = k := fun z => e (h1.trans z)
      have b : valueAt (q :: qs) k = valueAt qs k := by simp [valueAt, List.find?_cons, e']
      rw [valV_neg e, b]; exact ih
theorem KV.any {kvs : List (κ × V)} {vs : List (κ × Value)} (r : KV kvs vs) (k : κ) : (kvs.any fun kv => decide (kv.1 = k)) = vs.any fun kv => decide (kv.1 = k) := by
  unfold KV at r
  induction r with
  | nil => rfl
  | cons h t ih => rw [List.any_cons, List.any_cons, ih, h.1]
theorem KV.repl {kvs : List (κ × V)} {vs : List (κ × Value)} (r : KV kvs vs) (k : κ) {y : V} {u : Value} (ry : RelV y u) :
    KV (kvs.map fun kv => if kv.1 = k then (kv.1, y) else kv) (vs.map fun kv => if kv.1 = k then (kv.1, u) else kv) := by
  unfold KV at r ⊢
  induction r with
  | nil => exact .nil
  | @cons p q ps qs h t ih =>
    rw [List.map_cons, List.map_cons]
    refine .cons ?_ ih
    obtain ⟨h1, h2⟩ := h
    by_cases e : p.1 = k
    · rw [if_pos e, if_pos (h1.symm.trans e)]; exact ⟨h1, ry⟩
    · rw [if_neg e, if_neg (fun z => e (h1.trans z))]; exact ⟨h1, h2⟩
theorem KV.put {kvs : List (κ × V)} {vs : List (κ × Value)} (r : KV kvs vs) (k : κ) {y : V} {u : Value} (ry : RelV y u) : KV (putK kvs k y) (stored vs k u) := by
  unfold putK stored
  rw [r.any k]
  by_cases e : (vs.any fun kv => decide (kv.1 = k)) = true
  · rw [if_pos e, if_pos e]; exact r.repl k ry
  · rw [if_neg e, if_neg e]; exact Paired.snoc r ⟨rfl, ry⟩
theorem KV.length {kvs : List (κ × V)} {vs : List (κ × Value)} (r : KV kvs vs) : kvs.length = vs.length := Paired.length r
end
theorem kV_is {P : Program} {w : World} {k : Key} {u : Value} (r : RelV (kV k) u) : (mixKind P w).is k u = true := by
  cases k with
  | inl i => obtain ⟨t, e⟩ := (show ∃ t, u = Value.int i t from r); subst e; exact mixKind_int P w i t
  | inr x => obtain ⟨t, e⟩ := (show ∃ t, u = Value.str x t from r); subst e; exact mixKind_str P w x t
theorem items_are {P : Program} {w : World} : ∀ {ks : List Key} {us : List Value}, Vals (ks.map kV) us → ItemsAre (mixKind P w) ks us
  | [], _, r => by rw [List.map_nil] at r; cases r; exact .nil
  | k :: ks, _, r => by
    rw [List.map_cons] at r
    cases r with
    | cons h t => exact .cons (kV_is h) (items_are t)
abbrev KT (H : Hp) : List (List Key × V) → List (List Key × Addr × Value) → Prop := Paired fun p q => p.1 = q.1 ∧ H q.2.1 = some (.tup (p.1.map kV)) ∧ RelV p.2 q.2.2
theorem KT.val {H : Hp} {kvs : List (List Key × V)} {xs : List (List Key × Addr × Value)} (r : KT H kvs xs) (k : List Key) : RelO (valV kvs k) ((atKey xs k).map (·.2)) := by
  induction r with
  | nil => exact True.intro
  | @cons p q ps qs h t ih =>
    obtain ⟨h1, _, h2⟩ := h
    by_cases e : p.1 = k
    · have e' : q.1 = k := h1.symm.trans e
      have b : atKey (q :: qs) k = some q.2 := by simp [atKey, List.find?_cons, e']
      rw [valV_pos e, b]; exact h2
    · have e' : ¬ q.1 = k := fun z => e (h1.trans z)
      have b : atKey (q :: qs) k = atKey qs k := by simp [atKey, List.find?_cons, e']
      rw [valV_neg e, b]; exact ih
theorem KT.repl {H : Hp} {kvs : List (List Key × V)} {xs : List (List Key × Addr × Value)} (r : KT H kvs xs) (k : List Key) {y : V} {u : Value} (ry : RelV y u) :
    KT H (kvs.map fun kv => if kv.1 = k then (kv.1, y) else kv) (xs.map (putAt k u)) := by
  induction r with
  | nil => exact .nil
  | @cons p q ps qs h t ih =>
    rw [List.map_cons, List.map_cons]
    refine .cons ?_ ih
    obtain ⟨h1, h2, h3⟩ := h
    unfold putAt
    by_cases e : p.1 = k
    · rw [if_pos e, if_pos (h1.symm.trans e)]; exact ⟨h1, h2, ry⟩
    · rw [if_neg e, if_neg (fun z => e (h1.trans z))]; exact ⟨h1, h2, h3⟩
theorem KT.put {H : Hp} {kvs : List (List Key × V)} {xs : List (List Key × Addr × Value)} (r : KT H kvs xs) (k : List Key) {b : Addr} {y : V} {u : Value} (hb : H b = some (.tup (k.map kV))) (ry : RelV y u) :
    KT H (putK kvs k y) (storedH xs k b u) := by
  have e : (kvs.any fun kv => decide (kv.1 = k)) = (atKey xs k).isSome := by
    rw [valV_any, (r.val k).isSome_eq, Option.isSome_map]
  unfold putK storedH
  rw [e]
  by_cases q : (atKey xs k).isSome = true
  · rw [if_pos q, if_pos q]; exact r.repl k ry
  · rw [if_neg q, if_neg q]; exact Paired.snoc r ⟨rfl, hb, ry⟩
theorem KT.keeps {H H' : Hp} {kvs : List (List Key × V)} {xs : List (List Key × Addr × Value)} (r : KT H kvs xs) (ht : ∀ b ys, H b = some (.tup ys) → H' b = some (.tup ys)) : KT H' kvs xs :=
  Paired.mapP r fun _ _ z => ⟨z.1, ht _ _ z.2.1, z.2.2⟩
section
variable {P : Program} {w : World} {H : Hp} {h : Heap} {a : Addr}
theorem rd_of {u : HO} (ok : HOk P w H h) (e : Rd H a u) : ObjOk P w H h a u := e.ok ok
theorem dk_rd {kvs : List (Key × V)} (ok : HOk P w H h) (e : Rd H a (.dK kvs)) : kvs.length ≤ sizeLine ∧ (a == sysModules) = false ∧ ∃ vs, KV kvs vs ∧ h.DictOf (mixKind P w) a vs :=
  show ObjOk P w H h a (.dK kvs) from rd_of ok e
theorem dk_of {kvs : List (Key × V)} (ok : HOk P w H h) (e : H a = some (.dK kvs)) : kvs.length ≤ sizeLine ∧ (a == sysModules) = false ∧ ∃ vs, KV kvs vs ∧ h.DictOf (mixKind P w) a vs := dk_rd ok (.inl e)
theorem key_of {ks : List Key} (ok : HOk P w H h) (e : H a = some (.tup (ks.map kV))) : (tupleKind (mixKind P w)).is h ks a := by
  (refine εa2 (show ObjOk P w H h a (.tup (ks.map kV)) from ok a _ e) fun _ c'1789 => εx1 c'1789 fun its c'1790 => εa2 c'1790 fun r c'1791 => εx1 c'1791 fun o c'1792 => εa3 c'1792 fun h1 h2 c'1793 => εx1 c'1793 fun n h3 => ?_; clear c'1789 c'1790 c'1791 c'1792 c'1793)
  exact (ιEEE o its.toArray n ⟨h1, h2, h3, by simpa using items_are r⟩)
theorem dt_rd {kvs : List (List Key × V)} (ok : HOk P w H h) (e : Rd H a (.dT kvs)) : kvs.length ≤ sizeLine ∧ (a == sysModules) = false ∧
    ∃ xs, KT H kvs xs ∧ h.DictOfH (tupleKind (mixKind P w)) a xs := by
  (refine εa3 (show ObjOk P w H h a (.dT kvs) from rd_of ok e) fun z y c'1794 => εx1 c'1794 fun xs c'1795 => εa2 c'1795 fun r c'1796 => εx3 c'1796 fun o es ep c'1797 => εa5 c'1797 fun h1 h2 h3 h4 h5 => ?_; clear c'1794 c'1795 c'1796 c'1797)
  refine ⟨z, y, ιEAEEE xs r o es ep ⟨h1, h2, h3, h4, fun x hx => ?_, h5⟩⟩
  have all : ∀ {l : List (List Key × V)} {m : List (List Key × Addr × Value)}, KT H l m → ∀ x ∈ m, (tupleKind (mixKind P w)).is h x.1 x.2.1 := by
    intro l m q
    induction q with
    | nil => intro x hx; exact nomatch hx
    | @cons p q ps qs hq t ih =>
      intro x hx
      rcases List.mem_cons.mp hx with e | hx
      · subst e
        exact key_of ok (by rw [← hq.1]; exact hq.2.1)
      · exact ih x hx
  exact all r x hx
theorem dt_of {kvs : List (List Key × V)} (ok : HOk P w H h) (e : H a = some (.dT kvs)) : kvs.length ≤ sizeLine ∧ (a == sysModules) = false ∧
    ∃ xs, KT H kvs xs ∧ h.DictOfH (tupleKind (mixKind P w)) a xs := dt_rd ok (.inl e)
end
noncomputable def DGet (H : Hp) (a : Addr) (y : V) (r : Option V) : Prop :=
  (∃ kvs k, Rd H a (.dK kvs) ∧ y = kV k ∧ r = valV kvs k) ∨ ∃ kvs k b, Rd H a (.dT kvs) ∧ y = .ref b ∧ H b = some (.tup (k.map kV)) ∧ r = valV kvs k
noncomputable def DPut (H : Hp) (a : Addr) (y v : V) (H' : Hp) : Prop :=
  (∃ kvs k, H a = some (.dK kvs) ∧ y = kV k ∧ kvs.length < sizeLine ∧ H' = upd H a (.dK (putK kvs k v))) ∨
  ∃ kvs k b, H a = some (.dT kvs) ∧ y = .ref b ∧ H b = some (.tup (k.map kV)) ∧ kvs.length < sizeLine ∧ H' = upd H a (.dT (putK kvs k v))
section
variable {X : Cx} {pins : List (Addr × Obj)} {σ : St} {H : Hp} {s : Shared} {a : Addr} {y v : V} {u r : Value} {o : Option V} {A : Around} {E : Value → Shared → Prop}
theorem Inv.big (I : Inv X pins σ H s) : sysModules < s.heap.objs.size := by
  have h : mainGlobals < s.heap.objs.size := (I.mod.glob.keeps I.bk).lt
  exact Nat.lt_trans (by decide) h
theorem d_getItem {Q : Value → Shared → Prop} (hu : A.units + 1 < cLine) (I : Inv X pins σ H s) (g : DGet H a y (some v)) (ry : RelV y u) (h : ∀ w' s', Inv X pins σ H s' → RelV v w' → Q w' s') :
    wpAny (model X.prog X.w) A (getItem (.ref a) u) Q E s := by
  rcases g with ⟨kvs, k, e, ey, l⟩ | ⟨kvs, k, b, e, ey, eb, l⟩
  · subst ey
    (refine εa3 (dk_rd I.hok e) fun z hd c'1798 => εx1 c'1798 fun vs c'1799 => εa2 c'1799 fun rel dd => ?_; clear c'1798 c'1799)
    obtain ⟨w', hw, rw'⟩ := RelO.some_of (v := v) (o := valueAt vs k) (by rw [l]; exact rel.val k)
    exact wpAny_getItem_of (kV_is ry) dd.mapOf hw (h w' _ (I.tok _) rw')
  · subst ey
    cases (show u = Value.ref b from ry)
    (refine εa3 (dt_rd I.hok e) fun z hd c'1800 => εx1 c'1800 fun xs c'1801 => εa2 c'1801 fun rel dd => ?_; clear c'1800 c'1801)
    obtain ⟨w', hw, rw'⟩ := RelO.some_of (v := v) (o := (atKey xs k).map (·.2)) (by rw [l]; exact rel.val k)
    obtain ⟨p, hp, hp2⟩ := Option.map_eq_some_iff.mp hw
    refine wpAny_getItem_heap (tupleKind_room_in1 hu) (key_of I.hok eb) dd hp ?_
    rw [hp2]
    exact h w' _ (I.tok _) rw'
theorem d_notIn {Q : Value → Shared → Prop} (hu : A.units + 1 < cLine) (I : Inv X pins σ H s) (g : DGet H a y o) (ry : RelV y u) (h : ∀ s', Inv X pins σ H s' → Q (.bool (!o.isSome)) s') :
    wpAny (model X.prog X.w) A (compareOp .NotIn u (.ref a)) Q E s := by
  rcases g with ⟨kvs, k, e, ey, l⟩ | ⟨kvs, k, b, e, ey, eb, l⟩
  · subst ey
    (refine εa3 (dk_rd I.hok e) fun z hd c'1806 => εx1 c'1806 fun vs c'1807 => εa2 c'1807 fun rel dd => ?_; clear c'1806 c'1807)
    refine wpAny_notIn_of (kV_is ry) hd dd.mapOf ?_
    rw [← (rel.val k).isSome_eq, ← l]
    exact h _ (I.tok _)
  · subst ey
    cases (show u = Value.ref b from ry)
    (refine εa3 (dt_rd I.hok e) fun z hd c'1808 => εx1 c'1808 fun xs c'1809 => εa2 c'1809 fun rel dd => ?_; clear c'1808 c'1809)
    refine wpAny_notIn_heap (tupleKind_room_in1 hu) (key_of I.hok eb) hd dd ?_
    have q := (rel.val k).isSome_eq
    rw [Option.isSome_map] at q
    rw [← q, ← l]
    exact h _ (I.tok _)
theorem d_write {h' : Heap} {t' : Nat} {ob : HO} (I : Inv X pins σ H s) (mu : Mut (H a)) (hs : Heap.SameBut a s.heap h') (he : ∃ q, h'.get? a = some q) (new : ObjOk X.prog X.w (upd H a ob) h' a ob) :
    Inv X pins σ (upd H a ob) { s with heap := h', toks := t' } :=
  I.write (x := a) (e := a) mu (.inl rfl) (fun b q hb z => (hs.2 b hb).trans z) he new
theorem dk_new {P : Program} {w : World} {H' : Hp} {h' : Heap} {kvs : List (Key × V)} {vs : List (Key × Value)} (z : kvs.length ≤ sizeLine) (hd : (a == sysModules) = false) (rel : KV kvs vs) (dd : h'.DictOf (mixKind P w) a vs) :
    ObjOk P w H' h' a (.dK kvs) := ⟨z, hd, vs, rel, dd⟩
theorem d_setItem {H' : Hp} {Q : Unit → Shared → Prop} (hu : A.units + 1 < cLine) (I : Inv X pins σ H s) (g : DPut H a y v H') (ry : RelV y u) (rv : RelV v r) (h : ∀ s', Inv X pins σ H' s' → Q () s') :
    wpAny (model X.prog X.w) A (setItem (.ref a) u r) Q E s := by
  rcases g with ⟨kvs, k, e, ey, l, eH⟩ | ⟨kvs, k, b, e, ey, eb, l, eH⟩
  · subst ey eH
    (refine εa3 (dk_of I.hok e) fun z hd c'1810 => εx1 c'1810 fun vs c'1811 => εa2 c'1811 fun rel dd => ?_; clear c'1810 c'1811)
    have hz : vs.length ≤ sizeLine := by rw [← rel.length]; exact z
    have hl : (putK kvs k v).length ≤ sizeLine := by have := length_putK kvs k v; exact ω294 l this
    refine wpAny_setItem_pairs (hsz := hz) (kV_is ry) dd fun h' dd' hs => h _ ?_
    have he : ∃ q, h'.get? a = some q := let ⟨q, _, _, hq, _⟩ := dd'; ⟨q, hq⟩
    exact d_write I (by rw [e]; exact True.intro) hs he (dk_new hl hd (rel.put k rv) dd')
  · subst ey eH
    cases (show u = Value.ref b from ry)
    (refine εa3 (dt_of I.hok e) fun z hd c'1812 => εx1 c'1812 fun xs c'1813 => εa2 c'1813 fun rel dd => ?_; clear c'1812 c'1813)
    have hz : xs.length ≤ sizeLine := by rw [← Paired.length rel]; exact z
    have hl : (putK kvs k v).length ≤ sizeLine := by have := length_putK kvs k v; exact ω294 l this
    refine wpAny_setItem_heap (hsz := hz) (tupleKind_room_in1 hu) (key_of I.hok eb) dd fun h' dd' hs => h _ ?_
    (refine εx3 dd' fun q es ep c'1814 => εa6 c'1814 fun hq h2 h3 h4 _ h5 => ?_; (try clear dd'); clear c'1814)
    refine d_write I (by rw [e]; exact True.intro) hs ⟨q, hq⟩ ⟨hl, hd, ιEAEEE _ ((rel.put k eb rv).keeps fun c ys ec => ?_) q es ep ⟨hq, h2, h3, h4, h5⟩⟩
    rw [upd_ne (ne_of ec e (fun z => nomatch z))]
    exact ec
end
section
variable {X : Cx} {pins : List (Addr × Obj)} {σ : St} {H : Hp} {s : Shared} {a : Addr} {kvs : List (Key × V)} {k : Key} {u : Value} {A : Around} {E : Value → Shared → Prop}
end
noncomputable def NoSl (i : Expr) : Prop := ∀ ov iv, subscripted i false ov iv = operate [ov, iv] (getItem ov iv)
theorem subD_of {prog : Program} {w : World} {A : Around} {E : Value → Shared → Prop} {s : Shared} {env : Env} {value slice : Expr} {pos : Pos} {T id : String} {Q : Value → Shared → Prop}
    (hl : typeLookup (.type T) "__getitem__" = pure (some (.builtin id))) (hs : NoSl slice)
    (h : wpAny (model prog w) A (eval value env) (fun o s₁ => wpAny (model prog w) A (eval slice env) (fun i s₂ => s₂.TypeIs o T ∧ wpAny (model prog w) A (getItem o i) Q E s₂) E s₁) E s) :
    wpAny (model prog w) A (eval (.Subscript value slice pos) env) Q E s := by
  refine Subscript_ (wpAny_mono h (fun o s₁ h₁ => wpAny_mono h₁ (fun i s₂ h₂ => ?_) fun _ _ x => x) fun _ _ x => x)
  obtain ⟨hT, h₂⟩ := h₂
  unfold subscriptTail
  refine wpAny_bind ?_
  rw [getitemInPython_of_ne hT.not_modules]
  refine wpAny_bind (wpAny_specialOf hT hl ?_)
  have fin : wpAny (model prog w) A (subscripted slice false o i) (fun r s₃ => wpAny (model prog w) A (letTemporaryGo value o r >>= fun _ => pure r) Q E s₃) E s₂ := by
    rw [hs o i]
    exact wpAny_operating (wpAny_mono h₂ (fun r s₃ h₃ => wpAny_bind (wpAny_letTemporaryGo (wpAny_pure h₃))) fun _ _ x => x)
  first
    | exact wpAny_pure (wpAny_bind fin)
    | exact wpAny_bind (wpAny_pure (wpAny_bind fin))
    | exact wpAny_bind fin
theorem dict_typeIs {X : Cx} {pins : List (Addr × Obj)} {σ : St} {H : Hp} {s : Shared} {a : Addr} {y : V} {o : Option V} (I : Inv X pins σ H s) (g : DGet H a y o) : s.TypeIs (.ref a) "dict" := by
  rcases g with ⟨kvs, k, e, _, _⟩ | ⟨kvs, k, b, e, _, _, _⟩
  · (refine εa3 (dk_rd I.hok e) fun _ _ c'1827 => εx1 c'1827 fun vs c'1828 => εa2 c'1828 fun _ dd => ?_; clear c'1827 c'1828)
    exact dd.typeIs
  · (refine εa3 (dt_rd I.hok e) fun _ _ c'1829 => εx1 c'1829 fun xs c'1830 => εa2 c'1830 fun _ dd => ?_; clear c'1829 c'1830)
    exact dd.typeIs
noncomputable def tDGet (td ty : TE) : TE := fun σ H Q => td σ H fun x H1 => ty σ H1 fun y H2 => ∃ a v, x = .ref a ∧ DGet H2 a y (some v) ∧ Q v H2
noncomputable def tDNotIn (ty td : TE) : TE := fun σ H Q => ty σ H fun y H1 => td σ H1 fun x H2 => ∃ a o, x = .ref a ∧ DGet H2 a y o ∧ Q (.bl (!o.isSome)) H2
noncomputable def sDPut (td ty tv : TE) : TS := fun D σ H => tv σ H fun v H1 => td σ H1 fun x H2 => ty σ H2 fun y H3 => ∃ a H4, x = .ref a ∧ DPut H3 a y v H4 ∧ D.nx σ H4
section
variable {X : Cx} {o i e value : Expr} {pos pos' tpos : Pos} {td ty tv : TE}
theorem pe_dget (hu : X.A.units + 1 < cLine) (ho : PE X o td) (hi : PE X i ty) (hs : NoSl i) : PE X (.Subscript o i pos) (tDGet td ty) := by
  intro pins s σ H Q I h
  refine subD_of PySem.F.slot_dict_getitem.lookup hs (thn (ho pins s σ H _ I h) fun u s1 z'308 => εx2 z'308 fun x H1 m'309 => εa3 m'309 fun I1 rx q1 => thn (hi pins s1 σ H1 _ I1 q1) fun iv s2 z'310 => εx2 z'310 fun y H2 m'311 => εa3 m'311 fun I2 ry m'312 => εx2 m'312 fun a v m'313 => εa3 m'313 fun ex g q2 => ?_)
  subst ex
  obtain rfl : u = Value.ref a := rx
  exact ⟨dict_typeIs I2 g, d_getItem hu I2 g ry fun w' s3 I3 rw' => (ιEE v H2 ⟨I3, rw', q2⟩)⟩
theorem pc_dnotin (hu : X.A.units + 1 < cLine) (hi : PE X i ty) (ho : PE X o td) : PC X .NotIn i o (tDNotIn ty td) := by
  intro pins s σ H Q I h
  refine thn (hi pins s σ H _ I h) fun iv s1 z'320 => εx2 z'320 fun y H1 m'321 => εa3 m'321 fun I1 ry q1 => thn (ho pins s1 σ H1 _ I1 q1) fun u s2 z'322 => εx2 z'322 fun x H2 m'323 => εa3 m'323 fun I2 rx m'324 => εx2 m'324 fun a ov m'325 => εa3 m'325 fun ex g q2 => ?_
  subst ex
  obtain rfl : u = Value.ref a := rx
  exact d_notIn hu I2 g ry fun s3 I3 => (ιEE (.bl (!ov.isSome)) H2 ⟨I3, rfl, q2⟩)
theorem ps_dput (hu : X.A.units + 1 < cLine) (ho : PE X o td) (hi : PE X i ty) (hv : PE X value tv) (hs : swapsWith value (some (.Subscript o i pos')) pos.line X.env = pure false) :
    PS X (.Assign [.Subscript o i pos'] value pos) (sDPut td ty tv) := by
  intro pins s σ H D I h
  refine wpAny_Assign_Subscript (thn (hv pins s σ H _ I h) fun r s1 z'326 => εx2 z'326 fun v H1 m'327 => εa3 m'327 fun I1 rv q1 => thn (ho pins s1 σ H1 _ I1 q1) fun u s2 z'328 => εx2 z'328 fun x H2 m'329 => εa3 m'329 fun I2 rx q2 => thn (hi pins s2 σ H2 _ I2 q2) fun iv s3 z'330 => εx2 z'330 fun y H3 m'331 => εa3 m'331 fun I3 ry m'332 => εx2 m'332 fun a H4 m'333 => εa3 m'333 fun ex g q3 => ?_) hs
  subst ex
  obtain rfl : u = Value.ref a := rx
  exact d_setItem hu I3 g ry rv fun s4 I4 => (ιEE σ H4 ⟨I4, q3⟩)
end
theorem dk_empty {P : Program} {w : World} {H : Hp} (h : Heap) (hb : sysModules < h.objs.size) : ObjOk P w H (h.push { cls := .type "dict", data := .dict #[] }) h.objs.size (.dK []) :=
  ⟨Nat.zero_le _, beq_eq_false_iff_ne.mpr (Ne.symm (Nat.ne_of_lt hb)), [], .nil, Heap.DictOf.new h⟩
noncomputable def tDNewK : TE := fun _ H Q => ∀ p, H p = none → Q (.ref p) (upd H p (.dK []))
section
variable {X : Cx} {pos : Pos}
theorem pe_dnewK : PE X (.Dict [] [] pos) tDNewK := fun pins s σ H Q I h =>
  wpAny_Dict_empty (ιEE (.ref s.heap.objs.size) _ ⟨I.laid (a := s.heap.objs.size) (o := .dK []) (t' := s.toks) (fun _ _ q => Heap.get?_push_of_some _ q) (Nat.le_refl _) (dk_empty s.heap I.big), rfl, h _ (I.hok.fresh (Nat.le_refl _))⟩)
end
section
variable {X : Cx} {pins : List (Addr × Obj)} {σ : St} {H : Hp} {s : Shared} {a : Addr} {y d : V} {u r : Value} {o : Option V} {A : Around} {E : Value → Shared → Prop}
end
section
variable {X : Cx} {o e f : Expr} {apos cpos : Pos} {td ty tx : TE}
end
section
variable {X : Cx} {pins : List (Addr × Obj)} {σ : St} {H : Hp} {s : Shared} {a : Addr} {kvs : List (Key × V)} {A : Around} {E : Value → Shared → Prop}
end
section
variable {X : Cx} {pins : List (Addr × Obj)} {σ : St} {H : Hp} {s : Shared} {a : Addr} {y : V} {u : Value} {A : Around} {E : Value → Shared → Prop}
end
end L2
namespace L2
open PySem PySem.Spec PyProof.Rows
section
variable {X : Cx}
end
section
variable {κ : Type} [DecidableEq κ]
end
end L2
namespace L2
open PySem PySem.Spec PyProof.Rows
noncomputable def closF (cells : List (Str × Addr)) : List (Str × NameKind) → List (Str × Addr) → List (Str × Addr)
  | [], acc => acc
  | (n, k) :: r, acc => closF cells r (if k == .free then (n, (cells.lookup n).getD 0) :: acc else acc)
theorem clos_go {env : Env} : ∀ (l : List (Str × NameKind)) (acc : List (Str × Addr)), (∀ y ∈ l, y.2 = .free → ∃ c, env.cells.lookup y.1 = some c) →
    (forIn l acc fun (x : Str × NameKind) (r : List (Str × Addr)) => (if (x.2 == NameKind.free) = true then (do let c ← cellOf env x.1; pure (ForInStep.yield ((x.1, c) :: r))) else pure (ForInStep.yield r) : Sem _)) = pure (closF env.cells l acc)
  | [], acc, _ => rfl
  | (n, k) :: r, acc, h => by
    rw [List.forIn_cons]
    have ih := clos_go (env := env) r
    by_cases hk : (k == NameKind.free) = true
    · obtain ⟨c, hc⟩ := h (n, k) List.mem_cons_self (by simpa using hk)
      have e : cellOf env n = pure c := by unfold cellOf; rw [show env.cells.lookup n = some c from hc]
      dsimp only
      rw [if_pos hk, e]
      show (forIn r ((n, c) :: acc) _ : Sem _) = _
      rw [ih _ fun y hy => h y (List.mem_cons_of_mem _ hy)]
      show _ = pure (closF env.cells r (if (k == NameKind.free) = true then (n, (env.cells.lookup n).getD 0) :: acc else acc))
      rw [if_pos hk, show env.cells.lookup n = some c from hc]
      rfl
    · dsimp only
      rw [if_neg hk]
      show (forIn r acc _ : Sem _) = _
      rw [ih _ fun y hy => h y (List.mem_cons_of_mem _ hy)]
      show _ = pure (closF env.cells r (if (k == NameKind.free) = true then (n, (env.cells.lookup n).getD 0) :: acc else acc))
      rw [if_neg hk]
theorem clos_eq {scope : Scope} {env : Env} (h : ∀ y ∈ scope.names, y.2 = .free → ∃ c, env.cells.lookup y.1 = some c) : closureFor scope env = pure (closF env.cells scope.names []) := by
  have := clos_go (env := env) scope.names [] h
  show (forIn scope.names ([] : List (Str × Addr)) (fun (x : Str × NameKind) (r : List (Str × Addr)) => (if (x.2 == NameKind.free) = true then (do let c ← cellOf env x.1; pure (ForInStep.yield ((x.1, c) :: r))) else pure (ForInStep.yield r) : Sem _)) >>= fun z => pure z) = _
  rw [this]
  rfl
theorem clos_sub {cells : List (Str × Addr)} : ∀ (l : List (Str × NameKind)) (acc : List (Str × Addr)), (∀ y ∈ l, y.2 = .free → ∃ c, cells.lookup y.1 = some c) → (∀ x c, acc.lookup x = some c → cells.lookup x = some c) →
    ∀ x c, (closF cells l acc).lookup x = some c → cells.lookup x = some c
  | [], acc, _, h => h
  | (n, k) :: r, acc, hc, h => by
    refine clos_sub r _ (fun y hy => hc y (List.mem_cons_of_mem _ hy)) fun x c e => ?_
    by_cases hk : (k == NameKind.free) = true
    · rw [if_pos hk, List.lookup_cons] at e
      by_cases hx : (x == n) = true
      · rw [hx] at e
        have hxn : x = n := by simpa using hx
        obtain ⟨c', hc'⟩ := hc (n, k) List.mem_cons_self (by simpa using hk)
        have hc'' : cells.lookup n = some c' := hc'
        rw [hc''] at e
        rw [hxn, hc'']
        exact e
      · have hx' : (x == n) = false := by simpa using hx
        rw [hx'] at e
        exact h x c e
    · rw [if_neg hk] at e
      exact h x c e
theorem clos_acc {cells : List (Str × Addr)} {x : Str} : ∀ (l : List (Str × NameKind)) (acc : List (Str × Addr)), (∃ c, acc.lookup x = some c) → ∃ c, (closF cells l acc).lookup x = some c
  | [], acc, h => h
  | (n, k) :: r, acc, h => by
    refine clos_acc r _ ?_
    by_cases hk : (k == NameKind.free) = true
    · rw [if_pos hk, List.lookup_cons]
      by_cases hx : (x == n) = true
      · rw [hx]; exact ⟨_, rfl⟩
      · have hx' : (x == n) = false := by simpa using hx
        rw [hx']; exact h
    · rw [if_neg hk]; exact h
theorem clos_has {cells : List (Str × Addr)} {x : Str} : ∀ (l : List (Str × NameKind)) (acc : List (Str × Addr)), l.lookup x = some .free → ∃ c, (closF cells l acc).lookup x = some c
  | [], acc, h => by cases h
  | (n, k) :: r, acc, h => by
    rw [List.lookup_cons] at h
    by_cases hx : (x == n) = true
    · rw [hx] at h
      have hk : k = .free := Option.some.inj h
      subst hk
      refine clos_acc r _ ?_
      rw [if_pos (show (NameKind.free == NameKind.free) = true from rfl), List.lookup_cons, hx]
      exact ⟨_, rfl⟩
    · have hx' : (x == n) = false := by simpa using hx
      rw [hx'] at h
      exact clos_has r _ h
theorem relab_free {env : Env} {x : Str} : ∀ {names : List (Str × NameKind)}, (∀ y ∈ names, y.2 ≠ .cell) →
    (((names.map fun (n, k) => if (k == NameKind.free && env.scope.kind == .function && env.kindOf n == some .cell) then (n, NameKind.cell) else (n, k)).lookup x = some .cell ∨
     (names.map fun (n, k) => if (k == NameKind.free && env.scope.kind == .function && env.kindOf n == some .cell) then (n, NameKind.cell) else (n, k)).lookup x = some .free) ↔ names.lookup x = some .free)
  | [], _ => by simp
  | (n, k) :: r, h => by
    have ih := @relab_free env x r fun y hy => h y (List.mem_cons_of_mem _ hy)
    rw [List.map_cons]
    by_cases hx : (x == n) = true
    · have e : ∀ q : NameKind, List.lookup x ((n, q) :: (r.map fun (n, k) => if (k == NameKind.free && env.scope.kind == .function && env.kindOf n == some .cell) then (n, NameKind.cell) else (n, k))) = some q := fun q => by rw [List.lookup_cons, hx]
      have e' : List.lookup x ((n, k) :: r) = some k := by rw [List.lookup_cons, hx]
      rw [e']
      by_cases hc : (k == NameKind.free && env.scope.kind == .function && env.kindOf n == some .cell) = true
      · dsimp only
        rw [if_pos hc, e]
        have hk : k = .free := by
          simp only [Bool.and_eq_true, beq_iff_eq] at hc
          exact hc.1.1
        subst hk
        simp
      · dsimp only
        rw [if_neg hc, e]
        have hk := h (n, k) List.mem_cons_self
        constructor
        · rintro (z | z)
          · exact absurd (Option.some.inj z) hk
          · exact z
        · exact .inr
    · have hx' : (x == n) = false := by simpa using hx
      have e' : List.lookup x ((n, k) :: r) = List.lookup x r := by rw [List.lookup_cons, hx']
      rw [e', ← ih]
      dsimp only
      by_cases hc : (k == NameKind.free && env.scope.kind == .function && env.kindOf n == some .cell) = true
      · rw [if_pos hc, List.lookup_cons, hx']
      · rw [if_neg hc, List.lookup_cons, hx']
structure LcOk (osc : Scope) (N N' : List Str) (src : List (Option Nat)) (scope : Scope) : Prop where
  kind : scope.kind = .function
  nocell : ∀ y ∈ scope.names, y.2 ≠ .cell
  names : ∀ y ∈ scope.names, y.2 = .local → scope.names.lookup y.1 = some .local
  free : ∀ y ∈ scope.names, y.2 = .free → osc.names.lookup y.1 = some .cell ∨ osc.names.lookup y.1 = some .free
  nd : N'.Nodup
  len : src.length = N'.length
  map : ((N'.zip src).all fun p => match p.2 with | none => true | some j => N[j]? == some p.1 && scope.names.lookup p.1 == some .free) = true
noncomputable def inner (src : List (Option Nat)) (σ : St) : St := src.map fun o => o.bind fun j => (σ[j]?).join
noncomputable def cxLc (X : Cx) (N : List Str) (scope : Scope) (cl : List (Str × Addr)) (C : Addr) (ex : List Addr) (s : Shared) (H : Hp) : Cx where
  prog := X.prog
  w := X.w
  K := X.K
  mg := X.mg
  base := X.base
  A := X.A
  N := N
  s₀ := s
  H₀ := H
  env := compEnvC scope cl C X.env
  outer := X.stack
  stack := X.stack
  ex := ex
  calm := X.calm
  fn := fun _ => false
  pn := []
  xe := fun _ _ => False
noncomputable def PIf (X : Cx) (ifs : List Expr) (t : TT) : Prop :=
  ∀ (pins : List (Addr × Obj)) (s : Shared) (σ : St) (H : Hp) (Q : Bool → Hp → Prop), Inv X pins σ H s → t σ H Q →
    wpAny (model X.prog X.w) X.A (forIn ifs true fun c r => if r = true then do let ok ← isTrue c X.env (eval c X.env); pure (ForInStep.yield ok) else pure (ForInStep.yield r)) (TP X pins σ Q) X.xe s
theorem pif_nil {X : Cx} : PIf X [] (fun _ H Q => Q true H) := fun _ _ _ H _ I h => wpAny_tests_nil ⟨H, I, h⟩
theorem pif_one {X : Cx} {c : Expr} {t : TT} (h : PT X c t) : PIf X [c] t := fun pins s σ H Q I q => wpAny_tests_one (h pins s σ H Q I q)
noncomputable def LcW (J : It) (D : Addr) (g : TG) (tc : TT) (te : TE) (Q : VK) (σ0 : St) (H : Hp) : Prop :=
  ∃ W : Nat → Nat → St → Hp → Prop, (∃ m, W 0 m σ0 H) ∧ ∀ i m σ' H', W i m σ' H' →
    (J.stop i H' ∧ Q (.ref D) H') ∨ (J.go i H' ∧ ∃ N : St → Hp → Prop, (∀ σ2 H3, N σ2 H3 → ∃ m', m' < m ∧ W (i + 1) m' σ2 H3) ∧ ∀ x H2, J.yld i H' x H2 → g x σ' H2 fun σ2 H3 => tc σ2 H3 fun ok H4 =>
      if ok = true then te σ2 H4 fun y H5 => ∃ ys, H5 D = some (.lst ys) ∧ ys.length < sizeLine ∧ N σ2 (upd H5 D (.lst (ys ++ [y])))
      else N σ2 H4)
noncomputable def tLc (src : List (Option Nat)) (wi : TI) (g : TG) (tc : TT) (te : TE) : TE := fun σ H Q => wi σ H fun J H1 => ∀ D, H1 D = none → LcW J D g tc te Q (inner src σ) (upd H1 D (.lst []))
section
variable {prog : Program} {w : World} {A : Around} {R : Result → Shared → Prop} {s : Shared}
abbrev NoX : Value → Shared → Prop := fun _ _ => False
theorem lc_loop {elt target iter : Expr} {ifs : List Expr} {scope : Scope} {pos : Pos} {it acc : Value} {env : Env} (I : Nat → Shared → Prop)
    (turn : ∀ n s, I n s → wpAny (model prog w) A (pyNext it) (fun r s₁ => match r with
      | none => R (.ok .next) s₁
      | some v => wpAny (model prog w) A (letOwnedTupleGo target it v) (fun _ s₂ => wpAny (model prog w) A (assign target env v) (fun _ s₃ =>
          wpAny (model prog w) A (forIn ifs true fun c r => if r = true then do let ok ← isTrue c env (eval c env); pure (ForInStep.yield ok) else pure (ForInStep.yield r)) (fun ok s₄ =>
            if ok = true then wpAny (model prog w) A (eval elt env) (fun x s₅ => wpAny (model prog w) A (call (.builtin "list.append") [acc, x]) (fun _ s₆ => ∃ m, m < n ∧ I m s₆) NoX s₅) NoX s₄
            else ∃ m, m < n ∧ I m s₄) NoX s₃) NoX s₂) NoX s₁) NoX s)
    (n : Nat) (h : I n s) : codeAny (model prog w) A (.compLoop (.ListComp elt [⟨target, iter, ifs, 0⟩] scope pos) 0 it acc env) R s := by
  refine codeAny_loop rfl I (fun n s hI => ?_) n h
  show wpAny _ A ((compTurn (.ListComp elt [⟨target, iter, ifs, 0⟩] scope pos) 0 it acc env).onRaise (fun x => do noteFrame x env; theTreesLotGoes x)) _ _ s
  refine wpAny_noted (wpAny_mono (E := NoX) ?_ (fun _ _ q => q) fun _ _ z => z.elim)
  rw [compTurn_list]
  refine wpAny_bind (wpAny_standAt (wpAny_bind (thn (turn n s hI) fun r s₁ h₁ => ?_)))
  cases r with
  | none => exact wpAny_pure h₁
  | some v =>
    refine wpAny_bind (thn h₁ fun _ s₂ h₂ => wpAny_bind (thn h₂ fun _ s₃ h₃ => wpAny_bind (thn h₃ fun ok s₄ h₄ => ?_)))
    cases ok with
    | false =>
      rw [if_neg Bool.false_ne_true] at h₄
      dsimp only
      rw [if_neg Bool.false_ne_true]
      exact wpAny_pure ⟨rfl, h₄⟩
    | true =>
      rw [if_pos rfl] at h₄
      dsimp only
      rw [if_pos rfl]
      exact wpAny_bind (wpAny_bind (thn h₄ fun x s₅ h₅ => wpAny_bind (thn h₅ fun _ s₆ h₆ => wpAny_pure (wpAny_pure ⟨rfl, h₆⟩))))
end
section
variable {X : Cx} {target iter elt : Expr} {ifs : List Expr} {scope : Scope} {pos : Pos} {N' : List Str} {src : List (Option Nat)} {wi : TI} {g : TG} {tc : TT} {te : TE}
theorem lc_core {pins : List (Addr × Obj)} {s : Shared} {σ : St} {H : Hp} {Q : VK} {use : Option (Value → Sem Unit)} {Fin : Value → Shared → Prop} {p : Pos} (hcalm : X.calm = true) (hk : LcOk X.env.scope X.N N' src scope) (hi : PI X target iter wi)
    (hin : ∀ cl C ex s H, PG (cxLc X N' scope cl C ex s H) target g ∧ PIf (cxLc X N' scope cl C ex s H) ifs tc ∧ PE (cxLc X N' scope cl C ex s H) elt te)
    (hfs : ∀ x, foldedSetIterable iter X.env x = pure x) (I : Inv X pins σ H s) (hw : tLc src wi g tc te σ H Q)
    (hfin : ∀ D C s4 H3 m, Inv X pins σ H3 s4 → FpOk X pins H3 C → s4.heap.Ns C m → Q (.ref D) H3 → compPost (model X.prog X.w) X.A X.xe use Fin (.ref D) C (.ok .next) s4) :
    wpAny (model X.prog X.w) X.A (comprehension (.ListComp elt [⟨target, iter, ifs, 0⟩] scope pos) scope X.env p (newList []) false (eval iter X.env) use) Fin X.xe s := by
  have hcs : ∀ y ∈ scope.names, y.2 = .free → ∃ c, X.env.cells.lookup y.1 = some c := fun y hy e => I.ok.has y.1 (hk.free y hy e)
  refine wpAny_comprehension_free (use := use) (cl := closF X.env.cells scope.names []) rfl hfs (clos_eq hcs) hk.kind hk.names ?_
  refine thn (hi pins s σ H _ I hw) fun v s1 h1 => thn h1 fun itv s2 h2 => ?_
  (refine εx5 h2 fun it fp tn J H2 c'1014 => εa6 c'1014 fun e I2 T st2 f2 hD => ?_; (try clear h2); clear c'1014)
  subst e
  generalize hcl : closF X.env.cells scope.names [] = cl
  have sub : ∀ x c, cl.lookup x = some c → X.env.cells.lookup x = some c := by rw [← hcl]; exact clos_sub scope.names [] hcs fun x c z => by cases z
  have hasc : ∀ x, scope.names.lookup x = some .free → ∃ c, cl.lookup x = some c := fun x z => by rw [← hcl]; exact clos_has scope.names [] z
  have hDn : H2 s2.heap.objs.size = none := I2.hok.fresh (Nat.le_refl _)
  obtain ⟨W, ⟨m0, w0⟩, turn⟩ := hD s2.heap.objs.size hDn
  refine wpAny_newObj_type (wpAny_newFunctionEnv hk.nocell (by intro y hy; simp at hy) (fun h₁ hns₁ hsb₁ => ?_) hk.kind)
  dsimp only at hns₁ hsb₁ ⊢
  generalize hH2 : s2.heap.push { cls := .type "list", dict := none, data := .seq ([] : List Value).toArray } = G2 at hns₁ hsb₁ ⊢
  have hC : G2.objs.size = s2.heap.objs.size + 1 := by rw [← hH2, Heap.size_push]
  have hDC : s2.heap.objs.size ≠ G2.objs.size := by rw [hC]; exact Nat.ne_of_lt (Nat.lt_succ_self _)
  have hCle : s2.heap.objs.size ≤ G2.objs.size := by rw [hC]; exact Nat.le_succ _
  have below : ∀ b, b < s2.heap.objs.size → b ≠ G2.objs.size ∧ b ≠ s2.heap.objs.size := fun b hb => ⟨by rw [hC]; exact Nat.ne_of_lt (Nat.lt_succ_of_lt hb), Nat.ne_of_lt hb⟩
  have old : ∀ b o, s2.heap.get? b = some o → h₁.get? b = some o := fun b o e => hsb₁.extBut b o (below b (Heap.lt_size e)).1 (Heap.get?_push_of_some _ (hH2 ▸ Heap.get?_push_of_some _ e))
  have hacc : h₁.get? s2.heap.objs.size = some { cls := .type "list", dict := none, data := .seq ([] : List Value).toArray } := hsb₁.extBut _ _ hDC (Heap.get?_push_of_some _ (hH2 ▸ Heap.get?_push_size _ rfl))
  obtain ⟨hg, hif, he⟩ := hin cl G2.objs.size fp s2 H2
  have fplt : ∀ b ∈ fp, b < s2.heap.objs.size := fun b hb => by
    obtain ⟨o, e, _⟩ := T.obj 0 _ st2 b hb
    exact Heap.lt_size e
  have ok' : (cxLc X N' scope cl G2.objs.size fp s2 H2).Ok := by
    refine ⟨I2.ok.mod, hk.kind, I2.ok.glob, I2.ok.blt, hCle, fun x y c e1 e2 => I2.ok.inj x y c (sub x c e1) (sub y c e2), fun x hx => hasc x ((relab_free hk.nocell).mp hx), (fun x c z => by cases z), I2.ok.hd, I2.ok.frames, .inl rfl,
      fun b hb => ⟨(below b (fplt b hb)).1, fun x c e => (f2 b hb).2.2.2.2.1 x c (sub x c e)⟩, I2.bs, Nat.le_trans I2.ok.bsz I2.sz, fun b o e hb => ?_, fun b hb hz => ?_, I2.stack, I2.stkFree⟩
    · rcases (f2 b hb).2.2.2.1 with z | z
      · exact I2.ok.noex b o e z
      · exact absurd (Nat.lt_of_lt_of_le (Heap.lt_size e) (Nat.le_trans I2.ok.bsz z)) (Nat.lt_irrefl _)
    · rcases List.mem_cons.mp (I2.stkSub b hz) with z | z
      · exact (f2 b hb).2.1 z
      · exact (f2 b hb).2.2.1 z
  have I3 : Inv (cxLc X N' scope cl G2.objs.size fp s2 H2) [] (inner src σ) (upd H2 s2.heap.objs.size (.lst [])) { s2 with heap := h₁, toks := s2.toks + ([] : List (Str × Value)).length } := by
    refine ⟨ok', rfl, I2.bare, Un.laid old (Nat.le_refl _) hDn, ⟨_, hns₁, fun i x v e1 e2 e3 => ?_⟩, fun x c e => ?_, ?_, fun x c e => ?_, (fun p hp => by cases hp), I2.hok.laid old (Nat.le_refl _) ⟨Nat.zero_le _, ιEE ([]) _ ⟨.nil, hacc⟩⟩, ?_⟩
    ·
      unfold inner at e2
      rw [List.getElem?_map] at e2
      cases hs : src[i]? with
      | none => rw [hs] at e2; cases e2
      | some o =>
        rw [hs] at e2
        cases o with
        | none => cases e2
        | some j =>
          have e2' : (σ[j]?).join = some v := Option.some.inj e2
          have hσ : σ[j]? = some (some v) := by
            cases q : σ[j]? with
            | none => rw [q] at e2'; cases e2'
            | some z => rw [q] at e2'; exact congrArg some e2'
          have hz : (x, some j) ∈ N'.zip src := by
            have e1' : N'[i]? = some x := e1
            have : (N'.zip src)[i]? = some (x, some j) := by rw [List.getElem?_zip_eq_some]; exact ⟨e1', hs⟩
            exact List.mem_of_getElem? this
          have hm := List.all_eq_true.mp hk.map _ hz
          simp only [Bool.and_eq_true, beq_iff_eq] at hm
          obtain ⟨hN, hfr⟩ := hm
          obtain ⟨m, hn, hl⟩ := I2.loc
          have hkind := hk.free (x, .free) (PySem.mem_of_lookup hfr) rfl
          obtain ⟨u, r, l⟩ := hl j x v hN hσ (hkind.elim (fun z => .inr (.inl z)) fun z => .inr (.inr z))
          refine ⟨u, r, ?_⟩
          rcases l with ⟨l, _⟩ | ⟨l, c, hc, z⟩
          · rcases hkind with q | q
            · have q' : X.env.kindOf x = some .cell := q
              rw [q'] at l; cases l
            · have q' : X.env.kindOf x = some .free := q
              rw [q'] at l; cases l
          · obtain ⟨c', hc'⟩ := hasc x hfr
            have ec := sub x c' hc'
            rw [hc] at ec
            cases ec
            refine .inr ⟨(relab_free hk.nocell).mpr hfr, c, hc', ?_⟩
            obtain ⟨o, ho, hd⟩ := z
            exact ⟨o, old c o ho, hd⟩
    · (refine εx2 (I2.cell x c (sub x c e)) fun v o c'1015 => εa2 c'1015 fun ho hd => ?_; clear c'1015)
      exact (ιEE v o ⟨old c o ho, hd⟩)
    · show upd H2 s2.heap.objs.size (.lst []) G2.objs.size = none
      rw [upd_ne (Ne.symm hDC)]
      exact I2.hok.fresh hCle
    · obtain ⟨v, q⟩ := I2.cell x c (sub x c e)
      rw [upd_ne (Nat.ne_of_lt q.lt)]
      exact I2.freeC x c (sub x c e)
    · show (inner src σ).length = N'.length
      unfold inner
      rw [List.length_map]
      exact hk.len
  have stat : ∀ {H' : Hp}, (∀ b ∈ fp, H' b = none) → ∀ b ∈ fp, FpOk (cxLc X N' scope cl G2.objs.size fp s2 H2) [] H' b := fun hn b hb =>
    ⟨hn b hb, (below b (fplt b hb)).1, ok'.exfs b hb, .inl hb, (ok'.exf b hb).2, fun p hp => by cases hp⟩
  have loop : codeAny (model X.prog X.w) X.A (.compLoop (.ListComp elt [⟨target, iter, ifs, 0⟩] scope pos) 0 (.ref it) (.ref s2.heap.objs.size) (compEnvC scope cl G2.objs.size X.env))
      (compPost (model X.prog X.w) X.A X.xe use Fin (.ref s2.heap.objs.size) G2.objs.size) { s2 with heap := h₁, toks := s2.toks + ([] : List (Str × Value)).length } := by
    refine lc_loop (fun n s' => ∃ i σ' H', Inv (cxLc X N' scope cl G2.objs.size fp s2 H2) [] σ' H' s' ∧ tn i s'.heap ∧ (∀ b ∈ fp, H' b = none) ∧ W i n σ' H') ?_ m0
      (ιEEE 0 _ _ ⟨I3, T.keep _ _ _ st2 fun b _ o e => old b o e, fun b hb => ?_, w0⟩)
    rotate_left
    · rw [upd_ne (below b (fplt b hb)).2]; exact (f2 b hb).1
    (rintro n s3 h'1016; refine εx3 h'1016 fun i σ3 H3 c'1017 => εa4 c'1017 fun J3 st3 fr3 w3 => ?_; (try clear h'1016); clear c'1017)
    rcases turn i n σ3 H3 w3 with ⟨stop, q⟩ | ⟨go, N, hN, step⟩
    · refine thn (T.done (cxLc X N' scope cl G2.objs.size fp s2 H2) rfl rfl rfl hcalm i [] s3 σ3 H3 NoX J3 (stat fr3) st3 stop) fun r s4 ⟨hr, J4⟩ => ?_
      subst hr
      obtain ⟨m, hn, _⟩ := J4.loc
      refine hfin _ _ s4 H3 m ?_ (I2.fpOk hCle J4.free) hn q
      refine I2.call' (ch := fp) J4.os J4.base J4.hok J4.bare fun b hb => ?_
      refine εa6 (f2 b hb) fun a0 a1 a2 a3 a4 a5 => ?_
      exact ⟨a3, a1, a4, a5⟩
    · refine thn (T.item (cxLc X N' scope cl G2.objs.size fp s2 H2) rfl rfl rfl hcalm i [] s3 σ3 H3 NoX J3 (stat fr3) st3 go) fun r s4 z'2 => εx1 z'2 fun u m'3 => εa2 m'3 fun hr h4 => ?_
      subst hr
      refine thn h4 fun _ s5 z'4 => εx2 z'4 fun x H5 m'5 => εa5 m'5 fun J5 r5 y5 st5 fr5 => ?_
      have J5' := J5.pinned (stat fr5) (T.obj _ _ st5)
      refine thn (hg _ s5 σ3 H5 x u _ J5' r5 (step x H5 y5)) fun _ s6 z'6 => εx2 z'6 fun σ6 H6 m'7 => εa2 m'7 fun J6 q6 => ?_
      refine thn (hif _ s6 σ6 H6 _ J6 q6) fun ok s7 z'8 => εx1 z'8 fun H7 m'9 => εa2 m'9 fun J7 q7 => ?_
      have again : ∀ {σ8 : St} {H8 : Hp} {s8 : Shared}, Inv (cxLc X N' scope cl G2.objs.size fp s2 H2) ([] ++ pinsAt fp s5.heap) σ8 H8 s8 → N σ8 H8 →
          ∃ m, m < n ∧ ∃ i σ' H', Inv (cxLc X N' scope cl G2.objs.size fp s2 H2) [] σ' H' s8 ∧ tn i s8.heap ∧ (∀ b ∈ fp, H' b = none) ∧ W i m σ' H' := fun {σ8 H8 s8} J8 n8 => by
        obtain ⟨m', hm, w8⟩ := hN _ _ n8
        refine (ιEAEEE m' hm (i + 1) σ8 H8 ⟨J8.unpinned, T.keep _ _ _ st5 fun b hb o e => (J8.pin (b, o) (List.mem_append_right _ (List.mem_append_right _ (mem_pinsAt hb e)))).1, fun b hb => ?_, w8⟩)
        obtain ⟨o, e, d⟩ := T.obj _ _ st5 b hb
        exact (J8.pin (b, o) (List.mem_append_right _ (List.mem_append_right _ (mem_pinsAt hb e)))).2.1
      cases ok with
      | false =>
        rw [if_neg Bool.false_ne_true] at q7 ⊢
        exact again J7 q7
      | true =>
        rw [if_pos rfl] at q7 ⊢
        refine thn (he _ s7 σ6 H7 _ J7 q7) fun v8 s8 z'10 => εx2 z'10 fun y H8 m'11 => εa3 m'11 fun J8 r8 m'12 => εx1 m'12 fun ys m'13 => εa3 m'13 fun hys hlen q8 => ?_
        refine thn (mt_append _ s8 σ6 H8 (.ref s2.heap.objs.size) [y] _ [v8] (fun _ H9 => N σ6 H9) J8 rfl (.cons r8 .nil) (ιEEE _ ys y ⟨rfl, rfl, hys, hlen, q8⟩)) fun _ s9 z'14 => εx2 z'14 fun _ H9 m'15 => εa3 m'15 fun J9 _ q9 => ?_
        exact again J9 q9
  exact codeAny_compStart_list loop (T.self _ 0 _ _ _ (T.keep _ _ _ st2 fun b _ o e => old b o e) loop)
theorem pe_lc (hcalm : X.calm = true) (hk : LcOk X.env.scope X.N N' src scope) (hi : PI X target iter wi)
    (hin : ∀ cl C ex s H, PG (cxLc X N' scope cl C ex s H) target g ∧ PIf (cxLc X N' scope cl C ex s H) ifs tc ∧ PE (cxLc X N' scope cl C ex s H) elt te)
    (hfs : ∀ x, foldedSetIterable iter X.env x = pure x := by intro _; rfl) : PE X (.ListComp elt [⟨target, iter, ifs, 0⟩] scope pos) (tLc src wi g tc te) := by
  intro pins s σ H Q I hw
  rw [eval_ListComp]
  refine lc_core hcalm hk hi hin hfs I hw fun D C s4 H3 m I4 fp hn q => ⟨m, hn, fun h' hs => (ιEE (.ref D) H3 ⟨?_, rfl, q⟩)⟩
  (refine εa6 fp fun a0 a1 a2 a3 a4 a5 => ?_; (try clear fp))
  exact I4.turned (t' := s4.toks) (fun b o hb e => hs.extBut b o hb e) a0 a1 a3 a4 a5
end
section
variable {X : Cx} {pos : Pos}
theorem ix_tupK (K : PySem.W.Frag) (hK : X.K = K) : IxR X (rIxT K) := by
  subst hK
  exact ix_tup
theorem ix_listK (K : PySem.W.Frag) (hK : X.K = K) : IxR X (rIxL K) := by
  subst hK
  exact ix_list
theorem len_seqK (K : PySem.W.Frag) (hK : X.K = K) : CallR X (.builtin "len") (fun xs H Q => ∃ p ys, xs = [.ref p] ∧ (SqL K H p ys ∨ SqT K H p ys) ∧ Q (.int ys.length) H) := by
  subst hK
  exact call_len_seq
end
theorem lc_by {J : It} {D : Addr} {g : TG} {tc : TT} {te : TE} {σ0 : St} {H : Hp} {Q : VK} (n : Nat) (Pv : Nat → St → Hp → Prop) (h0 : Pv 0 σ0 H) (hgo : ∀ i σ H, i < n → Pv i σ H → J.go i H) (hst : ∀ σ H, Pv n σ H → J.stop n H)
    (hs : ∀ i x σ H H2, i < n → Pv i σ H → J.yld i H x H2 → g x σ H2 fun σ2 H3 => tc σ2 H3 fun ok H4 =>
      if ok = true then te σ2 H4 fun y H5 => ∃ ys, H5 D = some (.lst ys) ∧ ys.length < sizeLine ∧ Pv (i + 1) σ2 (upd H5 D (.lst (ys ++ [y]))) else Pv (i + 1) σ2 H4)
    (hd : ∀ σ H, Pv n σ H → Q (.ref D) H) : LcW J D g tc te Q σ0 H := by
  refine ⟨fun i m σ H => m = n - i ∧ i ≤ n ∧ Pv i σ H, ⟨n, by simp, Nat.zero_le _, h0⟩, ?_⟩
  rintro i m σ H ⟨rfl, hi, p⟩
  by_cases hlt : i < n
  · exact .inr ⟨hgo i σ H hlt p, Pv (i + 1), fun σ' H' p' => ⟨n - (i + 1), by exact ω49 hlt, rfl, hlt, p'⟩, fun x H2 y => hs i x σ H H2 hlt p y⟩
  · have e : i = n := by exact ω50 hi hlt
    subst e
    exact .inl ⟨hst σ H p, hd σ H p⟩
theorem lc_tup {K : PySem.W.Frag} {a : Addr} {xs : List V} {D : Addr} {g : TG} {tc : TT} {te : TE} {σ0 : St} {H : Hp} {Q : VK} (Pv : Nat → St → Hp → Prop) (h0 : Pv 0 σ0 H) (hl : ∀ i σ H, i ≤ xs.length → Pv i σ H → SqT K H a xs)
    (hs : ∀ i x σ H, xs[i]? = some x → Pv i σ H → g x σ H fun σ2 H3 => tc σ2 H3 fun ok H4 =>
      if ok = true then te σ2 H4 fun y H5 => ∃ ys, H5 D = some (.lst ys) ∧ ys.length < sizeLine ∧ Pv (i + 1) σ2 (upd H5 D (.lst (ys ++ [y]))) else Pv (i + 1) σ2 H4)
    (hd : ∀ σ H, Pv xs.length σ H → Q (.ref D) H) : LcW (Itt K a) D g tc te Q σ0 H := by
  refine lc_by xs.length Pv h0 (fun i σ H hi p => (ιEE xs (xs[i]) ⟨hl i σ H (Nat.le_of_lt hi) p, by simp [hi]⟩)) (fun σ H p => ⟨xs, hl _ σ H (Nat.le_refl _) p, Nat.le_refl _⟩) (fun i x σ H H2 hi p y => ?_) hd
  obtain ⟨rfl, y⟩ := y
  exact hs i x σ _ (y xs (hl i σ _ (Nat.le_of_lt hi) p)) p
theorem lc_list {K : PySem.W.Frag} {a : Addr} {xs : List V} {D : Addr} {g : TG} {tc : TT} {te : TE} {σ0 : St} {H : Hp} {Q : VK} (Pv : Nat → St → Hp → Prop) (h0 : Pv 0 σ0 H) (hl : ∀ i σ H, i ≤ xs.length → Pv i σ H → SqL K H a xs)
    (hs : ∀ i x σ H, xs[i]? = some x → Pv i σ H → g x σ H fun σ2 H3 => tc σ2 H3 fun ok H4 =>
      if ok = true then te σ2 H4 fun y H5 => ∃ ys, H5 D = some (.lst ys) ∧ ys.length < sizeLine ∧ Pv (i + 1) σ2 (upd H5 D (.lst (ys ++ [y]))) else Pv (i + 1) σ2 H4)
    (hd : ∀ σ H, Pv xs.length σ H → Q (.ref D) H) : LcW (Itl K a) D g tc te Q σ0 H := by
  refine lc_by xs.length Pv h0 (fun i σ H hi p => (ιEE xs (xs[i]) ⟨hl i σ H (Nat.le_of_lt hi) p, by simp [hi]⟩)) (fun σ H p => ⟨xs, hl _ σ H (Nat.le_refl _) p, Nat.le_refl _⟩) (fun i x σ H H2 hi p y => ?_) hd
  obtain ⟨rfl, y⟩ := y
  exact hs i x σ _ (y xs (hl i σ _ (Nat.le_of_lt hi) p)) p
theorem lc_range {lo : Int} {n : Nat} {D : Addr} {g : TG} {tc : TT} {te : TE} {σ0 : St} {H : Hp} {Q : VK} (Pv : Nat → St → Hp → Prop) (h0 : Pv 0 σ0 H)
    (hs : ∀ (i : Nat) σ H, i < n → Pv i σ H → g (.int (lo + i)) σ H fun σ2 H3 => tc σ2 H3 fun ok H4 =>
      if ok = true then te σ2 H4 fun y H5 => ∃ ys, H5 D = some (.lst ys) ∧ ys.length < sizeLine ∧ Pv (i + 1) σ2 (upd H5 D (.lst (ys ++ [y]))) else Pv (i + 1) σ2 H4)
    (hd : ∀ σ H, Pv n σ H → Q (.ref D) H) : LcW (Itr lo n) D g tc te Q σ0 H := by
  refine lc_by n Pv h0 (fun i σ H hi p => hi) (fun σ H p => Nat.le_refl _) (fun i x σ H H2 hi p y => ?_) hd
  obtain ⟨rfl, rfl⟩ := y
  exact hs i σ _ hi p
end L2
namespace L2
open PySem PySem.Spec PyProof.Rows
mutual
inductive RD (H : Hp) : V → PyData → Prop
  | non : RD H .non .none
  | bl (b : Bool) : RD H (.bl b) (.bool b)
  | int (i : Int) : RD H (.int i) (.int i)
  | str (x : Str) : RD H (.str x) (.str x)
  | tup {a : Addr} {xs : List V} {ds : List PyData} : H a = some (.tup xs) → RDs H xs ds → RD H (.ref a) (.tuple ds)
  | lst {a : Addr} {xs : List V} {ds : List PyData} : H a = some (.lst xs) → RDs H xs ds → RD H (.ref a) (.list ds)
inductive RDs (H : Hp) : List V → List PyData → Prop
  | nil : RDs H [] []
  | cons {x : V} {xs : List V} {d : PyData} {ds : List PyData} : RD H x d → RDs H xs ds → RDs H (x :: xs) (d :: ds)
end
section
variable {P : Program} {w : World} {H : Hp} {h : Heap}
theorem RD.reads (ok : HOk P w H h) {v : V} {d : PyData} {u : Value} (x : RD H v d) (r : RelV v u) : ∃ as, Reads h u d as := by
  revert r
  refine @RD.rec H (fun v d _ => ∀ {u : Value}, RelV v u → ∃ as, Reads h u d as) (fun vs ds _ => ∀ {us : List Value}, Vals vs us → ∃ as, ReadsAll h us ds as) ?_ ?_ ?_ ?_ ?_ ?_ ?_ ?_ v d x u
  · intro u r; cases r; exact ⟨_, .none⟩
  · intro b u r; cases r; exact ⟨_, .bool b⟩
  · intro i u r; obtain ⟨t, rfl⟩ := r; exact ⟨_, .int i t⟩
  · intro x u r; obtain ⟨t, rfl⟩ := r; exact ⟨_, .str x t⟩
  · intro a xs ds e rs ih u r
    cases r
    (refine εa2 (ok _ _ e) fun _ c'1 => εx1 c'1 fun its c'2 => εa2 c'2 fun rv c'3 => εx1 c'3 fun o c'4 => εa3 c'4 fun e1 e2 c'5 => εx1 c'5 fun n e3 => ?_)
    obtain ⟨as, q⟩ := ih rv
    exact ⟨_, .tuple e1 e2 e3 (by simpa using q)⟩
  · intro a xs ds e rs ih u r
    cases r
    (refine εa2 (ok _ _ e) fun _ c'1 => εx2 c'1 fun its n c'2 => εa2 c'2 fun rv e1 => ?_)
    obtain ⟨as, q⟩ := ih rv
    exact ⟨_, .list e1 rfl rfl (by simpa using q)⟩
  · intro us r; rw [Vals.zer r]; exact ⟨_, .nil⟩
  · intro x xs d ds _ _ ih1 ih2 us r
    obtain ⟨u, t, rfl, q, qs⟩ := Vals.un r
    obtain ⟨as, z⟩ := ih1 q
    obtain ⟨bs, zs⟩ := ih2 qs
    exact ⟨_, .cons z zs⟩
end
section
variable {X : Cx}
theorem op_eqD (hu : X.A.units + 64 < cLine) : OpR X (compareOp .Eq) (fun x y H Q => ∃ d e, RD H x d ∧ RD H y e ∧ SeqAt.shaped d = true ∧ SeqAt.shaped e = true ∧ Q (.bl (PyData.eqv d e)) H) := by
  intro pins s σ H x y v u Q I rx ry h
  (refine εx2 h fun d e c'1326 => εa5 c'1326 fun hd he sd se q => ?_; (try clear h); clear c'1326)
  obtain ⟨as, r1⟩ := hd.reads I.hok rx
  obtain ⟨bs, r2⟩ := he.reads I.hok ry
  exact SeqAt.compareEq_shaped r1 r2 sd se hu (ιEE (.bl _) H ⟨I, rfl, q⟩)
theorem op_neD (hu : X.A.units + 64 < cLine) : OpR X (compareOp .NotEq) (fun x y H Q => ∃ d e, RD H x d ∧ RD H y e ∧ SeqAt.shaped d = true ∧ SeqAt.shaped e = true ∧ Q (.bl (!PyData.eqv d e)) H) := by
  intro pins s σ H x y v u Q I rx ry h
  (refine εx2 h fun d e c'1327 => εa5 c'1327 fun hd he sd se q => ?_; (try clear h); clear c'1327)
  obtain ⟨as, r1⟩ := hd.reads I.hok rx
  obtain ⟨bs, r2⟩ := he.reads I.hok ry
  exact SeqAt.compareNe_shaped r1 r2 sd se hu (ιEE (.bl _) H ⟨I, rfl, q⟩)
theorem pe_type {x : Str} {T : String} {pos : Pos} (hg : Gl X x) (hm : X.mg x = none) (hv : bootBuiltins x = some (.type T)) (hn : x ≠ "__name__" := by decide) (hd : (x == ("__debug__" : Str)) = false := by decide) : PE X (.Name x pos) (tC (.ty T)) :=
  pe_bltn (v := .ty T) hg hm hv rfl hn hd
theorem call_isinst : CallR X (.builtin "isinstance") (fun xs H Q => ∃ x T t b, xs = [x, .ty T] ∧ TyOf X.K H x t ∧ PySem.W.kitOne X.K t (.type T) = some b ∧ Q (.bl b) H) := by
  intro pins s σ H xs us Q I r h
  (refine εx4 h fun x T t b c'1329 => εa4 c'1329 fun e'1328 ty k q => ?_; (try clear h); clear c'1329; subst e'1328)
  (refine εx2 (r.two) fun u v c'1331 => εa3 c'1331 fun e'1330 ru rv => ?_; clear c'1331; subst e'1330)
  obtain rfl : v = Value.type T := rv
  exact isinst_ok I ru ty k fun tk => (ιEE (.bl b) H ⟨I.tok tk, rfl, q⟩)
noncomputable def SetO (P : Program) (w : World) (a : Addr) (S : Int → Bool) (n : Nat) : HO := .ext fun h => CW.SetI P w h a S n
noncomputable def ddp (ns : List Int) : List Int := firstMet (fun i => ns.getD i 0) ns.length
theorem ddp_mem (ns : List Int) (k : Int) : (ddp ns).any (· == k) = ns.any (· == k) := by
  unfold ddp
  rw [firstMet_any]
  congr 1
  refine List.ext_getElem? fun i => ?_
  by_cases h : i < ns.length
  · simp [h, List.getD_eq_getElem?_getD]
  · rw [List.getElem?_eq_none (by simpa using h), List.getElem?_eq_none (by exact ω71 h)]
theorem ddp_len (ns : List Int) : (ddp ns).length ≤ ns.length := firstMet_length_le _ _
theorem firstMet_nodup (val : Nat → Int) : ∀ i, (firstMet val i).Nodup
  | 0 => by rw [firstMet_zero]; exact List.nodup_nil
  | i + 1 => by
    rw [firstMet_succ]
    unfold step_dedup
    split
    · exact firstMet_nodup val i
    · rename_i h
      rw [List.nodup_append]
      refine ⟨firstMet_nodup val i, by simp, ?_⟩
      intro a ha b hb e
      rw [List.mem_singleton] at hb
      subst hb e
      exact h (List.any_eq_true.mpr ⟨_, ha, by simp⟩)
theorem ddp_nodup (ns : List Int) : (ddp ns).Nodup := firstMet_nodup _ _
theorem call_setI (hc : X.calm = true) : CallR X (.type "set") (fun xs H Q => ∃ p ns, xs = [.ref p] ∧ SqL X.K H p (ns.map V.int) ∧ ns.length < 4000 ∧
    ∀ l, H l = none → Q (.ref l) (upd H l (SetO X.prog X.w l (fun k => ns.any (· == k)) (ddp ns).length))) := by
  intro pins s σ H xs us Q I r h
  (refine εx2 h fun p ns c'1333 => εa4 c'1333 fun e'1332 hq hz q => ?_; (try clear h); clear c'1333; subst e'1332)
  obtain ⟨u, rfl, rx⟩ := vals1 r
  cases rx
  (refine εx1 (I.list hq) fun its c'1334 => εa3 c'1334 fun rv pl _ => ?_; clear c'1334)
  have hi : IntsAre its ns := intsAre_of rv
  have hl := hi.length
  refine CW.call_set_I (items := its.toArray) (ns := ns) (I.ok.hd hc) pl.isList (by simpa using hi) (by simp; unfold scanBound; exact ω488 hz hl) fun h' tk hS hk => ?_
  have hk' : ∀ b o, s.heap.get? b = some o → h'.get? b = some o := fun b o e => hk b o (Heap.lt_size e) e
  have hS' : CW.SetI X.prog X.w h' s.heap.objs.size (fun k => ns.any (· == k)) (ddp ns).length := hS.congr (fun k => by
    have := ddp_mem ns k
    unfold ddp at this
    rw [← hl] at this
    simpa using this) (by unfold ddp; simp [hl])
  refine (ιEE (.ref s.heap.objs.size) _ ⟨I.laid (t' := tk) (o := SetO X.prog X.w s.heap.objs.size (fun k => ns.any (· == k)) (ddp ns).length) hk' (Nat.le_refl _) ⟨hS', ?_, fun h1 h2 a b => a.at b⟩, rfl, q _ I.fresh⟩)
  (refine εx3 hS' fun _ _ _ c'1336 => εa2 c'1336 fun n'1335 _ => ?_; (try clear hS'); clear c'1336; obtain ⟨o, ho, _⟩ := n'1335)
  exact ⟨o, ho⟩
theorem call_sortedI (hc : X.calm = true) : CallR X (.builtin "sorted") (fun xs H Q => ∃ p S n, xs = [.ref p] ∧ H p = some (SetO X.prog X.w p S n) ∧ n < 64 ∧
    ∀ l (ns : List Int), H l = none → ns.Pairwise (· ≤ ·) → ns.length = n → (∀ k, k ∈ ns ↔ S k = true) → Q (.ref l) (upd H l (.lst (ns.map V.int)))) := by
  intro pins s σ H xs us Q I r h
  (refine εx3 h fun p S n c'1338 => εa4 c'1338 fun e'1337 hp h64 q => ?_; (try clear h); clear c'1338; subst e'1337)
  obtain ⟨u, rfl, rx⟩ := vals1 r
  cases rx
  obtain ⟨hS, _, _⟩ : ObjOk X.prog X.w H s.heap p (SetO X.prog X.w p S n) := I.hok p _ hp
  refine CW.sorted_I (I.ok.hd hc) hS h64 fun h' tk d' out ns D e hk hD hat hi hs hl hm => ?_
  have hn : H D = none := I.hok.fresh hD
  refine (ιEE (.ref D) (upd H D (.lst (ns.map V.int))) ⟨I.call' (s' := { s with heap := h', toks := tk, drawn := d' }) (ch := []) rfl (Un.laid hk hD hn) (I.hok.laid hk hD ⟨?_, ιEE out e ⟨vals_ints hi, hat⟩⟩) I.bare (fun b z => by cases z), rfl, q D ns hn hs hl hm⟩)
  rw [List.length_map, sizeLine_eq]
  exact ω171 h64 hl
end
noncomputable def TK (H H' : Hp) : Prop := ∀ b xs, H b = some (.tup xs) → H' b = some (.tup xs)
theorem Same.tk {H H' : Hp} (h : Same H H') : TK H H' := fun b xs e => h b _ e
theorem Same.upd {H : Hp} {l : Addr} {o : HO} (h : H l = none) : Same H (upd H l o) := fun b u e => by rw [upd_ne (ne_of_none e h)]; exact e
theorem Same.upd' {H H' : Hp} {l : Addr} {o : HO} (a : Same H H') (h : H l = none) : Same H (L2.upd H' l o) := fun b u e => by rw [upd_ne (ne_of_none e h)]; exact a b u e
end L2
namespace CW
open PySem
section
variable {prog : Program} {w : World} {A : Around} {E : Value → Shared → Prop} {s : Shared} {K : Type} [DecidableEq K] {knd : KeyKind prog w K} {d : Addr} {kvs : List (K × Value)} {ep : Nat}
end
end CW
namespace L2
open PySem PySem.Spec PyProof.Rows
section
variable {X : Cx}
end
end L2
namespace Gm
open PySem L2
abbrev Pl := Int × Int × List Int
noncomputable def IsPl (H : Hp) (v : V) (p : Pl) : Prop := ∃ a b, v = .ref a ∧ H a = some (.tup [.int p.1, .int p.2.1, .ref b]) ∧ H b = some (.tup (p.2.2.map V.int))
noncomputable def IsGm (H : Hp) (v : V) (g : List Pl) : Prop := ∃ a vs, v = .ref a ∧ H a = some (.tup vs) ∧ Paired (IsPl H) vs g
theorem IsPl.tk {H H' : Hp} {v : V} {p : Pl} (h : IsPl H v p) (k : TK H H') : IsPl H' v p := by
  (refine εx2 h fun a b c'22 => εa3 c'22 fun e'21 h1 h2 => ?_; (try clear h); clear c'22; subst e'21)
  exact (ιEE a b ⟨rfl, k _ _ h1, k _ _ h2⟩)
theorem pls_tk {H H' : Hp} {vs : List V} {g : List Pl} (h : Paired (IsPl H) vs g) (k : TK H H') : Paired (IsPl H') vs g := Paired.mapP h fun _ _ z => z.tk k
theorem IsGm.tk {H H' : Hp} {v : V} {g : List Pl} (h : IsGm H v g) (k : TK H H') : IsGm H' v g := by
  (refine εx2 h fun a vs c'24 => εa3 c'24 fun e'23 h1 h2 => ?_; (try clear h); clear c'24; subst e'23)
  exact (ιEE a vs ⟨rfl, k _ _ h1, pls_tk h2 k⟩)
theorem paired_get {α β : Type} {F : α → β → Prop} {l₁ : List α} {l₂ : List β} (h : Paired F l₁ l₂) {i : Nat} {x : α} (e : l₁[i]? = some x) : ∃ y, l₂[i]? = some y ∧ F x y := by
  induction h generalizing i with
  | nil => simp at e
  | cons r t ih => cases i with
    | zero => simp at e; subst e; exact ⟨_, rfl, r⟩
    | succ i =>
      obtain ⟨y, h1, h2⟩ := ih (i := i) (by simpa using e)
      exact ⟨y, by simpa using h1, h2⟩
theorem paired_get2 {α β : Type} {F : α → β → Prop} {l₁ : List α} {l₂ : List β} (h : Paired F l₁ l₂) {i : Nat} {y : β} (e : l₂[i]? = some y) : ∃ x, l₁[i]? = some x ∧ F x y := by
  induction h generalizing i with
  | nil => simp at e
  | cons r t ih => cases i with
    | zero => simp at e; subst e; exact ⟨_, rfl, r⟩
    | succ i =>
      obtain ⟨x, h1, h2⟩ := ih (i := i) (by simpa using e)
      exact ⟨x, by simpa using h1, h2⟩
theorem paired_len {α β : Type} {F : α → β → Prop} {l₁ : List α} {l₂ : List β} (h : Paired F l₁ l₂) : l₁.length = l₂.length := Paired.length h
noncomputable def plD (p : Pl) : PyData := .tuple [.int p.1, .int p.2.1, .tuple (p.2.2.map PyData.int)]
theorem rds_ints (H : Hp) : ∀ ws : List Int, RDs H (ws.map V.int) (ws.map PyData.int)
  | [] => .nil
  | w :: r => .cons (.int w) (rds_ints H r)
theorem IsPl.rd {H : Hp} {v : V} {p : Pl} (h : IsPl H v p) : RD H v (plD p) := by
  (refine εx2 h fun a b c'26 => εa3 c'26 fun e'25 h1 h2 => ?_; (try clear h); clear c'26; subst e'25)
  exact .tup h1 (.cons (.int _) (.cons (.int _) (.cons (.tup h2 (rds_ints H _)) .nil)))
theorem can_ints : ∀ ws : List Int, PyData.canLayAll0 (ws.map PyData.int) = true
  | [] => by simp [PyData.canLayAll0]
  | w :: r => by simp [PyData.canLayAll0, PyData.canLay0, can_ints r]
theorem depth_ints : ∀ ws : List Int, PyData.depthAll (ws.map PyData.int) ≤ 1
  | [] => by simp [PyData.depthAll]
  | w :: r => by
    have := depth_ints r
    simp [PyData.depthAll, PyData.depth]
    try exact ω45 this
theorem shaped_pl (p : Pl) : SeqAt.shaped (plD p) = true := by
  have h1 := can_ints p.2.2
  have h2 := depth_ints p.2.2
  unfold SeqAt.shaped plD
  rw [Bool.and_eq_true, decide_eq_true_eq]
  refine ⟨by simp [PyData.canLay0, PyData.canLayAll0, h1], ?_⟩
  simp only [PyData.depth, PyData.depthAll]
  exact ω356 h2
theorem eqv_ints : ∀ ws : List Int, PyData.eqvAll (ws.map PyData.int) (ws.map PyData.int) = true
  | [] => by simp [PyData.eqvAll]
  | w :: r => by simp [PyData.eqvAll, PyData.eqv, eqv_ints r]
theorem eqv_pl (p : Pl) : PyData.eqv (plD p) (plD p) = true := by
  unfold plD
  simp [PyData.eqv, PyData.eqvAll, eqv_ints]
structure WfPl (many : Int) (p : Pl) : Prop where
  hand : p.1 = 0 ∨ p.1 = 1
  ways : p.2.2 ≠ []
  inn : ∀ w ∈ p.2.2, 0 ≤ w ∧ w < many
  ris : p.2.2.Pairwise (· < ·)
theorem perm_of_len : ∀ {l' l : List Int}, l'.Nodup → (∀ k ∈ l', k ∈ l) → l.length = l'.length → l.Perm l'
  | [], l, _, _, e => by rw [List.length_eq_zero_iff.mp e]
  | a :: r, l, nd, sub, e => by
    have ha : a ∈ l := sub a List.mem_cons_self
    have p := List.perm_cons_erase ha
    rw [List.nodup_cons] at nd
    have q := perm_of_len (l' := r) (l := l.erase a) nd.2 (fun k hk => (List.mem_erase_of_ne (fun z : k = a => nd.1 (by rw [← z]; exact hk))).mpr (sub k (List.mem_cons_of_mem _ hk))) (by have := p.length_eq; simp at this e; exact ω357 e this)
    exact p.trans (List.Perm.cons a q)
theorem sorted_lt {ns ws : List Int} (h1 : ns.Pairwise (· ≤ ·)) (h2 : ns.length = (ddp ws).length) (h3 : ∀ k, k ∈ ns ↔ ws.any (· == k) = true) : ns.Pairwise (· < ·) := by
  have hm : ∀ k, k ∈ ddp ws ↔ k ∈ ns := fun k => by
    rw [h3, ← ddp_mem]
    simp
  have p : ns.Perm (ddp ws) := perm_of_len (ddp_nodup ws) (fun k hk => (hm k).mp hk) h2
  have nd : ns.Nodup := p.nodup_iff.mpr (ddp_nodup ws)
  exact (h1.and nd).imp fun {a b} ⟨x, y⟩ => by exact ω358 (by assumption)
end Gm
namespace L2
open PySem PySem.Spec PyProof.Rows
noncomputable def CXE (P : Program) (w : World) : CXT := fun outer H s E e s' => ∃ (a : Addr) (cls a0 : Value) (B : Heap) (H' : Hp), e = .ref a ∧ s'.os = s.os ∧ AllBare s'.gens ∧ Heap.FlyingW B outer a cls a0 s'.heap ∧ Un (frs outer) [] H H' s.heap s'.heap ∧ HOk P w H' B ∧
  (∀ b o, s.heap.get? b = some o → H b = none → b ∉ frs outer → B.get? b = some o) ∧ (∀ b o, s.heap.get? b = some o → b ∉ frs outer → ∃ o', B.get? b = some o') ∧ E cls none H'
theorem un_up {fs : List Addr} {H H' : Hp} {h h1 h2 B : Heap} (u : Un fs [] H H' h h1) (hB : B.StaysIn h2) (up : h1.UpToSlots h2) (inB : ∀ b o, h.get? b = some o → H b = none → b ∉ fs → B.get? b = some o)
    (exB : ∀ b o, h.get? b = some o → b ∉ fs → ∃ o', B.get? b = some o') (nf : ∀ b ∈ fs, H b = none ∧ ∃ o, h.get? b = some o ∧ ∀ vs, o.data ≠ .fields vs) : Un fs [] H H' h h2 where
  keep := fun b o e n hb _ => hB b o (inB b o e n hb)
  slot := fun b o e n hb hx => by
    obtain ⟨sl, e1⟩ := u.slot b o e n hb hx
    (refine εa2 (nf b hb) fun _ c'1083 => εx1 c'1083 fun o' c'1084 => εa2 c'1084 fun e' nd => ?_; clear c'1083 c'1084)
    rw [e] at e'
    cases e'
    obtain ⟨sl', e2⟩ := up b _ e1 nd
    exact ⟨sl', e2⟩
  free := u.free
  there := fun b o e hx => by
    by_cases hb : b ∈ fs
    · (refine εa2 (nf b hb) fun n c'1085 => εx1 c'1085 fun o' c'1086 => εa2 c'1086 fun e' nd => ?_; clear c'1085 c'1086)
      rw [e] at e'
      cases e'
      obtain ⟨sl, e1⟩ := u.slot b o e n hb hx
      obtain ⟨sl', e2⟩ := up b _ e1 nd
      exact ⟨_, e2⟩
    · obtain ⟨o', e1⟩ := exB b o e hb
      exact ⟨o', hB b o' e1⟩
  tups := u.tups
  frzs := u.frzs
  tbls := u.tbls
section
variable {X : Cx} {pins : List (Addr × Obj)} {σ : St} {H : Hp} {s : Shared}
theorem Inv.nf (I : Inv X pins σ H s) : ∀ b ∈ frs X.stack, H b = none ∧ ∃ o, s.heap.get? b = some o ∧ ∀ vs, o.data ≠ .fields vs := fun b hb => ⟨I.stkFree b hb, (I.stack.mem hb).2⟩
theorem Inv.notStk (I : Inv X pins σ H s) {b : Addr} {o : Obj} (e : X.s₀.heap.get? b = some o) (hb : b ∉ X.fs) : b ∉ frs X.stack := fun z => by
  rcases List.mem_cons.mp (I.stkSub b z) with q | q
  · exact absurd (Nat.lt_of_lt_of_le (Heap.lt_size e) I.ok.above) (by rw [q]; exact Nat.lt_irrefl _)
  · exact hb q
end
section
variable {P : Program} {w : World} {K : PySem.W.Frag} {mg : Str → Option Value} {base : Heap} {N : List Str} {qual : Str} {scope : Scope} {f : Addr} {cd : Value} {A : Around} {outer : List Env} {s : Shared} {H : Hp} {E : XK}
theorem passX {E' : XK} (h : ∀ cls H', E' cls none H' → E cls none H') : Passes (CXE P w) (cxOf (CXE P w) P w K mg base N qual scope f cd A outer s H E) E' := by
  intro pins σ H1 s1 e s' I hx
  (refine εx5 hx fun a cls a0 B H' c'1088 => εa9 c'1088 fun e'1087 os bare fl un hok inB exB hE => ?_; (try clear hx); clear c'1088; subst e'1087)
  have os1 : s1.os = s.os := I.os
  have un0 : Un (frs outer) [] H H1 s.heap s1.heap := I.base
  refine wpAny_leaves_onW (outer := outer) (L := s.heap.objs.size) I.ok.frames rfl fl fun h' fl' up => ?_
  have I' := I.call' (s' := s') (ch := []) os un (hok.kept fun b u q => fl.1 b u q) bare (fun b z => by cases z)
  have un1 : Un (frs outer) [] H H' s.heap s'.heap := I'.base
  have inB' : ∀ b o, s.heap.get? b = some o → H b = none → b ∉ frs outer → B.get? b = some o := fun b o e n hb =>
    inB b o (un0.keep b o e n hb (by simp)) (un0.free b o e n (by simp)) (I.notStk (X := cxOf (CXE P w) P w K mg base N qual scope f cd A outer s H E) e hb)
  have exB' : ∀ b o, s.heap.get? b = some o → b ∉ frs outer → ∃ o', B.get? b = some o' := fun b o e hb => by
    obtain ⟨o1, e1⟩ := un0.there b o e (by simp)
    exact exB b o1 e1 (I.notStk (X := cxOf (CXE P w) P w K mg base N qual scope f cd A outer s H E) e hb)
  have nf : ∀ b ∈ frs outer, H b = none ∧ ∃ o, s.heap.get? b = some o ∧ ∀ vs, o.data ≠ .fields vs := fun b hb => ⟨I.ok.frf b hb, (I.ok.funs.mem hb).2⟩
  exact (ιEEEE a cls a0 B ⟨H', rfl, os.trans os1, bare, fl', un_up un1 fl'.1 up inB' exB' nf, hok, inB', exB', h cls H' hE⟩)
theorem exc_of_in {K : PySem.W.Frag} {h : Heap} {C : Addr} {bmB : List Value} {newId : String} (X : K.In h) (q : PySem.W.excIn K C bmB newId = true) : ∃ bm N nm qn bs hdct sn sub ab col dd k0 k1 k2 k3 k5 mN,
    h.get? C = some (excClassObj nm qn C N bs bm hdct sn sub ab col dd k0 k1 k2 k3 k5 newId) ∧ h.Ns N mN ∧ mN "__init__" = none ∧ OwnTail h bmB bm := by
  unfold PySem.W.excIn at q
  split at q
  · rename_i dd cd sl ho
    split at q
    · rename_i C' bm k0 k1 k2 k3 n k5 hm hs
      simp only [Bool.and_eq_true, beq_iff_eq, Bool.not_eq_true'] at q
      obtain ⟨⟨⟨⟨⟨rfl, rfl⟩, hdel⟩, ht⟩, hok⟩, hni⟩ := q
      obtain ⟨nm, bs, mro, ns, qn, hd, sn, sub, ab, col, del⟩ := cd
      dsimp only at hm hdel hok hni
      subst hm hdel
      have hsl : sl = #[k0, k1, k2, k3, some (.builtin n), k5] := by
        obtain ⟨l⟩ := sl
        simp only at hs
        rw [hs]
      subst hsl
      exact (ιEEEE bm ns nm qn (ιEEEE bs hd sn sub (ιEEEE ab col dd k0 (ιEEEE k1 k2 k3 k5 ⟨_, X _ _ ho, .of_isNs (PySem.W.isNs_of_in X hok), PySem.W.nsMap_none_of_in X hok hni, PySem.W.tail_of_in X ht⟩))))
    · cases q
  · cases q
noncomputable def tRaise (C : Addr) (E : XK) (t : TA) : TS := fun _ σ H => t σ H fun vs H1 => vs.length ≤ sizeLine ∧ E (.ref C) none H1
theorem ps_raise {x : Str} {np cpos pos : Pos} {C : Addr} {e₀ : Expr} {rest : List Expr} {t : TA} {bm bmN : List Value} {B Bn newId nid initId inN : String} (hx : Gl (cxOf (CXE P w) P w K mg base N qual scope f cd A outer s H E) x) (hm : mg x = some (.ref C)) (hC : PySem.W.excIn K C bm newId = true)
    (Fn : ExcBaseFacts Bn newId inN bmN) (hBn : bm.contains (.type Bn) = true) (FB : ExcBaseFacts B nid initId bm) (ha : PA (cxOf (CXE P w) P w K mg base N qual scope f cd A outer s H E) (e₀ :: rest) t) (hd : (x == ("__debug__" : Str)) = false := by decide)
    (he : starEach (e₀ :: rest) (cxOf (CXE P w) P w K mg base N qual scope f cd A outer s H E).env = (false, eval e₀ (cxOf (CXE P w) P w K mg base N qual scope f cd A outer s H E).env) :: starEach rest (cxOf (CXE P w) P w K mg base N qual scope f cd A outer s H E).env := by rfl)
    (hpl : (backTo cpos (starEach rest (cxOf (CXE P w) P w K mg base N qual scope f cd A outer s H E).env)).any (·.1) = false := by rfl) :
    PS (cxOf (CXE P w) P w K mg base N qual scope f cd A outer s H E) (.Raise (some (.Call (.Name x np) (e₀ :: rest) [] cpos)) none pos) (tRaise C E t) := by
  generalize hX : cxOf (CXE P w) P w K mg base N qual scope f cd A outer s H E = X at *
  intro pins s1 σ H1 D I h
  have hmX : X.mg x = some (.ref C) := by rw [← hX]; exact hm
  have hKX : X.K = K := by rw [← hX]; rfl
  have hcalm : X.calm = true := by rw [← hX]; rfl
  (refine εx5 (exc_of_in (h := X.base) (by rw [← hKX]; exact I.mod.kin) hC) fun tl Nn nm qn bs c'1089 => εx5 c'1089 fun hdct sn sub ab col c'1090 => εx5 c'1090 fun dd k0 k1 k2 k3 c'1091 => εx2 c'1091 fun k5 mN c'1092 => εa4 c'1092 fun hCo hN hni T => ?_; clear c'1089 c'1090 c'1091 c'1092)
  refine wpAny_Raise_call_subU (C := C) (nm := nm) (q := qn) (N := Nn) (bs := bs) (bm := tl) (hdct := hdct) (sn := sn) (sub := sub) (ab := ab) (col := col) (dd := dd) (k0 := k0) (k1 := k1) (k2 := k2) (k3 := k3) (k5 := k5)
    Fn hBn FB (mN := mN) (T.hasType FB.hasBase) (I.ok.hd hcalm) (by rw [he]; show (false || (backTo cpos (starEach rest X.env)).any (·.1)) = false; rw [hpl]; rfl) hni (ld_glob I hx hmX ⟨rfl, ?_⟩ hd)
  have h' := ha cpos pins s1 σ H1 _ I h
  rw [he] at h' ⊢
  refine Calls.evalArgs_plain (thn h' fun us s2 z => ?_)
  (refine εx2 z fun vs H2 c'1093 => εa4 c'1093 fun I2 r hl hE => ?_; (try clear z); clear c'1093)
  refine ⟨rfl, by rw [← r.length]; exact hl, I2.bk _ _ hCo, hN.keeps I2.bk, T.keeps I2.bk, fun h3 e hx3 => ?_⟩
  have hst : X.stack = X.env :: outer := by rw [← hX]; rfl
  have hin : ∀ env ∈ X.stack, ∀ b, env.frame = some b → b ∈ frs X.stack := fun env he b hb => List.mem_filterMap.mpr ⟨env, he, hb⟩
  have hfl : s2.heap.FunFrames (PySem.W.hideAll s2.heap (frs X.stack)) X.stack := PySem.W.funFrames_hide I2.stack hin
  have hlv : X.xe = fun e s' => wpAny (model X.prog X.w) X.A (leaving X.env e) (fun _ s'' => CXE P w outer H s E e s'') (fun e' s'' => CXE P w outer H s E e' s'') s' := by rw [← hX]; rfl
  have hu0 : Un (frs outer) [] H H2 s.heap s2.heap := by have := I2.base; rw [← hX] at this; exact this
  have hos : s2.os = s.os := by have := I2.os; rw [← hX] at this; exact this
  have hHP : HOk P w H2 s2.heap := by have := I2.hok; rw [← hX] at this; exact this
  have hs0 : X.s₀ = s := by rw [← hX]; rfl
  have hfs : X.fs = frs outer := by rw [← hX]; rfl
  have hfm : X.env.frame = some X.env.locals := by rw [← hX]; rfl
  rw [hlv]
  rw [hst] at hfl
  refine wpAny_leaves_madeW (base := PySem.W.hideAll s2.heap (frs X.stack)) (h := s2.heap) (outer := outer) (by rw [I2.ok.frames, hst]) hfm (fun b o q => PySem.W.of_hideAll _ q) (by rw [hst]; exact hfl) hx3 fun h4 t4 fl4 tup4 hn4 up4 => ?_
  have nstk : ∀ b o, s.heap.get? b = some o → b ∉ frs outer → b ∉ frs X.stack := fun b o q hb => I2.notStk (by rw [hs0]; exact q) (by rw [hfs]; exact hb)
  have nf : ∀ b ∈ frs outer, H b = none ∧ ∃ o, s.heap.get? b = some o ∧ ∀ vs, o.data ≠ .fields vs := fun b hb => by
    have h1 := I2.ok.frf b (by rw [hfs]; exact hb)
    have h2 := (I2.ok.funs.mem (b := b) (by have := hb; rw [← hfs] at this; exact this)).2
    rw [hs0] at h2
    refine ⟨?_, h2⟩
    have : X.H₀ = H := by rw [← hX]; rfl
    rw [← this]; exact h1
  have inB : ∀ b o, s.heap.get? b = some o → H b = none → b ∉ frs outer → (PySem.W.hideAll s2.heap (frs X.stack)).get? b = some o := fun b o q n hb => PySem.W.hideAll_get _ (hu0.keep b o q n hb (by simp)) (nstk b o q hb)
  have exB : ∀ b o, s.heap.get? b = some o → b ∉ frs outer → ∃ o', (PySem.W.hideAll s2.heap (frs X.stack)).get? b = some o' := fun b o q hb => by
    obtain ⟨o', e'⟩ := hu0.there b o q (by simp)
    exact ⟨o', PySem.W.hideAll_get _ e' (nstk b o q hb)⟩
  have up : s2.heap.UpToSlots h4 := (Heap.UpToSlots.of_keeps hx3.keeps).trans up4
  refine (ιEEEE e _ _ _ ⟨H2, rfl, hos, I2.bare, fl4, un_up hu0 fl4.1 up inB exB nf, fun b o q => ?_, inB, exB, hE⟩)
  refine (hHP b o q).stay (fun c u hc z => PySem.W.hideAll_get _ z fun hm => ?_) (fun _ z => z) fun _ _ z => z
  have := I2.stkFree c hm
  rcases hc with y | y
  · rw [y, q] at this; cases this
  · rw [y] at this; cases this
end
end L2
namespace L2
open PySem PySem.Spec PyProof.Rows
theorem Fun.okX {P : Program} {w : World} {K : PySem.W.Frag} {mg : Str → Option Value} {base : Heap} {x qual : Str} {st : Stmt} {f : Addr} {fd : FuncData} {N ps : List Str} {k : Nat} {sp : Sp} (F : Fun K x qual st f fd) (S : FnScope N ps (defScope st)) (len : ∀ vs H Q E, sp vs H Q E → vs.length = ps.length)
    (hbody : ∀ (cdv : Value) (A : Around) (outer : List Env) (s : Shared) (H : Hp) (vs : List V) (Q : VK) (E : XK), Room k (A.deeper (envOfC qual (defScope st) s.heap.objs.size f cdv)) → sp vs H Q E →
      ∃ t, PSs (cxOf (CXE P w) P w K mg base N qual (defScope st) f cdv A outer s H E) (defBody st) t ∧ t { nx := fun _ H' => Q .non H', rt := Q } (start N vs) H) : FnOk P w K mg base (CXE P w) (k + 1) f fd ps sp := by
  (refine εx5 (F.ex) fun oc od kV doc pm c'1095 => εx4 c'1095 fun an cdv ct osl c'1096 => εa3 c'1096 fun e'1094 lk hcd => ?_; clear c'1095 c'1096; subst e'1094)
  exact fn_of lk hcd S len fun A outer s H vs Q E hr hsp => hbody cdv A outer s H vs Q E hr hsp
noncomputable def ExcP (a C : Addr) (h : Heap) : Prop := ∃ oe, h.get? a = some oe ∧ oe.cls = .ref C
noncomputable def ExcO (a C : Addr) : HO := .ext (ExcP a C)
structure ExK (K : PySem.W.Frag) (C : Addr) : Prop where
  cl : (PySem.W.clsIn K C).isSome = true
  ga : PySem.W.findIn K (.ref C) "__getattribute__" = some (some (.builtin "BaseException.__getattribute__"))
  bx : PySem.W.mroIn K C (.type "BaseException") = some true
  gk : PySem.W.findIn K (.ref C) "__getattr__" = some none
  ha : PySem.W.findIn K (.ref C) "__class__" = some (some (.builtin "object.__class__"))
  hn : PySem.W.specialIn K (.builtin "object.__class__") "__get__" = some (some (.builtin "getset_descriptor.__get__"))
  tk : PySem.W.takesIn K (.builtin "object.__class__") = some true
  hm : PySem.W.mroIn K C (.type "object") = some true
section
variable {K : PySem.W.Frag} {a C : Addr}
theorem ExcP.type {M : Model} {h : Heap} (p : ExcP a C h) : PySem.W.Looks M h (typeOf (.ref a)) (.ref C) := by
  obtain ⟨oe, h1, h2⟩ := p
  exact h2 ▸ (PySem.W.Looks.ld h1).andThen .now
theorem exc_find (k : ExK K C) {M : Model} {h : Heap} (X : K.In h) : PySem.W.Looks M h (PySem.Builtin.ObjectAttr.find (.ref a) (.ref C) "__class__") (.bind (.builtin "getset_descriptor.__get__") (.builtin "object.__class__")) := by
  have L1 := PySem.W.looks_findIn (M := M) X k.ha
  have L2 : PySem.W.Looks M h (PySem.Builtin.ObjectAttr.getOf (some (.builtin "object.__class__"))) (some (.builtin "getset_descriptor.__get__")) := PySem.W.looks_specialIn X k.hn
  have L3 := PySem.W.looks_takesIn (M := M) X k.tk
  exact L1.andThen (L2.andThen ((show PySem.W.Looks M h (PySem.Builtin.ObjectAttr.dataDescriptor? (some (.builtin "object.__class__")) (some (.builtin "getset_descriptor.__get__"))) (some (.builtin "getset_descriptor.__get__", .builtin "object.__class__")) from L3.andThen .now).andThen (PySem.W.Looks.tag .now)))
theorem exc_class (k : ExK K C) {prog : Program} {w : World} {A : Around} {E : Value → Shared → Prop} {s : Shared} {Q : Option Value → Shared → Prop} (X : K.In s.heap) (p : ExcP a C s.heap) (h : Q (some (.ref C)) { s with toks := s.toks + 1 }) :
    wpAny (model prog w) A (getAttr? (.ref a) "__class__") Q E s := by
  obtain ⟨hh, g, d, t, os⟩ := s
  have L0 := p.type (M := model prog w)
  have L1 := PySem.W.looks_findIn (M := model prog w) X k.ga
  have L2 := PySem.W.looks_findIn (M := model prog w) X k.gk
  have L3 := exc_find (a := a) k (M := model prog w) X
  have L4 := PySem.W.looks_mroIn (M := model prog w) X k.hm
  have L5 := PySem.W.looks_mroIn (M := model prog w) X k.bx
  have hx1 : (onTheHeap (Value.ref C) && Value.builtin "BaseException.__getattribute__" == Value.builtin "object.__getattribute__") = false := by
    have hx2 : (Value.builtin "BaseException.__getattribute__" == Value.builtin "object.__getattribute__") = false := by decide +kernel
    rw [hx2]; rfl
  unfold getAttr? getAttrBy? getAttrBy
  refine wpAny_bind (wpAny_mkText (wpAny_bind (wpAny_attempt (wpAny_holding (wpAny_bind (L0.at (wpAny_bind (L1.at ?_))))))))
  dsimp only
  rw [if_neg (by rw [hx1]; decide)]
  unfold getAttrByItsOwn hookBefore callGetattribute boundAndCalled
  refine wpAny_bind (L2.at (wpAny_bind (wpAny_attempt (wpAny_holding ?_))))
  rw [if_neg (by decide)]
  refine wpAny_bind (wpAny_of_eq (PySem.F.excAttr_ValueError.ga.bind _) ?_)
  refine wpAny_call (codeAny_call_builtin PySem.F.excAttr_ValueError.ga.plain PySem.F.entry_bexc_ga ?_)
  have hk : builtinKind "BaseException.__getattribute__" = some .slot := by decide +kernel
  have hsplit : splitId "BaseException.__getattribute__" = some ("BaseException", "__getattribute__") := by decide +kernel
  have har := PySem.F.args_bexc_ga (.ref a) (.str (Str.ofString "__class__") t)
  have LB : PySem.W.Looks (model prog w) hh (isInstance (.ref a) (.type "BaseException")) true := L0.andThen L5
  show wpAny _ _ (checkBuiltinCall "BaseException.__getattribute__" ⟨[.ref a, .str (Str.ofString "__class__") t], []⟩) _ _ _
  simp only [checkBuiltinCall, hk, hsplit]
  refine wpAny_bind (LB.at ?_)
  rw [if_neg (by decide)]
  refine wpAny_of_eq har ?_
  show wpAny _ _ (Builtin.«object.__getattribute__» ⟨[.ref a, .str (Str.ofString "__class__") t], []⟩) _ _ _
  refine wpAny_bind (wpAny_pure (wpAny_bind (wpAny_pure (wpAny_bind (L0.at (wpAny_bind (L3.at ?_)))))))
  show wpAny _ _ (holding [_] (call _ [_, .ref a, .ref C]) >>= ret) _ _ _
  refine wpAny_bind (wpAny_holding (wpAny_call ?_))
  refine codeAny_call_builtin PySem.W.KF.slot_gs.plain PySem.W.KF.entry_gs (PySem.W.KF.slot_gs.check _ _ _ _ _ _ _ _ PySem.W.KF.type_class (PySem.W.KF.args_gs _ _ _) ?_)
  unfold Builtin.«getset_descriptor.__get__» Builtin.Getset_descriptor.descrGet
  rw [PySem.W.dga_obj]
  refine wpAny_bind (wpAny_pure ?_)
  unfold Builtin.Getset_descriptor.descrGetter Builtin.Getset_descriptor.descrCheckInstance Builtin.Getset_descriptor.descrNameAndClass isInstance
  simp only [PySem.W.KF.owner_class]
  repeat lk
  refine ⟨Code.quiet_builtin _ (by decide +kernel), codeAny_builtin PySem.W.KF.entry_class ?_⟩
  unfold Builtin.«object.__class__» shownTypeOf
  repeat lk
  exact h
theorem kitx_exc (k : ExK K C) : PySem.W.KitX K (.ref a) (.ref C) (ExcP a C) where
  ty := fun _ _ _ p => p.type
  it := fun _ _ X _ => by
    obtain ⟨cd, hc⟩ := Option.isSome_iff_exists.mp k.cl
    unfold PySem.W.clsIn at hc
    split at hc
    · rename_i c' d' cd' sl' ho
      intro A' Q' E' s' kk q
      unfold isType loadHead
      exact wpAny_bind (wpAny_loadPart (kk _ _ (X _ _ ho)) (wpAny_pure q))
    · cases hc
  ne := fun h tp dd its n sl X htp => by
    obtain ⟨cd, hc⟩ := Option.isSome_iff_exists.mp k.cl
    refine Bool.eq_false_iff.mpr fun q => ?_
    have e : C = tp := Value.ref.inj (beq_iff_eq.mp q)
    subst e
    unfold PySem.W.clsIn at hc
    split at hc
    · rename_i c' d' cd' sl' ho
      have z := (X _ _ ho).symm.trans htp
      cases z
    · cases hc
  ca := fun X p h => exc_class k X p h
end
theorem call_isinstE {X : Cx} : CallR X (.builtin "isinstance") (fun xs H Q => ∃ a C y c b, xs = [.ref a, y] ∧ RelV y c ∧ H a = some (ExcO a C) ∧ ExK X.K C ∧ PySem.W.kitOne X.K (.ref C) c = some b ∧ (∀ u, RelV y u → u = c) ∧ Q (.bl b) H) := by
  intro pins s σ H xs us Q I r h
  (refine εx5 h fun a C y c b c'1098 => εa7 c'1098 fun e'1097 ry ha k e hu q => ?_; (try clear h); clear c'1098; subst e'1097)
  (refine εx2 (r.two) fun u v c'1100 => εa3 c'1100 fun e'1099 ru rv => ?_; clear c'1100; subst e'1099)
  obtain rfl : u = Value.ref a := ru
  obtain rfl := hu v rv
  obtain ⟨p, _, _⟩ : ObjOk X.prog X.w H s.heap a (ExcO a C) := I.hok a _ ha
  exact PySem.W.kia_one (kitx_exc k) I.kIn p e (fun z => nomatch z) fun tk => (ιEE (.bl b) H ⟨I.tok tk, rfl, q⟩)
noncomputable def cxMark (X : Cx) (a : Addr) : Cx := { X with A := X.A.mark (some (.ref a)), calm := false, xe := fun _ _ => False }
section
variable {X : Cx} {pins : List (Addr × Obj)} {σ : St} {H : Hp} {s : Shared} {a : Addr}
theorem Inv.mark (I : Inv X pins σ H s) (a : Addr) : Inv (cxMark X a) pins σ H s :=
  ⟨⟨I.ok.mod, I.ok.kind, I.ok.glob, I.ok.blt, I.ok.above, I.ok.inj, I.ok.has, I.ok.cab, (fun z => by cases z), I.ok.frames, I.ok.stk, I.ok.exf, I.ok.bs, I.ok.bsz, I.ok.noex, I.ok.exfs, I.ok.funs, I.ok.frf⟩, I.os, I.bare, I.base, I.loc, I.cell, I.free, I.freeC, I.pin, I.hok, I.len⟩
theorem Inv.unmark (I : Inv (cxMark X a) pins σ H s) (h : X.calm = true → X.A.handled = none) : Inv X pins σ H s :=
  ⟨⟨I.ok.mod, I.ok.kind, I.ok.glob, I.ok.blt, I.ok.above, I.ok.inj, I.ok.has, I.ok.cab, h, I.ok.frames, I.ok.stk, I.ok.exf, I.ok.bs, I.ok.bsz, I.ok.noex, I.ok.exfs, I.ok.funs, I.ok.frf⟩, I.os, I.bare, I.base, I.loc, I.cell, I.free, I.freeC, I.pin, I.hok, I.len⟩
end
theorem ObjOk.there {P : Program} {w : World} {H : Hp} {h : Heap} {a : Addr} {o : HO} (x : ObjOk P w H h a o) : ∃ ob, h.get? a = some ob := by
  induction o with
  | lst xs => (refine εa2 x fun _ c'1101 => εx2 c'1101 fun its n c'1102 => εa2 c'1102 fun r e => ?_; (try clear x); clear c'1101 c'1102); exact ⟨_, e⟩
  | tup xs => (refine εa2 x fun _ c'1103 => εx1 c'1103 fun its c'1104 => εa2 c'1104 fun r c'1105 => εx1 c'1105 fun ob c'1106 => εa2 c'1106 fun e c => ?_; (try clear x); clear c'1103 c'1104 c'1105 c'1106); exact ⟨_, e⟩
  | dK kvs => (refine εa3 x fun _ _ c'1107 => εx1 c'1107 fun vs c'1108 => εa2 c'1108 fun r c'1109 => εx3 c'1109 fun ob es ep c'1110 => εa2 c'1110 fun e c => ?_; (try clear x); clear c'1107 c'1108 c'1109 c'1110); exact ⟨_, e⟩
  | dT kvs => (refine εa3 x fun _ _ c'1111 => εx1 c'1111 fun xs c'1112 => εa2 c'1112 fun r c'1113 => εx3 c'1113 fun ob es ep c'1114 => εa2 c'1114 fun e c => ?_; (try clear x); clear c'1111 c'1112 c'1113 c'1114); exact ⟨_, e⟩
  | set S n => (refine εx4 x fun ob es ep t c'1115 => εa2 c'1115 fun e c => ?_; (try clear x); clear c'1115); exact ⟨_, e⟩
  | ins C dx fs => (refine εa5 x fun d z ne e r => ?_; (try clear x)); exact ⟨_, e⟩
  | own y => exact x
  | xd fs => obtain ⟨mA, ⟨od, es, ep, e, c⟩, r⟩ := x; exact ⟨_, e⟩
  | rng lo hi => (refine εx3 x fun t u v e => ?_; (try clear x)); exact ⟨_, e⟩
  | frz ob u ih => obtain ⟨e, q⟩ := x; exact ⟨_, e⟩
  | tbl ps => exact ⟨_, x⟩
  | met f y => exact ⟨_, x⟩
  | ext φ => obtain ⟨p, e, st⟩ := x; exact e
section
variable {X : Cx} {pins : List (Addr × Obj)} {σ : St} {H : Hp} {s : Shared}
theorem Inv.gone {j : Nat} {n : Str} {m : Str → Option Value} {u : Option Value} {h' : Heap} (I : Inv X pins σ H s) (hN : X.N.Nodup) (hj : X.N[j]? = some n) (hn : X.env.scope.names.lookup n = some .local)
    (hm : s.heap.Ns X.env.locals m) (hns : h'.Ns X.env.locals (fun x => if x = n then u else m x)) (sb : Heap.SameBut X.env.locals s.heap h') : Inv X pins (σ.set j none) H { s with heap := h' } := by
  have oth : ∀ b o, b ≠ X.env.locals → s.heap.get? b = some o → h'.get? b = some o := fun b o hb e => (sb.2 b hb).trans e
  have cellK : ∀ x c, X.env.cells.lookup x = some c → ∀ v, s.heap.IsCell c v → h'.IsCell c v := fun x c e v z'40 => εx1 z'40 fun o m'41 => εa2 m'41 fun ho hd => ⟨o, oth c o (I.cne x c e) ho, hd⟩
  have neL : ∀ b o, X.s₀.heap.get? b = some o → b ≠ X.env.locals := fun b o e => Nat.ne_of_lt (Nat.lt_of_lt_of_le (Heap.lt_size e) I.ok.above)
  obtain ⟨m', hm', hl⟩ := I.loc
  have em : m' = m := by
    (refine εx3 hm' fun o es ep c'1116 => εa4 c'1116 fun h1 h2 _ h3 => ?_; (try clear hm'); clear c'1116)
    (refine εx3 hm fun o' es' ep' c'1117 => εa4 c'1117 fun h1' h2' _ h3' => ?_; (try clear hm); clear c'1117)
    rw [h1] at h1'
    cases h1'
    rw [h2] at h2'
    cases h2'
    funext x
    rw [← h3, ← h3']
  subst em
  refine ⟨I.ok, I.os, I.bare, ⟨fun b o e q hb hx => oth b o (neL b o e) (I.base.keep b o e q hb hx), fun b o e q hb hx => ?_, I.base.free, fun b o e hx => ?_, I.base.tups, I.base.frzs, I.base.tbls⟩, ⟨_, hns, fun i x v e1 e2 e3 => ?_⟩, fun x c e => ?_, I.free, I.freeC, fun p hp => ?_, fun b o e => ?_, by rw [List.length_set]; exact I.len⟩
  · obtain ⟨sl, e1⟩ := I.base.slot b o e q hb hx
    exact ⟨sl, oth b _ (neL b o e) e1⟩
  · obtain ⟨o', e1⟩ := I.base.there b o e hx
    exact ⟨o', oth b o' (neL b o e) e1⟩
  · have hij : i ≠ j := fun z => by
      subst z
      rw [List.getElem?_set_self' ] at e2
      cases h : σ[i]? <;> rw [h] at e2 <;> cases e2
    rw [List.getElem?_set_ne (Ne.symm hij)] at e2
    obtain ⟨u', r, l⟩ := hl i x v e1 e2 e3
    refine ⟨u', r, ?_⟩
    have hxn : x ≠ n := fun z => by subst z; exact hij (nodup_ix hN e1 hj)
    rcases l with ⟨k, l⟩ | ⟨k, c, e, z⟩
    · exact .inl ⟨k, by show (if x = n then u else m' x) = _; rw [if_neg hxn]; exact l⟩
    · exact .inr ⟨k, c, e, cellK x c e _ z⟩
  · obtain ⟨v, z⟩ := I.cell x c e
    exact ⟨v, cellK x c e v z⟩
  · refine εa5 (I.pin p hp) fun e q ne nf d => ?_
    exact ⟨oth _ _ ne e, q, ne, nf, d⟩
  · refine (I.hok b o e).stay (fun c v hc q => oth c v (fun z => ?_) q) (fun _ q => q) fun _ _ q => q
    have := I.free
    rw [← z] at this
    rcases hc with y | y
    · rw [y, e] at this; cases this
    · rw [y] at this; cases this
end
noncomputable def tTry (K : PySem.W.Frag) (Wc : Addr) (sp : Sp) (dvs : List V) (i j : Nat) (t : TA) (ts : TS) : TS := fun D σ H => t σ H fun vs H1 => sp (vs ++ dvs) H1 (fun v H2 => D.nx (σ.set i (some v)) H2)
  (fun cls _ H2 => ∃ C, cls = .ref C ∧ PySem.W.exmOne K (.ref C) (.ref Wc) = some true ∧ ∀ a, H2 a = none →
    ts { nx := fun σ' H' => D.nx (σ'.set j none) H', rt := fun _ _ => False } (σ.set j (some (.ref a))) (upd H2 a (ExcO a C)))
theorem ps_try {X : Cx} {k i j : Nat} {x fn c n : Str} {f Wc : Addr} {fd : FuncData} {ps : List Str} {sp : Sp} {dvs : List V} {ds : List Value} {e : Expr} {es : List Expr} {t : TA} {ts : TS} {b₀ : Stmt} {suite : List Stmt} {out : List Env} {p p1 cpos apos np hpos pos : Pos}
    (hxe : X.xe = fun _ _ => False) (hcalm : X.calm = true) (hst : X.stack = X.env :: out) (hfm : X.env.frame = some X.env.locals) (hN : X.N.Nodup) (hi : X.N[i]? = some x) (hx : Loc X.env.scope x)
    (F : FnOk X.prog X.w X.K X.mg X.base (CXE X.prog X.w) k f fd ps sp) (hr : Room k X.A) (hg : Gl X fn) (hm : X.mg fn = some (.ref f)) (hk : PySem.W.keepIn X.K (.ref f) = true) (hb : Binds X.K fd ps ds) (hd : Vals dvs ds) (ha : PA X (e :: es) t)
    (hgc : Gl X c) (hmc : X.mg c = some (.ref Wc)) (hj : X.N[j]? = some n) (hn : X.env.scope.names.lookup n = some .local) (hsuite : ∀ a, PSs (cxMark X a) (b₀ :: suite) ts)
    (hf : X.fn x = true ∨ X.env.scope.names.lookup x = some .local := by array_get_dec) (hdb : (fn == ("__debug__" : Str)) = false := by decide) (hdc : (c == ("__debug__" : Str)) = false := by decide)
    (hs : swapsWith (.Call (.Name fn p) (e :: es) [] cpos) (some (.Name x p1)) apos.line X.env = pure false := by rfl)
    (he : starEach (e :: es) X.env = (false, eval e X.env) :: starEach es X.env := by rfl) (hpl : (backTo cpos (starEach es X.env)).any (·.1) = false := by rfl) :
    PS X (.Try [.Assign [.Name x p1] (.Call (.Name fn p) (e :: es) [] cpos) apos] [.ExceptHandler (some (.Name c np)) (some n) (b₀ :: suite) hpos] [] [] pos) (tTry X.K Wc sp dvs i j t ts) := by
  intro pins s σ H D I h
  refine wpAny_Try_except (wpAny_execs_cons (wpAny_Assign_Name (wpAny_Call_Name_kw (ld_glob I hg hm ?_ hdb)) hs))
  refine PySem.W.callWith_K (h₀ := X.base) I.ok.mod.kin hk (wpAny_mono (ha cpos pins s σ H _ I h) (fun us s1 z => ?_) (fun _ _ z => by rw [hxe] at z; exact z.elim)) he hpl
  (refine εx2 z fun vs H1 c'1118 => εa3 c'1118 fun I1 r q => ?_; (try clear z); clear c'1118)
  refine ⟨I1.kIn, ?_⟩
  have r2 : Vals (vs ++ dvs) (us ++ ds) := r.append hd
  have hl : (us ++ ds).length = ps.length := by rw [← r2.length]; exact F.len _ _ _ _ q
  refine wpAny_call (codeAny_mono (F.run X.A X.stack s1 H1 ⟨us, []⟩ (us ++ ds) (vs ++ dvs) _ _ hr I1.env0 (hb s1 us I1.kIn hl) r2 q) fun r s' hq => ?_)
  cases r with
  | ok fl =>
    cases fl with
    | ret u =>
      (refine εx2 (I1.after hq) fun v H2 c'1119 => εa3 c'1119 fun I2 rv q2 => ?_; clear c'1119)
      exact store_ok I2 hN hi hx rv (fun s2 I2' => wpAny_execs_nil (wpAny_execs_nil (ιEE _ H2 ⟨I2', q2⟩))) hf
    | next => exact False.elim hq
    | brk => exact False.elim hq
    | cont => exact False.elim hq
  | error ev =>
    (refine εx5 hq fun a cls a0 B H2 c'1122 => εa9 c'1122 fun e'1120 os bare fl un hok inB exB c'1123 => εx1 c'1123 fun C c'1124 => εa3 c'1124 fun e'1121 hmt hsu => ?_; (try clear hq); clear c'1122 c'1123 c'1124; subst e'1120; subst e'1121)
    have nf := I1.nf
    have hBa : B.get? a = none := fl.2.1
    have hH2a : H2 a = none := by
      cases z : H2 a with
      | none => rfl
      | some o => obtain ⟨ob, e1⟩ := (hok a o z).there; rw [hBa] at e1; cases e1
    have hsa : s1.heap.get? a = none := by
      cases z : s1.heap.get? a with
      | none => rfl
      | some o =>
        by_cases hm : a ∈ frs X.stack
        · (refine εa2 (nf a hm) fun _ c'1125 => εx1 c'1125 fun o' c'1126 => εa2 c'1126 fun e1 nd => ?_; clear c'1125 c'1126)
          obtain ⟨sl, e2⟩ := un.slot a o' e1 (I1.stkFree a hm) hm (by simp)
          (refine εx5 (fl.2.2.2) fun oe vs' T oT ts' c'1127 => εa4 c'1127 fun e3 _ e4 _ => ?_; clear c'1127)
          rw [e2] at e3
          cases e3
          exact absurd e4 (nd vs')
        · obtain ⟨o', e1⟩ := exB a o z hm
          rw [hBa] at e1; cases e1
    have go : ∀ (h6 : Heap) (sx : Shared), Heap.FlyingW B X.stack a (.ref C) a0 h6 → s'.heap.UpToSlots h6 → sx.heap = h6 → sx.os = s'.os → sx.gens = s'.gens → Inv X pins σ (upd H2 a (ExcO a C)) sx := by
      rintro h6 sx fl6 up rfl ho hg
      have un6 : Un (frs X.stack) [] H1 H2 s1.heap sx.heap := un_up un fl6.1 up inB exB nf
      have ne : ∀ b o, H2 b = some o → b ≠ a := fun b o z y => by rw [y, hH2a] at z; cases z
      refine I1.call' (s' := sx) (ch := []) (ho.trans os) ⟨un6.keep, un6.slot, fun b o e n hx => ?_, un6.there, fun b xs e => ?_, fun b o u e => ?_, fun b ps' e => ?_⟩ (fun b o e => ?_) (by rw [hg]; exact bare) (fun b z => by cases z)
      · rw [upd_ne (fun z => by rw [z, hsa] at e; cases e)]
        exact un6.free b o e n hx
      · have := un6.tups b xs e
        rw [upd_ne (ne _ _ this)]; exact this
      · have := un6.frzs b o u e
        rw [upd_ne (ne _ _ this)]; exact this
      · obtain ⟨more, e1⟩ := un6.tbls b ps' e
        exact ⟨more, by rw [upd_ne (ne _ _ e1)]; exact e1⟩
      · by_cases z : b = a
        · subst z
          rw [upd_same] at e
          cases e
          obtain ⟨ob, e1, e2⟩ := fl6.there
          exact ⟨⟨ob, e1, e2⟩, ⟨ob, e1⟩, fun g1 g2 z'42 kk => εx1 z'42 fun oe m'43 => εa2 m'43 fun q1 q2 => ⟨oe, kk _ q1, q2⟩⟩
        · rw [upd_ne z] at e
          exact (hok b o e).stay (fun c u _ q => fl6.1 c u q) (fun c q => by rw [upd_ne (ne _ _ q)]; exact q) fun c xs q => by rw [upd_ne (ne _ _ q)]; exact q
    have hfr : X.A.frames = some (X.env :: out) := by rw [I1.ok.frames, hst]
    rw [hst] at fl go
    refine wpAny_looks_onW (outer := out) (L := X.env.locals) hfr hfm fl fun h4 held4 up4 => ?_
    refine wpAny_landsW held4 fun h5 fl5 up5 => ?_
    have up45 := up4.trans up5
    have I5 := go h5 { s' with heap := h5 } fl5 up45 rfl rfl rfl
    refine wpAny_handleBy_cons (codeAny_handlers_test (ld_glob (X := cxMark X a) (I5.mark a) hgc hmc ?_ hdc)) (by intro q; cases q)
    have ep : ExcP a C h5 := fl5.there
    refine (PySem.W.exm_one (h := h5) I5.kIn ep.type hmt).here ?_
    refine codeAny_handlers_suite_as ?_
    refine lands_againW fl5 fun h6 fl6 up6 => ?_
    have I6 := go h6 { s' with heap := h6 } fl6 (up45.trans up6) rfl rfl rfl
    refine store_ok (X := cxMark X a) (I6.mark a) hN hj (Or.inl hn) (v := .ref a) rfl (fun s7 I7 => ?_) (Or.inr hn)
    refine wpAny_mono (hsuite a pins s7 _ _ _ I7 (hsu a hH2a)) (fun fl s8 q8 => ?_) (fun _ _ z => z.elim)
    cases fl with
    | ret v => (refine εx3 q8 fun _ _ _ c'1128 => εa3 c'1128 fun _ _ z => ?_; (try clear q8); clear c'1128); exact z.elim
    | brk => (refine εx2 q8 fun _ _ c'1129 => εa2 c'1129 fun _ z => ?_; (try clear q8); clear c'1129); exact z.elim
    | cont => (refine εx2 q8 fun _ _ c'1130 => εa2 c'1130 fun _ z => ?_; (try clear q8); clear c'1130); exact z.elim
    | next =>
      (refine εx2 q8 fun σ8 H8 c'1131 => ?_; (try clear q8); refine εa2 c'1131 fun I8 q8 => ?_; clear c'1131)
      have I8' := I8.unmark (fun _ => I1.ok.hd hcalm)
      refine wpAny_bind (wpAny_bindName (store_ok I8' hN hj (Or.inl hn) (v := .non) (u := .none) rfl (fun s9 I9 => ?_) (Or.inr hn)))
      unfold unbindBehindTheSuite
      refine wpAny_onRaise ?_
      obtain ⟨m, hns, hl⟩ := id I9.loc
      have hlen : j < σ8.length := by rw [I8.len]; exact (List.getElem?_eq_some_iff.mp hj).1
      obtain ⟨u, ru, look⟩ := hl j n .non hj (by rw [List.getElem?_set_self hlen]) (Or.inl hn)
      have hv : m n = some u := by
        rcases look with ⟨_, z⟩ | ⟨z, _⟩
        · exact z
        · have : X.env.kindOf n = some .local := hn
          rw [this] at z
          rcases z with z | z <;> cases z
      refine wpAny_unbindName_local (v := u) hn hns hv (by rw [I9.ok.kind]; rfl) fun h10 u10 hns10 same10 => ?_
      have I10 := I9.gone hN hj hn hns hns10 same10
      rw [List.set_set] at I10
      exact (ιEE _ H8 ⟨I10, q8⟩)
end L2
namespace L2
open PySem PySem.Spec PyProof.Rows
section
variable {X : Cx}
abbrev TJ := Str → St → Hp → (Str → Hp → Prop) → Prop
noncomputable def PJ (X : Cx) (es : List Expr) (t : TJ) : Prop :=
  ∀ (acc : Str) (pins : List (Addr × Obj)) (s : Shared) (σ : St) (H : Hp) (Q : Str → Hp → Prop), Inv X pins σ H s → t acc σ H Q → Joins (model X.prog X.w) X.A X.xe (evalEach es X.env) acc (fun out s1 => ∃ H', Inv X pins σ H' s1 ∧ Q out H') s
theorem pj_nil : PJ X [] (fun acc _ H Q => Q acc H) := fun acc pins s σ H Q I h => ⟨H, I, h⟩
theorem joins_mono {M : Model} {A : Around} {E : Value → Shared → Prop} : ∀ {ps : List (Sem Value)} {acc : Str} {Q Q' : Str → Shared → Prop} {s : Shared}, (∀ o s, Q o s → Q' o s) → Joins M A E ps acc Q s → Joins M A E ps acc Q' s
  | [], acc, Q, Q', s, h, x => h _ _ x
  | p :: r, acc, Q, Q', s, h, x => thn x fun v s1 z'44 => εx2 z'44 fun y t m'45 => εa3 m'45 fun e l z => (ιEE y t ⟨e, l, joins_mono h z⟩)
theorem pj_cons {e : Expr} {es : List Expr} {te : TE} {t : TJ} (he : PE X e te) (h : PJ X es t) : PJ X (e :: es) (fun acc σ H Q => te σ H fun v H1 => ∃ y, v = .str y ∧ (acc ++ y).length ≤ sizeLine ∧ t (acc ++ y) σ H1 Q) := by
  intro acc pins s σ H Q I q
  show wpAny _ _ (eval e X.env) _ _ s
  refine thn (he pins s σ H _ I q) fun v s1 z'46 => εx2 z'46 fun x H1 m'47 => εa3 m'47 fun I1 r1 m'48 => εx1 m'48 fun y m'49 => εa3 m'49 fun e1 hl q1 => ?_
  subst e1
  obtain ⟨tk, rfl⟩ := (show ∃ tk, v = Value.str y tk from r1)
  exact (ιEE y tk ⟨rfl, hl, h (acc ++ y) pins s1 σ H1 Q I1 q1⟩)
theorem pe_fstr {v₁ v₂ : Expr} {rest : List Expr} {pos : Pos} {t : TJ} (h : PJ X (v₁ :: v₂ :: rest) t) : PE X (.JoinedStr (v₁ :: v₂ :: rest) pos) (fun σ H Q => t Str.empty σ H fun out H' => out.length ≤ sizeLine ∧ Q (.str out) H') := by
  intro pins s σ H Q I q
  refine wpAny_JoinedStr (joins_mono (fun o s1 z => ?_) (h Str.empty pins s σ H _ I q))
  (refine εx1 z fun H' c'1132 => εa3 c'1132 fun I' hl q' => ?_; (try clear z); clear c'1132)
  exact ⟨hl, ιEE (.str o) H' ⟨I'.tok _, ⟨_, rfl⟩, q'⟩⟩
theorem pe_fmtI {e : Expr} {pos : Pos} {te : TE} (he : PE X e te) : PE X (.FormattedValue e (-1) none pos) (fun σ H Q => te σ H fun v H1 => ∃ i : Int, v = .int i ∧ i.natAbs.log2 < 1920 ∧ Q (.str (Str.ofString (toString i))) H1) := by
  intro pins s σ H Q I q
  refine wpAny_FormattedValue_plain (thn (he pins s σ H _ I q) fun v s1 z'50 => εx2 z'50 fun x H1 m'51 => εa3 m'51 fun I1 r1 m'52 => εx1 m'52 fun i m'53 => εa3 m'53 fun e1 hl q1 => ?_)
  subst e1
  obtain ⟨tk, rfl⟩ := (show ∃ tk, v = Value.int i tk from r1)
  exact wpAny_formatField_int hl (ιEE (.str _) H1 ⟨I1.tok _, ⟨_, rfl⟩, q1⟩)
theorem pe_fmtS {e : Expr} {pos : Pos} {te : TE} (he : PE X e te) : PE X (.FormattedValue e (-1) none pos) (fun σ H Q => te σ H fun v H1 => ∃ x : Str, v = .str x ∧ x.length ≤ sizeLine ∧ Q (.str x) H1) := by
  intro pins s σ H Q I q
  refine wpAny_FormattedValue_plain (thn (he pins s σ H _ I q) fun v s1 z'54 => εx2 z'54 fun x H1 m'55 => εa3 m'55 fun I1 r1 m'56 => εx1 m'56 fun i m'57 => εa3 m'57 fun e1 hl q1 => ?_)
  subst e1
  obtain ⟨tk, rfl⟩ := (show ∃ tk, v = Value.str i tk from r1)
  exact wpAny_formatField_str (ιEE (.str _) H1 ⟨I1, ⟨_, rfl⟩, q1⟩) (ιEE (.str _) H1 ⟨I1.tok _, ⟨_, rfl⟩, q1⟩) hl
theorem pe_bmK (K : PySem.W.Frag) (hK : X.K = K) {o e : Expr} {es : List Expr} {to : TE} {t : TA} {name : Str} {apos cpos : Pos} {T id : String} {r : V → List V → Hp → VK → Prop} (pa : PlainAttrs T) (slot : Slot T name id) (hty : typeOf (.builtin id) = pure (.type "method_descriptor")) (hm : MtR X id r) (ho : PE X o to) (ha : PA X (e :: es) t)
    (hbase : attributeBase o name X.env (eval o X.env) = eval o X.env := by rfl)
    (hfew : ((backTo cpos (starEach (e :: es) X.env)).all (fun x => !x.1) && (backToKw cpos (keywordEach [] X.env)).all (fun x => x.1.isSome)
      && decide ((e :: es).length + ([] : List Keyword).length + (if ([] : List Keyword).isEmpty then 0 else 1) < 30)) = true := by rfl)
    (hline : (apos.endLine == cpos.line) = true := by rfl) (hs : starEach (e :: es) X.env = (false, eval e X.env) :: starEach es X.env := by rfl) (hplain : (backTo cpos (starEach es X.env)).any (·.1) = false := by rfl) :
    PE X (.Call (.Attribute o name apos) (e :: es) [] cpos) (tBM K T r to t) := by
  subst hK
  exact pe_bm pa slot hty hm ho ha hbase hfew hline hs hplain
theorem isinstEK (K : PySem.W.Frag) (hK : X.K = K) : CallR X (.builtin "isinstance") (fun xs H Q => ∃ a C y c b, xs = [.ref a, y] ∧ RelV y c ∧ H a = some (ExcO a C) ∧ ExK K C ∧ PySem.W.kitOne K (.ref C) c = some b ∧ (∀ u, RelV y u → u = c) ∧ Q (.bl b) H) := by
  subst hK
  exact call_isinstE
theorem ps_cut {st : Stmt} {t : TS} (h : PS X st t) : PS X st (fun D σ H => ∃ Mid : St → Hp → Prop, t { D with nx := Mid } σ H ∧ ∀ σ' H', Mid σ' H' → D.nx σ' H') := by
  intro pins s σ H D I hq
  obtain ⟨Mid, h1, h2⟩ := hq
  refine thn (h pins s σ H _ I h1) fun f s1 q => ?_
  cases f with
  | next => (refine εx2 q fun σ' H' c'1140 => εa2 c'1140 fun I' q' => ?_; (try clear q); clear c'1140); exact (ιEE σ' H' ⟨I', h2 σ' H' q'⟩)
  | ret v => exact q
  | brk => exact q
  | cont => exact q
end
end L2
namespace L2
open PySem PySem.Spec PyProof.Rows
section
variable {X : Cx} {tg l : Expr} {tl : TE}
end
end L2
namespace L2
open PySem PySem.Spec PyProof.Rows
section
variable {M : Model} {A : Around} {E : Value → Shared → Prop} {s : Shared}
end
end L2
namespace L2
open PySem PySem.Spec PyProof.Rows
section
variable {M : Model} {A : Around} {E : Value → Shared → Prop} {s : Shared}
end
section
variable {P : Program} {w : World} {K : PySem.W.Frag} {mg : Str → Option Value} {base : Heap} {N : List Str} {qual : Str} {scope : Scope} {f : Addr} {cd : Value} {A : Around} {outer : List Env} {s : Shared} {H : Hp} {E : XK}
end
end L2
namespace L2
open PySem PySem.Spec PyProof.Rows
section
variable {prog : Program} {w : World} {A : Around} {R : Result → Shared → Prop} {s : Shared}
end
section
variable {X : Cx} {target iter elt : Expr} {ifs : List Expr} {scope : Scope} {pos : Pos} {N' : List Str} {src : List (Option Nat)} {wi : TI} {g : TG} {tc : TT} {te : TE}
end
section
variable {P : Program} {w : World} {K : PySem.W.Frag} {mg : Str → Option Value} {base : Heap} {N : List Str} {qual : Str} {scope : Scope} {f : Addr} {cd : Value} {A : Around} {outer : List Env} {s : Shared} {H : Hp} {E : XK}
end
end L2
namespace L2
open PySem PySem.Spec PyProof.Rows
section
variable {X : Cx}
end
end L2
namespace CW
open PySem
section
variable {prog : Program} {w : World} {A : Around} {E : Value → Shared → Prop} {s : Shared}
end
end CW
namespace L2
open PySem PySem.Spec PyProof.Rows
section
variable {X : Cx} {e : Expr} {te : TE} {p1 p2 q1 q2 : Pos}
end
end L2
namespace CW
open PySem
section
variable (prog : Program) (w : World)
variable {prog w}
variable {A : Around} {E : Value → Shared → Prop} {s : Shared}
end
end CW
namespace L2
open PySem PySem.Spec PyProof.Rows
structure KeyOn (P : Program) (w : World) (κ : Type) [DecidableEq κ] where
  knd : HeapKind P w κ
  sh : Hp → Addr → κ → Prop
  ok : ∀ {H : Hp} {h : Heap} {a : Addr} {k : κ}, HOk P w H h → sh H a k → knd.is h k a
  tk : ∀ {H H' : Hp} {a : Addr} {k : κ}, sh H a k → (∀ b xs, H b = some (.tup xs) → H' b = some (.tup xs)) → sh H' a k
  room : ∀ {A : Around}, A.units + 12 < cLine → knd.room A.in1
section
variable {P : Program} {w : World} {κ : Type} [DecidableEq κ]
end
section
variable {X : Cx} {pins : List (Addr × Obj)} {σ : St} {H : Hp} {s : Shared} {a b : Addr} {v : V} {r : Value} {A : Around} {E : Value → Shared → Prop} {κ : Type} [DecidableEq κ] {kn : KeyOn X.prog X.w κ} {kas : List (κ × Addr × V)} {k : κ}
end
section
variable {P : Program} {w : World} {κ : Type} [DecidableEq κ]
variable {X : Cx} {o i e value : Expr} {pos pos' tpos : Pos} {td ty tv : TE}
end
end L2
namespace L2
open PySem PySem.Spec PyProof.Rows
section
variable {X : Cx} {pins : List (Addr × Obj)} {σ : St} {H : Hp} {s : Shared} {h' : Heap}
end
section
variable {X : Cx} {l : Expr} {tl : TE} {elts : List Expr} {x1 : ExprContext} {pos p1 q1 : Pos}
end
section
variable {X : Cx} {l : Expr} {tl : TE} {elts : List Expr} {x1} {pos p1 q1 : Pos}
end
end L2
namespace L2
open PySem PySem.Spec PyProof.Rows
section
variable {X : Cx}
theorem call_int_bl : CallR X (.type "int") (fun xs H Q => ∃ b : Bool, xs = [.bl b] ∧ Q (.int (if b then 1 else 0)) H) := by
  intro pins s σ H xs us Q I r h
  obtain ⟨b, rfl, q⟩ := h
  obtain ⟨u, rfl, ru⟩ := vals1 r
  cases (show u = Value.bool b from ru)
  exact call_int_bool (ιEE (.int _) H ⟨I.tok _, ⟨_, rfl⟩, q⟩)
end
end L2
namespace Gm
open PySem L2
noncomputable def mkSc (names : List (Str × NameKind)) : Scope := { kind := .function, names := names, isGenerator := false, isCoroutine := false, more := [] }
theorem geti {ws : List Int} {j : Nat} {y : V} (h : (ws.map V.int)[j]? = some y) : ∃ w, y = V.int w ∧ ws[j]? = some w ∧ w ∈ ws := by
  rw [List.getElem?_map] at h
  cases e : ws[j]? with
  | none => rw [e] at h; cases h
  | some w => rw [e] at h; exact ⟨w, (Option.some.inj h).symm, rfl, List.mem_of_getElem? e⟩
theorem atints {st : List Int} {w : Int} (h0 : 0 ≤ w) (h1 : w < st.length) : atI (st.map V.int) w = some (V.int (st.getD w.toNat 0)) := by
  have e : w = ((w.toNat : Nat) : Int) := by exact ω7 h0
  rw [e]
  refine atI_nat ?_
  rw [List.getElem?_map, Int.toNat_natCast, List.getD_eq_getElem?_getD, List.getElem?_eq_getElem (by exact ω10 h0 h1)]
  rfl
theorem eqvints : ∀ ns ms : List Int, PyData.eqvAll (ns.map PyData.int) (ms.map PyData.int) = decide (ns = ms)
  | [], [] => by simp [PyData.eqvAll]
  | [], b :: s => by simp [PyData.eqvAll]
  | a :: r, [] => by simp [PyData.eqvAll]
  | a :: r, b :: s => by
    have := eqvints r s
    simp only [List.map_cons, PyData.eqvAll, PyData.eqv, this]
    by_cases e : a = b <;> by_cases e2 : r = s <;> simp [e, e2]
theorem eqvlist (ns ms : List Int) : PyData.eqv (.list (ns.map PyData.int)) (.list (ms.map PyData.int)) = decide (ns = ms) := by
  simp [PyData.eqv, eqvints]
theorem nodup_le : ∀ {l l' : List Int}, l.Nodup → (∀ k ∈ l, k ∈ l') → l.length ≤ l'.length
  | [], l', _, _ => by simp
  | a :: r, l', nd, sub => by
    rw [List.nodup_cons] at nd
    have ha : a ∈ l' := sub a List.mem_cons_self
    have q := nodup_le (l := r) (l' := l'.erase a) nd.2 (fun k hk => (List.mem_erase_of_ne (fun z : k = a => nd.1 (by rw [← z]; exact hk))).mpr (sub k (List.mem_cons_of_mem _ hk)))
    have e := List.length_erase_of_mem ha
    have : 0 < l'.length := List.length_pos_of_mem ha
    simp only [List.length_cons]
    exact ω272 q e this
theorem nodup_bound {l : List Int} {m : Nat} (nd : l.Nodup) (h : ∀ x ∈ l, 0 ≤ x ∧ x < m) : l.length ≤ m := by
  have := nodup_le (l := l) (l' := (List.range m).map fun j : Nat => (j : Int)) nd (fun k hk => by
    obtain ⟨h0, h1⟩ := h k hk
    exact List.mem_map.mpr ⟨k.toNat, List.mem_range.mpr (by exact ω10 h0 h1), by exact ω16 h0⟩)
  simpa using this
end Gm
namespace L2
open PySem PySem.Spec PyProof.Rows
section
variable {X : Cx} {pins : List (Addr × Obj)} {σ : St} {H H' : Hp} {s : Shared} {a : Addr}
end
section
variable {X : Cx}
end
section
variable {X : Cx} {tg l : Expr} {tl : TE}
end
end L2
namespace L2
open PySem PySem.Spec PyProof.Rows
section
variable {X : Cx}
theorem call_dictD : CallR X (.type "dict") (fun xs H Q => ∃ p kvs, xs = [.ref p] ∧ Rd H p (.dK kvs) ∧ ∀ l, H l = none → Q (.ref l) (upd H l (.dK kvs))) := by
  intro pins s σ H xs us Q I r h
  (refine εx2 h fun p kvs c'1215 => εa3 c'1215 fun e'1214 hp q => ?_; (try clear h); clear c'1215; subst e'1214)
  obtain ⟨u, rfl, rx⟩ := vals1 r
  cases rx
  (refine εa3 (dk_rd I.hok hp) fun z hd c'1216 => εx1 c'1216 fun vs c'1217 => εa2 c'1217 fun rel dd => ?_; clear c'1216 c'1217)
  have hl := rel.length
  refine kt_call_dict hd dd (by exact ω9 z hl) fun h' hD hS => ?_
  have hn : H s.heap.objs.size = none := I.hok.fresh (Nat.le_refl _)
  obtain ⟨_, hsys, _⟩ := (show ObjOk X.prog X.w H (s.heap.push { cls := .type "dict", data := .dict #[] }) s.heap.objs.size (.dK []) from dk_empty s.heap I.big)
  refine (ιEE (.ref s.heap.objs.size) _ ⟨I.laid (t' := s.toks) (fun b o e => (hS.2 b (Nat.ne_of_lt (Heap.lt_size e))).trans (Heap.get?_push_of_some _ e)) (Nat.le_refl _) (show ObjOk X.prog X.w _ h' _ (.dK kvs) from ⟨z, hsys, vs, rel, hD⟩), rfl, q _ hn⟩)
end
end L2
namespace CW
open PySem PySem.Spec PyProof.Rows
section
variable {prog : Program} {w : World} {A : Around} {E : Value → Shared → Prop} {s : Shared} {κ : Type} [DecidableEq κ] {knd : KeyKind prog w κ}
end
end CW
namespace CW
open PySem PySem.Spec PyProof.Rows
section
variable {prog : Program} {w : World} {A : Around} {E : Value → Shared → Prop} {s : Shared} {κ : Type} [DecidableEq κ] {knd : KeyKind prog w κ}
end
end CW
namespace L2
open PySem PySem.Spec PyProof.Rows
section
variable {X : Cx}
end
end L2
namespace L2
open PySem PySem.Spec PyProof.Rows
section
variable {X : Cx}
end
end L2
namespace L2
open PySem PySem.Spec PyProof.Rows
section
variable {X : Cx}
end
end L2
namespace L2
open PySem PySem.Spec PyProof.Rows
section
variable {X : Cx}
end
end L2
namespace Gm
open PySem L2
abbrev Plan := List (Int × Option Int)
noncomputable def ov : Option Int → V
  | none => .non
  | some i => .int i
noncomputable def look (pl : Plan) (k : Int) : Option (Option Int) := (pl.find? fun p => decide (p.1 = k)).map (·.2)
theorem gm_at {H H' : Hp} {ga : Addr} {vs : List V} {g : List Pl} (hga : H ga = some (.tup vs)) (hp : Paired (IsPl H) vs g) (tk : TK H H') {k : Int} {p : Pl} (h0 : 0 ≤ k) (hk : g[k.toNat]? = some p) :
    H' ga = some (.tup vs) ∧ ∃ pa pb, atI vs k = some (.ref pa) ∧ H' pa = some (.tup [.int p.1, .int p.2.1, .ref pb]) ∧ H' pb = some (.tup (p.2.2.map V.int)) := by
  obtain ⟨x, hx, ip⟩ := paired_get2 hp hk
  (refine εx2 (ip.tk tk) fun pa pb c'1877 => εa3 c'1877 fun e'1876 ha hb => ?_; clear c'1877; subst e'1876)
  refine ⟨tk _ _ hga, ιEE pa pb ⟨?_, ha, hb⟩⟩
  have := atI_nat hx
  rw [show ((k.toNat : Nat) : Int) = k by exact ω16 h0] at this
  exact this
theorem get_lt {α : Type} {l : List α} {i : Nat} {x : α} (h : l[i]? = some x) : i < l.length := by
  rcases Nat.lt_or_ge i l.length with z | z
  · exact z
  · rw [List.getElem?_eq_none z] at h; cases h
end Gm
namespace Gm
open PySem L2
end Gm
namespace L2
open PySem PySem.Spec PyProof.Rows
section
variable {X : Cx} {o e f : Expr} {apos cpos : Pos} {td ty tx : TE}
end
section
variable {K : PySem.W.Frag} {a D : Addr} {tc : TT} {te : TE} {L : List Int} {ρ : St} {H : Hp} {Q : VK}
theorem int_get {ws : List Int} {j : Nat} {y : V} (h : (ws.map V.int)[j]? = some y) : ∃ w, y = V.int w ∧ ws[j]? = some w ∧ w ∈ ws := by
  rw [List.getElem?_map] at h
  cases e : ws[j]? with
  | none => rw [e] at h; cases h
  | some w => rw [e] at h; exact ⟨w, (Option.some.inj h).symm, rfl, List.mem_of_getElem? e⟩
theorem map_step (F : Int → V) {i : Nat} {z : Int} {H2 : Hp} {s0 : Option V} (hl : L.length < 10000) (hD : H D = none) (hzi : L[i]? = some z) (hz : z ∈ L) (sm : Same H H2) (hD2 : H2 D = some (.lst ((L.take i).map F)))
    (hc : ∀ x ∈ L, ∀ H2, Same H H2 → ∀ Q' : VK, (∀ H4, Same H2 H4 → Q' (F x) H4) → te (some (.int x) :: ρ) H2 Q') :
    if true = true then te ((s0 :: ρ).set 0 (some (.int z))) H2 fun y H5 => ∃ ys, H5 D = some (.lst ys) ∧ ys.length < sizeLine ∧ (fun (i : Nat) (σ : St) H2 => (∃ s0, σ = s0 :: ρ) ∧ Same H H2 ∧ H2 D = some (.lst ((L.take i).map F))) (i + 1) ((s0 :: ρ).set 0 (some (.int z))) (upd H5 D (.lst (ys ++ [y])))
      else (fun (i : Nat) (σ : St) H2 => (∃ s0, σ = s0 :: ρ) ∧ Same H H2 ∧ H2 D = some (.lst ((L.take i).map F))) (i + 1) ((s0 :: ρ).set 0 (some (.int z))) H2 := by
  refine iteT (hc z hz H2 sm _ fun H4 sm4 => ?_)
  refine ⟨_, sm4 D _ hD2, ?_, ⟨_, rfl⟩, (sm.trans sm4).upd' hD, ?_⟩
  · rw [List.length_map, sizeLine_eq]
    have l2 := List.length_take_le' i L
    exact ω459 hl l2
  · rw [upd_same, List.take_add_one, hzi]
    simp
theorem lc_mapI (F : Int → V) (hL : H a = some (.lst (L.map V.int))) (hl : L.length < 10000) (hD : H D = none)
    (hc : ∀ x ∈ L, ∀ H2, Same H H2 → ∀ Q' : VK, (∀ H4, Same H2 H4 → Q' (F x) H4) → te (some (.int x) :: ρ) H2 Q')
    (hd : ∀ H', Same H H' → H' D = some (.lst (L.map F)) → Q (.ref D) H') : LcW (Itl K a) D (gName 0) (fun _ H Q => Q true H) te Q (none :: ρ) (upd H D (.lst [])) := by
  refine lc_list (xs := L.map V.int) (fun i σ H2 => (∃ s0, σ = s0 :: ρ) ∧ Same H H2 ∧ H2 D = some (.lst ((L.take i).map F))) ⟨⟨none, rfl⟩, Same.upd hD, upd_same⟩ (fun i σ H2 _ z'94 => εa3 z'94 fun _ sm _ => SqL.of (sm a _ hL)) ?_ ?_
  · rintro i x σ H2 hi ⟨⟨s0, rfl⟩, sm, hD2⟩
    (refine εx1 (int_get hi) fun z c'1273 => εa3 c'1273 fun e'1272 hzi hz => ?_; clear c'1273; subst e'1272)
    exact map_step F hl hD hzi hz sm hD2 hc
  · rintro σ H2 ⟨_, sm, hD2⟩
    rw [List.length_map, List.take_length] at hD2
    exact hd H2 sm hD2
theorem lc_mapT (F : Int → V) (hL : H a = some (.tup (L.map V.int))) (hl : L.length < 10000) (hD : H D = none)
    (hc : ∀ x ∈ L, ∀ H2, Same H H2 → ∀ Q' : VK, (∀ H4, Same H2 H4 → Q' (F x) H4) → te (some (.int x) :: ρ) H2 Q')
    (hd : ∀ H', Same H H' → H' D = some (.lst (L.map F)) → Q (.ref D) H') : LcW (Itt K a) D (gName 0) (fun _ H Q => Q true H) te Q (none :: ρ) (upd H D (.lst [])) := by
  refine lc_tup (xs := L.map V.int) (fun i σ H2 => (∃ s0, σ = s0 :: ρ) ∧ Same H H2 ∧ H2 D = some (.lst ((L.take i).map F))) ⟨⟨none, rfl⟩, Same.upd hD, upd_same⟩ (fun i σ H2 _ z'95 => εa3 z'95 fun _ sm _ => SqT.of (sm a _ hL)) ?_ ?_
  · rintro i x σ H2 hi ⟨⟨s0, rfl⟩, sm, hD2⟩
    (refine εx1 (int_get hi) fun z c'1277 => εa3 c'1277 fun e'1276 hzi hz => ?_; clear c'1277; subst e'1276)
    exact map_step F hl hD hzi hz sm hD2 hc
  · rintro σ H2 ⟨_, sm, hD2⟩
    rw [List.length_map, List.take_length] at hD2
    exact hd H2 sm hD2
end
end L2
namespace Gm
open PySem L2
end Gm
namespace L2
open PySem PySem.Spec PyProof.Rows
section
variable {X : Cx} {a b : Expr} {ta : TA} {p1 p2 q1 q2 : Pos}
end
end L2
namespace P4
open Gm
noncomputable def at' (st : List Int) (i : Nat) : Int := st.getD i (-1)
noncomputable def thr (st : List Int) (w : Int) : Bool := decide (0 ≤ at' st w.toNat)
noncomputable def drw (h : Int) (st : List Int) (p : Pl) : Bool := if p.1 = h then p.2.2.any (thr st) else p.2.2.all (thr st)
noncomputable def cond (g : List Pl) (h : Int) (st : List Int) (i : Nat) : Bool := decide (at' st i < 0) && (match g[i]? with | some p => drw h st p | none => false)
noncomputable def come (g : List Pl) (h : Int) (st : List Int) : List Nat := (List.range g.length).filter (cond g h st)
noncomputable def stp (st : List Int) (c : List Nat) (a : Int) : List Int := c.foldl (fun s i => s.set i a) st
noncomputable def fin (g : List Pl) (h : Int) : Nat → List Int → Int → List Int
  | 0, st, _ => st
  | k + 1, st, a => if come g h st = [] then st else fin g h k (stp st (come g h st) a) (a + 1)
structure Ok (g : List Pl) (h : Int) (st : List Int) (a : Int) : Prop where
  len : st.length = g.length
  low : ∀ i, -1 ≤ at' st i
  top : ∀ i, at' st i < a
  wy : ∀ (i : Nat) p, g[i]? = some p → p.1 = h → 0 < at' st i → ∃ w ∈ p.2.2, 0 ≤ at' st w.toNat ∧ at' st w.toNat < at' st i
noncomputable def st0 (n : Nat) (gs : List Int) : List Int := stp (List.replicate n (-1)) (gs.map Int.toNat) 0
noncomputable def res (g : List Pl) (h : Int) (gs : List Int) : List Int := fin g h (g.length + 1) (st0 g.length gs) 1
end P4
namespace P4
open Gm
end P4
namespace Zk
inductive Rc {α : Type} (N : α → List α) (cr : α → Int) (c : Int) (s : α) : α → Prop where
  | one {y : α} : y ∈ N s → Rc N cr c s y
  | step {x y : α} : Rc N cr c s x → cr x ≤ c → y ∈ N x → Rc N cr c s y
structure Ar (α : Type) where
  ow : α → Int
  cr : α → Int
  ws : α → List α
variable {α : Type}
noncomputable def Ar.mv (G : Ar α) (h : Int) (σ : α → α) (k : α) : List α := if G.ow k = h then [σ k] else G.ws k
structure Ar.Win (G : Ar α) (h : Int) (K : α → Prop) (σ : α → α) : Prop where
  own : ∀ k, K k → G.ow k = h → σ k ∈ G.ws k ∧ K (σ k)
  oth : ∀ k, K k → G.ow k ≠ h → ∀ w ∈ G.ws k, K w
  win : ∀ s, K s → G.cr s % 2 ≠ h → ¬ Rc (G.mv h σ) G.cr (G.cr s) s s
noncomputable def Ar.part [DecidableEq α] (G : Ar α) (L : List α) : Ar α := ⟨G.ow, G.cr, fun k => if k ∈ L then (G.ws k).filter (fun w => decide (w ∈ L)) else [k]⟩
section
variable [DecidableEq α]
open Classical in
noncomputable def both (W : α → Prop) (s1 s2 : α → α) (k : α) : α := if W k then s1 k else s2 k
structure Turn (G : Ar α) (L0 L : List α) (K : Int → α → Prop) (σ : Int → α → α) : Prop where
  sub : ∀ k ∈ L, k ∈ L0
  no : ∀ k ∈ L, ∀ w ∈ G.ws k, ¬ K (G.ow k) w
  on : ∀ k ∈ L, ∃ w ∈ G.ws k, w ∈ L
  out : ∀ h k, K h k → k ∈ L0 ∧ ¬ k ∈ L
  one : ∀ h j k, K h k → K j k → h = j
  all : ∀ k ∈ L0, k ∈ L ∨ K 0 k ∨ K 1 k
  win : ∀ h, h = 0 ∨ h = 1 → (G.part L0).Win h (K h) (σ h)
end
end Zk
namespace Zk
section
variable {α : Type}
noncomputable def it (J : α → α) (v : α) : Nat → α
  | 0 => v
  | n + 1 => J (it J v n)
end
end Zk
namespace Zk
open Gm P4
end Zk
namespace Zk
open Gm P4
end Zk
namespace Zk
open PySem L2 Gm P4
end Zk
namespace Zk
section
variable (N : Int → List Int) (cr : Int → Int) (c : Int)
variable {N cr c}
end
end Zk
namespace Gm
open PySem L2 Zk
end Gm
namespace HT
open PySem PySem.Spec PyProof.Rows
section
variable {prog : Program} {w : World} {A : Around} {E : Value → Shared → Prop} {s : Shared}
theorem getItem_tuple_all {t sl : Addr} {items : Array Value} {vl vu : Value} {lo hi : Option Int} {Q : Value → Shared → Prop} (ht : IsTup s.heap t items) (hs : s.heap.IsSliceOf sl vl vu .none) (pl : IsPart vl lo) (pu : IsPart vu hi)
    (hw : sIx items.size 0 lo = 0 ∧ sIx items.size items.size hi = items.size) (h : Q (.ref t) s) : wpAny (model prog w) A (getItem (.ref t) (.ref sl)) Q E s := by
  (refine εx1 (id hs) fun os c'1283 => εa3 c'1283 fun hos hcs hds => ?_; clear c'1283)
  have hTs : s.TypeIs (.ref sl) "slice" := ⟨os, hos, hcs⟩
  unfold getItem
  try with_reducible refine wpAny_holding ?_
  first | refine wpAny_bind (wpAny_pure ?_) | skip
  refine wpAny_bind (wpAny_sequenceKey ht.typeIs (by decide) ?_)
  refine wpAny_bind (wpAny_callSpecial?_slot (name := Str.ofString "__getitem__") ht.typeIs PyProof.Rows.slot_tuple_getitem
    (wpAny_call_entry PyProof.Rows.slot_tuple_getitem ht.typeIs entry_tuple_getitem ?_ (args_tuple_getitem _ _)))
  show wpAny _ _ (Builtin.Tuple.tupleItemsOf (.ref t) >>= _) _ _ s
  refine wpAny_bind (tupleItemsOf_ ht ?_)
  refine wpAny_bind (wpAny_typeOf hTs ?_)
  rw [if_pos (by decide)]
  refine wpAny_bind (sliceApplied_gen hs pl pu ?_)
  have hyes : (((sIx items.size 0 lo : Nat) : Int) == 0 && (1 : Int) == 1 && (sIx items.size items.size hi - sIx items.size 0 lo) == items.size) = true := by
    rw [hw.1, hw.2]
    simp
  show wpAny _ _ (if (((sIx items.size 0 lo : Nat) : Int) == 0 && (1 : Int) == 1 && (sIx items.size items.size hi - sIx items.size 0 lo) == items.size) = true then _ else _) _ _ s
  rw [if_pos hyes]
  refine wpAny_bind ?_
  unfold Builtin.Tuple.tupleIsExact
  refine wpAny_bind (wpAny_typeOf ht.typeIs (wpAny_pure ?_))
  rw [if_pos (by decide)]
  refine wpAny_bind (wpAny_rule ?_)
  first
    | exact wpAny_bind (wpAny_pure ⟨_, rfl, wpAny_pure h⟩)
    | exact wpAny_pure ⟨_, rfl, wpAny_pure h⟩
    | exact wpAny_bind (wpAny_pure (wpAny_pure ⟨_, rfl, wpAny_pure h⟩))
end
end HT
namespace L2
open PySem PySem.Spec PyProof.Rows
section
variable {X : Cx}
noncomputable def rSlTG (K : PySem.W.Frag) : V → Option Int → Option Int → Hp → VK → Prop := fun x lo hi H Q => ∃ a xs, x = .ref a ∧ SqT K H a xs ∧
  ((HT.sIx xs.length 0 lo = 0 ∧ HT.sIx xs.length xs.length hi = xs.length) → Q (.ref a) H) ∧
  (¬ (HT.sIx xs.length 0 lo = 0 ∧ HT.sIx xs.length xs.length hi = xs.length) → ∀ p, H p = none → Q (.ref p) (upd H p (.tup (cutV xs lo hi))))
theorem sl_tupG : SlR X (rSlTG X.K) := by
  intro pins s σ H x v vl vu lo hi sl Q I rx hs pl pu h
  (refine εx2 h fun a xs c'1291 => εa4 c'1291 fun e'1290 hx q1 q2 => ?_; (try clear h); clear c'1291; subst e'1290)
  by_cases hw : HT.sIx xs.length 0 lo = 0 ∧ HT.sIx xs.length xs.length hi = xs.length
  · cases rx
    (refine εx1 (I.tuple hx) fun its c'1292 => εa3 c'1292 fun r ht hz => ?_; clear c'1292)
    have hlen : its.toArray.size = xs.length := by rw [List.size_toArray]; exact r.length.symm
    exact (ιEE ("tuple") _ ⟨PyProof.Rows.slot_tuple_getitem.lookup, ht.typeIs, HT.getItem_tuple_all ht hs pl pu (by rw [hlen]; exact hw) (ιEE (.ref a) H ⟨I, rfl, q1 hw⟩)⟩)
  · exact sl_tup pins s σ H (.ref a) v vl vu lo hi sl Q I rx hs pl pu (ιEE a xs ⟨rfl, hx, hw, q2 hw⟩)
theorem slT_any {K : PySem.W.Frag} {H : Hp} {a : Addr} {xs : List V} {lo hi : Option Int} {Q : VK} (hx : H a = some (.tup xs)) (q : ∀ b H', Same H H' → H' b = some (.tup (cutV xs lo hi)) → Q (.ref b) H') : rSlTG K (.ref a) lo hi H Q := by
  refine (ιEE a xs ⟨rfl, SqT.of hx, fun full => q a H (Same.refl _) ?_, fun _ p hp => q p _ (Same.upd hp) upd_same⟩)
  rw [hx]
  unfold cutV
  rw [full.1, full.2, List.drop_zero, Nat.sub_zero, List.take_length]
theorem cut_fromV (xs : List V) (k : Nat) (h : k ≤ xs.length) : cutV xs (some (k : Int)) none = xs.drop k := by
  unfold cutV
  rw [HT.sIx_none, HT.sIx_nat, Nat.min_eq_left h]
  rw [List.take_of_length_le (by rw [List.length_drop]; exact ω273)]
theorem paired_append {α β : Type} {F : α → β → Prop} : ∀ {l₁ r₁ : List α} {l₂ r₂ : List β}, Paired F l₁ l₂ → Paired F r₁ r₂ → Paired F (l₁ ++ r₁) (l₂ ++ r₂)
  | _, _, _, _, .nil, h => h
  | _, _, _, _, .cons r t, h => .cons r (paired_append t h)
end
end L2
namespace L2
open PySem
end L2
namespace Gm
open PySem L2 Zk
theorem wf_len {n : Nat} {p : Pl} (wf : WfPl n p) : p.2.2.length ≤ n := nodup_bound (wf.ris.imp fun {a b} h => by exact ω73 h) wf.inn
end Gm
namespace Gm
open PySem L2 Zk
end Gm
namespace Gm
open PySem L2 Zk
end Gm
namespace Gm
open PySem L2 Zk
end Gm
namespace CW
open PySem PyProof.Rows
section
variable {prog : Program} {w : World} {A : Around} {E : Value → Shared → Prop} {s : Shared}
end
end CW
namespace L2
open PySem PySem.Spec PyProof.Rows
section
variable {X : Cx} {l : Expr} {tl : TE} {tg : Expr} {p1 q1 : Pos}
end
end L2
namespace Gm
open PySem L2
inductive Wish where
  | is (c : Int) | no (c : Int) | name (x : Str) | and (a b : Wish) | or (a b : Wish) | all (a : Wish) | some (a : Wish) | least (x : Str) (a : Wish) | most (x : Str) (a : Wish)
noncomputable def kd : Wish → Str
  | .is _ => "is" | .no _ => "not" | .name _ => "name" | .and _ _ => "and" | .or _ _ => "or" | .all _ => "all" | .some _ => "some" | .least _ _ => "least" | .most _ _ => "most"
noncomputable def parts : Wish → List Wish
  | .and a b => [a, b] | .or a b => [a, b] | .all a => [a] | .some a => [a] | .least _ a => [a] | .most _ a => [a] | _ => []
noncomputable def sg : Wish → Nat
  | .and a b => 1 + sg a + sg b | .or a b => 1 + sg a + sg b | .all a => 1 + sg a | .some a => 1 + sg a | .least _ a => 1 + sg a | .most _ a => 1 + sg a | _ => 1
noncomputable def dp : Wish → Nat
  | .and a b => 1 + max (dp a) (dp b) | .or a b => 1 + max (dp a) (dp b) | .all a => 1 + dp a | .some a => 1 + dp a | .least _ a => 1 + dp a | .most _ a => 1 + dp a | _ => 1
noncomputable def isNamer : Wish → Bool
  | .least _ _ => true | .most _ _ => true | _ => false
noncomputable def nmr : Wish → Nat
  | .and a b => nmr a + nmr b | .or a b => nmr a + nmr b | .all a => nmr a | .some a => nmr a | .least _ a => 1 + nmr a | .most _ a => 1 + nmr a | _ => 0
theorem sg_parts (w : Wish) : sg w = 1 + ((parts w).map sg).sum := by cases w <;> simp [sg, parts] <;> exact ω329
theorem nmr_parts (w : Wish) : nmr w = (if isNamer w then 1 else 0) + ((parts w).map nmr).sum := by cases w <;> simp [nmr, parts, isNamer]
theorem dp_parts {w p : Wish} (h : p ∈ parts w) : dp p < dp w := by
  cases w <;> simp [parts] at h <;> (first | (rcases h with rfl | rfl <;> simp [dp] <;> (first | exact ω330 | exact ω331)) | (subst h; simp [dp]))
noncomputable def IsW (H : Hp) : V → Wish → Prop
  | v, .is c => ∃ a, v = .ref a ∧ H a = some (.tup [.str "is", .int c])
  | v, .no c => ∃ a, v = .ref a ∧ H a = some (.tup [.str "not", .int c])
  | v, .name x => ∃ a, v = .ref a ∧ H a = some (.tup [.str "name", .str x])
  | v, .and p q => ∃ a b c, v = .ref a ∧ H a = some (.tup [.str "and", b, c]) ∧ IsW H b p ∧ IsW H c q
  | v, .or p q => ∃ a b c, v = .ref a ∧ H a = some (.tup [.str "or", b, c]) ∧ IsW H b p ∧ IsW H c q
  | v, .all p => ∃ a b, v = .ref a ∧ H a = some (.tup [.str "all", b]) ∧ IsW H b p
  | v, .some p => ∃ a b, v = .ref a ∧ H a = some (.tup [.str "some", b]) ∧ IsW H b p
  | v, .least x p => ∃ a b, v = .ref a ∧ H a = some (.tup [.str "least", .str x, b]) ∧ IsW H b p
  | v, .most x p => ∃ a b, v = .ref a ∧ H a = some (.tup [.str "most", .str x, b]) ∧ IsW H b p
theorem IsW.tk {H H' : Hp} (k : TK H H') : ∀ {w : Wish} {v : V}, IsW H v w → IsW H' v w
  | .is _, _, ⟨a, e, h⟩ => ⟨a, e, k _ _ h⟩
  | .no _, _, ⟨a, e, h⟩ => ⟨a, e, k _ _ h⟩
  | .name _, _, ⟨a, e, h⟩ => ⟨a, e, k _ _ h⟩
  | .and _ _, _, ⟨a, b, c, e, h, h1, h2⟩ => (ιEEE a b c ⟨e, k _ _ h, h1.tk k, h2.tk k⟩)
  | .or _ _, _, ⟨a, b, c, e, h, h1, h2⟩ => (ιEEE a b c ⟨e, k _ _ h, h1.tk k, h2.tk k⟩)
  | .all _, _, ⟨a, b, e, h, h1⟩ => (ιEE a b ⟨e, k _ _ h, h1.tk k⟩)
  | .some _, _, ⟨a, b, e, h, h1⟩ => (ιEE a b ⟨e, k _ _ h, h1.tk k⟩)
  | .least _ _, _, ⟨a, b, e, h, h1⟩ => (ιEE a b ⟨e, k _ _ h, h1.tk k⟩)
  | .most _ _, _, ⟨a, b, e, h, h1⟩ => (ιEE a b ⟨e, k _ _ h, h1.tk k⟩)
theorem IsW.tup {H : Hp} : ∀ {w : Wish} {v : V}, IsW H v w → ∃ a us, v = .ref a ∧ H a = some (.tup (.str (kd w) :: us)) ∧ us.length ≤ 2
  | .is _, _, ⟨a, e, h⟩ => (ιEE a _ ⟨e, h, by simp⟩)
  | .no _, _, ⟨a, e, h⟩ => (ιEE a _ ⟨e, h, by simp⟩)
  | .name _, _, ⟨a, e, h⟩ => (ιEE a _ ⟨e, h, by simp⟩)
  | .and _ _, _, ⟨a, b, c, e, h, h1, h2⟩ => (ιEE a _ ⟨e, h, by simp⟩)
  | .or _ _, _, ⟨a, b, c, e, h, h1, h2⟩ => (ιEE a _ ⟨e, h, by simp⟩)
  | .all _, _, ⟨a, b, e, h, h1⟩ => (ιEE a _ ⟨e, h, by simp⟩)
  | .some _, _, ⟨a, b, e, h, h1⟩ => (ιEE a _ ⟨e, h, by simp⟩)
  | .least _ _, _, ⟨a, b, e, h, h1⟩ => (ιEE a _ ⟨e, h, by simp⟩)
  | .most _ _, _, ⟨a, b, e, h, h1⟩ => (ιEE a _ ⟨e, h, by simp⟩)
noncomputable def isRef : V → Bool
  | .ref _ => true
  | _ => false
structure Items (H : Hp) (w : Wish) (us : List V) : Prop where
  len : us.length ≤ 2
  prt : Paired (IsW H) (us.filter isRef) (parts w)
  oth : ∀ u ∈ us, isRef u = false → (∃ i, u = .int i) ∨ ∃ x, u = .str x
theorem isRef_of {H : Hp} {v : V} {w : Wish} (h : IsW H v w) : isRef v = true := by
  (refine εx2 (h.tup) fun a us c'1994 => εa2 c'1994 fun e'1993 _ => ?_; clear c'1994; subst e'1993)
  rfl
theorem IsW.items {H : Hp} {w : Wish} {v : V} (h : IsW H v w) : ∃ a us, v = .ref a ∧ H a = some (.tup (.str (kd w) :: us)) ∧ Items H w us := by
  cases w with
  | is c => obtain ⟨a, e, h⟩ := h; exact (ιEE a _ ⟨e, h, by simp, .nil, fun u hu _ => by simp at hu; exact .inl ⟨_, hu⟩⟩)
  | no c => obtain ⟨a, e, h⟩ := h; exact (ιEE a _ ⟨e, h, by simp, .nil, fun u hu _ => by simp at hu; exact .inl ⟨_, hu⟩⟩)
  | name x => obtain ⟨a, e, h⟩ := h; exact (ιEE a _ ⟨e, h, by simp, .nil, fun u hu _ => by simp at hu; exact .inr ⟨_, hu⟩⟩)
  | and p q =>
    (refine εx3 h fun a b c c'1995 => ?_; (try clear h); refine εa4 c'1995 fun e h h1 h2 => ?_; clear c'1995)
    refine (ιEE a _ ⟨e, h, by simp, ?_, fun u hu n => ?_⟩)
    · simp only [List.filter, isRef_of h1, isRef_of h2]; exact .cons h1 (.cons h2 .nil)
    · simp at hu
      rcases hu with z | z
      · rw [z, isRef_of h1] at n; cases n
      · rw [z, isRef_of h2] at n; cases n
  | or p q =>
    (refine εx3 h fun a b c c'1996 => ?_; (try clear h); refine εa4 c'1996 fun e h h1 h2 => ?_; clear c'1996)
    refine (ιEE a _ ⟨e, h, by simp, ?_, fun u hu n => ?_⟩)
    · simp only [List.filter, isRef_of h1, isRef_of h2]; exact .cons h1 (.cons h2 .nil)
    · simp at hu
      rcases hu with z | z
      · rw [z, isRef_of h1] at n; cases n
      · rw [z, isRef_of h2] at n; cases n
  | all p =>
    (refine εx2 h fun a b c'1997 => ?_; (try clear h); refine εa3 c'1997 fun e h h1 => ?_; clear c'1997)
    refine (ιEE a _ ⟨e, h, by simp, ?_, fun u hu n => ?_⟩)
    · simp only [List.filter, isRef_of h1]; exact .cons h1 .nil
    · simp at hu
      rw [hu, isRef_of h1] at n; cases n
  | some p =>
    (refine εx2 h fun a b c'1998 => ?_; (try clear h); refine εa3 c'1998 fun e h h1 => ?_; clear c'1998)
    refine (ιEE a _ ⟨e, h, by simp, ?_, fun u hu n => ?_⟩)
    · simp only [List.filter, isRef_of h1]; exact .cons h1 .nil
    · simp at hu
      rw [hu, isRef_of h1] at n; cases n
  | least x p =>
    (refine εx2 h fun a b c'1999 => ?_; (try clear h); refine εa3 c'1999 fun e h h1 => ?_; clear c'1999)
    refine (ιEE a _ ⟨e, h, by simp, ?_, fun u hu n => ?_⟩)
    · show Paired (IsW H) ([V.str x, b].filter isRef) [p]
      rw [List.filter_cons_of_neg (by simp [isRef]), List.filter_cons_of_pos (isRef_of h1)]
      exact .cons h1 .nil
    · simp at hu
      rcases hu with z | z
      · exact .inr ⟨_, z⟩
      · rw [z, isRef_of h1] at n; cases n
  | most x p =>
    (refine εx2 h fun a b c'2000 => ?_; (try clear h); refine εa3 c'2000 fun e h h1 => ?_; clear c'2000)
    refine (ιEE a _ ⟨e, h, by simp, ?_, fun u hu n => ?_⟩)
    · show Paired (IsW H) ([V.str x, b].filter isRef) [p]
      rw [List.filter_cons_of_neg (by simp [isRef]), List.filter_cons_of_pos (isRef_of h1)]
      exact .cons h1 .nil
    · simp at hu
      rcases hu with z | z
      · exact .inr ⟨_, z⟩
      · rw [z, isRef_of h1] at n; cases n
end Gm
namespace L2
open PySem PySem.Spec PyProof.Rows
section
variable {X : Cx}
theorem call_sumL (hc : X.calm = true) : CallR X (.builtin "sum") (fun xs H Q => ∃ (p : Addr) (ns : List Int), xs = [.ref p] ∧ SqL X.K H p (ns.map V.int) ∧ Q (.int ns.sum) H) := by
  intro pins s σ H xs us Q I r h
  (refine εx2 h fun p ns c'1914 => εa3 c'1914 fun e'1913 hq q => ?_; (try clear h); clear c'1914; subst e'1913)
  obtain ⟨u, rfl, rx⟩ := vals1 r
  cases rx
  (refine εx1 (I.list hq) fun its c'1915 => εa3 c'1915 fun rv pl _ => ?_; clear c'1915)
  have hi : IntsAre its ns := intsAre_of rv
  obtain ⟨xs, e⟩ := hi.allInts.items
  have hns : ns = xs.toList.map (·.1) := by rw [← hi.numsOf, ← nums_intItems, ← e]
  have hl := pl.isList
  rw [e] at hl
  refine sum_intListG (I.ok.hd hc) hl fun h' tk t' hk => ?_
  refine (ιEE (.int _) H ⟨I.kept (t' := tk) hk, ⟨t', rfl⟩, ?_⟩)
  rw [preSum_eq, List.take_of_length_le (by simp), ← hns]
  exact q
end
noncomputable def tupK (K : PySem.W.Frag) (a : Addr) : Option (List V) := match K.lookup a with
  | some o => if o.cls = .type "tuple" then (match o.data with | .seq its _ => if its.size ≤ sizeLine then its.toList.mapM absV else none | _ => none) else none
  | none => none
theorem abs_rel {u : Value} {x : V} (h : absV u = some x) : RelV x u := by
  cases u <;> first | (have e := Option.some.inj h; subst e; first | rfl | exact ⟨_, rfl⟩) | cases h
theorem vals_abs : ∀ {us : List Value} {xs : List V}, us.mapM absV = some xs → Vals xs us
  | [], xs, h => by
    simp at h
    subst h
    exact .nil
  | u :: r, xs, h => by
    rw [List.mapM_cons] at h
    cases e : absV u with
    | none => rw [e] at h; cases h
    | some x =>
      rw [e] at h
      cases e2 : r.mapM absV with
      | none => rw [e2] at h; cases h
      | some ys =>
        rw [e2] at h
        cases h
        exact .cons (abs_rel e) (vals_abs e2)
theorem tupK_sq {K : PySem.W.Frag} {a : Addr} {xs : List V} (h : tupK K a = some xs) (H : Hp) : SqT K H a xs := by
  unfold tupK at h
  cases e : K.lookup a with
  | none => rw [e] at h; cases h
  | some o =>
    rw [e] at h
    simp only at h
    split at h
    · rename_i hc
      cases ed : o.data with
      | seq its n =>
        rw [ed] at h
        simp only at h
        split at h
        · rename_i hz
          exact .inr (ιEEE o its n ⟨e, hc, ed, hz, vals_abs h⟩)
        · cases h
      | _ => rw [ed] at h; cases h
    · cases h
end L2
namespace L2
open PySem PySem.Spec PyProof.Rows
theorem isinstK {X : Cx} (K : PySem.W.Frag) (hK : X.K = K) : CallR X (.builtin "isinstance") (fun xs H Q => ∃ x T t b, xs = [x, .ty T] ∧ TyOf K H x t ∧ PySem.W.kitOne K t (.type T) = some b ∧ Q (.bl b) H) := by
  subst hK
  exact call_isinst
end L2
namespace Gm
open PySem L2
noncomputable def isEnd : Wish → Bool
  | .is _ => true | .no _ => true | .name _ => true | _ => false
abbrev WEnv := Str → Option Nat
noncomputable def put (e : WEnv) (x : Str) (n : Nat) : WEnv := fun y => if y = x then some n else e y
noncomputable def envOf (e : WEnv) (n : Nat) : Wish → WEnv
  | .least x _ => put e x n | .most x _ => put e x n | _ => e
noncomputable def dom (e : WEnv) : Str → Bool := fun y => (e y).isSome
noncomputable def dpt (d : Str → Bool) (x : Str) : Str → Bool := fun y => decide (y = x) || d y
noncomputable def domOf (d : Str → Bool) : Wish → Str → Bool
  | .least x _ => dpt d x | .most x _ => dpt d x | _ => d
theorem dom_put (e : WEnv) (x : Str) (n : Nat) : dom (put e x n) = dpt (dom e) x := by
  funext y
  unfold dom put dpt
  by_cases h : y = x <;> simp [h]
theorem dom_envOf (e : WEnv) (n : Nat) (w : Wish) : dom (envOf e n w) = domOf (dom e) w := by
  cases w <;> first | rfl | exact dom_put _ _ _
noncomputable def loose (d : Str → Bool) : Wish → Bool
  | .is _ => false | .no _ => false | .name x => !d x | .and a b => loose d a || loose d b | .or a b => loose d a || loose d b | .all a => loose d a | .some a => loose d a | .least x a => loose (dpt d x) a | .most x a => loose (dpt d x) a
noncomputable def nmOk : Wish → Prop
  | .is _ => True | .no _ => True | .name x => x.length ≤ 9 | .and a b => nmOk a ∧ nmOk b | .or a b => nmOk a ∧ nmOk b | .all a => nmOk a | .some a => nmOk a | .least x a => x.length ≤ 9 ∧ nmOk a | .most x a => x.length ≤ 9 ∧ nmOk a
theorem nmOk_parts {w p : Wish} (h : nmOk w) (m : p ∈ parts w) : nmOk p := by
  cases w <;> simp [parts] at m <;> (first | (rcases m with rfl | rfl <;> first | exact h.1 | exact h.2) | (subst m; first | exact h | exact h.2))
theorem sg_part {w p : Wish} (m : p ∈ parts w) : sg p < sg w := by
  cases w <;> simp [parts] at m <;> (first | (rcases m with rfl | rfl <;> simp [sg] <;> (first | exact ω325 | exact ω17)) | (subst m; simp [sg]))
theorem sg_pos (w : Wish) : 0 < sg w := by cases w <;> simp [sg] <;> (first | exact ω180 | exact ω17)
noncomputable def rws (e : WEnv) (n : Nat) : Wish → List (Wish × List Int)
  | .is c => [(.is c, [(n : Int)])]
  | .no c => [(.no c, [(n : Int)])]
  | .name x => [(.name x, [(((e x).getD 0 : Nat) : Int)])]
  | .and a b => (.and a b, [((n + 1 : Nat) : Int), ((n + 1 + sg a : Nat) : Int)]) :: (rws e (n + 1) a ++ rws e (n + 1 + sg a) b)
  | .or a b => (.or a b, [((n + 1 : Nat) : Int), ((n + 1 + sg a : Nat) : Int)]) :: (rws e (n + 1) a ++ rws e (n + 1 + sg a) b)
  | .all a => (.all a, [((n + 1 : Nat) : Int)]) :: rws e (n + 1) a
  | .some a => (.some a, [((n + 1 : Nat) : Int)]) :: rws e (n + 1) a
  | .least x a => (.least x a, [((n + 1 : Nat) : Int)]) :: rws (put e x n) (n + 1) a
  | .most x a => (.most x a, [((n + 1 : Nat) : Int)]) :: rws (put e x n) (n + 1) a
theorem rws_len : ∀ (w : Wish) (e : WEnv) (n : Nat), (rws e n w).length = sg w
  | .is _, _, _ => rfl
  | .no _, _, _ => rfl
  | .name _, _, _ => rfl
  | .and a b, e, n => by simp [rws, sg, rws_len a, rws_len b]; exact ω326
  | .or a b, e, n => by simp [rws, sg, rws_len a, rws_len b]; exact ω326
  | .all a, e, n => by simp [rws, sg, rws_len a]; exact ω110
  | .some a, e, n => by simp [rws, sg, rws_len a]; exact ω110
  | .least x a, e, n => by simp [rws, sg, rws_len a]; exact ω110
  | .most x a, e, n => by simp [rws, sg, rws_len a]; exact ω110
theorem rws_ne : ∀ (w : Wish) (e : WEnv) (n : Nat), ∀ r ∈ rws e n w, r.2 ≠ [] ∧ r.2.length ≤ 2
  | .is _, _, _, r, h => by simp [rws] at h; subst h; simp
  | .no _, _, _, r, h => by simp [rws] at h; subst h; simp
  | .name _, _, _, r, h => by simp [rws] at h; subst h; simp
  | .and a b, e, n, r, h => by
    simp only [rws, List.mem_cons, List.mem_append] at h
    rcases h with h | h | h
    · subst h; simp
    · exact rws_ne a _ _ r h
    · exact rws_ne b _ _ r h
  | .or a b, e, n, r, h => by
    simp only [rws, List.mem_cons, List.mem_append] at h
    rcases h with h | h | h
    · subst h; simp
    · exact rws_ne a _ _ r h
    · exact rws_ne b _ _ r h
  | .all a, e, n, r, h => by
    simp only [rws, List.mem_cons] at h
    rcases h with h | h
    · subst h; simp
    · exact rws_ne a _ _ r h
  | .some a, e, n, r, h => by
    simp only [rws, List.mem_cons] at h
    rcases h with h | h
    · subst h; simp
    · exact rws_ne a _ _ r h
  | .least x a, e, n, r, h => by
    simp only [rws, List.mem_cons] at h
    rcases h with h | h
    · subst h; simp
    · exact rws_ne a _ _ r h
  | .most x a, e, n, r, h => by
    simp only [rws, List.mem_cons] at h
    rcases h with h | h
    · subst h; simp
    · exact rws_ne a _ _ r h
theorem rws_dp : ∀ (w : Wish) (e : WEnv) (n : Nat), ∀ r ∈ rws e n w, dp r.1 ≤ dp w
  | .is _, _, _, r, h => by simp [rws] at h; subst h; exact Nat.le_refl _
  | .no _, _, _, r, h => by simp [rws] at h; subst h; exact Nat.le_refl _
  | .name _, _, _, r, h => by simp [rws] at h; subst h; exact Nat.le_refl _
  | .and a b, e, n, r, h => by
    simp only [rws, List.mem_cons, List.mem_append] at h
    rcases h with h | h | h
    · subst h; exact Nat.le_refl _
    · have := rws_dp a _ _ r h; simp only [dp]; exact ω327 this
    · have := rws_dp b _ _ r h; simp only [dp]; exact ω328 this
  | .or a b, e, n, r, h => by
    simp only [rws, List.mem_cons, List.mem_append] at h
    rcases h with h | h | h
    · subst h; exact Nat.le_refl _
    · have := rws_dp a _ _ r h; simp only [dp]; exact ω327 this
    · have := rws_dp b _ _ r h; simp only [dp]; exact ω328 this
  | .all a, e, n, r, h => by
    simp only [rws, List.mem_cons] at h
    rcases h with h | h
    · subst h; exact Nat.le_refl _
    · have := rws_dp a _ _ r h; simp only [dp]; exact ω111 this
  | .some a, e, n, r, h => by
    simp only [rws, List.mem_cons] at h
    rcases h with h | h
    · subst h; exact Nat.le_refl _
    · have := rws_dp a _ _ r h; simp only [dp]; exact ω111 this
  | .least x a, e, n, r, h => by
    simp only [rws, List.mem_cons] at h
    rcases h with h | h
    · subst h; exact Nat.le_refl _
    · have := rws_dp a _ _ r h; simp only [dp]; exact ω111 this
  | .most x a, e, n, r, h => by
    simp only [rws, List.mem_cons] at h
    rcases h with h | h
    · subst h; exact Nat.le_refl _
    · have := rws_dp a _ _ r h; simp only [dp]; exact ω111 this
noncomputable def hds (m : Nat) : List Wish → List Int
  | [] => []
  | p :: r => (m : Int) :: hds (m + sg p) r
noncomputable def fltW (e : WEnv) (m : Nat) : List Wish → List (Wish × List Int)
  | [] => []
  | p :: r => rws e m p ++ fltW e (m + sg p) r
theorem rws_parts {w : Wish} (h : isEnd w = false) (e : WEnv) (n : Nat) : rws e n w = (w, hds (n + 1) (parts w)) :: fltW (envOf e n w) (n + 1) (parts w) := by
  cases w <;> simp [isEnd] at h <;> simp [rws, parts, hds, fltW, envOf]
theorem loose_parts {w : Wish} (h : isEnd w = false) (d : Str → Bool) : loose d w = (parts w).any (loose (domOf d w)) := by
  cases w <;> simp [isEnd] at h <;> simp [loose, parts, domOf]
noncomputable def tot (l : List Wish) : Nat := (l.map sg).sum
theorem tot_snoc (l : List Wish) (p : Wish) : tot (l ++ [p]) = tot l + sg p := by simp [tot]
theorem hds_snoc (p : Wish) : ∀ (l : List Wish) (m : Nat), hds m (l ++ [p]) = hds m l ++ [((m + tot l : Nat) : Int)]
  | [], m => by simp [hds, tot]
  | q :: r, m => by
    have := hds_snoc p r (m + sg q)
    simp only [List.cons_append, hds, this]
    simp [tot]; exact ω658
theorem fltW_snoc (e : WEnv) (p : Wish) : ∀ (l : List Wish) (m : Nat), fltW e m (l ++ [p]) = fltW e m l ++ rws e (m + tot l) p
  | [], m => by simp [fltW, tot]
  | q :: r, m => by
    have := fltW_snoc e p r (m + sg q)
    simp only [List.cons_append, fltW, this]
    simp [tot, Nat.add_assoc]
theorem fltW_len (e : WEnv) : ∀ (l : List Wish) (m : Nat), (fltW e m l).length = tot l
  | [], m => by simp [fltW, tot]
  | q :: r, m => by
    have := fltW_len e r (m + sg q)
    simp only [fltW, List.length_append, this, rws_len]
    simp [tot]
theorem tot_take (w : Wish) (i : Nat) : tot ((parts w).take i) < sg w := by
  have : ∀ (l : List Wish) (i : Nat), tot (l.take i) ≤ tot l := by
    intro l
    induction l with
    | nil => intro i; simp [tot]
    | cons q r ih =>
      intro i
      cases i with
      | zero => simp [tot]
      | succ i =>
        have := ih i
        simp [tot] at this ⊢
        exact this
  have h := this (parts w) i
  have e := sg_parts w
  unfold tot at h ⊢
  exact ω659 h e
noncomputable def IsRow (H0 H : Hp) (u : V) (r : Wish × List Int) : Prop := ∃ t v h, u = .ref t ∧ H t = some (.tup [v, .ref h]) ∧ IsW H v r.1 ∧ H h = some (.lst (r.2.map V.int)) ∧ H0 h = none
noncomputable def EnvD (kvs : List (Key × V)) (e : WEnv) : Prop := ∀ x, valV kvs (Sum.inr x) = (e x).map fun n => V.int (n : Int)
theorem EnvD.put {kvs : List (Key × V)} {e : WEnv} (h : EnvD kvs e) (x : Str) (n : Nat) : EnvD (putK kvs (Sum.inr x) (.int n)) (Gm.put e x n) := by
  intro y
  rw [valV_put]
  unfold Gm.put
  by_cases z : y = x
  · rw [if_pos (by rw [z]), if_pos z]; rfl
  · rw [if_neg (fun q => z (Sum.inr.inj q)), if_neg z]; exact h y
noncomputable def crn (c : Int) : Wish → Int
  | .is d => if c = d then 0 else 1
  | .no d => if c = d then 1 else 0
  | .least _ p => 2 * nmr p + 1
  | .most _ p => 2 * nmr p
  | _ => 0
noncomputable def isStep : Wish → Bool
  | .all _ => true | .some _ => true | _ => false
noncomputable def wys (m : Int) (k : Int) (ws hs : List Int) (w : Wish) : List Int := if isStep w then ws.map fun x => x * m + hs.getD 0 0 else hs.map fun h => k * m + h
noncomputable def isOne : Wish → Bool
  | .and _ _ => true | .all _ => true | _ => false
noncomputable def hndW (w : Wish) : Int := if isOne w then 1 else 0
noncomputable def gCell (g : List Pl) (m k : Nat) (r : Wish × List Int) : Pl := (hndW r.1, crn (g.getD k (0, 0, [])).2.1 r.1, wys m k (g.getD k (0, 0, [])).2.2 r.2 r.1)
noncomputable def gTo (g : List Pl) (rs : List (Wish × List Int)) (i : Nat) : List Pl := (List.range i).flatMap fun k => rs.map (gCell g rs.length k)
noncomputable def gmOf (g : List Pl) (rs : List (Wish × List Int)) : List Pl := gTo g rs g.length
theorem gTo_succ (g : List Pl) (rs : List (Wish × List Int)) (i : Nat) : gTo g rs (i + 1) = gTo g rs i ++ rs.map (gCell g rs.length i) := by
  unfold gTo
  rw [List.range_succ, List.flatMap_append]
  simp
theorem gTo_len (g : List Pl) (rs : List (Wish × List Int)) (i : Nat) : (gTo g rs i).length = i * rs.length := by
  induction i with
  | zero => simp [gTo]
  | succ i ih => rw [gTo_succ, List.length_append, ih, List.length_map, Nat.succ_mul]
noncomputable def e0 : WEnv := fun _ => none
end Gm
namespace L2
open PySem PySem.Spec PyProof.Rows
noncomputable def tTryE (K : PySem.W.Frag) (Wc : Addr) (sp : Sp) (dvs : List V) (t : TA) (ts : TS) : TS := fun D σ H => t σ H fun vs H1 => sp (vs ++ dvs) H1 (fun v H2 => D.nx σ H2)
  (fun cls _ H2 => ∃ C, cls = .ref C ∧ PySem.W.exmOne K (.ref C) (.ref Wc) = some true ∧ ∀ a, H2 a = none →
    ts { nx := fun σ' H' => D.nx σ' H', rt := fun _ _ => False } σ (upd H2 a (ExcO a C)))
theorem ps_tryE {X : Cx} {k : Nat} {fn c : Str} {f Wc : Addr} {fd : FuncData} {ps : List Str} {sp : Sp} {dvs : List V} {ds : List Value} {e : Expr} {es : List Expr} {t : TA} {ts : TS} {b₀ : Stmt} {suite : List Stmt} {out : List Env} {p cpos apos np hpos pos : Pos}
    (hxe : X.xe = fun _ _ => False) (hcalm : X.calm = true) (hst : X.stack = X.env :: out) (hfm : X.env.frame = some X.env.locals)
    (F : FnOk X.prog X.w X.K X.mg X.base (CXE X.prog X.w) k f fd ps sp) (hr : Room k X.A) (hg : Gl X fn) (hm : X.mg fn = some (.ref f)) (hk : PySem.W.keepIn X.K (.ref f) = true) (hb : Binds X.K fd ps ds) (hd : Vals dvs ds) (ha : PA X (e :: es) t)
    (hgc : Gl X c) (hmc : X.mg c = some (.ref Wc)) (hsuite : ∀ a, PSs (cxMark X a) (b₀ :: suite) ts)
    (hdb : (fn == ("__debug__" : Str)) = false := by decide) (hdc : (c == ("__debug__" : Str)) = false := by decide)
    (hs : swapsWith (.Call (.Name fn p) (e :: es) [] cpos) none apos.line X.env = pure false := by rfl)
    (he : starEach (e :: es) X.env = (false, eval e X.env) :: starEach es X.env := by rfl) (hpl : (backTo cpos (starEach es X.env)).any (·.1) = false := by rfl) :
    PS X (.Try [.Expr (.Call (.Name fn p) (e :: es) [] cpos) apos] [.ExceptHandler (some (.Name c np)) none (b₀ :: suite) hpos] [] [] pos) (tTryE X.K Wc sp dvs t ts) := by
  intro pins s σ H D I h
  refine wpAny_Try_except (wpAny_execs_cons (wpAny_Expr_any (wpAny_Call_Name_kw (ld_glob I hg hm ?_ hdb)) I.quiet hs))
  refine PySem.W.callWith_K (h₀ := X.base) I.ok.mod.kin hk (wpAny_mono (ha cpos pins s σ H _ I h) (fun us s1 z => ?_) (fun _ _ z => by rw [hxe] at z; exact z.elim)) he hpl
  (refine εx2 z fun vs H1 c'1944 => εa3 c'1944 fun I1 r q => ?_; (try clear z); clear c'1944)
  refine ⟨I1.kIn, ?_⟩
  have r2 : Vals (vs ++ dvs) (us ++ ds) := r.append hd
  have hl : (us ++ ds).length = ps.length := by rw [← r2.length]; exact F.len _ _ _ _ q
  refine wpAny_call (codeAny_mono (F.run X.A X.stack s1 H1 ⟨us, []⟩ (us ++ ds) (vs ++ dvs) _ _ hr I1.env0 (hb s1 us I1.kIn hl) r2 q) fun r s' hq => ?_)
  cases r with
  | ok fl =>
    cases fl with
    | ret u =>
      (refine εx2 (I1.after hq) fun v H2 c'1945 => εa3 c'1945 fun I2 rv q2 => ?_; clear c'1945)
      exact wpAny_execs_nil (wpAny_execs_nil (ιEE _ H2 ⟨I2, q2⟩))
    | next => exact False.elim hq
    | brk => exact False.elim hq
    | cont => exact False.elim hq
  | error ev =>
    (refine εx5 hq fun a cls a0 B H2 c'1948 => εa9 c'1948 fun e'1946 os bare fl un hok inB exB c'1949 => εx1 c'1949 fun C c'1950 => εa3 c'1950 fun e'1947 hmt hsu => ?_; (try clear hq); clear c'1948 c'1949 c'1950; subst e'1946; subst e'1947)
    have nf := I1.nf
    have hBa : B.get? a = none := fl.2.1
    have hH2a : H2 a = none := by
      cases z : H2 a with
      | none => rfl
      | some o => obtain ⟨ob, e1⟩ := (hok a o z).there; rw [hBa] at e1; cases e1
    have hsa : s1.heap.get? a = none := by
      cases z : s1.heap.get? a with
      | none => rfl
      | some o =>
        by_cases hm : a ∈ frs X.stack
        · (refine εa2 (nf a hm) fun _ c'1951 => εx1 c'1951 fun o' c'1952 => εa2 c'1952 fun e1 nd => ?_; clear c'1951 c'1952)
          obtain ⟨sl, e2⟩ := un.slot a o' e1 (I1.stkFree a hm) hm (by simp)
          (refine εx5 (fl.2.2.2) fun oe vs' T oT ts' c'1953 => εa4 c'1953 fun e3 _ e4 _ => ?_; clear c'1953)
          rw [e2] at e3
          cases e3
          exact absurd e4 (nd vs')
        · obtain ⟨o', e1⟩ := exB a o z hm
          rw [hBa] at e1; cases e1
    have go : ∀ (h6 : Heap) (sx : Shared), Heap.FlyingW B X.stack a (.ref C) a0 h6 → s'.heap.UpToSlots h6 → sx.heap = h6 → sx.os = s'.os → sx.gens = s'.gens → Inv X pins σ (upd H2 a (ExcO a C)) sx := by
      rintro h6 sx fl6 up rfl ho hg
      have un6 : Un (frs X.stack) [] H1 H2 s1.heap sx.heap := un_up un fl6.1 up inB exB nf
      have ne : ∀ b o, H2 b = some o → b ≠ a := fun b o z y => by rw [y, hH2a] at z; cases z
      refine I1.call' (s' := sx) (ch := []) (ho.trans os) ⟨un6.keep, un6.slot, fun b o e n hx => ?_, un6.there, fun b xs e => ?_, fun b o u e => ?_, fun b ps' e => ?_⟩ (fun b o e => ?_) (by rw [hg]; exact bare) (fun b z => by cases z)
      · rw [upd_ne (fun z => by rw [z, hsa] at e; cases e)]
        exact un6.free b o e n hx
      · have := un6.tups b xs e
        rw [upd_ne (ne _ _ this)]; exact this
      · have := un6.frzs b o u e
        rw [upd_ne (ne _ _ this)]; exact this
      · obtain ⟨more, e1⟩ := un6.tbls b ps' e
        exact ⟨more, by rw [upd_ne (ne _ _ e1)]; exact e1⟩
      · by_cases z : b = a
        · subst z
          rw [upd_same] at e
          cases e
          obtain ⟨ob, e1, e2⟩ := fl6.there
          exact ⟨⟨ob, e1, e2⟩, ⟨ob, e1⟩, fun g1 g2 z'402 kk => εx1 z'402 fun oe m'403 => εa2 m'403 fun q1 q2 => ⟨oe, kk _ q1, q2⟩⟩
        · rw [upd_ne z] at e
          exact (hok b o e).stay (fun c u _ q => fl6.1 c u q) (fun c q => by rw [upd_ne (ne _ _ q)]; exact q) fun c xs q => by rw [upd_ne (ne _ _ q)]; exact q
    have hfr : X.A.frames = some (X.env :: out) := by rw [I1.ok.frames, hst]
    rw [hst] at fl go
    refine wpAny_looks_onW (outer := out) (L := X.env.locals) hfr hfm fl fun h4 held4 up4 => ?_
    refine wpAny_landsW held4 fun h5 fl5 up5 => ?_
    have up45 := up4.trans up5
    have I5 := go h5 { s' with heap := h5 } fl5 up45 rfl rfl rfl
    refine wpAny_handleBy_cons (codeAny_handlers_test (ld_glob (X := cxMark X a) (I5.mark a) hgc hmc ?_ hdc)) (by intro q; cases q)
    have ep : ExcP a C h5 := fl5.there
    refine (PySem.W.exm_one (h := h5) I5.kIn ep.type hmt).here ?_
    refine codeAny_handlers_suite ?_
    refine lands_againW fl5 fun h6 fl6 up6 => ?_
    have I6 := go h6 { s' with heap := h6 } fl6 (up45.trans up6) rfl rfl rfl
    refine wpAny_mono (hsuite a pins { s' with heap := h6 } _ _ _ (I6.mark a) (hsu a hH2a)) (fun fl s8 q8 => ?_) (fun _ _ z => z.elim)
    cases fl with
    | ret v => (refine εx3 q8 fun _ _ _ c'1954 => εa3 c'1954 fun _ _ z => ?_; (try clear q8); clear c'1954); exact z.elim
    | brk => (refine εx2 q8 fun _ _ c'1955 => εa2 c'1955 fun _ z => ?_; (try clear q8); clear c'1955); exact z.elim
    | cont => (refine εx2 q8 fun _ _ c'1956 => εa2 c'1956 fun _ z => ?_; (try clear q8); clear c'1956); exact z.elim
    | next =>
      (refine εx2 q8 fun σ8 H8 c'1957 => ?_; (try clear q8); refine εa2 c'1957 fun I8 q8 => ?_; clear c'1957)
      exact (ιEE _ H8 ⟨I8.unmark (fun _ => I1.ok.hd hcalm), q8⟩)
end L2
namespace K18
open PySem L2 Gm
noncomputable def top (i : Nat) : Stmt := PySem.Challenge.pw_crownwalk_k18_wish_game.main.body.getD i (.Pass ⟨0, 0, 0, 0⟩)
abbrev sPartsOf : Stmt := top 27
abbrev sHoldsF : Stmt := top 28
abbrev sWishGame : Stmt := top 29
abbrev sRowsOf : Stmt := top 30
abbrev sHomeOf : Stmt := top 31
abbrev sGameOf : Stmt := top 32
abbrev sWaysOf : Stmt := top 33
abbrev sCrownOf : Stmt := top 34
abbrev sNamers : Stmt := top 35
abbrev sCell : Stmt := top 37
abbrev sPick : Stmt := top 38
abbrev sWhole : Stmt := top 39
abbrev sMix : Stmt := top 40
abbrev sPlace : Stmt := top 41
abbrev sGame : Stmt := top 42
abbrev sSame : Stmt := top 43
abbrev sRefused : Stmt := top 44
abbrev sLTold : Stmt := top 45
abbrev sSpot : Stmt := top 46
abbrev sWish : Stmt := top 47
abbrev sLParts : Stmt := top 48
abbrev sLSigns : Stmt := top 49
abbrev sBinders : Stmt := top 50
abbrev sLay : Stmt := top 51
abbrev sLCrown : Stmt := top 52
abbrev sLRowsOf : Stmt := top 53
abbrev sLLoose : Stmt := top 54
abbrev sLaw : Stmt := top 55
noncomputable def spCell (K : PySem.W.Frag) : Sp := fun vs H Q _ => ∃ (a : Addr) (ns : List Int) (k : Nat), vs = [.ref a, .int k] ∧ SqL K H a (ns.map V.int) ∧ Q (.int (ns.getD k 0)) H
noncomputable def spPick (K : PySem.W.Frag) : Sp := fun vs H Q _ => ∃ (a : Addr) (ns : List Int) (k : Nat), vs = [.ref a, .int k] ∧ SqL K H a (ns.map V.int) ∧ ∀ z : Int, Q (.int z) H
noncomputable def spMix : Sp := fun vs H Q _ => ∃ (c k : Int), vs = [.int c, .int k] ∧ ∀ z : Int, Q (.int z) H
noncomputable def spPlace : Sp := fun vs H Q _ => ∃ (n m sp lo : Int), vs = [.int n, .int m, .int sp, .int lo] ∧ 0 < m ∧ m < 1000 ∧ 0 < sp ∧ sp < 1000 ∧ ∀ (v : V) (H' : Hp) (p : Pl), WfPl m p → IsPl H' v p → Same H H' → Q v H'
noncomputable def spGame (K : PySem.W.Frag) : Sp := fun vs H Q _ => ∃ (a : Addr) (ns : List Int) (st m : Nat) (sp lo : Int), vs = [.ref a, .int st, .int m, .int sp, .int lo] ∧ SqL K H a (ns.map V.int) ∧ 0 < m ∧ m < 1000 ∧ 0 < sp ∧ sp < 1000 ∧
  ∀ (v : V) (H' : Hp) (g : List Pl), g.length = m → (∀ p ∈ g, WfPl m p) → IsGm H' v g → Same H H' → Q v H'
noncomputable def spWhole : Sp := fun vs H Q _ => ∃ i : Int, vs = [.int i] ∧ Q (.bl true) H
noncomputable def spSame : Sp := fun vs H Q _ => ∃ (x y : V) (g : List Pl), vs = [x, y] ∧ IsGm H x g ∧ IsGm H y g ∧ g.length < 1000 ∧ Q (.bl true) H
structure Txt (mg : Str → Option Value) : Prop where
  len : mg "len" = none
  range : mg "range" = none
  sorted : mg "sorted" = none
  set : mg "set" = none
  tuple : mg "tuple" = none
  isi : mg "isinstance" = none
  int : mg "int" = none
  bool : mg "bool" = none
  list : mg "list" = none
  all : mg "all" = none
  any : mg "any" = none
  dict : mg "dict" = none
  max : mg "max" = none
  min : mg "min" = none
  sum : mg "sum" = none
  ValueError : mg "ValueError" = none
section
variable {P : Program} {w : World} {K : PySem.W.Frag} {mg : Str → Option Value} {base : Heap}
theorem scCell : FnScope ["script", "k"] ["script", "k"] (defScope sCell) := ⟨rfl, rfl, rfl, by decide +kernel, rfl, by decide +kernel, by decide +kernel⟩
theorem ok_cell {f : Addr} {fd : FuncData} (F : Fun K "_law_cell_at" "_law_cell_at" sCell f fd) (T : Txt mg) : FnOk P w K mg base CX0 1 f fd ["script", "k"] (spCell K) := by
  refine F.ok scCell (fun vs H Q E h => ?_) (fun cdv A outer s H vs Q E hr h => ?_)
  · (refine εx3 h fun a ns k c'28 => εa2 c'28 fun e'27 _ => ?_; (try clear h); clear c'28; subst e'27)
    rfl
  · (refine εx3 h fun a ns k c'30 => εa3 c'30 fun e'29 hS q => ?_; (try clear h); clear c'30; subst e'29)
    refine (let X' : Cx := _; (?_ : ∃ t, PSs X' _ t ∧ _))
    refine ⟨_, pss_cons (ps_if (pt_cmpR op_lt (pv 1) (pe_callB call_len_seq (by rfl) T.len PySem.boot_len (pa_cons (pv 0) pa_nil)) (nomark _)) (pss_one (ps_ret (pe_ix ix_list (pv 0) (pv 1) (fun _ _ => rfl)))) pss_nil) (pss_one (ps_ret pe_int)), ?_⟩
    refine (let U'1 : TS := _; (?_ : tSeq _ U'1 _ _ _))
    refine (ιEAEAEE _ rfl _ rfl a _ ⟨rfl, .inl hS, ιEEAAE _ _ rfl rfl _ ⟨rfl, ?_⟩⟩)
    refine ite2 (fun hlt => ?_) (fun hlt => ?_)
    · have hk : k < ns.length := by
        have := of_decide_eq_true hlt
        rw [List.length_map] at this
        exact ω15 this
      refine (ιEAEAEE _ rfl _ rfl a _ (ιEE _ _ ⟨rfl, rfl, hS, atI_nat (v := V.int (ns.getD k 0)) (by simp [List.getD_eq_getElem?_getD, hk]), q⟩))
    · have hk : ¬ k < ns.length := fun z => hlt (decide_eq_true (by rw [List.length_map]; exact ω30 z))
      have e : ns.getD k 0 = 0 := by rw [List.getD_eq_getElem?_getD, List.getElem?_eq_none (by exact ω71 hk)]; rfl
      rw [e] at q
      exact q
theorem scPick : FnScope ["script", "k"] ["script", "k"] (defScope sPick) := ⟨rfl, rfl, rfl, by decide +kernel, rfl, by decide +kernel, by decide +kernel⟩
theorem ok_pick {f f1 : Addr} {fd fd1 : FuncData} (F : Fun K "_law_pick" "_law_pick" sPick f fd) (T : Txt mg) (F1 : Fun K "_law_cell_at" "_law_cell_at" sCell f1 fd1) (m1 : mg "_law_cell_at" = some (.ref f1)) (b1 : Binds K fd1 ["script", "k"] []) :
    FnOk P w K mg base CX0 2 f fd ["script", "k"] (spPick K) := by
  have G1 : FnOk P w K mg base CX0 1 f1 fd1 ["script", "k"] (spCell K) := ok_cell F1 T
  refine F.ok scPick (fun vs H Q E h => ?_) (fun cdv A outer s H vs Q E hr h => ?_)
  · (refine εx3 h fun a ns k c'32 => εa2 c'32 fun e'31 _ => ?_; (try clear h); clear c'32; subst e'31)
    rfl
  · (refine εx3 h fun a ns k c'34 => εa3 c'34 fun e'33 hS q => ?_; (try clear h); clear c'34; subst e'33)
    refine (let X' : Cx := _; (?_ : ∃ t, PSs X' _ t ∧ _))
    refine ⟨_, pss_cons (ps_if (pt_cmpR op_lt (pv 1) (pe_callB call_len_seq (by rfl) T.len PySem.boot_len (pa_cons (pv 0) pa_nil)) (nomark _)) (pss_one (ps_ret (pe_ix ix_list (pv 0) (pv 1) (fun _ _ => rfl)))) pss_nil)
      (pss_one (ps_ret (pe_op op_fdiv (pe_op op_mod (pe_op op_mul (pe_op op_add (pe_op op_add (pe_call G1 hr rfl m1 F1.kp b1 .nil pass0 (pa_cons (pv 0) (pa_cons pe_int pa_nil))) (pe_op op_mul pe_int (pv 1))) pe_int) pe_int) pe_int) pe_int))), ?_⟩
    refine (let U'1 : TS := _; (?_ : tSeq _ U'1 _ _ _))
    refine (ιEAEAEE _ rfl _ rfl a _ ⟨rfl, .inl hS, ιEEAAE _ _ rfl rfl _ ⟨rfl, ?_⟩⟩)
    refine ite2 (fun hlt => ?_) (fun hlt => ?_)
    · have hk : k < ns.length := by
        have := of_decide_eq_true hlt
        rw [List.length_map] at this
        exact ω15 this
      exact (ιEAEAEE _ rfl _ rfl a _ (ιEE _ _ ⟨rfl, rfl, hS, atI_nat (v := V.int (ns.getD k 0)) (by simp [List.getD_eq_getElem?_getD, hk]), q _⟩))
    · refine (ιEAEEE _ rfl a ns 0 ⟨rfl, hS, ιEAEEAAAE _ rfl _ _ rfl rfl (.inl ⟨by decide, by decide⟩) _ (ιEAAEE _ rfl rfl _ _ ⟨rfl, rfl, ιEEAAAEE _ _ rfl rfl (.inr ⟨by decide, by decide⟩) _ _ ⟨rfl, rfl, (by show (0 : Int) < 2147483647; decide), ιEE _ _ ⟨rfl, rfl, ⟨by decide, by decide⟩, q _⟩⟩⟩)⟩)
theorem scMix : FnScope ["cell", "k"] ["cell", "k"] (defScope sMix) := ⟨rfl, rfl, rfl, by decide +kernel, rfl, by decide +kernel, by decide +kernel⟩
theorem ok_mix {f : Addr} {fd : FuncData} (F : Fun K "_law_mix" "_law_mix" sMix f fd) : FnOk P w K mg base CX0 1 f fd ["cell", "k"] spMix := by
  refine F.ok scMix (fun vs H Q E h => ?_) (fun cdv A outer s H vs Q E hr h => ?_)
  · (refine εx2 h fun c k c'36 => εa2 c'36 fun e'35 _ => ?_; (try clear h); clear c'36; subst e'35)
    rfl
  · (refine εx2 h fun c k c'38 => εa2 c'38 fun e'37 q => ?_; (try clear h); clear c'38; subst e'37)
    refine ⟨_, pss_one (ps_ret (pe_op op_mod (pe_op op_add (pe_op op_mul (pv 0) pe_int) (pe_op op_mul (pv 1) pe_int)) pe_int)), ?_⟩
    exact (ιEAEEAAAE _ rfl _ _ rfl rfl (.inr ⟨by decide, by decide⟩) _ ⟨rfl, ιEEAAAEE _ _ rfl rfl (.inr ⟨by decide, by decide⟩) _ _ ⟨rfl, rfl, ιEE _ _ ⟨rfl, rfl, (by show (0 : Int) < 2147483647; decide), q _⟩⟩⟩)
theorem scPlace : FnScope ["number", "many", "spread", "low", "left", "ways", "k"] ["number", "many", "spread", "low"] (defScope sPlace) := ⟨rfl, rfl, rfl, by decide +kernel, rfl, by decide +kernel, by decide +kernel⟩
theorem ok_place {f : Addr} {fd : FuncData} (F : Fun K "_law_place" "_law_place" sPlace f fd) (T : Txt mg) : FnOk P w K mg base CX0 1 f fd ["number", "many", "spread", "low"] spPlace := by
  refine F.ok scPlace (fun vs H Q E h => ?_) (fun cdv A outer s H vs Q E hr h => ?_)
  · (refine εx4 h fun n m sp lo c'40 => εa2 c'40 fun e'39 _ => ?_; (try clear h); clear c'40; subst e'39)
    rfl
  · (refine εx4 h fun n m sp lo c'42 => εa6 c'42 fun e'41 m0 m1 s0 s1 q => ?_; (try clear h); clear c'42; subst e'41)
    refine (let X' : Cx := _; (?_ : ∃ t, PSs X' _ t ∧ _))
    refine ⟨_, pss_cons (ps_set (i := 4) scPlace.nd rfl (Or.inl rfl) (pe_op op_fdiv (pv 0) (pe_op op_mul pe_int (pv 2))))
      (pss_cons (ps_set (i := 5) scPlace.nd rfl (Or.inl rfl) (pe_lst (pa_cons (pe_op op_mod (pv 4) (pv 1)) pa_nil)))
      (pss_cons (ps_for PassesOwn.never rfl (pi_range1 rfl T.range (pa_cons (pe_op op_mod (pe_op op_fdiv (pv 0) (pe_op op_mul pe_int (pv 2))) pe_int) pa_nil)) (pg_name (i := 6) scPlace.nd rfl (Or.inl rfl))
        (pss_cons (ps_set (i := 4) scPlace.nd rfl (Or.inl rfl) (pe_op op_fdiv (pv 4) (pv 1)))
        (pss_one (ps_expr (pe_bm PySem.F.plainAttrs_list PySem.F.slot_list_append PySem.F.type_list_append mt_append (pv 5) (pa_cons (pe_op op_mod (pv 4) (pv 1)) pa_nil))))))
      (pss_cons (ps_set (i := 5) scPlace.nd rfl (Or.inl rfl) (pe_callB (call_sortedI rfl) rfl T.sorted PyProof.Rows.boot_sorted (pa_cons (pe_callTy (call_setI rfl) rfl T.set PyProof.Rows.boot_set (pa_cons (pv 5) pa_nil)) pa_nil)))
      (pss_one (ps_ret (pe_tup (pa_cons (pe_op op_mod (pv 0) pe_int) (pa_cons (pe_op op_add (pv 3) (pe_op op_mod (pe_op op_fdiv (pv 0) pe_int) (pv 2))) (pa_cons (pe_callTy call_tuple_of rfl T.tuple PyProof.Rows.boot_tuple (pa_cons (pv 5) pa_nil)) pa_nil))))))))), ?_⟩
    refine (let U'4 : TS := _; let U'3 : TS := tSeq _ U'4; let U'2 : TS := tSeq _ U'3; let U'1 : TS := tSeq _ U'2; (?_ : tSeq _ U'1 _ _ _))
    refine (ιEAEAEE _ rfl _ rfl _ _ ⟨rfl, rfl, .inl ⟨by decide, by decide⟩, ιEE _ _ ⟨rfl, rfl, ⟨by show 0 < 6 * sp; exact ω114 s0, by show 6 * sp < _; exact ω115 s1⟩, ?_⟩⟩)
    refine (ιEAEAEE _ rfl _ rfl _ _ ⟨rfl, rfl, m0, by show 1 ≤ sizeLine; decide, fun l hl => ?_⟩)
    refine (ιEAEAEE _ rfl _ rfl _ _ ⟨rfl, rfl, .inl ⟨by decide, by decide⟩, ιEEAAAEE _ _ rfl rfl ⟨by show 0 < 2 * sp; exact ω116 s0, by show 2 * sp < _; exact ω117 s1⟩ _ _ ⟨rfl, rfl, (by show (0 : Int) < 3; decide), _, rfl, ?_⟩⟩)
    have hr1 : 0 ≤ n / (2 * sp) % 3 := Int.emod_nonneg _ (by decide)
    have hr2 : n / (2 * sp) % 3 < 3 := Int.emod_lt_of_pos _ (by decide)
    refine ⟨by exact ω118, by exact ω119, for_range (n := (n / (2 * sp) % 3).toNat) (fun i σ H2 => ∃ (lf : Int) (kv : Option V) (ws : List Int), σ = [some (.int n), some (.int m), some (.int sp), some (.int lo), some (.int lf), some (.ref l), kv] ∧ Same H H2 ∧
      H2 l = some (.lst (ws.map V.int)) ∧ ws ≠ [] ∧ ws.length ≤ i + 1 ∧ ∀ x ∈ ws, 0 ≤ x ∧ x < m) ?_ ?_ ?_⟩
    · refine (ιEEE _ none ([n / (6 * sp) % m]) ⟨rfl, Same.upd hl, upd_same, by simp, by simp, ?_⟩)
      intro x hx
      rw [List.mem_singleton] at hx
      subst hx
      exact ⟨Int.emod_nonneg _ (by exact ω31 m0), Int.emod_lt_of_pos _ m0⟩
    · (rintro i σ H2 hi h'57; refine εx3 h'57 fun lf kv ws c'59 => εa6 c'59 fun e'58 sm hl2 hne hlen hin => ?_; (try clear h'57); clear c'59; subst e'58)
      refine (ιEAEAEE _ rfl _ rfl _ _ ⟨rfl, rfl, ⟨m0, by exact ω120 m1⟩, ?_⟩)
      refine (ιEAAEAE _ rfl (.inl ⟨rfl, _, SqL.of hl2⟩) _ rfl _ ⟨rfl, ιEEAAAEE _ _ rfl rfl m0 l _ ⟨_, rfl, rfl, hl2, (by rw [List.length_map, sizeLine_eq]; exact ω121 hi hlen), ?_⟩⟩)
      refine (ιEEE _ _ (ws ++ [lf / m % m]) ⟨rfl, sm.upd' hl, by rw [upd_same]; simp, by simp, by simp; exact ω122 hlen, ?_⟩)
      intro x hx
      rcases List.mem_append.mp hx with z | z
      · exact hin x z
      · rw [List.mem_singleton] at z
        subst z
        exact ⟨Int.emod_nonneg _ (by exact ω31 m0), Int.emod_lt_of_pos _ m0⟩
    · (rintro σ H2 h'60; refine εx3 h'60 fun lf kv ws c'62 => εa6 c'62 fun e'61 sm hl2 hne hlen hin => ?_; (try clear h'60); clear c'62; subst e'61)
      have hz : ws.length ≤ 3 := by exact ω123 hlen
      refine (ιEAEE _ rfl l ws ⟨rfl, SqL.of hl2, by exact ω124 hz, fun l2 h2 => ?_⟩)
      refine (ιEEE l2 _ _ ⟨rfl, upd_same, ?_, fun l3 ns h3 p1 p2 p3 => ?_⟩)
      · have := ddp_len ws
        exact ω125 hz this
      have e3 : H2 l3 = none := by
        by_cases z : l3 = l2
        · subst z; exact h2
        · rw [upd_ne z] at h3; exact h3
      have n23 : l2 ≠ l3 := fun z => by rw [z, upd_same] at h3; cases h3
      refine (ιEAEEAAAE _ rfl _ _ rfl rfl (by show (0 : Int) < 2; decide) _ ⟨rfl, ιEAEEAAAE _ rfl _ _ rfl rfl ⟨by decide, by decide⟩ _ ⟨rfl, ιEEAAAEE _ _ rfl rfl s0 _ _ ⟨rfl, rfl, ?_⟩⟩⟩)
      refine (ιEAEE _ rfl l3 (ns.map V.int) ⟨rfl, .inl ⟨SqL.of upd_same, fun l4 h4 => ⟨by show 3 ≤ sizeLine; decide, fun l5 h5 => ?_⟩⟩⟩)
      have n43 : l4 ≠ l3 := fun z => by rw [z, upd_same] at h4; cases h4
      rw [upd_ne n43] at h4
      have n42 : l4 ≠ l2 := fun z => by rw [z, upd_same] at h4; cases h4
      rw [upd_ne n42] at h4
      have n54 : l5 ≠ l4 := fun z => by rw [z, upd_same] at h5; cases h5
      rw [upd_ne n54] at h5
      have n53 : l5 ≠ l3 := fun z => by rw [z, upd_same] at h5; cases h5
      rw [upd_ne n53] at h5
      have n52 : l5 ≠ l2 := fun z => by rw [z, upd_same] at h5; cases h5
      rw [upd_ne n52] at h5
      refine q _ _ (n % 2, lo + n / 2 % sp, ns) ⟨?_, ?_, ?_, ?_⟩ (ιEE l5 l4 ⟨rfl, upd_same, by rw [upd_ne (Ne.symm n54), upd_same]⟩) ?_
      · show n % 2 = 0 ∨ n % 2 = 1
        exact ω51
      · intro z
        have z' : ns = [] := z
        obtain ⟨x, hx⟩ := List.exists_mem_of_ne_nil ws hne
        have := (p3 x).mpr (List.any_eq_true.mpr ⟨x, hx, by simp⟩)
        rw [z'] at this
        cases this
      · intro x hx
        have := (p3 x).mp hx
        obtain ⟨y, hy, e⟩ := List.any_eq_true.mp this
        have e' : y = x := by simpa using e
        subst e'
        exact hin y hy
      · exact sorted_lt p1 p2 p3
      · exact (((sm.upd' (sm.free h2)).upd' (sm.free e3)).upd' (sm.free h4)).upd' (sm.free h5)
theorem scGame : FnScope ["script", "start", "many", "spread", "low", "rows", "k"] ["script", "start", "many", "spread", "low"] (defScope sGame) := ⟨rfl, rfl, rfl, by decide +kernel, rfl, by decide +kernel, by decide +kernel⟩
theorem ok_game {f f1 f2 f3 : Addr} {fd fd1 fd2 fd3 : FuncData} (F : Fun K "_law_game" "_law_game" sGame f fd) (T : Txt mg)
    (G1 : FnOk P w K mg base CX0 2 f1 fd1 ["script", "k"] (spPick K)) (k1 : PySem.W.keepIn K (.ref f1) = true) (m1 : mg "_law_pick" = some (.ref f1)) (b1 : Binds K fd1 ["script", "k"] [])
    (G2 : FnOk P w K mg base CX0 1 f2 fd2 ["cell", "k"] spMix) (k2 : PySem.W.keepIn K (.ref f2) = true) (m2 : mg "_law_mix" = some (.ref f2)) (b2 : Binds K fd2 ["cell", "k"] [])
    (G3 : FnOk P w K mg base CX0 1 f3 fd3 ["number", "many", "spread", "low"] spPlace) (k3 : PySem.W.keepIn K (.ref f3) = true) (m3 : mg "_law_place" = some (.ref f3)) (b3 : Binds K fd3 ["number", "many", "spread", "low"] []) :
    FnOk P w K mg base CX0 3 f fd ["script", "start", "many", "spread", "low"] (spGame K) := by
  refine F.ok scGame (fun vs H Q E h => ?_) (fun cdv A outer s H vs Q E hr h => ?_)
  · (refine εx5 h fun a ns st m sp c'44 => εx1 c'44 fun lo c'45 => εa2 c'45 fun e'43 _ => ?_; (try clear h); clear c'44 c'45; subst e'43)
    rfl
  · (refine εx5 h fun a ns st m sp c'47 => εx1 c'47 fun lo c'48 => εa7 c'48 fun e'46 hS m0 m1' s0 s1 q => ?_; (try clear h); clear c'47 c'48; subst e'46)
    have hr1 : Room 1 _ := hr.mono (by decide)
    refine (let X' : Cx := _; (?_ : ∃ t, PSs X' _ t ∧ _))
    refine ⟨_, pss_cons (ps_set (i := 5) scGame.nd rfl (Or.inl rfl) (pe_lst pa_nil))
      (pss_cons (ps_for PassesOwn.never rfl (pi_range1 rfl T.range (pa_cons (pv 2) pa_nil)) (pg_name (i := 6) scGame.nd rfl (Or.inl rfl))
        (pss_one (ps_expr (pe_bm PySem.F.plainAttrs_list PySem.F.slot_list_append PySem.F.type_list_append mt_append (pv 5) (pa_cons
          (pe_call G3 hr1 rfl m3 k3 b3 .nil pass0 (pa_cons (pe_call G2 hr1 rfl m2 k2 b2 .nil pass0 (pa_cons (pe_call G1 hr rfl m1 k1 b1 .nil pass0 (pa_cons (pv 0) (pa_cons (pe_op op_add (pv 1) (pv 6)) pa_nil))) (pa_cons (pv 6) pa_nil))) (pa_cons (pv 2) (pa_cons (pv 3) (pa_cons (pv 4) pa_nil))))) pa_nil)))))
      (pss_one (ps_ret (pe_callTy call_tuple_of rfl T.tuple PyProof.Rows.boot_tuple (pa_cons (pv 5) pa_nil))))), ?_⟩
    refine (let U'2 : TS := _; let U'1 : TS := tSeq _ U'2; (?_ : tSeq _ U'1 _ _ _))
    refine ⟨Nat.zero_le _, fun l hl => ?_⟩
    refine ⟨_, rfl, _, rfl, by exact ω1, by exact ω32 m1', for_range (n := ((m : Nat) : Int).toNat) (fun i σ H2 => ∃ (kv : Option V) (vs : List V) (g : List Pl), σ = [some (.ref a), some (.int st), some (.int m), some (.int sp), some (.int lo), some (.ref l), kv] ∧ Same H H2 ∧
      H2 l = some (.lst vs) ∧ Paired (IsPl H2) vs g ∧ g.length = i ∧ ∀ p ∈ g, WfPl m p) ?_ ?_ ?_⟩
    · exact (ιEEE none ([]) ([]) ⟨rfl, Same.upd hl, upd_same, .nil, rfl, by simp⟩)
    · (rintro i σ H2 hi h'63; refine εx3 h'63 fun kv vs g c'65 => εa6 c'65 fun e'64 sm hl2 hp hlen hw => ?_; (try clear h'63); clear c'65; subst e'64)
      refine (ιEAAEAE _ rfl (.inl ⟨rfl, _, SqL.of hl2⟩) _ rfl _ ⟨rfl, ιEAEEAAE _ rfl _ _ rfl rfl a (ιEE ns (st + i) ⟨(by simp), sm.seq hS, fun z1 => ?_⟩)⟩)
      refine (ιEAEE _ rfl z1 _ ⟨rfl, fun z2 => ?_⟩)
      refine (ιEAEAEAE _ rfl _ rfl _ rfl z2 (ιEEE m sp lo ⟨rfl, by exact ω126 hi, by exact ω127 m1', s0, s1, fun v H3 p wf ip sm3 => ?_⟩))
      have hvl := paired_len hp
      refine (ιEEE l vs v ⟨rfl, rfl, sm3 l _ hl2, (by rw [sizeLine_eq]; exact ω128 m1' hi hlen hvl), ?_⟩)
      have sm4 : TK H2 (upd H3 l (.lst (vs ++ [v]))) := fun b xs e => by
        rw [upd_ne (ne_of e hl2 (by intro z; cases z))]
        exact sm3 b _ e
      have sm5 : TK H3 (upd H3 l (.lst (vs ++ [v]))) := fun b xs e => by
        rw [upd_ne (ne_of e (sm3 l _ hl2) (by intro z; cases z))]
        exact e
      refine (ιEEE _ (vs ++ [v]) (g ++ [p]) ⟨rfl, (sm.trans sm3).upd' hl, upd_same, (pls_tk hp sm4).snoc (ip.tk sm5), by simp [hlen], ?_⟩)
      intro p' hp'
      rcases List.mem_append.mp hp' with z | z
      · exact hw p' z
      · rw [List.mem_singleton] at z
        subst z
        exact wf
    · (rintro σ H2 h'66; refine εx3 h'66 fun kv vs g c'68 => εa6 c'68 fun e'67 sm hl2 hp hlen hw => ?_; (try clear h'66); clear c'68; subst e'67)
      refine (ιEAEE _ rfl l vs ⟨rfl, .inl ⟨SqL.of hl2, fun t ht => ?_⟩⟩)
      exact q _ _ g (by exact ω129 hlen) hw (ιEE t vs ⟨rfl, upd_same, pls_tk hp (Same.upd ht).tk⟩) (sm.upd' (sm.free ht))
theorem scWhole : FnScope ["x"] ["x"] (defScope sWhole) := ⟨rfl, rfl, rfl, by decide +kernel, rfl, by decide +kernel, by decide +kernel⟩
theorem ok_whole {f : Addr} {fd : FuncData} (F : Fun K "_law_whole" "_law_whole" sWhole f fd) (T : Txt mg) (hib : PySem.W.kitOne K (.type "int") (.type "bool") = some false) : FnOk P w K mg base CX0 1 f fd ["x"] spWhole := by
  refine F.ok scWhole (fun vs H Q E h => ?_) (fun cdv A outer s H vs Q E hr h => ?_)
  · obtain ⟨i, rfl, _⟩ := h
    rfl
  · obtain ⟨i, rfl, q⟩ := h
    refine ⟨_, pss_one (ps_ret (pe_and (pe_callB call_isinst rfl T.isi PyProof.Rows.boot_isinstance (pa_cons (pv 0) (pa_cons (pe_type rfl T.int PyProof.Rows.boot_int) pa_nil)))
      (pe_one (pe_not (pe_callB call_isinst rfl T.isi PyProof.Rows.boot_isinstance (pa_cons (pv 0) (pa_cons (pe_type rfl T.bool PyProof.Rows.boot_bool) pa_nil))))))), ?_⟩
    exact (ιEAEEE _ rfl _ _ _ (ιEAAAE true rfl (.int _) rfl _ ⟨rfl, iteT (ιEAEEE _ rfl _ _ _ (ιEAAAE false rfl (.int _) hib _ ⟨rfl, q⟩))⟩))
theorem scSame : FnScope ["found", "due", "k", "row", "way"] ["found", "due"] (defScope sSame) := ⟨rfl, rfl, rfl, by decide +kernel, rfl, by decide +kernel, by decide +kernel⟩
theorem ok_same {f f1 : Addr} {fd fd1 : FuncData} (F : Fun K "_law_same" "_law_same" sSame f fd) (T : Txt mg)
    (G1 : FnOk P w K mg base CX0 1 f1 fd1 ["x"] spWhole) (k1 : PySem.W.keepIn K (.ref f1) = true) (m1 : mg "_law_whole" = some (.ref f1)) (b1 : Binds K fd1 ["x"] []) : FnOk P w K mg base CX0 2 f fd ["found", "due"] spSame := by
  refine F.ok scSame (fun vs H Q E h => ?_) (fun cdv A outer s H vs Q E hr h => ?_)
  · (refine εx3 h fun x y g c'50 => εa2 c'50 fun e'49 _ => ?_; (try clear h); clear c'50; subst e'49)
    rfl
  · (refine εx3 h fun x y g c'52 => εa5 c'52 fun e'51 hx hy hz q => ?_; (try clear h); clear c'52; subst e'51)
    (refine εx2 hx fun ax vx c'54 => εa3 c'54 fun e'53 hax px => ?_; (try clear hx); clear c'54; subst e'53)
    (refine εx2 hy fun ay vy c'56 => εa3 c'56 fun e'55 hay py => ?_; (try clear hy); clear c'56; subst e'55)
    have lx := paired_len px
    have ly := paired_len py
    have hu := hr.units
    refine (let X' : Cx := _; (?_ : ∃ t, PSs X' _ t ∧ _))
    refine ⟨_, pss_cons (ps_if (PW.pt (pw_or (pt_not (pt_val (pe_callB call_isinst (by rfl) T.isi PyProof.Rows.boot_isinstance (pa_cons (pv 0) (pa_cons (pe_type (by rfl) T.tuple PyProof.Rows.boot_tuple) pa_nil)))))
          (pw_or1 (pt_cmpR op_ne (pe_callB call_len_seq (by rfl) T.len PySem.boot_len (pa_cons (pv 0) pa_nil)) (pe_callB call_len_seq (by rfl) T.len PySem.boot_len (pa_cons (pv 1) pa_nil)) (nomark _))))) (pss_one (ps_ret pe_bl)) pss_nil)
      (pss_cons (ps_for PassesOwn.never (by rfl) (pi_range1 (by rfl) T.range (pa_cons (pe_callB call_len_seq (by rfl) T.len PySem.boot_len (pa_cons (pv 1) pa_nil)) pa_nil)) (pg_name (i := 2) scSame.nd (by rfl) (Or.inl (by rfl)))
        (pss_cons (ps_set (i := 3) scSame.nd (by rfl) (Or.inl (by rfl)) (pe_ix ix_tup (pv 0) (pv 2) (fun _ _ => rfl)))
        (pss_cons (ps_if (PW.pt (pw_or (pt_not (pt_val (pe_callB call_isinst (by rfl) T.isi PyProof.Rows.boot_isinstance (pa_cons (pv 3) (pa_cons (pe_type (by rfl) T.tuple PyProof.Rows.boot_tuple) pa_nil)))))
          (pw_or (pt_cmpR op_ne (pe_callB call_len_seq (by rfl) T.len PySem.boot_len (pa_cons (pv 3) pa_nil)) pe_int (nomark _))
          (pw_or1 (pt_not (pt_val (pe_callB call_isinst (by rfl) T.isi PyProof.Rows.boot_isinstance (pa_cons (pe_ix ix_tup (pv 3) pe_int (fun _ _ => rfl)) (pa_cons (pe_type (by rfl) T.tuple PyProof.Rows.boot_tuple) pa_nil))))))))) (pss_one (ps_ret pe_bl)) pss_nil)
        (pss_cons (ps_if (PW.pt (pw_or (pt_not (pt_val (pe_call G1 hr (by rfl) m1 k1 b1 .nil pass0 (pa_cons (pe_ix ix_tup (pv 3) pe_int (fun _ _ => rfl)) pa_nil))))
          (pw_or (pt_not (pt_val (pe_call G1 hr (by rfl) m1 k1 b1 .nil pass0 (pa_cons (pe_ix ix_tup (pv 3) pe_int (fun _ _ => rfl)) pa_nil))))
          (pw_or1 (pt_cmpR (op_neD hu) (pv 3) (pe_ix ix_tup (pv 1) (pv 2) (fun _ _ => rfl)) (nomark _)))))) (pss_one (ps_ret pe_bl)) pss_nil)
        (pss_one (ps_for PassesOwn.never (by rfl) (pi_tup (pe_ix ix_tup (pv 3) pe_int (fun _ _ => rfl))) (pg_name (i := 4) scSame.nd (by rfl) (Or.inl (by rfl)))
          (pss_one (ps_if (pt_not (pt_val (pe_call G1 hr (by rfl) m1 k1 b1 .nil pass0 (pa_cons (pv 4) pa_nil)))) (pss_one (ps_ret pe_bl)) pss_nil))))))))
      (pss_one (ps_ret pe_bl))), ?_⟩
    refine (let U'2 : TS := _; let U'1 : TS := tSeq _ U'2; (?_ : tSeq _ U'1 _ _ _))
    refine (ιEAEEE _ rfl _ _ _ (ιEAAAE true rfl (.tup hax) rfl true ⟨rfl, iteF ?_⟩))
    refine (ιEAEEAAE _ rfl ax vx rfl (.inr (SqT.of hax)) _ ⟨rfl, ιEEAAAE ay vy rfl (.inr (SqT.of hay)) rfl _ ⟨rfl, iteNS (by rw [lx, ly]) ?_⟩⟩)
    refine (ιEAEEAAE _ rfl ay vy rfl (.inr (SqT.of hay)) _ ⟨rfl, by rw [ly]; exact ω1, by rw [ly]; exact ω32 hz, for_range (n := ((vy.length : Nat) : Int).toNat) (fun i σ H2 => ∃ (kv rv wv : Option V), σ = [some (.ref ax), some (.ref ay), kv, rv, wv] ∧ H2 = H) ?_ ?_ ?_⟩)
    · exact (ιEEE none none none ⟨rfl, rfl⟩)
    · (rintro i σ H2 hi h'69; refine εx3 h'69 fun kv rv wv c'72 => εa2 c'72 fun e'70 e'71 => ?_; (try clear h'69); clear c'72; subst e'70; subst e'71)
      have hi' : i < g.length := by exact ω19 ly hi
      obtain ⟨r, hr1, ir⟩ := paired_get2 px (List.getElem?_eq_getElem hi')
      obtain ⟨r', hr2, ir'⟩ := paired_get2 py (List.getElem?_eq_getElem hi')
      (refine εx2 (id ir) fun pa pb c'74 => εa3 c'74 fun e'73 ha hb => ?_; clear c'74; subst e'73)
      have e0 : (0 : Int) + (i : Int) = ((i : Nat) : Int) := by exact ω5
      refine (ιEAEAEE _ rfl _ rfl ax vx (ιEE _ _ ⟨rfl, rfl, SqT.of hax, (by rw [e0]; exact atI_nat hr1), ?_⟩))
      refine (ιEAEEE _ rfl _ _ _ (ιEAAAE true rfl (.tup ha) rfl true ⟨rfl, iteF ?_⟩))
      refine (ιEAEEAAAE _ rfl pa _ rfl (.inr (SqT.of ha)) rfl _ ⟨rfl, iteNS rfl ?_⟩)
      refine (ιEAEEE _ rfl pa _ _ (ιEAAAAEE _ rfl rfl (SqT.of ha) rfl _ _ (ιEEAAAE _ true rfl (.tup hb) rfl true ⟨rfl, iteF ?_⟩)))
      refine (ιEAEEE _ rfl pa _ _ (ιEAAAAEAE _ rfl rfl (SqT.of ha) rfl _ rfl true ⟨rfl, iteF ?_⟩))
      refine (ιEAEEE _ rfl pa _ _ (ιEAAAAEAE _ rfl rfl (SqT.of ha) rfl _ rfl true ⟨rfl, iteF ?_⟩))
      refine (ιEAEAEAE _ rfl _ rfl _ rfl ay (ιEEEAAAAE vy _ _ rfl rfl (SqT.of hay) (by rw [e0]; exact atI_nat hr2) (plD g[i]) (ιEAAAAE (plD g[i]) ir.rd ir'.rd (shaped_pl _) (shaped_pl _) _ ⟨rfl, ?_⟩)))
      rw [eqv_pl]
      refine iteF ?_
      refine (ιEAEEE _ rfl pa _ _ (ιEAAAAE _ rfl rfl (SqT.of ha) rfl pb ⟨rfl, ⟨_, SqT.of hb⟩, for_tup (xs := g[i].2.2.map V.int) (fun j σ H3 => ∃ (kv rv wv : Option V), σ = [some (.ref ax), some (.ref ay), kv, rv, wv] ∧ H3 = H2) ?_ ?_ ?_ ?_⟩))
      · exact (ιEEE _ _ _ ⟨rfl, rfl⟩)
      · (rintro j σ H3 _ h'75; refine εx3 h'75 fun kv rv wv c'78 => εa2 c'78 fun e'76 e'77 => ?_; (try clear h'75); clear c'78; subst e'76; subst e'77)
        exact SqT.of hb
      · (rintro j y σ H3 hj h'79; refine εx3 h'79 fun kv rv wv c'82 => εa2 c'82 fun e'80 e'81 => ?_; (try clear h'79); clear c'82; subst e'80; subst e'81)
        obtain ⟨z, rfl⟩ : ∃ z, y = V.int z := by
          rw [List.getElem?_map] at hj
          cases e : g[i].2.2[j]? with
          | none => rw [e] at hj; cases hj
          | some z => rw [e] at hj; exact ⟨z, (Option.some.inj hj).symm⟩
        refine (ιEAEAE _ rfl _ rfl true ⟨rfl, iteF ?_⟩)
        exact (ιEEE _ _ _ ⟨rfl, rfl⟩)
      · (rintro σ H3 h'83; refine εx3 h'83 fun kv rv wv c'86 => εa2 c'86 fun e'84 e'85 => ?_; (try clear h'83); clear c'86; subst e'84; subst e'85)
        exact (ιEEE _ _ _ ⟨rfl, rfl⟩)
    · (rintro σ H2 h'87; refine εx3 h'87 fun kv rv wv c'90 => εa2 c'90 fun e'88 e'89 => ?_; (try clear h'87); clear c'90; subst e'88; subst e'89)
      exact q
end
end K18
namespace K18
open PySem L2 Gm
noncomputable abbrev nPartsOf : List Str := ["wish"]
theorem scPartsOf : FnScope nPartsOf ["wish"] (defScope sPartsOf) := ⟨rfl, rfl, rfl, by decide +kernel, rfl, by decide +kernel, by decide +kernel⟩
theorem lcPartsOf1 : LcOk (defScope sPartsOf) nPartsOf ["part"] [none] (mkSc [(".0", .local), ("part", .local), ("isinstance", .globalImplicit), ("tuple", .globalImplicit)]) :=
  ⟨rfl, by decide +kernel, by decide +kernel, by decide +kernel, by decide +kernel, rfl, by decide +kernel⟩
noncomputable abbrev nNamers : List Str := ["wish", "own"]
theorem scNamers : FnScope nNamers ["wish"] (defScope sNamers) := ⟨rfl, rfl, rfl, by decide +kernel, rfl, by decide +kernel, by decide +kernel⟩
theorem lcNamers1 : LcOk (defScope sNamers) nNamers ["part"] [none] (mkSc [(".0", .local), ("part", .local), ("namers_in", .globalImplicit)]) :=
  ⟨rfl, by decide +kernel, by decide +kernel, by decide +kernel, by decide +kernel, rfl, by decide +kernel⟩
noncomputable def spPartsOf : Sp := fun vs H Q _ => ∃ (v : V) (w : Wish), vs = [v] ∧ IsW H v w ∧ ∀ (l : Addr) (us : List V) (H' : Hp), H l = none → H' l = some (.lst us) → Paired (IsW H') us (parts w) → Same H H' → Q (.ref l) H'
noncomputable def spNamers (n : Nat) : Sp := fun vs H Q _ => ∃ (v : V) (w : Wish), vs = [v] ∧ IsW H v w ∧ dp w ≤ n ∧ ∀ H', Same H H' → Q (.int (nmr w)) H'
noncomputable def spNamersR : Nat → Sp
  | 0 => fun _ _ _ _ => False
  | n + 1 => spNamers n
theorem parts_len (w : Wish) : (parts w).length ≤ 2 := by cases w <;> simp [parts]
theorem nmr_sum (w : Wish) : ((parts w).map (fun p => ((nmr p : Nat) : Int))).sum = ((((parts w).map nmr).sum : Nat) : Int) := by cases w <;> simp [parts]
theorem cast_q {Q : VK} {H : Hp} {i j : Int} (h : Q (.int i) H) (e : i = j) : Q (.int j) H := by rw [← e]; exact h
section
variable {P : Program} {w : World} {K : PySem.W.Frag} {mg : Str → Option Value} {base : Heap}
variable (hit : PySem.W.kitOne K (.type "int") (.type "tuple") = some false) (hst : PySem.W.kitOne K (.type "str") (.type "tuple") = some false)
include hit hst in
theorem ok_partsof {f  : Addr} {fd  : FuncData} (F : Fun K "parts_of" "parts_of" sPartsOf f fd) (T : Txt mg) :
    FnOk P w K mg base CX0 1 f fd ["wish"] spPartsOf := by
  refine F.ok scPartsOf (fun vs H Q E h => ?_) (fun cdv A outer s H vs Q E hr h => ?_)
  · (refine εx2 h fun v w c'92 => εa2 c'92 fun e'91 _ => ?_; (try clear h); clear c'92; subst e'91)
    rfl
  · (refine εx2 h fun v w c'94 => εa3 c'94 fun e'93 iw q => ?_; (try clear h); clear c'94; subst e'93)
    have hu := hu_of hr
    have hu64 := hr.units
    refine ⟨_, pss_one (ps_ret (pe_lc rfl lcPartsOf1 (pi_tup (pe_slice sl_tupG (pv 0) (po_some pe_int) po_none)) (fun cl C ex s H => ⟨(pg_name (i := 0) lcPartsOf1.nd rfl (Or.inl rfl)), (pif_one (pt_val (pe_callB (isinstK K rfl) rfl T.isi PyProof.Rows.boot_isinstance (pa_cons (pv 0) (pa_cons (pe_type rfl T.tuple PyProof.Rows.boot_tuple) pa_nil))))), (pv 0)⟩))), ?_⟩
    (refine εx2 (iw.items) fun a us c'100 => εa3 c'100 fun e'99 ha it => ?_; clear c'100; subst e'99)
    refine (ιEAE _ rfl _ ⟨rfl, ?_⟩)
    unfold tNoPart
    refine slT_any ha fun b H1 sm1 hb1 => ?_
    have eus : cutV (V.str (kd w) :: us) (some 1) none = us := by
      exact cut_fromV (V.str (kd w) :: us) 1 (by simp)
    rw [eus] at hb1
    refine ⟨b, rfl, ⟨_, SqT.of hb1⟩, fun D hD => lc_tup (xs := us) (fun i σ H2 => (∃ s0, σ = [s0]) ∧ Same H1 H2 ∧ H2 D = some (.lst ((us.take i).filter isRef))) ?_ ?_ ?_ ?_⟩
    · exact ⟨⟨none, rfl⟩, Same.upd hD, upd_same⟩
    · rintro i σ H2 _ ⟨_, sm2, _⟩
      exact SqT.of (sm2 b _ hb1)
    · rintro i x σ H2 hi ⟨⟨s0, rfl⟩, sm2, hD2⟩
      have hxm : x ∈ us := List.mem_of_getElem? hi
      have hln := it.len
      have et : (us.take (i + 1)).filter isRef = (us.take i).filter isRef ++ (if isRef x then [x] else []) := by
        rw [List.take_add_one, hi, List.filter_append]
        cases e : isRef x <;> simp [e]
      unfold gName
      cases e : isRef x with
      | true =>
        have hm : x ∈ us.filter isRef := List.mem_filter.mpr ⟨hxm, e⟩
        obtain ⟨n, hn, en⟩ := List.getElem_of_mem hm
        obtain ⟨p, _, ip⟩ := paired_get it.prt (i := n) (x := x) (by rw [List.getElem?_eq_getElem hn, en])
        (refine εx2 ((ip.tk (sm1.trans sm2).tk).tup) fun r us' c'104 => εa3 c'104 fun e'103 hr' _ => ?_; clear c'104; subst e'103)
        refine (ιEAEEE _ rfl _ _ _ (ιEAAAE true rfl (.tup hr') rfl _ ⟨rfl, iteT ?_⟩))
        rw [e] at et
        refine (ιEAE _ rfl _ ⟨hD2, ?_, ⟨_, rfl⟩, sm2.upd' hD, ?_⟩)
        · have := List.length_filter_le isRef (us.take i)
          rw [List.length_take] at this
          rw [sizeLine_eq]
          exact ω133 hln this
        · rw [upd_same, et]
          rfl
      | false =>
        rw [e] at et
        have et' : (us.take (i + 1)).filter isRef = (us.take i).filter isRef := by rw [et]; simp
        rcases it.oth x hxm e with ⟨n, rfl⟩ | ⟨y, rfl⟩
        · exact (ιEAEEE _ rfl _ _ _ (ιEAAAE false rfl (.int n) hit _ ⟨rfl, iteF ⟨⟨_, rfl⟩, sm2, by rw [et']; exact hD2⟩⟩))
        · exact (ιEAEEE _ rfl _ _ _ (ιEAAAE false rfl (.str y) hst _ ⟨rfl, iteF ⟨⟨_, rfl⟩, sm2, by rw [et']; exact hD2⟩⟩))
    · rintro σ H2 ⟨_, sm2, hD2⟩
      rw [List.take_length] at hD2
      exact q D _ H2 (sm1.free hD) hD2 (Paired.mapP it.prt fun _ _ z => z.tk (sm1.trans sm2).tk) (sm1.trans sm2)
theorem namers_body {f f1 : Addr} {fd fd1 : FuncData} {aNAMERS : Addr} (n : Nat) (F : Fun K "namers_in" "namers_in" sNamers f fd) (T : Txt mg) (gNAMERS : mg "NAMERS" = some (.ref aNAMERS)) (tN : tupK K aNAMERS = some [.str "least", .str "most"])
    (G1 : FnOk P w K mg base CX0 1 f1 fd1 ["wish"] spPartsOf) (k1 : PySem.W.keepIn K (.ref f1) = true) (m1 : mg "parts_of" = some (.ref f1)) (b1 : Binds K fd1 ["wish"] [])
    (G2 : FnOk P w K mg base CX0 (1 + n) f fd ["wish"] (spNamersR n)) (k2 : PySem.W.keepIn K (.ref f) = true) (m2 : mg "namers_in" = some (.ref f)) (b2 : Binds K fd ["wish"] []) :
    FnOk P w K mg base CX0 (1 + n + 1) f fd ["wish"] (spNamers n) := by
  refine F.ok scNamers (fun vs H Q E h => ?_) (fun cdv A outer s H vs Q E hr h => ?_)
  · (refine εx2 h fun v w c'96 => εa2 c'96 fun e'95 _ => ?_; (try clear h); clear c'96; subst e'95)
    rfl
  · (refine εx2 h fun v w c'98 => εa4 c'98 fun e'97 iw hd q => ?_; (try clear h); clear c'98; subst e'97)
    have hu := hu_of hr
    have hu64 := hr.units
    refine (let X' : Cx := _; (?_ : ∃ t, PSs X' _ t ∧ _))
    refine ⟨_, pss_cons (ps_set (i := 1) scNamers.nd rfl (Or.inl rfl) (pe_ifExp (pt_cmpR (op_in_seq) (pe_ix ix_tup (pv 0) pe_int (fun _ _ => rfl)) (pe_glob (v := .ref aNAMERS) rfl gNAMERS rfl) (by rfl)) pe_int pe_int))
      (pss_one (ps_ret (pe_op op_add (pv 1) (pe_callB (call_sumL rfl) rfl T.sum PyProof.Rows.boot_sum (pa_cons (pe_lc rfl lcNamers1 (pi_list (pe_call G1 (hr.mono (by exact ω11)) rfl m1 k1 b1 .nil pass0 (pa_cons (pv 0) pa_nil))) (fun cl C ex s H => ⟨(pg_name (i := 0) lcNamers1.nd rfl (Or.inl rfl)), pif_nil, (pe_call G2 (hr.mono (by exact ω21)) rfl m2 k2 b2 .nil pass0 (pa_cons (pv 0) pa_nil))⟩)) pa_nil))))), ?_⟩
    refine (let U'1 : TS := _; (?_ : tSeq _ U'1 _ _ _))
    (refine εx2 (iw.items) fun a us c'107 => εa3 c'107 fun e'106 ha it => ?_; clear c'107; subst e'106)
    have a0 : atI (V.str (kd w) :: us) 0 = some (.str (kd w)) := (atI_nat (show (V.str (kd w) :: us)[0]? = some (V.str (kd w)) from rfl) : atI (V.str (kd w) :: us) ((0 : Nat) : Int) = _)
    refine (ιEAEEE _ rfl a _ 0 (ιEAAAAEE (.str (kd w)) rfl rfl (SqT.of ha) a0 aNAMERS ([.str "least", .str "most"]) ⟨rfl, .inr (tupK_sq tN H), rfl, rfl, _, rfl, ?_⟩))
    have ek : (if false = true then !inV (V.str (kd w)) [.str "least", .str "most"] else inV (V.str (kd w)) [.str "least", .str "most"]) = isNamer w := by
      cases w <;> (simp only [kd, isNamer]; decide +kernel)
    rw [ek]
    cases en : isNamer w
    · refine iteF ?_
      refine (ιEAEAEE _ rfl _ rfl (.ref a) w ⟨rfl, iw, fun l vs' H1 hl hl1 hps sm1 => ?_⟩)
      refine ⟨l, rfl, ⟨_, SqL.of hl1⟩, fun D hD => lc_list (xs := vs') (fun i σ H2 => (∃ s0, σ = [s0]) ∧ Same H1 H2 ∧ H2 D = some (.lst (((parts w).take i).map fun p => V.int (nmr p)))) ?_ ?_ ?_ ?_⟩
      · exact ⟨⟨none, rfl⟩, Same.upd hD, upd_same⟩
      · rintro i σ H2 _ ⟨_, sm2, _⟩
        exact SqL.of (sm2 l _ hl1)
      · rintro i x σ H2 hi ⟨⟨s0, rfl⟩, sm2, hD2⟩
        obtain ⟨p, hpi, ip⟩ := paired_get hps hi
        have hdp := dp_parts (List.mem_of_getElem? hpi)
        obtain ⟨n', rfl⟩ : ∃ n', n = n' + 1 := ⟨n - 1, by exact ω12 hd hdp⟩
        unfold gName
        refine iteT ?_
        refine (ιEAEE _ rfl x p ⟨rfl, ip.tk sm2.tk, by exact ω13 hdp hd, fun H3 sm3 => ⟨_, sm3 D _ hD2, ?_, ⟨_, rfl⟩, (sm2.trans sm3).upd' hD, ?_⟩⟩)
        · have := parts_len w
          rw [List.length_map, List.length_take, sizeLine_eq]
          exact ω33 this
        · rw [upd_same, List.take_add_one, hpi, List.map_append]
          rfl
      · rintro σ H2 ⟨_, sm2, hD2⟩
        rw [paired_len hps, List.take_length] at hD2
        refine (ιEEAAEE D ((parts w).map (fun p => ((nmr p : Nat) : Int))) rfl (SqL.of (by rw [hD2, List.map_map]; rfl)) _ _ ⟨rfl, rfl, ?_⟩)
        have := q H2 (sm1.trans sm2)
        rw [nmr_parts w, en] at this
        rw [nmr_sum]
        exact cast_q this (by simp)
    · refine iteT ?_
      refine (ιEAEAEE _ rfl _ rfl (.ref a) w ⟨rfl, iw, fun l vs' H1 hl hl1 hps sm1 => ?_⟩)
      refine ⟨l, rfl, ⟨_, SqL.of hl1⟩, fun D hD => lc_list (xs := vs') (fun i σ H2 => (∃ s0, σ = [s0]) ∧ Same H1 H2 ∧ H2 D = some (.lst (((parts w).take i).map fun p => V.int (nmr p)))) ?_ ?_ ?_ ?_⟩
      · exact ⟨⟨none, rfl⟩, Same.upd hD, upd_same⟩
      · rintro i σ H2 _ ⟨_, sm2, _⟩
        exact SqL.of (sm2 l _ hl1)
      · rintro i x σ H2 hi ⟨⟨s0, rfl⟩, sm2, hD2⟩
        obtain ⟨p, hpi, ip⟩ := paired_get hps hi
        have hdp := dp_parts (List.mem_of_getElem? hpi)
        obtain ⟨n', rfl⟩ : ∃ n', n = n' + 1 := ⟨n - 1, by exact ω12 hd hdp⟩
        unfold gName
        refine iteT ?_
        refine (ιEAEE _ rfl x p ⟨rfl, ip.tk sm2.tk, by exact ω13 hdp hd, fun H3 sm3 => ⟨_, sm3 D _ hD2, ?_, ⟨_, rfl⟩, (sm2.trans sm3).upd' hD, ?_⟩⟩)
        · have := parts_len w
          rw [List.length_map, List.length_take, sizeLine_eq]
          exact ω33 this
        · rw [upd_same, List.take_add_one, hpi, List.map_append]
          rfl
      · rintro σ H2 ⟨_, sm2, hD2⟩
        rw [paired_len hps, List.take_length] at hD2
        refine (ιEEAAEE D ((parts w).map (fun p => ((nmr p : Nat) : Int))) rfl (SqL.of (by rw [hD2, List.map_map]; rfl)) _ _ ⟨rfl, rfl, ?_⟩)
        have := q H2 (sm1.trans sm2)
        rw [nmr_parts w, en] at this
        rw [nmr_sum]
        exact cast_q this (by simp)
theorem ok_namers {f f1 : Addr} {fd fd1 : FuncData} {aNAMERS : Addr} (n : Nat) (F : Fun K "namers_in" "namers_in" sNamers f fd) (T : Txt mg) (gNAMERS : mg "NAMERS" = some (.ref aNAMERS)) (tN : tupK K aNAMERS = some [.str "least", .str "most"])
    (G1 : FnOk P w K mg base CX0 1 f1 fd1 ["wish"] spPartsOf) (k1 : PySem.W.keepIn K (.ref f1) = true) (m1 : mg "parts_of" = some (.ref f1)) (b1 : Binds K fd1 ["wish"] [])
    (k2 : PySem.W.keepIn K (.ref f) = true) (m2 : mg "namers_in" = some (.ref f)) (b2 : Binds K fd ["wish"] []) :
    FnOk P w K mg base CX0 (1 + n + 1) f fd ["wish"] (spNamers n) := by
  have go : ∀ n, FnOk P w K mg base CX0 (1 + n) f fd ["wish"] (spNamersR n) := fun n => by
    induction n with
    | zero => exact ⟨fun _ _ _ _ h => h.elim, fun _ _ _ _ _ _ _ _ _ _ _ _ _ h => h.elim⟩
    | succ n ih => exact namers_body n F T gNAMERS tN G1 k1 m1 b1 ih k2 m2 b2
  exact namers_body n F T gNAMERS tN G1 k1 m1 b1 (go n) k2 m2 b2
end
end K18
namespace K18
open PySem L2 Gm
noncomputable abbrev nLParts : List Str := ["wish"]
theorem scLParts : FnScope nLParts ["wish"] (defScope sLParts) := ⟨rfl, rfl, rfl, by decide +kernel, rfl, by decide +kernel, by decide +kernel⟩
theorem end_parts {w : Wish} (h : isEnd w = true) : parts w = [] := by cases w <;> simp [isEnd, parts] at h ⊢
theorem isw_namer {H : Hp} {w : Wish} {v : V} (h : IsW H v w) (n : isNamer w = true) : ∃ a x b p, v = .ref a ∧ H a = some (.tup [.str (kd w), .str x, b]) ∧ parts w = [p] ∧ IsW H b p := by
  cases w with
  | least x p => (refine εx2 h fun a b c'114 => ?_; (try clear h); refine εa3 c'114 fun e h h1 => ?_; clear c'114); exact (ιEEEE a x b p ⟨e, h, rfl, h1⟩)
  | most x p => (refine εx2 h fun a b c'115 => ?_; (try clear h); refine εa3 c'115 fun e h h1 => ?_; clear c'115); exact (ιEEEE a x b p ⟨e, h, rfl, h1⟩)
  | _ => cases n
theorem isw_plain {H : Hp} {w : Wish} {v : V} (h : IsW H v w) (e : isEnd w = false) (n : isNamer w = false) : ∃ a us, v = .ref a ∧ H a = some (.tup (.str (kd w) :: us)) ∧ Paired (IsW H) us (parts w) := by
  cases w with
  | and p q => (refine εx3 h fun a b c c'116 => ?_; (try clear h); refine εa4 c'116 fun e h h1 h2 => ?_; clear c'116); exact (ιEE a _ ⟨e, h, .cons h1 (.cons h2 .nil)⟩)
  | or p q => (refine εx3 h fun a b c c'117 => ?_; (try clear h); refine εa4 c'117 fun e h h1 h2 => ?_; clear c'117); exact (ιEE a _ ⟨e, h, .cons h1 (.cons h2 .nil)⟩)
  | all p => (refine εx2 h fun a b c'118 => ?_; (try clear h); refine εa3 c'118 fun e h h1 => ?_; clear c'118); exact (ιEE a _ ⟨e, h, .cons h1 .nil⟩)
  | some p => (refine εx2 h fun a b c'119 => ?_; (try clear h); refine εa3 c'119 fun e h h1 => ?_; clear c'119); exact (ιEE a _ ⟨e, h, .cons h1 .nil⟩)
  | least x p => cases n
  | most x p => cases n
  | _ => cases e
theorem in_end (w : Wish) : (if false = true then !inV (V.str (kd w)) [.str "is", .str "not", .str "name"] else inV (V.str (kd w)) [.str "is", .str "not", .str "name"]) = isEnd w := by
  cases w <;> (simp only [kd, isEnd]; decide +kernel)
theorem in_namer (w : Wish) : (if false = true then !inV (V.str (kd w)) [.str "least", .str "most"] else inV (V.str (kd w)) [.str "least", .str "most"]) = isNamer w := by
  cases w <;> (simp only [kd, isNamer]; decide +kernel)
section
variable {P : Program} {w : World} {K : PySem.W.Frag} {mg : Str → Option Value} {base : Heap}
theorem ok_lparts {f  : Addr} {fd  : FuncData} (F : Fun K "_law_parts" "_law_parts" sLParts f fd) (T : Txt mg) :
    FnOk P w K mg base CX0 1 f fd ["wish"] spPartsOf := by
  refine F.ok scLParts (fun vs H Q E h => ?_) (fun cdv A outer s H vs Q E hr h => ?_)
  · (refine εx2 h fun v w c'121 => εa2 c'121 fun e'120 _ => ?_; (try clear h); clear c'121; subst e'120)
    rfl
  · (refine εx2 h fun v w c'123 => εa3 c'123 fun e'122 iw q => ?_; (try clear h); clear c'123; subst e'122)
    have hu := hu_of hr
    have hu64 := hr.units
    refine (let X' : Cx := _; (?_ : ∃ t, PSs X' _ t ∧ _))
    refine ⟨_, pss_cons (ps_if (pt_cmpR (op_in_seq) (pe_ix ix_tup (pv 0) pe_int (fun _ _ => rfl)) (pe_tup (pa_cons pe_str (pa_cons pe_str (pa_cons pe_str pa_nil)))) (by rfl)) (pss_one (ps_ret (pe_lst pa_nil))) pss_nil)
      (pss_cons (ps_if (pt_cmpR (op_in_seq) (pe_ix ix_tup (pv 0) pe_int (fun _ _ => rfl)) (pe_tup (pa_cons pe_str (pa_cons pe_str pa_nil))) (by rfl)) (pss_one (ps_ret (pe_lst (pa_cons (pe_ix ix_tup (pv 0) pe_int (fun _ _ => rfl)) pa_nil)))) pss_nil)
      (pss_one (ps_ret (pe_callTy call_list_of rfl T.list PyProof.Rows.boot_list (pa_cons (pe_slice sl_tupG (pv 0) (po_some pe_int) po_none) pa_nil))))), ?_⟩
    refine (let U'2 : TS := _; let U'1 : TS := tSeq _ U'2; (?_ : tSeq _ U'1 _ _ _))
    (refine εx2 (iw.items) fun a us c'125 => εa3 c'125 fun e'124 ha it => ?_; clear c'125; subst e'124)
    have a0 : atI (V.str (kd w) :: us) 0 = some (.str (kd w)) := (atI_nat (show (V.str (kd w) :: us)[0]? = some (V.str (kd w)) from rfl) : atI (V.str (kd w) :: us) ((0 : Nat) : Int) = _)
    refine (ιEAEEE _ rfl a _ 0 ⟨.str (kd w), rfl, rfl, SqT.of ha, a0, by show 3 ≤ sizeLine; decide, fun t1 ht1 => ?_⟩)
    have sm1 : Same H (upd H t1 (.tup [.str "is", .str "not", .str "name"])) := Same.upd ht1
    have h1 : upd H t1 (.tup [.str "is", .str "not", .str "name"]) t1 = some (.tup [.str "is", .str "not", .str "name"]) := upd_same
    generalize upd H t1 (.tup [.str "is", .str "not", .str "name"]) = H1 at sm1 h1
    refine (ιEEAAAAE t1 ([.str "is", .str "not", .str "name"]) rfl (.inr (SqT.of h1)) rfl rfl _ ⟨rfl, ?_⟩)
    rw [in_end w]
    cases ee : isEnd w with
    | true =>
      refine iteT ⟨Nat.zero_le _, fun l hl => ?_⟩
      exact q l [] _ (sm1.free hl) upd_same (by rw [end_parts ee]; exact .nil) (sm1.trans (Same.upd hl))
    | false =>
      refine iteF ?_
      have ha1 := sm1 a _ ha
      refine (ιEAEEE _ rfl a _ 0 ⟨.str (kd w), rfl, rfl, SqT.of ha1, a0, by show 2 ≤ sizeLine; decide, fun t2 ht2 => ?_⟩)
      have sm2 : Same H1 (upd H1 t2 (.tup [.str "least", .str "most"])) := Same.upd ht2
      have h2 : upd H1 t2 (.tup [.str "least", .str "most"]) t2 = some (.tup [.str "least", .str "most"]) := upd_same
      generalize upd H1 t2 (.tup [.str "least", .str "most"]) = H2 at sm2 h2
      have sm02 := sm1.trans sm2
      refine (ιEEAAAAE t2 ([.str "least", .str "most"]) rfl (.inr (SqT.of h2)) rfl rfl _ ⟨rfl, ?_⟩)
      rw [in_namer w]
      cases en : isNamer w with
      | true =>
        (refine εx4 (isw_namer (iw.tk sm02.tk) en) fun a' x b p c'126 => εa4 c'126 fun e hb ep ip => ?_; clear c'126)
        cases e
        refine iteT (ιEAEEE _ rfl a _ 2 ⟨b, rfl, rfl, SqT.of hb, rfl, by show 1 ≤ sizeLine; decide, fun l hl => ?_⟩)
        have sm3 := Same.upd (o := .lst [b]) hl
        exact q l [b] _ (sm02.free hl) upd_same (by rw [ep]; exact .cons (ip.tk sm3.tk) .nil) (sm02.trans sm3)
      | false =>
        (refine εx2 (isw_plain (iw.tk sm02.tk) ee en) fun a' us' c'127 => εa3 c'127 fun e hb ip => ?_; clear c'127)
        cases e
        refine iteF (ιEAE _ rfl _ ⟨rfl, ?_⟩)
        unfold tNoPart
        refine slT_any hb fun b H3 sm3 hb3 => ?_
        have eus : cutV (V.str (kd w) :: us') (some 1) none = us' := cut_fromV (V.str (kd w) :: us') 1 (by simp)
        rw [eus] at hb3
        refine (ιEE b us' ⟨rfl, .inr (SqT.of hb3), fun l hl => ?_⟩)
        have sm4 := Same.upd (o := .lst us') hl
        exact q l us' _ ((sm02.trans sm3).free hl) upd_same (Paired.mapP ip fun _ _ z => z.tk (sm3.trans sm4).tk) ((sm02.trans sm3).trans sm4)
end
end K18
namespace K18
open PySem L2 Gm
noncomputable abbrev nLSigns : List Str := ["wish"]
theorem scLSigns : FnScope nLSigns ["wish"] (defScope sLSigns) := ⟨rfl, rfl, rfl, by decide +kernel, rfl, by decide +kernel, by decide +kernel⟩
theorem lcLSigns1 : LcOk (defScope sLSigns) nLSigns ["part"] [none] (mkSc [(".0", .local), ("part", .local), ("_law_signs", .globalImplicit)]) :=
  ⟨rfl, by decide +kernel, by decide +kernel, by decide +kernel, by decide +kernel, rfl, by decide +kernel⟩
noncomputable def spLSigns (n : Nat) : Sp := fun vs H Q _ => ∃ (v : V) (w : Wish), vs = [v] ∧ IsW H v w ∧ dp w ≤ n ∧ ∀ H', Same H H' → Q (.int (sg w)) H'
noncomputable def spLSignsR : Nat → Sp
  | 0 => fun _ _ _ _ => False
  | n + 1 => spLSigns n
theorem sg_sum (w : Wish) : ((parts w).map (fun p => ((sg p : Nat) : Int))).sum = ((((parts w).map sg).sum : Nat) : Int) := by cases w <;> simp [parts]
section
variable {P : Program} {w : World} {K : PySem.W.Frag} {mg : Str → Option Value} {base : Heap}
theorem lsigns_body {f f1 : Addr} {fd fd1 : FuncData} (n : Nat) (F : Fun K "_law_signs" "_law_signs" sLSigns f fd) (T : Txt mg)
    (G1 : FnOk P w K mg base CX0 1 f1 fd1 ["wish"] spPartsOf) (k1 : PySem.W.keepIn K (.ref f1) = true) (m1 : mg "_law_parts" = some (.ref f1)) (b1 : Binds K fd1 ["wish"] [])
    (G2 : FnOk P w K mg base CX0 (1 + n) f fd ["wish"] (spLSignsR n)) (k2 : PySem.W.keepIn K (.ref f) = true) (m2 : mg "_law_signs" = some (.ref f)) (b2 : Binds K fd ["wish"] []) :
    FnOk P w K mg base CX0 (1 + n + 1) f fd ["wish"] (spLSigns n) := by
  refine F.ok scLSigns (fun vs H Q E h => ?_) (fun cdv A outer s H vs Q E hr h => ?_)
  · (refine εx2 h fun v w c'129 => εa2 c'129 fun e'128 _ => ?_; (try clear h); clear c'129; subst e'128)
    rfl
  · (refine εx2 h fun v w c'131 => εa4 c'131 fun e'130 iw hd q => ?_; (try clear h); clear c'131; subst e'130)
    have hu := hu_of hr
    have hu64 := hr.units
    refine ⟨_, pss_one (ps_ret (pe_op op_add pe_int (pe_callB (call_sumL rfl) rfl T.sum PyProof.Rows.boot_sum (pa_cons (pe_lc rfl lcLSigns1 (pi_list (pe_call G1 (hr.mono (by exact ω11)) rfl m1 k1 b1 .nil pass0 (pa_cons (pv 0) pa_nil))) (fun cl C ex s H => ⟨(pg_name (i := 0) lcLSigns1.nd rfl (Or.inl rfl)), pif_nil, (pe_call G2 (hr.mono (by exact ω21)) rfl m2 k2 b2 .nil pass0 (pa_cons (pv 0) pa_nil))⟩)) pa_nil)))), ?_⟩
    refine (ιEAEE _ rfl v w ⟨rfl, iw, fun l vs' H1 hl hl1 hps sm1 => ?_⟩)
    refine ⟨l, rfl, ⟨_, SqL.of hl1⟩, fun D hD => lc_list (xs := vs') (fun i σ H2 => (∃ s0, σ = [s0]) ∧ Same H1 H2 ∧ H2 D = some (.lst (((parts w).take i).map fun p => V.int (sg p)))) ?_ ?_ ?_ ?_⟩
    · exact ⟨⟨none, rfl⟩, Same.upd hD, upd_same⟩
    · rintro i σ H2 _ ⟨_, sm2, _⟩
      exact SqL.of (sm2 l _ hl1)
    · rintro i x σ H2 hi ⟨⟨s0, rfl⟩, sm2, hD2⟩
      obtain ⟨p, hpi, ip⟩ := paired_get hps hi
      have hdp := dp_parts (List.mem_of_getElem? hpi)
      obtain ⟨n', rfl⟩ : ∃ n', n = n' + 1 := ⟨n - 1, by exact ω12 hd hdp⟩
      unfold gName
      refine iteT ?_
      refine (ιEAEE _ rfl x p ⟨rfl, ip.tk sm2.tk, by exact ω13 hdp hd, fun H3 sm3 => ⟨_, sm3 D _ hD2, ?_, ⟨_, rfl⟩, (sm2.trans sm3).upd' hD, ?_⟩⟩)
      · have := parts_len w
        rw [List.length_map, List.length_take, sizeLine_eq]
        exact ω33 this
      · rw [upd_same, List.take_add_one, hpi, List.map_append]
        rfl
    · rintro σ H2 ⟨_, sm2, hD2⟩
      rw [paired_len hps, List.take_length] at hD2
      refine (ιEEAAEE D ((parts w).map (fun p => ((sg p : Nat) : Int))) rfl (SqL.of (by rw [hD2, List.map_map]; rfl)) _ _ ⟨rfl, rfl, ?_⟩)
      have := q H2 (sm1.trans sm2)
      rw [sg_parts w] at this
      rw [sg_sum]
      exact cast_q this (by simp)
theorem ok_lsigns {f f1 : Addr} {fd fd1 : FuncData} (n : Nat) (F : Fun K "_law_signs" "_law_signs" sLSigns f fd) (T : Txt mg)
    (G1 : FnOk P w K mg base CX0 1 f1 fd1 ["wish"] spPartsOf) (k1 : PySem.W.keepIn K (.ref f1) = true) (m1 : mg "_law_parts" = some (.ref f1)) (b1 : Binds K fd1 ["wish"] [])
    (k2 : PySem.W.keepIn K (.ref f) = true) (m2 : mg "_law_signs" = some (.ref f)) (b2 : Binds K fd ["wish"] []) :
    FnOk P w K mg base CX0 (1 + n + 1) f fd ["wish"] (spLSigns n) := by
  have go : ∀ n, FnOk P w K mg base CX0 (1 + n) f fd ["wish"] (spLSignsR n) := fun n => by
    induction n with
    | zero => exact ⟨fun _ _ _ _ h => h.elim, fun _ _ _ _ _ _ _ _ _ _ _ _ _ h => h.elim⟩
    | succ n ih => exact lsigns_body n F T G1 k1 m1 b1 ih k2 m2 b2
  exact lsigns_body n F T G1 k1 m1 b1 (go n) k2 m2 b2
end
end K18
namespace K18
open PySem L2 Gm
noncomputable abbrev nBinders : List Str := ["wish", "many", "part"]
theorem scBinders : FnScope nBinders ["wish"] (defScope sBinders) := ⟨rfl, rfl, rfl, by decide +kernel, rfl, by decide +kernel, by decide +kernel⟩
noncomputable def bnd (w : Wish) : Nat := ((parts w).map nmr).sum
theorem nmr_bnd (w : Wish) : nmr w = (if isNamer w then 1 else 0) + bnd w := nmr_parts w
noncomputable def spBinders (n : Nat) : Sp := fun vs H Q _ => ∃ (v : V) (w : Wish), vs = [v] ∧ IsW H v w ∧ dp w ≤ n ∧ ∀ H', Same H H' → Q (.int (bnd w)) H'
noncomputable def spBindersR : Nat → Sp
  | 0 => fun _ _ _ _ => False
  | n + 1 => spBinders n
section
variable {P : Program} {w : World} {K : PySem.W.Frag} {mg : Str → Option Value} {base : Heap}
theorem binders_body {f f1 : Addr} {fd fd1 : FuncData} (n : Nat) (F : Fun K "_law_binders" "_law_binders" sBinders f fd) (T : Txt mg)
    (G1 : FnOk P w K mg base CX0 1 f1 fd1 ["wish"] spPartsOf) (k1 : PySem.W.keepIn K (.ref f1) = true) (m1 : mg "_law_parts" = some (.ref f1)) (b1 : Binds K fd1 ["wish"] [])
    (G2 : FnOk P w K mg base CX0 (1 + n) f fd ["wish"] (spBindersR n)) (k2 : PySem.W.keepIn K (.ref f) = true) (m2 : mg "_law_binders" = some (.ref f)) (b2 : Binds K fd ["wish"] []) :
    FnOk P w K mg base CX0 (1 + n + 1) f fd ["wish"] (spBinders n) := by
  refine F.ok scBinders (fun vs H Q E h => ?_) (fun cdv A outer s H vs Q E hr h => ?_)
  · (refine εx2 h fun v w c'136 => εa2 c'136 fun e'135 _ => ?_; (try clear h); clear c'136; subst e'135)
    rfl
  · (refine εx2 h fun v w c'138 => εa4 c'138 fun e'137 iw hd q => ?_; (try clear h); clear c'138; subst e'137)
    have hu := hu_of hr
    have hu64 := hr.units
    refine (let X' : Cx := _; (?_ : ∃ t, PSs X' _ t ∧ _))
    refine ⟨_, pss_cons (ps_set (i := 1) scBinders.nd rfl (Or.inl rfl) pe_int)
      (pss_cons (ps_for PassesOwn.never rfl (pi_list (pe_call G1 (hr.mono (by exact ω11)) rfl m1 k1 b1 .nil pass0 (pa_cons (pv 0) pa_nil))) (pg_name (i := 2) scBinders.nd rfl (Or.inl rfl)) (pss_one (ps_set (i := 1) scBinders.nd rfl (Or.inl rfl) (pe_op op_add (pe_op op_add (pv 1) (pe_call G2 (hr.mono (by exact ω21)) rfl m2 k2 b2 .nil pass0 (pa_cons (pv 2) pa_nil))) (pe_callTy call_int_bl rfl T.int PyProof.Rows.boot_int (pa_cons (pe_cmpR (op_in_seq) (pe_ix ix_tup (pv 2) pe_int (fun _ _ => rfl)) (pe_tup (pa_cons pe_str (pa_cons pe_str pa_nil))) (by rfl)) pa_nil))))))
      (pss_one (ps_ret (pv 1)))), ?_⟩
    refine (let U'2 : TS := _; let U'1 : TS := tSeq _ U'2; (?_ : tSeq _ U'1 _ _ _))
    refine (ιEAEE _ rfl v w ⟨rfl, iw, fun l vs' H1 hl hl1 hps sm1 => ?_⟩)
    refine ⟨l, rfl, ⟨_, SqL.of hl1⟩, for_list (xs := vs') (fun i σ H2 => (∃ s2, σ = [some v, some (.int (((((parts w).take i).map nmr).sum : Nat) : Int)), s2]) ∧ Same H1 H2) ?_ ?_ ?_ ?_⟩
    · exact ⟨⟨none, rfl⟩, Same.refl _⟩
    · rintro i σ H2 _ ⟨_, sm2⟩
      exact SqL.of (sm2 l _ hl1)
    · rintro i x σ H2 hi ⟨⟨s2, rfl⟩, sm2⟩
      obtain ⟨p, hpi, ip⟩ := paired_get hps hi
      have hdp := dp_parts (List.mem_of_getElem? hpi)
      obtain ⟨n', rfl⟩ : ∃ n', n = n' + 1 := ⟨n - 1, by exact ω12 hd hdp⟩
      have ip2 := ip.tk sm2.tk
      unfold gName
      refine (ιEAEAEE _ rfl _ rfl x p ⟨rfl, ip2, by exact ω13 hdp hd, fun H3 sm3 => ?_⟩)
      (refine εx2 ((ip2.tk sm3.tk).items) fun a us c'140 => εa3 c'140 fun e'139 ha it => ?_; clear c'140; subst e'139)
      have a0 : atI (V.str (kd p) :: us) 0 = some (.str (kd p)) := (atI_nat (show (V.str (kd p) :: us)[0]? = some (V.str (kd p)) from rfl) : atI (V.str (kd p) :: us) ((0 : Nat) : Int) = _)
      refine (ιEEAAE _ _ rfl rfl _ ⟨rfl, ιEEEE a _ 0 (.str (kd p)) ⟨rfl, rfl, SqT.of ha, a0, by show 2 ≤ sizeLine; decide, fun t ht => ?_⟩⟩)
      have sm4 : Same H3 (upd H3 t (.tup [.str "least", .str "most"])) := Same.upd ht
      have h4 : upd H3 t (.tup [.str "least", .str "most"]) t = some (.tup [.str "least", .str "most"]) := upd_same
      generalize upd H3 t (.tup [.str "least", .str "most"]) = H4 at sm4 h4
      refine (ιEE t ([.str "least", .str "most"]) ⟨rfl, .inr (SqT.of h4), rfl, rfl, ?_⟩)
      rw [in_namer p]
      refine (ιEAEE _ rfl _ _ ⟨rfl, rfl, ⟨some (.ref a), ?_⟩, (sm2.trans sm3).trans sm4⟩)
      have e : ((((parts w).take (i + 1)).map nmr).sum : Nat) = (((parts w).take i).map nmr).sum + nmr p := by
        rw [List.take_add_one, hpi, List.map_append, List.sum_append]
        simp
      have en := nmr_bnd p
      have ev : (((((parts w).take i).map nmr).sum : Nat) : Int) + ((bnd p : Nat) : Int) + (if isNamer p = true then 1 else 0) = (((((parts w).take (i + 1)).map nmr).sum : Nat) : Int) := by
        rw [e, en]
        cases isNamer p <;> simp <;> exact ω230
      rw [← ev]
      rfl
    · rintro σ H2 ⟨⟨s2, rfl⟩, sm2⟩
      rw [paired_len hps, List.take_length]
      exact ⟨_, rfl, q H2 (sm1.trans sm2)⟩
theorem ok_binders {f f1 : Addr} {fd fd1 : FuncData} (n : Nat) (F : Fun K "_law_binders" "_law_binders" sBinders f fd) (T : Txt mg)
    (G1 : FnOk P w K mg base CX0 1 f1 fd1 ["wish"] spPartsOf) (k1 : PySem.W.keepIn K (.ref f1) = true) (m1 : mg "_law_parts" = some (.ref f1)) (b1 : Binds K fd1 ["wish"] [])
    (k2 : PySem.W.keepIn K (.ref f) = true) (m2 : mg "_law_binders" = some (.ref f)) (b2 : Binds K fd ["wish"] []) :
    FnOk P w K mg base CX0 (1 + n + 1) f fd ["wish"] (spBinders n) := by
  have go : ∀ n, FnOk P w K mg base CX0 (1 + n) f fd ["wish"] (spBindersR n) := fun n => by
    induction n with
    | zero => exact ⟨fun _ _ _ _ h => h.elim, fun _ _ _ _ _ _ _ _ _ _ _ _ _ h => h.elim⟩
    | succ n ih => exact binders_body n F T G1 k1 m1 b1 ih k2 m2 b2
  exact binders_body n F T G1 k1 m1 b1 (go n) k2 m2 b2
end
end K18
namespace K18
open PySem L2 Gm
noncomputable abbrev nCrownOf : List Str := ["game", "place", "sign"]
theorem scCrownOf : FnScope nCrownOf ["game", "place", "sign"] (defScope sCrownOf) := ⟨rfl, rfl, rfl, by decide +kernel, rfl, by decide +kernel, by decide +kernel⟩
noncomputable def spCrownOf (n : Nat) : Sp := fun vs H Q _ => ∃ (gv : V) (g : List Pl) (k : Nat) (p : Pl) (v : V) (w : Wish), vs = [gv, .int k, v] ∧ IsGm H gv g ∧ g[k]? = some p ∧ IsW H v w ∧ dp w ≤ n ∧ ∀ H', Same H H' → Q (.int (crn p.2.1 w)) H'
theorem dec_iiK (a b : Int) : decide (V.int a = V.int b) = decide (a = b) := by
  by_cases e : a = b
  · rw [decide_eq_true e, decide_eq_true (by rw [e])]
  · rw [decide_eq_false e, decide_eq_false (fun z => e (V.int.inj z))]
section
variable {P : Program} {w : World} {K : PySem.W.Frag} {mg : Str → Option Value} {base : Heap}
theorem ok_crownof {f f1 : Addr} {fd fd1 : FuncData} (n : Nat) (F : Fun K "crown_of" "crown_of" sCrownOf f fd) (T : Txt mg)
    (G1 : FnOk P w K mg base CX0 (1 + n + 1) f1 fd1 ["wish"] (spNamers n)) (k1 : PySem.W.keepIn K (.ref f1) = true) (m1 : mg "namers_in" = some (.ref f1)) (b1 : Binds K fd1 ["wish"] []) :
    FnOk P w K mg base CX0 (1 + n + 2) f fd ["game", "place", "sign"] (spCrownOf n) := by
  refine F.ok scCrownOf (fun vs H Q E h => ?_) (fun cdv A outer s H vs Q E hr h => ?_)
  · (refine εx5 h fun gv g k p v c'142 => εx1 c'142 fun w c'143 => εa2 c'143 fun e'141 _ => ?_; (try clear h); clear c'142 c'143; subst e'141)
    rfl
  · (refine εx5 h fun gv g k p v c'145 => εx1 c'145 fun w c'146 => εa6 c'146 fun e'144 ig hk iw hd q => ?_; (try clear h); clear c'145 c'146; subst e'144)
    have hu := hu_of hr
    have hu64 := hr.units
    refine (let X' : Cx := _; (?_ : ∃ t, PSs X' _ t ∧ _))
    refine ⟨_, pss_cons (ps_if (pt_cmpR op_eq (pe_ix ix_tup (pv 2) pe_int (fun _ _ => rfl)) pe_str (nomark _)) (pss_one (ps_ret (pe_ifExp (pt_cmpR op_eq (pe_ix ix_tup (pe_ix ix_tup (pv 0) (pv 1) (fun _ _ => rfl)) pe_int (fun _ _ => rfl)) (pe_ix ix_tup (pv 2) pe_int (fun _ _ => rfl)) (nomark _)) pe_int pe_int))) pss_nil)
      (pss_cons (ps_if (pt_cmpR op_eq (pe_ix ix_tup (pv 2) pe_int (fun _ _ => rfl)) pe_str (nomark _)) (pss_one (ps_ret (pe_ifExp (pt_cmpR op_eq (pe_ix ix_tup (pe_ix ix_tup (pv 0) (pv 1) (fun _ _ => rfl)) pe_int (fun _ _ => rfl)) (pe_ix ix_tup (pv 2) pe_int (fun _ _ => rfl)) (nomark _)) pe_int pe_int))) pss_nil)
      (pss_cons (ps_if (pt_cmpR op_eq (pe_ix ix_tup (pv 2) pe_int (fun _ _ => rfl)) pe_str (nomark _)) (pss_one (ps_ret (pe_op op_add (pe_op op_mul pe_int (pe_call G1 (hr.mono (by exact ω39)) rfl m1 k1 b1 .nil pass0 (pa_cons (pe_ix ix_tup (pv 2) pe_int (fun _ _ => rfl)) pa_nil))) pe_int))) pss_nil)
      (pss_cons (ps_if (pt_cmpR op_eq (pe_ix ix_tup (pv 2) pe_int (fun _ _ => rfl)) pe_str (nomark _)) (pss_one (ps_ret (pe_op op_mul pe_int (pe_call G1 (hr.mono (by exact ω39)) rfl m1 k1 b1 .nil pass0 (pa_cons (pe_ix ix_tup (pv 2) pe_int (fun _ _ => rfl)) pa_nil))))) pss_nil)
      (pss_one (ps_ret pe_int))))), ?_⟩
    refine (let U'4 : TS := _; let U'3 : TS := tSeq _ U'4; let U'2 : TS := tSeq _ U'3; let U'1 : TS := tSeq _ U'2; (?_ : tSeq _ U'1 _ _ _))
    (refine εx2 (id ig) fun ga vs c'148 => εa3 c'148 fun e'147 hga hp => ?_; clear c'148; subst e'147)
    (refine εa2 (gm_at hga hp (Same.refl H).tk (k := ((k : Nat) : Int)) (by exact ω2) (by rw [Int.toNat_natCast]; exact hk)) fun a1 c'149 => εx2 c'149 fun pa pb c'150 => εa3 c'150 fun a2 a3 a4 => ?_; clear c'149 c'150)
    cases w with
    | is c =>
      obtain ⟨a, rfl, ha⟩ := iw
      refine (ιEAEEE _ rfl a _ 0 (ιEAAAAAE (.str "is") rfl rfl (SqT.of ha) rfl rfl _ ⟨rfl, ?_⟩))
      rw [show decide (V.str "is" = V.str "is") = true from by decide +kernel]
      refine iteT ?_
      refine (ιEAEAEE _ rfl _ rfl ga vs (ιEEAAAAEE _ _ rfl rfl (SqT.of a1) a2 pa _ (ιEEAAAAEAE _ _ rfl rfl (SqT.of a3) rfl _ rfl a (ιEEEAAAAAE _ _ (.int c) rfl rfl (SqT.of ha) rfl rfl _ ⟨rfl, ?_⟩))))
      rw [dec_iiK]
      have := q H (Same.refl _)
      rw [show crn p.2.1 (.is c) = if p.2.1 = c then 0 else 1 from rfl] at this
      refine ite2 (fun z => ?_) (fun z => ?_)
      · rw [if_pos (of_decide_eq_true z)] at this
        exact this
      · rw [if_neg (fun y => z (decide_eq_true y))] at this
        exact this
    | no c =>
      obtain ⟨a, rfl, ha⟩ := iw
      refine (ιEAEEE _ rfl a _ 0 (ιEAAAAAE (.str "not") rfl rfl (SqT.of ha) rfl rfl _ ⟨rfl, ?_⟩))
      rw [show decide (V.str "not" = V.str "is") = false from by decide +kernel]
      refine iteF ?_
      refine (ιEAEEE _ rfl a _ 0 (ιEAAAAAE (.str "not") rfl rfl (SqT.of ha) rfl rfl _ ⟨rfl, ?_⟩))
      rw [show decide (V.str "not" = V.str "not") = true from by decide +kernel]
      refine iteT ?_
      refine (ιEAEAEE _ rfl _ rfl ga vs (ιEEAAAAEE _ _ rfl rfl (SqT.of a1) a2 pa _ (ιEEAAAAEAE _ _ rfl rfl (SqT.of a3) rfl _ rfl a (ιEEEAAAAAE _ _ (.int c) rfl rfl (SqT.of ha) rfl rfl _ ⟨rfl, ?_⟩))))
      rw [dec_iiK]
      have := q H (Same.refl _)
      rw [show crn p.2.1 (.no c) = if p.2.1 = c then 1 else 0 from rfl] at this
      refine ite2 (fun z => ?_) (fun z => ?_)
      · rw [if_pos (of_decide_eq_true z)] at this
        exact this
      · rw [if_neg (fun y => z (decide_eq_true y))] at this
        exact this
    | name x =>
      obtain ⟨a, rfl, ha⟩ := iw
      refine (ιEAEEE _ rfl a _ 0 (ιEAAAAAE (.str "name") rfl rfl (SqT.of ha) rfl rfl _ ⟨rfl, ?_⟩))
      rw [show decide (V.str "name" = V.str "is") = false from by decide +kernel]
      refine iteF ?_
      refine (ιEAEEE _ rfl a _ 0 (ιEAAAAAE (.str "name") rfl rfl (SqT.of ha) rfl rfl _ ⟨rfl, ?_⟩))
      rw [show decide (V.str "name" = V.str "not") = false from by decide +kernel]
      refine iteF ?_
      refine (ιEAEEE _ rfl a _ 0 (ιEAAAAAE (.str "name") rfl rfl (SqT.of ha) rfl rfl _ ⟨rfl, ?_⟩))
      rw [show decide (V.str "name" = V.str "least") = false from by decide +kernel]
      refine iteF ?_
      refine (ιEAEEE _ rfl a _ 0 (ιEAAAAAE (.str "name") rfl rfl (SqT.of ha) rfl rfl _ ⟨rfl, ?_⟩))
      rw [show decide (V.str "name" = V.str "most") = false from by decide +kernel]
      refine iteF ?_
      exact q H (Same.refl _)
    | and x y =>
      (refine εx3 iw fun a b c c'152 => εa4 c'152 fun e'151 ha _ _ => ?_; (try clear iw); clear c'152; subst e'151)
      refine (ιEAEEE _ rfl a _ 0 (ιEAAAAAE (.str "and") rfl rfl (SqT.of ha) rfl rfl _ ⟨rfl, ?_⟩))
      rw [show decide (V.str "and" = V.str "is") = false from by decide +kernel]
      refine iteF ?_
      refine (ιEAEEE _ rfl a _ 0 (ιEAAAAAE (.str "and") rfl rfl (SqT.of ha) rfl rfl _ ⟨rfl, ?_⟩))
      rw [show decide (V.str "and" = V.str "not") = false from by decide +kernel]
      refine iteF ?_
      refine (ιEAEEE _ rfl a _ 0 (ιEAAAAAE (.str "and") rfl rfl (SqT.of ha) rfl rfl _ ⟨rfl, ?_⟩))
      rw [show decide (V.str "and" = V.str "least") = false from by decide +kernel]
      refine iteF ?_
      refine (ιEAEEE _ rfl a _ 0 (ιEAAAAAE (.str "and") rfl rfl (SqT.of ha) rfl rfl _ ⟨rfl, ?_⟩))
      rw [show decide (V.str "and" = V.str "most") = false from by decide +kernel]
      refine iteF ?_
      exact q H (Same.refl _)
    | or x y =>
      (refine εx3 iw fun a b c c'154 => εa4 c'154 fun e'153 ha _ _ => ?_; (try clear iw); clear c'154; subst e'153)
      refine (ιEAEEE _ rfl a _ 0 (ιEAAAAAE (.str "or") rfl rfl (SqT.of ha) rfl rfl _ ⟨rfl, ?_⟩))
      rw [show decide (V.str "or" = V.str "is") = false from by decide +kernel]
      refine iteF ?_
      refine (ιEAEEE _ rfl a _ 0 (ιEAAAAAE (.str "or") rfl rfl (SqT.of ha) rfl rfl _ ⟨rfl, ?_⟩))
      rw [show decide (V.str "or" = V.str "not") = false from by decide +kernel]
      refine iteF ?_
      refine (ιEAEEE _ rfl a _ 0 (ιEAAAAAE (.str "or") rfl rfl (SqT.of ha) rfl rfl _ ⟨rfl, ?_⟩))
      rw [show decide (V.str "or" = V.str "least") = false from by decide +kernel]
      refine iteF ?_
      refine (ιEAEEE _ rfl a _ 0 (ιEAAAAAE (.str "or") rfl rfl (SqT.of ha) rfl rfl _ ⟨rfl, ?_⟩))
      rw [show decide (V.str "or" = V.str "most") = false from by decide +kernel]
      refine iteF ?_
      exact q H (Same.refl _)
    | all x =>
      (refine εx2 iw fun a b c'156 => εa3 c'156 fun e'155 ha _ => ?_; (try clear iw); clear c'156; subst e'155)
      refine (ιEAEEE _ rfl a _ 0 (ιEAAAAAE (.str "all") rfl rfl (SqT.of ha) rfl rfl _ ⟨rfl, ?_⟩))
      rw [show decide (V.str "all" = V.str "is") = false from by decide +kernel]
      refine iteF ?_
      refine (ιEAEEE _ rfl a _ 0 (ιEAAAAAE (.str "all") rfl rfl (SqT.of ha) rfl rfl _ ⟨rfl, ?_⟩))
      rw [show decide (V.str "all" = V.str "not") = false from by decide +kernel]
      refine iteF ?_
      refine (ιEAEEE _ rfl a _ 0 (ιEAAAAAE (.str "all") rfl rfl (SqT.of ha) rfl rfl _ ⟨rfl, ?_⟩))
      rw [show decide (V.str "all" = V.str "least") = false from by decide +kernel]
      refine iteF ?_
      refine (ιEAEEE _ rfl a _ 0 (ιEAAAAAE (.str "all") rfl rfl (SqT.of ha) rfl rfl _ ⟨rfl, ?_⟩))
      rw [show decide (V.str "all" = V.str "most") = false from by decide +kernel]
      refine iteF ?_
      exact q H (Same.refl _)
    | some x =>
      (refine εx2 iw fun a b c'158 => εa3 c'158 fun e'157 ha _ => ?_; (try clear iw); clear c'158; subst e'157)
      refine (ιEAEEE _ rfl a _ 0 (ιEAAAAAE (.str "some") rfl rfl (SqT.of ha) rfl rfl _ ⟨rfl, ?_⟩))
      rw [show decide (V.str "some" = V.str "is") = false from by decide +kernel]
      refine iteF ?_
      refine (ιEAEEE _ rfl a _ 0 (ιEAAAAAE (.str "some") rfl rfl (SqT.of ha) rfl rfl _ ⟨rfl, ?_⟩))
      rw [show decide (V.str "some" = V.str "not") = false from by decide +kernel]
      refine iteF ?_
      refine (ιEAEEE _ rfl a _ 0 (ιEAAAAAE (.str "some") rfl rfl (SqT.of ha) rfl rfl _ ⟨rfl, ?_⟩))
      rw [show decide (V.str "some" = V.str "least") = false from by decide +kernel]
      refine iteF ?_
      refine (ιEAEEE _ rfl a _ 0 (ιEAAAAAE (.str "some") rfl rfl (SqT.of ha) rfl rfl _ ⟨rfl, ?_⟩))
      rw [show decide (V.str "some" = V.str "most") = false from by decide +kernel]
      refine iteF ?_
      exact q H (Same.refl _)
    | least x y =>
      (refine εx2 iw fun a b c'160 => εa3 c'160 fun e'159 ha ib => ?_; (try clear iw); clear c'160; subst e'159)
      have hdp : dp y ≤ n := by unfold dp at hd; exact ω59 hd
      refine (ιEAEEE _ rfl a _ 0 (ιEAAAAAE (.str "least") rfl rfl (SqT.of ha) rfl rfl _ ⟨rfl, ?_⟩))
      rw [show decide (V.str "least" = V.str "is") = false from by decide +kernel]
      refine iteF ?_
      refine (ιEAEEE _ rfl a _ 0 (ιEAAAAAE (.str "least") rfl rfl (SqT.of ha) rfl rfl _ ⟨rfl, ?_⟩))
      rw [show decide (V.str "least" = V.str "not") = false from by decide +kernel]
      refine iteF ?_
      refine (ιEAEEE _ rfl a _ 0 (ιEAAAAAE (.str "least") rfl rfl (SqT.of ha) rfl rfl _ ⟨rfl, ?_⟩))
      rw [show decide (V.str "least" = V.str "least") = true from by decide +kernel]
      refine iteT ?_
      exact (ιEAEEE _ rfl a _ 2 (ιEAAAAEE b rfl rfl (SqT.of ha) rfl b y ⟨rfl, ib, hdp, fun H1 sm1 => (ιEEAAAEE _ _ rfl rfl (.inl ⟨by decide, by decide⟩) _ _ ⟨rfl, rfl, q H1 sm1⟩)⟩))
    | most x y =>
      (refine εx2 iw fun a b c'162 => εa3 c'162 fun e'161 ha ib => ?_; (try clear iw); clear c'162; subst e'161)
      have hdp : dp y ≤ n := by unfold dp at hd; exact ω59 hd
      refine (ιEAEEE _ rfl a _ 0 (ιEAAAAAE (.str "most") rfl rfl (SqT.of ha) rfl rfl _ ⟨rfl, ?_⟩))
      rw [show decide (V.str "most" = V.str "is") = false from by decide +kernel]
      refine iteF ?_
      refine (ιEAEEE _ rfl a _ 0 (ιEAAAAAE (.str "most") rfl rfl (SqT.of ha) rfl rfl _ ⟨rfl, ?_⟩))
      rw [show decide (V.str "most" = V.str "not") = false from by decide +kernel]
      refine iteF ?_
      refine (ιEAEEE _ rfl a _ 0 (ιEAAAAAE (.str "most") rfl rfl (SqT.of ha) rfl rfl _ ⟨rfl, ?_⟩))
      rw [show decide (V.str "most" = V.str "least") = false from by decide +kernel]
      refine iteF ?_
      refine (ιEAEEE _ rfl a _ 0 (ιEAAAAAE (.str "most") rfl rfl (SqT.of ha) rfl rfl _ ⟨rfl, ?_⟩))
      rw [show decide (V.str "most" = V.str "most") = true from by decide +kernel]
      refine iteT ?_
      exact (ιEAEEE _ rfl a _ 2 (ιEAAAAEE b rfl rfl (SqT.of ha) rfl b y ⟨rfl, ib, hdp, fun H1 sm1 => (ιEE _ _ ⟨rfl, rfl, .inl ⟨by decide, by decide⟩, q H1 sm1⟩)⟩))
end
end K18
namespace K18
open PySem L2 Gm
noncomputable abbrev nWaysOf : List Str := ["game", "place", "sign", "heads", "many"]
theorem scWaysOf : FnScope nWaysOf ["game", "place", "sign", "heads", "many"] (defScope sWaysOf) := ⟨rfl, rfl, rfl, by decide +kernel, rfl, by decide +kernel, by decide +kernel⟩
theorem lcWaysOf1 : LcOk (defScope sWaysOf) nWaysOf ["way", "heads", "many"] [none, some 3, some 4] (mkSc [(".0", .local), ("way", .local), ("heads", .free), ("many", .free)]) :=
  ⟨rfl, by decide +kernel, by decide +kernel, by decide +kernel, by decide +kernel, rfl, by decide +kernel⟩
theorem lcWaysOf2 : LcOk (defScope sWaysOf) nWaysOf ["head", "many", "place"] [none, some 4, some 1] (mkSc [(".0", .local), ("head", .local), ("many", .free), ("place", .free)]) :=
  ⟨rfl, by decide +kernel, by decide +kernel, by decide +kernel, by decide +kernel, rfl, by decide +kernel⟩
theorem in_step (w : Wish) : (if false = true then !inV (V.str (kd w)) [.str "all", .str "some"] else inV (V.str (kd w)) [.str "all", .str "some"]) = isStep w := by
  cases w <;> (simp only [kd, isStep]; decide +kernel)
noncomputable def spWaysOf : Sp := fun vs H Q _ => ∃ (gv : V) (g : List Pl) (k : Nat) (p : Pl) (v : V) (w : Wish) (hl : Addr) (hs : List Int) (m : Nat), vs = [gv, .int k, v, .ref hl, .int m] ∧ IsGm H gv g ∧ g[k]? = some p ∧ (∀ x ∈ p.2.2, 0 ≤ x ∧ x < 1000) ∧ p.2.2.length < 1000 ∧ k < 1000 ∧ m < 1000 ∧ IsW H v w ∧ H hl = some (.lst (hs.map V.int)) ∧ hs ≠ [] ∧ hs.length < 1000 ∧ ∀ (t : Addr) (H' : Hp), H t = none → H' t = some (.tup ((wys m k p.2.2 hs w).map V.int)) → Same H H' → Q (.ref t) H'
section
variable {P : Program} {w : World} {K : PySem.W.Frag} {mg : Str → Option Value} {base : Heap}
theorem ok_waysof {f : Addr} {fd : FuncData} {aSTEPPERS : Addr} (F : Fun K "ways_of" "ways_of" sWaysOf f fd) (T : Txt mg) (gSTEPPERS : mg "STEPPERS" = some (.ref aSTEPPERS)) (tS : tupK K aSTEPPERS = some [.str "all", .str "some"]) :
    FnOk P w K mg base CX0 1 f fd ["game", "place", "sign", "heads", "many"] spWaysOf := by
  refine F.ok scWaysOf (fun vs H Q E h => ?_) (fun cdv A outer s H vs Q E hr h => ?_)
  · (refine εx5 h fun gv g k p v c'164 => εx4 c'164 fun w hl hs m c'165 => εa2 c'165 fun e'163 _ => ?_; (try clear h); clear c'164 c'165; subst e'163)
    rfl
  · (refine εx5 h fun gv g k p v c'167 => εx4 c'167 fun w hl hs m c'168 => εa10 c'168 fun e'166 ig hk hin hpl hk1 hm1 iw hhl c'169 => εa3 c'169 fun hne hhs q => ?_; (try clear h); clear c'167 c'168 c'169; subst e'166)
    have hu := hu_of hr
    have hu64 := hr.units
    refine (let X' : Cx := _; (?_ : ∃ t, PSs X' _ t ∧ _))
    refine ⟨_, pss_cons (ps_if (pt_cmpR (op_in_seq) (pe_ix ix_tup (pv 2) pe_int (fun _ _ => rfl)) (pe_glob (v := .ref aSTEPPERS) rfl gSTEPPERS rfl) (by rfl)) (pss_one (ps_ret (pe_callTy call_tuple_of rfl T.tuple PyProof.Rows.boot_tuple (pa_cons (pe_lc rfl lcWaysOf1 (pi_tup (pe_ix ix_tup (pe_ix ix_tup (pv 0) (pv 1) (fun _ _ => rfl)) pe_int (fun _ _ => rfl))) (fun cl C ex s H => ⟨(pg_name (i := 0) lcWaysOf1.nd rfl (Or.inl rfl)), pif_nil, (pe_op op_add (pe_op op_mul (pv 0) (pv 2)) (pe_ix (ix_listK K rfl) (pv 1) pe_int (fun _ _ => rfl)))⟩)) pa_nil)))) pss_nil)
      (pss_one (ps_ret (pe_callTy call_tuple_of rfl T.tuple PyProof.Rows.boot_tuple (pa_cons (pe_lc rfl lcWaysOf2 (pi_list (pv 3)) (fun cl C ex s H => ⟨(pg_name (i := 0) lcWaysOf2.nd rfl (Or.inl rfl)), pif_nil, (pe_op op_add (pe_op op_mul (pv 2) (pv 1)) (pv 0))⟩)) pa_nil)))), ?_⟩
    refine (let U'1 : TS := _; (?_ : tSeq _ U'1 _ _ _))
    (refine εx2 (id ig) fun ga vs c'171 => εa3 c'171 fun e'170 hga hp => ?_; clear c'171; subst e'170)
    (refine εa2 (gm_at hga hp (Same.refl H).tk (k := ((k : Nat) : Int)) (by exact ω2) (by rw [Int.toNat_natCast]; exact hk)) fun a1 c'172 => εx2 c'172 fun pa pb c'173 => εa3 c'173 fun a2 a3 a4 => ?_; clear c'172 c'173)
    (refine εx2 (iw.items) fun a us c'175 => εa3 c'175 fun e'174 ha it => ?_; clear c'175; subst e'174)
    have a0 : atI (V.str (kd w) :: us) 0 = some (.str (kd w)) := (atI_nat (show (V.str (kd w) :: us)[0]? = some (V.str (kd w)) from rfl) : atI (V.str (kd w) :: us) ((0 : Nat) : Int) = _)
    refine (ιEAEEE _ rfl a _ 0 (ιEAAAAEE (.str (kd w)) rfl rfl (SqT.of ha) a0 aSTEPPERS ([.str "all", .str "some"]) ⟨rfl, .inr (tupK_sq tS H), rfl, rfl, _, rfl, ?_⟩))
    rw [in_step w]
    cases es : isStep w with
    | true =>
      refine iteT ?_
      refine (ιEAEAEE _ rfl _ rfl ga vs (ιEEAAAAEE _ _ rfl rfl (SqT.of a1) a2 pa _ (ιEEAAAAE _ _ rfl rfl (SqT.of a3) rfl pb ⟨rfl, ⟨_, SqT.of a4⟩, fun D hD => lc_mapT (L := p.2.2) (fun x => .int (x * m + hs.getD 0 0)) a4 (by exact ω23 hpl) hD (fun x hx H2 sm2 Q' hQ => ?_) (fun H2 sm2 hD2 => ?_)⟩)))
      · have hx' := hin x hx
        have hpos : (0 : Int) < hs.length := by
          cases hs with
          | nil => exact absurd rfl hne
          | cons y r => simp
        exact (ιEAEAEE _ rfl _ rfl _ _ ⟨rfl, rfl, .inl ⟨by exact ω134 hx', by exact ω135 hx'⟩, ιEAEEE _ rfl hl _ _ (ιEAAAAEE _ rfl rfl (SqL.of (sm2 hl _ hhl)) (atints (st := hs) (w := 0) (by decide) hpos) _ _ ⟨rfl, rfl, hQ H2 (Same.refl _)⟩)⟩)
      · refine (ιEE D _ ⟨rfl, .inl ⟨SqL.of hD2, fun t ht => ?_⟩⟩)
        refine q t _ (sm2.free ht) ?_ (sm2.trans (Same.upd ht))
        rw [upd_same]
        unfold wys
        rw [if_pos es, List.map_map]
        rfl
    | false =>
      refine iteF ?_
      refine (ιEAE _ rfl hl ⟨rfl, ⟨_, SqL.of hhl⟩, fun D hD => lc_mapI (L := hs) (fun h => .int (k * m + h)) hhl (by exact ω23 hhs) hD (fun x hx H2 sm2 Q' hQ => ?_) (fun H2 sm2 hD2 => ?_)⟩)
      · exact (ιEAEAEE _ rfl _ rfl _ _ ⟨rfl, rfl, .inl ⟨by exact ω34, by exact ω136 hk1⟩, ιEAEE _ rfl _ _ ⟨rfl, rfl, hQ H2 (Same.refl _)⟩⟩)
      · refine (ιEE D _ ⟨rfl, .inl ⟨SqL.of hD2, fun t ht => ?_⟩⟩)
        refine q t _ (sm2.free ht) ?_ (sm2.trans (Same.upd ht))
        rw [upd_same]
        unfold wys
        rw [if_neg (by rw [es]; exact Bool.false_ne_true), List.map_map]
        rfl
end
end K18
namespace K18
open PySem L2 Gm
noncomputable abbrev nRowsOf : List Str := ["wish", "number", "homes", "inner", "heads", "within", "part"]
theorem scRowsOf : FnScope nRowsOf ["wish", "number", "homes"] (defScope sRowsOf) := ⟨rfl, rfl, rfl, by decide +kernel, rfl, by decide +kernel, by decide +kernel⟩
noncomputable abbrev nHomeOf : List Str := ["name", "homes"]
theorem scHomeOf : FnScope nHomeOf ["name", "homes"] (defScope sHomeOf) := ⟨rfl, rfl, rfl, by decide +kernel, rfl, by decide +kernel, by decide +kernel⟩
abbrev VE : List Value := [.type "ValueError", .type "Exception", .type "BaseException", .type "object"]
structure Ref (K : PySem.W.Frag) (mg : Str → Option Value) (x : Str) (C : Addr) : Prop where
  m : mg x = some (.ref C)
  e : PySem.W.excIn K C VE "ValueError.__new__" = true
noncomputable def spHome (C : Addr) : Sp := fun vs H Q E => ∃ (x : Str) (a : Addr) (kvs : List (Key × V)) (e : WEnv), vs = [.str x, .ref a] ∧ x.length ≤ 9 ∧ Rd H a (.dK kvs) ∧ EnvD kvs e ∧ (∀ n, e x = some n → Q (.int (n : Nat)) H) ∧ (e x = none → E (.ref C) none H)
noncomputable def spRows (C : Addr) (n : Nat) : Sp := fun vs H Q E => ∃ (v : V) (w : Wish) (k : Nat) (a : Addr) (kvs : List (Key × V)) (e : WEnv), vs = [v, .int k, .ref a] ∧ IsW H v w ∧ dp w ≤ n ∧ sg w < 1000 ∧ nmOk w ∧ Rd H a (.dK kvs) ∧ kvs.length + dp w < 1000 ∧ EnvD kvs e ∧
  (loose (dom e) w = false → ∀ (l : Addr) (us : List V) (H' : Hp), H l = none → H' l = some (.lst us) → Paired (IsRow H H') us (rws e k w) → Same H H' → Q (.ref l) H') ∧
  (loose (dom e) w = true → ∀ H', Same H H' → E (.ref C) none H')
noncomputable def spRowsR (C : Addr) : Nat → Sp
  | 0 => fun _ _ _ _ => False
  | n + 1 => spRows C n
noncomputable def isName : Wish → Bool
  | .name _ => true | _ => false
theorem in_ends (w : Wish) : (if false = true then !inV (V.str (kd w)) [.str "is", .str "not"] else inV (V.str (kd w)) [.str "is", .str "not"]) = (isEnd w && !isName w) := by
  cases w <;> (simp only [kd, isEnd, isName]; decide +kernel)
theorem eq_name (w : Wish) : decide (V.str (kd w) = V.str "name") = isName w := by
  cases w with
  | name x => exact decide_eq_true rfl
  | _ => exact decide_eq_false (by simp only [kd]; decide +kernel)
theorem putK_len (kvs : List (Key × V)) (k : Key) (v : V) : (putK kvs k v).length ≤ kvs.length + 1 := by
  cases e : valV kvs k with
  | none => rw [putK_new v e]; simp
  | some u =>
    have h : (kvs.any fun kv => decide (kv.1 = k)) = true := by rw [valV_any, e]; rfl
    unfold putK
    simp only [h]
    simp
theorem three (w : Wish) : (isEnd w = true ∧ isName w = false) ∨ (∃ x, w = .name x) ∨ isEnd w = false := by
  cases w <;> (first | exact .inl ⟨rfl, rfl⟩ | exact .inr (.inl ⟨_, rfl⟩) | exact .inr (.inr rfl))
theorem not_name {w : Wish} (h : isEnd w = false) : isName w = false := by
  cases w <;> first | rfl | cases h
theorem rws_end {w : Wish} (h : isEnd w = true) (h2 : isName w = false) {e : WEnv} {n : Nat} : rws e n w = [(w, [(n : Int)])] := by
  cases w <;> first | rfl | (cases h; done) | (cases h2; done)
theorem loose_end {w : Wish} (h : isEnd w = true) (h2 : isName w = false) (d : Str → Bool) : loose d w = false := by
  cases w <;> first | rfl | (cases h; done) | (cases h2; done)
theorem envOf_plain {w : Wish} (h : isNamer w = false) {e : WEnv} {n : Nat} : envOf e n w = e := by
  cases w <;> first | rfl | cases h
theorem isw_namer2 {H : Hp} {w : Wish} {v : V} (h : IsW H v w) (n : isNamer w = true) : ∃ a x b, v = .ref a ∧ H a = some (.tup [.str (kd w), .str x, b]) ∧ ∀ {e : WEnv} {m : Nat}, envOf e m w = put e x m := by
  cases w with
  | least x p => (refine εx2 h fun a b c'176 => ?_; (try clear h); refine εa3 c'176 fun e h h1 => ?_; clear c'176); exact (ιEEE a x b ⟨e, h, rfl⟩)
  | most x p => (refine εx2 h fun a b c'177 => ?_; (try clear h); refine εa3 c'177 fun e h h1 => ?_; clear c'177); exact (ιEEE a x b ⟨e, h, rfl⟩)
  | _ => cases n
theorem hds_len : ∀ (l : List Wish) (m : Nat), (hds m l).length = l.length
  | [], _ => rfl
  | p :: r, m => by simp [hds, hds_len r]
theorem one_row {H : Hp} {v : V} {w : Wish} {h t l : Addr} {m : Int} (iw : IsW H v w) (hh : H h = none) (ht : upd H h (.lst [.int m]) t = none) (hl : upd (upd H h (.lst [.int m])) t (.tup [v, .ref h]) l = none) :
    H l = none ∧ upd (upd (upd H h (.lst [.int m])) t (.tup [v, .ref h])) l (.lst [.ref t]) l = some (.lst [.ref t]) ∧ Paired (IsRow H (upd (upd (upd H h (.lst [.int m])) t (.tup [v, .ref h])) l (.lst [.ref t]))) [.ref t] [(w, [m])] ∧ Same H (upd (upd (upd H h (.lst [.int m])) t (.tup [v, .ref h])) l (.lst [.ref t])) := by
  have s1 : Same H (upd H h (.lst [.int m])) := Same.upd hh
  have e1 : upd H h (.lst [.int m]) h = some (.lst [.int m]) := upd_same
  generalize upd H h (.lst [.int m]) = H1 at *
  have s2 : Same H1 (upd H1 t (.tup [v, .ref h])) := Same.upd ht
  have e2 : upd H1 t (.tup [v, .ref h]) t = some (.tup [v, .ref h]) := upd_same
  generalize upd H1 t (.tup [v, .ref h]) = H2 at *
  have s3 : Same H2 (upd H2 l (.lst [.ref t])) := Same.upd hl
  have e3 : upd H2 l (.lst [.ref t]) l = some (.lst [.ref t]) := upd_same
  generalize upd H2 l (.lst [.ref t]) = H3 at *
  have s := (s1.trans s2).trans s3
  exact ⟨(s1.trans s2).free hl, e3, .cons (ιEEE t v h ⟨rfl, s3 t _ e2, iw.tk s.tk, s3 h _ (s2 h _ e1), hh⟩) .nil, s⟩
section
variable {P : Program} {w : World} {K : PySem.W.Frag} {mg : Str → Option Value} {base : Heap}
theorem ok_homeof {f : Addr} {fd : FuncData} {C : Addr} (F : Fun K "home_of" "home_of" sHomeOf f fd) (T : Txt mg) (R6 : Ref K mg "Loose" C) :
    FnOk P w K mg base (CXE P w) 1 f fd ["name", "homes"] (spHome C) := by
  refine F.okX scHomeOf (fun vs H Q E h => ?_) (fun cdv A outer s H vs Q E hr h => ?_)
  · (refine εx4 h fun x a kvs e c'179 => εa2 c'179 fun e'178 _ => ?_; (try clear h); clear c'179; subst e'178)
    rfl
  · (refine εx4 h fun x a kvs e c'181 => εa6 c'181 fun e'180 hx ha en qy qn => ?_; (try clear h); clear c'181; subst e'180)
    have hu := hu_of hr
    refine (let X' : Cx := _; (?_ : ∃ t, PSs X' _ t ∧ _))
    refine ⟨_, pss_cons (ps_if (pt_cmp (pc_dnotin hu (pv 0) (pv 1))) (pss_one (ps_raise rfl R6.m R6.e PySem.F.excBase_ValueError (by decide +kernel) PySem.F.excBase_ValueError (pa_cons (pe_fstr (pj_cons pe_str (pj_cons (pe_fmtS (pv 0)) (pj_cons pe_str pj_nil)))) pa_nil))) pss_nil)
      (pss_one (ps_ret (pe_dget hu (pv 1) (pv 0) (fun _ _ => rfl)))), ?_⟩
    refine (let U'1 : TS := _; (?_ : tSeq _ U'1 _ _ _))
    have g := en x
    refine (ιEAEAEE _ rfl _ rfl a _ ⟨rfl, .inl (ιEE kvs (Sum.inr x) ⟨ha, rfl, g.symm⟩), _, rfl, ?_⟩)
    have l0 : (Str.ofString "the name ").length = 9 := by decide +kernel
    have l9 : (Str.ofString " has no least or most round it").length = 30 := by decide +kernel
    have lz : Str.empty.length = 0 := by decide +kernel
    have l1 : (Str.empty ++ Str.ofString "the name ").length ≤ sizeLine := by rw [Str.length_append, l0, lz, sizeLine_eq]; exact ω231
    have l2 : (Str.empty ++ Str.ofString "the name " ++ x).length ≤ sizeLine := by rw [Str.length_append, Str.length_append, l0, lz, sizeLine_eq]; exact ω232 hx
    have l3 : (Str.empty ++ Str.ofString "the name " ++ x ++ Str.ofString " has no least or most round it").length ≤ sizeLine := by rw [Str.length_append, Str.length_append, Str.length_append, l0, lz, l9, sizeLine_eq]; exact ω233 hx
    cases ex : e x with
    | none =>
      exact iteT (ιEAAEAE _ rfl l1 _ rfl x ⟨rfl, by rw [sizeLine_eq]; exact ω234 hx, ιEAAE _ rfl l2 _ ⟨rfl, l3, l3, by show 1 ≤ sizeLine; decide, qn ex⟩⟩)
    | some n =>
      refine iteF ?_
      rw [ex] at g
      exact (ιEAEAEE _ rfl _ rfl a _ ⟨rfl, .inl (ιEE kvs (Sum.inr x) ⟨ha, rfl, g.symm⟩), qy n ex⟩)
theorem rows_body {f f1 f2 : Addr} {fd fd1 fd2 : FuncData} {C aENDS aNAMERS : Addr} (n : Nat) (F : Fun K "rows_of" "rows_of" sRowsOf f fd) (T : Txt mg) (gENDS : mg "ENDS" = some (.ref aENDS)) (tE : tupK K aENDS = some [.str "is", .str "not"]) (gNAMERS : mg "NAMERS" = some (.ref aNAMERS)) (tN : tupK K aNAMERS = some [.str "least", .str "most"])
    (G1 : FnOk P w K mg base CX0 1 f1 fd1 ["wish"] spPartsOf) (k1 : PySem.W.keepIn K (.ref f1) = true) (m1 : mg "parts_of" = some (.ref f1)) (b1 : Binds K fd1 ["wish"] [])
    (G2 : FnOk P w K mg base (CXE P w) 1 f2 fd2 ["name", "homes"] (spHome C)) (k2 : PySem.W.keepIn K (.ref f2) = true) (m2 : mg "home_of" = some (.ref f2)) (b2 : Binds K fd2 ["name", "homes"] [])
    (G3 : FnOk P w K mg base (CXE P w) (1 + n) f fd ["wish", "number", "homes"] (spRowsR C n)) (k3 : PySem.W.keepIn K (.ref f) = true) (m3 : mg "rows_of" = some (.ref f)) (b3 : Binds K fd ["wish", "number", "homes"] []) :
    FnOk P w K mg base (CXE P w) (1 + n + 1) f fd ["wish", "number", "homes"] (spRows C n) := by
  refine F.okX scRowsOf (fun vs H Q E h => ?_) (fun cdv A outer s H vs Q E hr h => ?_)
  · (refine εx5 h fun v w k a kvs c'183 => εx1 c'183 fun e c'184 => εa2 c'184 fun e'182 _ => ?_; (try clear h); clear c'183 c'184; subst e'182)
    rfl
  · (refine εx5 h fun v w k a kvs c'186 => εx1 c'186 fun e c'187 => εa10 c'187 fun e'185 iw hd hsg nm ha hkl en qy qn => ?_; (try clear h); clear c'186 c'187; subst e'185)
    have hu := hu_of hr
    have hu64 := hr.units
    refine (let X' : Cx := _; (?_ : ∃ t, PSs X' _ t ∧ _))
    refine ⟨_, pss_cons (ps_if (pt_cmpR (op_in_seq) (pe_ix ix_tup (pv 0) pe_int (fun _ _ => rfl)) (pe_glob (v := .ref aENDS) rfl gENDS rfl) (by rfl)) (pss_one (ps_ret (pe_lst (pa_cons (pe_tup (pa_cons (pv 0) (pa_cons (pe_lst (pa_cons (pv 1) pa_nil)) pa_nil))) pa_nil)))) pss_nil)
      (pss_cons (ps_if (pt_cmpR op_eq (pe_ix ix_tup (pv 0) pe_int (fun _ _ => rfl)) pe_str (nomark _)) (pss_one (ps_ret (pe_lst (pa_cons (pe_tup (pa_cons (pv 0) (pa_cons (pe_lst (pa_cons (pe_call G2 (hr.mono (by exact ω11)) rfl m2 k2 b2 .nil (passX (E' := E) fun _ _ z => z) (pa_cons (pe_ix ix_tup (pv 0) pe_int (fun _ _ => rfl)) (pa_cons (pv 2) pa_nil))) pa_nil)) pa_nil))) pa_nil)))) pss_nil)
      (pss_cons (ps_set (i := 3) scRowsOf.nd rfl (Or.inl rfl) (pe_callTy call_dictD rfl T.dict PyProof.Rows.boot_dict (pa_cons (pv 2) pa_nil)))
      (pss_cons (ps_cut (ps_if (pt_cmpR (op_in_seq) (pe_ix ix_tup (pv 0) pe_int (fun _ _ => rfl)) (pe_glob (v := .ref aNAMERS) rfl gNAMERS rfl) (by rfl)) (pss_one (ps_dput hu (pv 3) (pe_ix ix_tup (pv 0) pe_int (fun _ _ => rfl)) (pv 1) (by rfl))) pss_nil))
      (pss_cons (ps_set (i := 4) scRowsOf.nd rfl (Or.inl rfl) (pe_lst pa_nil))
      (pss_cons (ps_set (i := 5) scRowsOf.nd rfl (Or.inl rfl) (pe_lst pa_nil))
      (pss_cons (ps_for PassesOwn.leaving rfl (pi_list (pe_call G1 (hr.mono (by exact ω11)) rfl m1 k1 b1 .nil pass0 (pa_cons (pv 0) pa_nil))) (pg_name (i := 6) scRowsOf.nd rfl (Or.inl rfl)) (pss_cons (ps_expr (pe_bm PySem.F.plainAttrs_list PySem.F.slot_list_append PySem.F.type_list_append mt_append (pv 4) (pa_cons (pe_op op_add (pe_op op_add (pv 1) pe_int) (pe_callB call_len_seq rfl T.len PySem.boot_len (pa_cons (pv 5) pa_nil))) pa_nil)))
        (pss_one (ps_expr (pe_bm PySem.F.plainAttrs_list PySem.F.slot_list_extend PySem.F.type_list_extend mt_extend (pv 5) (pa_cons (pe_call G3 (hr.mono (by exact ω21)) rfl m3 k3 b3 .nil (passX (E' := E) fun _ _ z => z) (pa_cons (pv 6) (pa_cons (pe_op op_add (pe_op op_add (pv 1) pe_int) (pe_callB call_len_seq rfl T.len PySem.boot_len (pa_cons (pv 5) pa_nil))) (pa_cons (pv 3) pa_nil)))) pa_nil))))))
      (pss_one (ps_ret (pe_op op_cat (pe_lst (pa_cons (pe_tup (pa_cons (pv 0) (pa_cons (pv 4) pa_nil))) pa_nil)) (pv 5)))))))))), ?_⟩
    refine (let U'7 : TS := _; let U'6 : TS := tSeq _ U'7; let U'5 : TS := tSeq _ U'6; let U'4 : TS := tSeq _ U'5; let U'3 : TS := tSeq _ U'4; let U'2 : TS := tSeq _ U'3; let U'1 : TS := tSeq _ U'2; (?_ : tSeq _ U'1 _ _ _))
    (refine εx2 (iw.items) fun wa us c'189 => εa3 c'189 fun e'188 hwa it => ?_; clear c'189; subst e'188)
    have a0 : atI (V.str (kd w) :: us) 0 = some (.str (kd w)) := (atI_nat (show (V.str (kd w) :: us)[0]? = some (V.str (kd w)) from rfl) : atI (V.str (kd w) :: us) ((0 : Nat) : Int) = _)
    refine (ιEAEEE _ rfl wa _ 0 (ιEAAAAEE (.str (kd w)) rfl rfl (SqT.of hwa) a0 aENDS ([.str "is", .str "not"]) ⟨rfl, .inr (tupK_sq tE H), rfl, rfl, _, rfl, ?_⟩))
    rw [in_ends w]
    rcases three w with ⟨h1, h2⟩ | ⟨x, rfl⟩ | h3
    · rw [show (isEnd w && !isName w) = true from by rw [h1, h2]; rfl]
      refine iteT (ιEAE _ rfl _ ⟨rfl, by show 1 ≤ sizeLine; decide, fun h hh => ⟨by show 2 ≤ sizeLine; decide, fun t ht => ⟨by show 1 ≤ sizeLine; decide, fun l hl => ?_⟩⟩⟩)
      refine εa4 (one_row (m := (k : Int)) iw hh ht hl) fun o1 o2 o3 o4 => ?_
      exact qy (loose_end h1 h2 _) l _ _ o1 o2 (by rw [rws_end h1 h2]; exact o3) o4
    · obtain ⟨wa', e1, hwa'⟩ := id iw
      cases e1
      have eus : us = [.str x] := by
        rw [hwa'] at hwa
        cases hwa
        rfl
      subst eus
      rw [show (isEnd (.name x) && !isName (.name x)) = false from rfl]
      refine iteF (ιEAEEE _ rfl wa _ 0 (ιEAAAAAE (.str "name") rfl rfl (SqT.of hwa) rfl rfl _ ⟨rfl, ?_⟩))
      rw [show decide (V.str "name" = V.str "name") = true from by decide +kernel]
      refine iteT (ιEAEAEE _ rfl _ rfl wa _ (ιEEAAAAEAE 1 (.str x) rfl rfl (SqT.of hwa) rfl _ rfl x (ιEEE a kvs e ⟨rfl, nm, ha, en, fun m hm => ?_, fun hm => qn (by unfold loose dom; rw [hm]; rfl) H (Same.refl _)⟩)))
      refine ⟨by show 1 ≤ sizeLine; decide, fun h hh => ⟨by show 2 ≤ sizeLine; decide, fun t ht => ⟨by show 1 ≤ sizeLine; decide, fun l hl => ?_⟩⟩⟩
      refine εa4 (one_row (m := (m : Int)) iw hh ht hl) fun o1 o2 o3 o4 => ?_
      exact qy (by unfold loose dom; rw [hm]; rfl) l _ _ o1 o2 (by unfold rws; rw [hm]; exact o3) o4
    · rw [show (isEnd w && !isName w) = false from by rw [h3]; rfl]
      refine iteF (ιEAEEE _ rfl wa _ 0 (ιEAAAAAE (.str (kd w)) rfl rfl (SqT.of hwa) a0 rfl _ ⟨rfl, ?_⟩))
      rw [eq_name w, not_name h3]
      refine iteF (ιEAEE _ rfl a kvs ⟨rfl, ha, fun D hD => ?_⟩)
      have sm1 : Same H (upd H D (.dK kvs)) := Same.upd hD
      have hD1 : upd H D (.dK kvs) D = some (.dK kvs) := upd_same
      generalize upd H D (.dK kvs) = H1 at sm1 hD1
      have hwa1 := sm1 wa _ hwa
      refine (let M'1 : St → Hp → Prop := fun σ' H' => ∃ kvs', σ' = [some (.ref wa), some (.int k), some (.ref a), some (.ref D), none, none, none] ∧ H' D = some (.dK kvs') ∧ EnvD kvs' (envOf e k w) ∧ kvs'.length ≤ kvs.length + 1 ∧ Same H H'; ⟨M'1, ?_, ?_⟩)
      · refine (ιEAEEE _ rfl wa _ 0 (ιEAAAAEE (.str (kd w)) rfl rfl (SqT.of hwa1) a0 aNAMERS ([.str "least", .str "most"]) ⟨rfl, .inr (tupK_sq tN H1), rfl, rfl, _, rfl, ?_⟩))
        rw [in_namer w]
        cases en' : isNamer w with
        | true =>
          (refine εx3 (isw_namer2 iw en') fun a' x b c'190 => εa3 c'190 fun e1 hb ep => ?_; clear c'190)
          cases e1
          refine iteT (ιEAEAEAE _ rfl _ rfl _ rfl wa (ιEEEAAAAE _ 1 (.str x) rfl rfl (SqT.of (sm1 wa _ hb)) rfl D ⟨_, rfl, .inl (ιEE kvs (Sum.inr x) ⟨hD1, rfl, by rw [sizeLine_eq]; exact ω137 hkl, rfl⟩), ?_⟩))
          exact ⟨_, rfl, upd_same, by rw [ep]; exact en.put x k, putK_len _ _ _, sm1.upd' hD⟩
        | false => exact iteF ⟨kvs, rfl, hD1, by rw [envOf_plain en']; exact en, by exact ω60, sm1⟩
      · (rintro σ1 H2 h'191; refine εx1 h'191 fun kvs' c'193 => εa5 c'193 fun e'192 hD2 en2 hkl2 sm2 => ?_; (try clear h'191); clear c'193; subst e'192)
        refine ⟨Nat.zero_le _, fun A hA => ⟨Nat.zero_le _, fun B hB => ?_⟩⟩
        have nAB : A ≠ B := ne_of_none upd_same hB
        have sm3 : Same H2 (upd (upd H2 A (.lst [])) B (.lst [])) := (Same.upd hA).trans (Same.upd hB)
        have hA3 : upd (upd H2 A (.lst [])) B (.lst []) A = some (.lst []) := by rw [upd_ne nAB]; exact upd_same
        have hB3 : upd (upd H2 A (.lst [])) B (.lst []) B = some (.lst []) := upd_same
        have fB : H2 B = none := by rw [upd_ne (Ne.symm nAB)] at hB; exact hB
        generalize upd (upd H2 A (.lst [])) B (.lst []) = H3 at sm3 hA3 hB3
        have smH3 : Same H H3 := sm2.trans sm3
        refine (ιEAEE _ rfl (.ref wa) w ⟨rfl, iw.tk smH3.tk, fun l vs' H4 hl hl4 hps sm4 => ?_⟩)
        have hA4 := sm4 A _ hA3
        have hB4 := sm4 B _ hB3
        have smH4 : Same H H4 := smH3.trans sm4
        have nlA : l ≠ A := fun z => by rw [z, hA3] at hl; cases hl
        have nlB : l ≠ B := fun z => by rw [z, hB3] at hl; cases hl
        have sm24 : Same H2 H4 := sm3.trans sm4
        have nDA : D ≠ A := ne_of_none hD2 hA
        have nDB : D ≠ B := ne_of_none hD2 fB
        have hD4 := sm24 D _ hD2
        refine ⟨l, rfl, ⟨_, SqL.of hl4⟩, for_list (xs := vs') (fun i σ H5 => ∃ (us : List V) (s6 : Option V), σ = [some (.ref wa), some (.int k), some (.ref a), some (.ref D), some (.ref A), some (.ref B), s6] ∧ (∀ b o, H4 b = some o → b ≠ A → b ≠ B → H5 b = some o) ∧ H5 A = some (.lst ((hds (k + 1) ((parts w).take i)).map V.int)) ∧ H5 B = some (.lst us) ∧ Paired (IsRow H4 H5) us (fltW (envOf e k w) (k + 1) ((parts w).take i)) ∧ ∀ p ∈ (parts w).take i, loose (domOf (dom e) w) p = false) ?_ ?_ ?_ ?_⟩
        · exact (ιEE ([]) none ⟨rfl, fun b o z _ _ => z, hA4, hB4, .nil, fun p hp => by simp at hp⟩)
        · (rintro i σ H5 _ h'194; refine εx2 h'194 fun _ _ c'195 => εa3 c'195 fun _ kp _ => ?_; (try clear h'194); clear c'195)
          exact SqL.of (kp l _ hl4 nlA nlB)
        · (rintro i x σ H5 hi h'196; refine εx2 h'196 fun us5 s6 c'198 => εa6 c'198 fun e'197 kp hA5 hB5 hus nl => ?_; (try clear h'196); clear c'198; subst e'197)
          obtain ⟨p, hpi, ip⟩ := paired_get hps hi
          have hpm := List.mem_of_getElem? hpi
          have hdp := dp_parts hpm
          have hsp := sg_part hpm
          obtain ⟨n', rfl⟩ : ∃ n', n = n' + 1 := ⟨n - 1, by exact ω12 hd hdp⟩
          have et : (parts w).take (i + 1) = (parts w).take i ++ [p] := by rw [List.take_add_one, hpi]; rfl
          have hul : us5.length = tot ((parts w).take i) := by rw [paired_len hus, fltW_len]
          have htt := tot_take w i
          have htt1 := tot_take w (i + 1)
          rw [et, tot_snoc] at htt1
          have hpl := parts_len w
          have hhl : ((hds (k + 1) ((parts w).take i)).map V.int).length ≤ 2 := by rw [List.length_map, hds_len, List.length_take]; exact ω74 hpl
          have hnum : ((k : Int) + 1 + ((us5.length : Nat) : Int)) = ((k + 1 + tot ((parts w).take i) : Nat) : Int) := by rw [hul]; exact ω138
          have nAB5 : A ≠ B := nAB
          unfold gName
          refine (ιEAAEAE _ rfl (.inl ⟨rfl, _, SqL.of hA5⟩) _ rfl _ (ιEAAEAE _ rfl rfl _ rfl B (ιEAAEE us5 rfl (.inl (SqL.of hB5)) _ _ ⟨rfl, rfl, ιEEE A _ _ ⟨rfl, rfl, hA5, (by rw [sizeLine_eq]; exact ω75 hhl), ?_⟩⟩)))
          dsimp only
          rw [hnum]
          have hA6 : upd H5 A (.lst ((hds (k + 1) ((parts w).take i)).map V.int ++ [V.int ((k + 1 + tot ((parts w).take i) : Nat) : Int)])) A = some (.lst ((hds (k + 1) ((parts w).take (i + 1))).map V.int)) := by
            rw [upd_same, et, hds_snoc, List.map_append]; rfl
          have ne6 : ∀ b, b ≠ A → upd H5 A (.lst ((hds (k + 1) ((parts w).take i)).map V.int ++ [V.int ((k + 1 + tot ((parts w).take i) : Nat) : Int)])) b = H5 b := fun b z => upd_ne z
          generalize upd H5 A (.lst ((hds (k + 1) ((parts w).take i)).map V.int ++ [V.int ((k + 1 + tot ((parts w).take i) : Nat) : Int)])) = H6 at hA6 ne6
          have hB6 : H6 B = some (.lst us5) := by rw [ne6 B (Ne.symm nAB)]; exact hB5
          have tk56 : TK H5 H6 := fun b xs z => by
            rw [ne6 b (fun y => by rw [y, hA5] at z; cases z)]
            exact z
          have tk45 : TK H4 H5 := fun b xs z => kp b _ z (fun y => by rw [y, hA4] at z; cases z) (fun y => by rw [y, hB4] at z; cases z)
          have hD6 : H6 D = some (.dK kvs') := by rw [ne6 D nDA]; exact kp D _ hD4 nDA nDB
          have sm26 : Same H2 H6 := fun b o z => by
            have n1 : b ≠ A := ne_of_none z hA
            rw [ne6 b n1]
            exact kp b o (sm24 b o z) n1 (ne_of_none z fB)
          refine (ιEAAEAE _ rfl (.inl ⟨rfl, _, SqL.of hB6⟩) _ rfl _ ⟨rfl, ιEEAAE _ _ rfl rfl _ ⟨rfl, ιEEAAEE B us5 rfl (.inl (SqL.of hB6)) _ _ ⟨rfl, rfl, ιEAEEE _ rfl x p (k + 1 + tot ((parts w).take i)) (ιEEE D kvs' (envOf e k w) ⟨(by show [x, V.int ((k : Int) + 1 + ((us5.length : Nat) : Int)), V.ref D] = _; rw [hnum]), (ip.tk tk45).tk tk56, by exact ω13 hdp hd, by exact ω139 hsg htt1, nmOk_parts nm hpm, .inl hD6, by exact ω76 hkl hkl2 hdp, en2, fun lp l' us' H7 hl' hl7 hus7 sm7 => ?_, fun lp H7 sm7 => ?_⟩)⟩⟩⟩)
          · have hlen7 : us'.length = sg p := by rw [paired_len hus7, rws_len]
            refine (ιEEEE B l' us5 us' ⟨rfl, rfl, sm7 B _ hB6, hl7, (by rw [sizeLine_eq]; exact ω140 hsg hul htt1 hlen7), ?_⟩)
            have n8 : ∀ b o, H6 b = some o → b ≠ B → upd H7 B (.lst (us5 ++ us')) b = some o := fun b o z y => by rw [upd_ne y]; exact sm7 b o z
            have t68 : TK H6 (upd H7 B (.lst (us5 ++ us'))) := fun b xs z => n8 b _ z (fun y => by rw [y, hB6] at z; cases z)
            refine (ιEE (us5 ++ us') _ ⟨rfl, fun b o z y1 y2 => n8 b o (by rw [ne6 b y1]; exact kp b o z y1 y2) y2, n8 A _ hA6 nAB, upd_same, ?_, ?_⟩)
            · rw [et, fltW_snoc]
              refine paired_append (Paired.mapP hus fun u r z => ?_) (Paired.mapP hus7 fun u r z => ?_)
              · (refine εx3 z fun t v h c'199 => εa5 c'199 fun e1 e2 e3 e4 e5 => ?_; (try clear z); clear c'199)
                have q1 : h ≠ A := fun y => by rw [y, hA4] at e5; cases e5
                have q2 : h ≠ B := fun y => by rw [y, hB4] at e5; cases e5
                exact (ιEEE t v h ⟨e1, t68 t _ (tk56 t _ e2), (e3.tk tk56).tk t68, n8 h _ (by rw [ne6 h q1]; exact e4) q2, e5⟩)
              · (refine εx3 z fun t v h c'200 => εa5 c'200 fun e1 e2 e3 e4 e5 => ?_; (try clear z); clear c'200)
                have q2 : h ≠ B := fun y => by rw [y, hB6] at e5; cases e5
                have q1 : h ≠ A := fun y => by rw [y, hA6] at e5; cases e5
                have t78 : TK H7 (upd H7 B (.lst (us5 ++ us'))) := fun b xs z => by
                  rw [upd_ne (fun y => by rw [y, sm7 B _ hB6] at z; cases z)]; exact z
                refine (ιEEE t v h ⟨e1, t78 t _ e2, e3.tk t78, by rw [upd_ne q2]; exact e4, ?_⟩)
                cases z4 : H4 h with
                | none => rfl
                | some o =>
                  have := kp h o z4 q1 q2
                  rw [← ne6 h q1, e5] at this
                  cases this
            · intro p' hp'
              rw [et] at hp'
              rcases List.mem_append.mp hp' with z | z
              · exact nl p' z
              · rw [List.mem_singleton.mp z, ← dom_envOf e k w]
                exact lp
          · refine qn ?_ H7 ((sm2.trans sm26).trans sm7)
            rw [loose_parts h3, List.any_eq_true]
            exact ⟨p, hpm, by rw [← dom_envOf e k w]; exact lp⟩
        · (rintro σ H5 h'201; refine εx2 h'201 fun us5 s6 c'203 => εa6 c'203 fun e'202 kp hA5 hB5 hus nl => ?_; (try clear h'201); clear c'203; subst e'202)
          have et : (parts w).take vs'.length = parts w := by rw [paired_len hps, List.take_length]
          rw [et] at hA5 hus nl
          have hul : us5.length = tot (parts w) := by rw [paired_len hus, fltW_len]
          have htt := tot_take w (parts w).length
          rw [List.take_length] at htt
          refine (ιEAE _ rfl _ ⟨rfl, by show 2 ≤ sizeLine; decide, fun t ht => ⟨by show 1 ≤ sizeLine; decide, fun l1 hl1 => (ιEAEEE _ rfl l1 B _ ⟨_, rfl, rfl, upd_same, (Same.upd hl1) B _ ((Same.upd ht) B _ hB5), (by rw [sizeLine_eq]; simp only [List.length_singleton]; exact ω141 hsg hul htt), fun l2 hl2 => ?_⟩)⟩⟩)
          have sm25 : Same H2 H5 := fun b o z => kp b o (sm24 b o z) (ne_of_none z hA) (ne_of_none z fB)
          have smt : Same H5 (upd H5 t (.tup [.ref wa, .ref A])) := Same.upd ht
          have htt5 : upd H5 t (.tup [.ref wa, .ref A]) t = some (.tup [.ref wa, .ref A]) := upd_same
          generalize upd H5 t (.tup [.ref wa, .ref A]) = H6 at smt htt5 hl1 hl2 ⊢
          have sm1' : Same H6 (upd H6 l1 (.lst [.ref t])) := Same.upd hl1
          generalize upd H6 l1 (.lst [.ref t]) = H7 at sm1' hl2 ⊢
          have sm2' : Same H7 (upd H7 l2 (.lst ([V.ref t] ++ us5))) := Same.upd hl2
          have hl8 : upd H7 l2 (.lst ([V.ref t] ++ us5)) l2 = some (.lst ([V.ref t] ++ us5)) := upd_same
          generalize upd H7 l2 (.lst ([V.ref t] ++ us5)) = H8 at sm2' hl8 ⊢
          have sm58 : Same H5 H8 := (smt.trans sm1').trans sm2'
          have smH5 : Same H H5 := sm2.trans sm25
          have smH8 : Same H H8 := smH5.trans sm58
          refine qy ?_ l2 _ H8 (((smH5.trans smt).trans sm1').free hl2) hl8 ?_ smH8
          · rw [loose_parts h3, List.any_eq_false]
            intro p hp
            rw [nl p hp]
            exact Bool.false_ne_true
          · rw [rws_parts h3]
            refine .cons (ιEEE t (.ref wa) A ⟨rfl, (sm1'.trans sm2') t _ htt5, iw.tk smH8.tk, sm58 A _ hA5, sm2.free hA⟩) (Paired.mapP hus fun u r z => ?_)
            (refine εx3 z fun t' v h c'204 => εa5 c'204 fun e1 e2 e3 e4 e5 => ?_; (try clear z); clear c'204)
            exact (ιEEE t' v h ⟨e1, sm58 t' _ e2, e3.tk sm58.tk, sm58 h _ e4, smH4.free e5⟩)
theorem ok_rowsof {f f1 f2 : Addr} {fd fd1 fd2 : FuncData} {C aENDS aNAMERS : Addr} (n : Nat) (F : Fun K "rows_of" "rows_of" sRowsOf f fd) (T : Txt mg) (gENDS : mg "ENDS" = some (.ref aENDS)) (tE : tupK K aENDS = some [.str "is", .str "not"]) (gNAMERS : mg "NAMERS" = some (.ref aNAMERS)) (tN : tupK K aNAMERS = some [.str "least", .str "most"])
    (G1 : FnOk P w K mg base CX0 1 f1 fd1 ["wish"] spPartsOf) (k1 : PySem.W.keepIn K (.ref f1) = true) (m1 : mg "parts_of" = some (.ref f1)) (b1 : Binds K fd1 ["wish"] [])
    (G2 : FnOk P w K mg base (CXE P w) 1 f2 fd2 ["name", "homes"] (spHome C)) (k2 : PySem.W.keepIn K (.ref f2) = true) (m2 : mg "home_of" = some (.ref f2)) (b2 : Binds K fd2 ["name", "homes"] [])
    (k3 : PySem.W.keepIn K (.ref f) = true) (m3 : mg "rows_of" = some (.ref f)) (b3 : Binds K fd ["wish", "number", "homes"] []) :
    FnOk P w K mg base (CXE P w) (1 + n + 1) f fd ["wish", "number", "homes"] (spRows C n) := by
  have go : ∀ n, FnOk P w K mg base (CXE P w) (1 + n) f fd ["wish", "number", "homes"] (spRowsR C n) := fun n => by
    induction n with
    | zero => exact ⟨fun _ _ _ _ h => h.elim, fun _ _ _ _ _ _ _ _ _ _ _ _ _ h => h.elim⟩
    | succ n ih => exact rows_body n F T gENDS tE gNAMERS tN G1 k1 m1 b1 G2 k2 m2 b2 ih k3 m3 b3
  exact rows_body n F T gENDS tE gNAMERS tN G1 k1 m1 b1 G2 k2 m2 b2 (go n) k3 m3 b3
end
end K18
namespace K18
open PySem L2 Gm
noncomputable abbrev nGameOf : List Str := ["game", "rows", "places", "place", "sign", "heads", "hand"]
theorem scGameOf : FnScope nGameOf ["game", "rows"] (defScope sGameOf) := ⟨rfl, rfl, rfl, by decide +kernel, rfl, by decide +kernel, by decide +kernel⟩
theorem in_one (w : Wish) : (if false = true then !inV (V.str (kd w)) [.str "and", .str "all"] else inV (V.str (kd w)) [.str "and", .str "all"]) = isOne w := by
  cases w <;> (simp only [kd, isOne]; decide +kernel)
noncomputable def spGameOf (n : Nat) : Sp := fun vs H Q _ => ∃ (gv : V) (g : List Pl) (l : Addr) (us : List V) (rs : List (Wish × List Int)) (H0 : Hp), vs = [gv, .ref l] ∧ IsGm H gv g ∧ (∀ p ∈ g, WfPl g.length p) ∧ g.length < 60 ∧ H l = some (.lst us) ∧ Paired (IsRow H0 H) us rs ∧ rs.length < 1000 ∧ (∀ r ∈ rs, r.2 ≠ [] ∧ r.2.length ≤ 2 ∧ dp r.1 ≤ n) ∧
  ∀ v H', IsGm H' v (gmOf g rs) → Same H H' → Q v H'
section
variable {P : Program} {w : World} {K : PySem.W.Frag} {mg : Str → Option Value} {base : Heap}
theorem ok_gameof {f f1 f2 : Addr} {fd fd1 fd2 : FuncData} {aOF_HAND_ONE : Addr} (n : Nat) (F : Fun K "game_of" "game_of" sGameOf f fd) (T : Txt mg) (gOF_HAND_ONE : mg "OF_HAND_ONE" = some (.ref aOF_HAND_ONE)) (tO : tupK K aOF_HAND_ONE = some [.str "and", .str "all"])
    (G1 : FnOk P w K mg base CX0 (1 + n + 2) f1 fd1 ["game", "place", "sign"] (spCrownOf n)) (k1 : PySem.W.keepIn K (.ref f1) = true) (m1 : mg "crown_of" = some (.ref f1)) (b1 : Binds K fd1 ["game", "place", "sign"] [])
    (G2 : FnOk P w K mg base CX0 1 f2 fd2 ["game", "place", "sign", "heads", "many"] spWaysOf) (k2 : PySem.W.keepIn K (.ref f2) = true) (m2 : mg "ways_of" = some (.ref f2)) (b2 : Binds K fd2 ["game", "place", "sign", "heads", "many"] []) :
    FnOk P w K mg base CX0 (1 + n + 3) f fd ["game", "rows"] (spGameOf n) := by
  refine F.ok scGameOf (fun vs H Q E h => ?_) (fun cdv A outer s H vs Q E hr h => ?_)
  · (refine εx5 h fun gv g l us rs c'206 => εx1 c'206 fun H0 c'207 => εa2 c'207 fun e'205 _ => ?_; (try clear h); clear c'206 c'207; subst e'205)
    rfl
  · (refine εx5 h fun gv g l us rs c'209 => εx1 c'209 fun H0 c'210 => εa9 c'210 fun e'208 ig wf hgl hl hrs hrl hrr q => ?_; (try clear h); clear c'209 c'210; subst e'208)
    have hu := hu_of hr
    have hu64 := hr.units
    refine (let X' : Cx := _; (?_ : ∃ t, PSs X' _ t ∧ _))
    refine ⟨_, pss_cons (ps_set (i := 2) scGameOf.nd rfl (Or.inl rfl) (pe_lst pa_nil))
      (pss_cons (ps_for PassesOwn.never rfl (pi_range1 rfl T.range (pa_cons (pe_callB call_len_seq rfl T.len PySem.boot_len (pa_cons (pv 0) pa_nil)) pa_nil)) (pg_name (i := 3) scGameOf.nd rfl (Or.inl rfl)) (pss_one (ps_for PassesOwn.never rfl (pi_list (pv 1)) (pg_tup (n := 2) rfl (pgs_cons (pg_name (i := 4) scGameOf.nd rfl (Or.inl rfl)) (pgs_cons (pg_name (i := 5) scGameOf.nd rfl (Or.inl rfl)) pgs_nil)) rfl) (pss_cons (ps_cut (ps_set (i := 6) scGameOf.nd rfl (Or.inl rfl) (pe_ifExp (pt_cmpR (op_in_seq) (pe_ix ix_tup (pv 4) pe_int (fun _ _ => rfl)) (pe_glob (v := .ref aOF_HAND_ONE) rfl gOF_HAND_ONE rfl) (by rfl)) pe_int pe_int)))
          (pss_one (ps_expr (pe_bm PySem.F.plainAttrs_list PySem.F.slot_list_append PySem.F.type_list_append mt_append (pv 2) (pa_cons (pe_tup (pa_cons (pv 6) (pa_cons (pe_call G1 (hr.mono (by exact ω61)) rfl m1 k1 b1 .nil pass0 (pa_cons (pv 0) (pa_cons (pv 3) (pa_cons (pv 4) pa_nil)))) (pa_cons (pe_call G2 (hr.mono (by exact ω142)) rfl m2 k2 b2 .nil pass0 (pa_cons (pv 0) (pa_cons (pv 3) (pa_cons (pv 4) (pa_cons (pv 5) (pa_cons (pe_callB call_len_seq rfl T.len PySem.boot_len (pa_cons (pv 1) pa_nil)) pa_nil)))))) pa_nil)))) pa_nil))))))))
      (pss_one (ps_ret (pe_callTy call_tuple_of rfl T.tuple PyProof.Rows.boot_tuple (pa_cons (pv 2) pa_nil))))), ?_⟩
    refine (let U'2 : TS := _; let U'1 : TS := tSeq _ U'2; (?_ : tSeq _ U'1 _ _ _))
    (refine εx2 (id ig) fun ga vs c'212 => εa3 c'212 fun e'211 hga hp => ?_; clear c'212; subst e'211)
    have hlv := paired_len hp
    have hlu := paired_len hrs
    refine ⟨Nat.zero_le _, fun R hR => ?_⟩
    have sm1 : Same H (upd H R (.lst [])) := Same.upd hR
    have hR1 : upd H R (.lst []) R = some (.lst []) := upd_same
    generalize upd H R (.lst []) = H1 at sm1 hR1
    refine (ιEAEEAAE _ rfl ga vs rfl (.inr (SqT.of (sm1 ga _ hga))) _ ⟨rfl, by exact ω1, by exact ω14 hgl hlv, for_range (n := ((vs.length : Nat) : Int).toNat) (fun i σ H2 => ∃ (us2 : List V) (s3 s4 s5 s6 : Option V), σ = [some (.ref ga), some (.ref l), some (.ref R), s3, s4, s5, s6] ∧ Same H H2 ∧ H2 R = some (.lst us2) ∧ Paired (IsPl H2) us2 (gTo g rs i)) ?_ ?_ ?_⟩)
    · exact (ιEEEE ([]) none none none ⟨none, rfl, sm1, hR1, .nil⟩)
    · (rintro i σ H2 hi h'213; refine εx5 h'213 fun us2 s3 s4 s5 s6 c'215 => εa4 c'215 fun e'214 sm2 hR2 hus2 => ?_; (try clear h'213); clear c'215; subst e'214)
      have hig : i < g.length := by exact ω19 hlv hi
      rw [show (0 : Int) + (i : Int) = ((i : Nat) : Int) by exact ω5]
      have hpi : g[i]? = some g[i] := List.getElem?_eq_getElem hig
      have wfp := wf g[i] (List.getElem_mem _)
      have gd : g.getD i (0, 0, []) = g[i] := by rw [List.getD_eq_getElem?_getD, hpi]; rfl
      generalize g[i] = p at hpi wfp gd
      have hwl := wf_len wfp
      refine (ιEAE _ rfl l ⟨rfl, ⟨_, SqL.of (sm2 l _ hl)⟩, for_list (xs := us) (fun j σ H3 => ∃ (us3 : List V) (s4 s5 s6 : Option V), σ = [some (.ref ga), some (.ref l), some (.ref R), some (.int i), s4, s5, s6] ∧ Same H H3 ∧ H3 R = some (.lst us3) ∧ Paired (IsPl H3) us3 (gTo g rs i ++ (rs.take j).map (gCell g rs.length i))) ?_ ?_ ?_ ?_⟩)
      · exact (ιEEEE us2 s4 s5 s6 ⟨rfl, sm2, hR2, by rw [List.take_zero, List.map_nil, List.append_nil]; exact hus2⟩)
      · (rintro j σ H3 _ h'216; refine εx4 h'216 fun _ _ _ _ c'217 => εa3 c'217 fun _ sm3 _ => ?_; (try clear h'216); clear c'217)
        exact SqL.of (sm3 l _ hl)
      · (rintro j x σ H3 hj h'218; refine εx4 h'218 fun us3 t4 t5 t6 c'220 => εa4 c'220 fun e'219 sm3 hR3 hus3 => ?_; (try clear h'218); clear c'220; subst e'219)
        (refine εx1 (paired_get hrs hj) fun r c'222 => εa2 c'222 fun hrj c'223 => εx3 c'223 fun t v h c'224 => εa5 c'224 fun e'221 ht iv hh _ => ?_; clear c'222 c'223 c'224; subst e'221)
        have hjl := get_lt hrj
        have hrm := List.mem_of_getElem? hrj
        obtain ⟨c1, c2, c3⟩ := hrr r hrm
        (refine εx2 ((iv.tk sm3.tk).items) fun wa uw c'226 => εa3 c'226 fun e'225 hwa it => ?_; clear c'226; subst e'225)
        have iv3 := iv.tk sm3.tk
        have a0 : atI (V.str (kd r.1) :: uw) 0 = some (.str (kd r.1)) := (atI_nat (show (V.str (kd r.1) :: uw)[0]? = some (V.str (kd r.1)) from rfl) : atI (V.str (kd r.1) :: uw) ((0 : Nat) : Int) = _)
        refine (ιEEAAAEE t _ rfl (SqT.of (sm3 t _ ht)) rfl _ _ ⟨rfl, ιEE _ _ ⟨rfl, rfl, ?_⟩⟩)
        refine ⟨fun σ' H' => σ' = [some (.ref ga), some (.ref l), some (.ref R), some (.int i), some (.ref wa), some (.ref h), some (.int (hndW r.1))] ∧ H' = H3, ?_, ?_⟩
        · refine (ιEAEEE _ rfl wa _ 0 (ιEAAAAEE (.str (kd r.1)) rfl rfl (SqT.of hwa) a0 aOF_HAND_ONE ([.str "and", .str "all"]) ⟨rfl, .inr (tupK_sq tO H3), rfl, rfl, _, rfl, ?_⟩))
          rw [in_one r.1]
          unfold hndW
          cases isOne r.1
          · exact iteF ⟨rfl, rfl⟩
          · exact iteT ⟨rfl, rfl⟩
        · rintro σ' H' ⟨rfl, rfl⟩
          have hul3 := paired_len hus3
          rw [List.length_append, gTo_len, List.length_map, List.length_take] at hul3
          have hmul : i * rs.length ≤ 60 * 1000 := Nat.mul_le_mul (by exact ω77 hgl hig) (by exact ω143 hrl)
          refine (ιEAAEAE _ rfl (.inl ⟨rfl, _, SqL.of hR3⟩) _ rfl _ ⟨rfl, ιEAEAEE _ rfl _ rfl (.ref ga) g (ιEEEE i p (.ref wa) r.1 ⟨rfl, ig.tk sm3.tk, hpi, iv3, c3, fun H4 sm4 => ?_⟩)⟩)
          have sm34 := sm3.trans sm4
          refine (ιEAEAEAE _ rfl _ rfl _ rfl _ ⟨rfl, ιEAEEAAE _ rfl l us rfl (.inl (SqL.of (sm34 l _ hl))) (.ref ga) (ιEEEE g i p (.ref wa) (ιEEEE r.1 h r.2 us.length ⟨rfl, ig.tk sm34.tk, hpi, fun x hx => ?_, by exact ω52 hgl hwl, by exact ω144 hgl hig, by exact ω145 hrl hlu, iv3.tk sm4.tk, sm34 h _ hh, c1, by exact ω146 c2, fun wt H5 hwt hwt5 sm5 => ?_⟩))⟩)
          · have := wfp.inn x hx
            exact ω78 hgl this
          · refine ⟨by show 3 ≤ sizeLine; decide, fun t2 ht2 => ?_⟩
            have sm6 : Same H5 (upd H5 t2 (.tup [.int (hndW r.1), .int (crn p.2.1 r.1), .ref wt])) := Same.upd ht2
            have ht6 : upd H5 t2 (.tup [.int (hndW r.1), .int (crn p.2.1 r.1), .ref wt]) t2 = some (.tup [.int (hndW r.1), .int (crn p.2.1 r.1), .ref wt]) := upd_same
            generalize upd H5 t2 (.tup [.int (hndW r.1), .int (crn p.2.1 r.1), .ref wt]) = H6 at sm6 ht6
            have sm36 := (sm4.trans sm5).trans sm6
            have hR6 := sm36 R _ hR3
            refine (ιEEE R _ _ ⟨rfl, rfl, hR6, (by rw [sizeLine_eq]; exact ω147 hrl hul3 hmul), ?_⟩)
            have tk7 : TK H6 (upd H6 R (.lst (us3 ++ [V.ref t2]))) := fun b xs z => by
              rw [upd_ne (fun y => by rw [y, hR6] at z; cases z)]; exact z
            refine (ιEEEE (us3 ++ [V.ref t2]) _ _ _ ⟨rfl, (sm3.trans sm36).upd' hR, upd_same, ?_⟩)
            rw [List.take_add_one, hrj, List.map_append, ← List.append_assoc]
            refine Paired.snoc (pls_tk (pls_tk hus3 sm36.tk) tk7) (ιEE t2 wt ⟨rfl, tk7 _ _ ?_, tk7 _ _ ?_⟩)
            · unfold gCell
              rw [gd]
              exact ht6
            · unfold gCell
              rw [gd, ← hlu]
              exact sm6 wt _ hwt5
      · (rintro σ H3 h'227; refine εx4 h'227 fun us3 t4 t5 t6 c'229 => εa4 c'229 fun e'228 sm3 hR3 hus3 => ?_; (try clear h'227); clear c'229; subst e'228)
        refine (ιEEEE us3 _ _ _ ⟨_, rfl, sm3, hR3, ?_⟩)
        rw [hlu, List.take_length] at hus3
        rw [gTo_succ]
        exact hus3
    · (rintro σ H2 h'230; refine εx5 h'230 fun us2 s3 s4 s5 s6 c'232 => εa4 c'232 fun e'231 sm2 hR2 hus2 => ?_; (try clear h'230); clear c'232; subst e'231)
      rw [show ((vs.length : Nat) : Int).toNat = g.length by exact ω6 hlv] at hus2
      refine (ιEAEE _ rfl R us2 ⟨rfl, .inl ⟨SqL.of hR2, fun t ht => ?_⟩⟩)
      exact q _ _ (ιEE t us2 ⟨rfl, upd_same, pls_tk hus2 (Same.upd ht).tk⟩) (sm2.upd' (sm2.free ht))
end
end K18
namespace K18
open PySem L2 Gm
noncomputable abbrev nHoldsF : List Str := ["game", "wish", "rows", "hands"]
theorem scHoldsF : FnScope nHoldsF ["game", "wish"] (defScope sHoldsF) := ⟨rfl, rfl, rfl, by decide +kernel, rfl, by decide +kernel, by decide +kernel⟩
noncomputable abbrev nWishGame : List Str := ["game", "wish", "rows"]
theorem scWishGame : FnScope nWishGame ["game", "wish"] (defScope sWishGame) := ⟨rfl, rfl, rfl, by decide +kernel, rfl, by decide +kernel, by decide +kernel⟩
noncomputable def spWishGame (C4 C6 : Addr) (n : Nat) : Sp := fun vs H Q E => ∃ (gv : V) (g : List Pl) (v : V) (w : Wish), vs = [gv, v] ∧ IsGm H gv g ∧ (∀ p ∈ g, WfPl g.length p) ∧ g.length < 60 ∧ IsW H v w ∧ dp w ≤ n ∧ dp w < 900 ∧ sg w < 1000 ∧ nmOk w ∧
  (loose (dom e0) w = true → ∀ H', Same H H' → E (.ref C6) none H') ∧
  (loose (dom e0) w = false → 24 < g.length * sg w → ∀ H', Same H H' → E (.ref C4) none H') ∧
  (loose (dom e0) w = false → g.length * sg w ≤ 24 → ∀ v' H', IsGm H' v' (gmOf g (rws e0 0 w)) → Same H H' → Q v' H')
noncomputable def spHoldsL (C6 : Addr) (n : Nat) : Sp := fun vs H _ E => ∃ (gv v : V) (w : Wish), vs = [gv, v] ∧ IsW H v w ∧ dp w ≤ n ∧ dp w < 900 ∧ sg w < 1000 ∧ nmOk w ∧ loose (dom e0) w = true ∧ ∀ H', Same H H' → E (.ref C6) none H'
theorem envd_nil : EnvD [] e0 := fun _ => rfl
section
variable {P : Program} {w : World} {K : PySem.W.Frag} {mg : Str → Option Value} {base : Heap}
theorem ok_wishgame {f f1 f2 : Addr} {fd fd1 fd2 : FuncData} {C4 C6 : Addr} {mt : Tok} (n : Nat) (F : Fun K "wish_game" "wish_game" sWishGame f fd) (T : Txt mg) (R4 : Ref K mg "TooMany" C4) (mM : mg "MOST" = some (.int 24 mt))
    (G1 : FnOk P w K mg base (CXE P w) (1 + n + 1) f1 fd1 ["wish", "number", "homes"] (spRows C6 n)) (k1 : PySem.W.keepIn K (.ref f1) = true) (m1 : mg "rows_of" = some (.ref f1)) (b1 : Binds K fd1 ["wish", "number", "homes"] [])
    (G2 : FnOk P w K mg base CX0 (1 + n + 3) f2 fd2 ["game", "rows"] (spGameOf n)) (k2 : PySem.W.keepIn K (.ref f2) = true) (m2 : mg "game_of" = some (.ref f2)) (b2 : Binds K fd2 ["game", "rows"] []) :
    FnOk P w K mg base (CXE P w) (1 + n + 4) f fd ["game", "wish"] (spWishGame C4 C6 n) := by
  refine F.okX scWishGame (fun vs H Q E h => ?_) (fun cdv A outer s H vs Q E hr h => ?_)
  · (refine εx4 h fun gv g v w c'234 => εa2 c'234 fun e'233 _ => ?_; (try clear h); clear c'234; subst e'233)
    rfl
  · (refine εx4 h fun gv g v w c'236 => εa10 c'236 fun e'235 ig wf hgl iw hd hd9 hsg nm c'237 => εa3 c'237 fun ql qm qy => ?_; (try clear h); clear c'236 c'237; subst e'235)
    have hu := hu_of hr
    have hu64 := hr.units
    refine (let X' : Cx := _; (?_ : ∃ t, PSs X' _ t ∧ _))
    refine ⟨_, pss_cons (ps_set (i := 2) scWishGame.nd rfl (Or.inl rfl) (pe_call G1 (hr.mono (by exact ω370)) rfl m1 k1 b1 .nil (passX (E' := E) fun _ _ z => z) (pa_cons (pv 1) (pa_cons pe_int (pa_cons pe_dnewK pa_nil)))))
      (pss_cons (ps_if (pt_cmpR op_gt (pe_op op_mul (pe_callB call_len_seq rfl T.len PySem.boot_len (pa_cons (pv 0) pa_nil)) (pe_callB call_len_seq rfl T.len PySem.boot_len (pa_cons (pv 2) pa_nil))) (pe_glob (v := .int 24) rfl mM ⟨_, rfl⟩) (nomark _)) (pss_one (ps_raise rfl R4.m R4.e PySem.F.excBase_ValueError (by decide +kernel) PySem.F.excBase_ValueError (pa_cons (pe_fstr (pj_cons pe_str (pj_cons (pe_fmtI (pe_glob (v := .int 24) rfl mM ⟨_, rfl⟩)) (pj_cons pe_str pj_nil)))) pa_nil))) pss_nil)
      (pss_one (ps_ret (pe_call G2 (hr.mono (by exact ω371)) rfl m2 k2 b2 .nil pass0 (pa_cons (pv 0) (pa_cons (pv 2) pa_nil)))))), ?_⟩
    refine (let U'2 : TS := _; let U'1 : TS := tSeq _ U'2; (?_ : tSeq _ U'1 _ _ _))
    (refine εx2 (id ig) fun ga vs c'243 => εa3 c'243 fun e'242 hga hp => ?_; clear c'243; subst e'242)
    have hlv := paired_len hp
    refine ⟨_, rfl, fun D hD => ?_⟩
    have sm1 : Same H (upd H D (.dK [])) := Same.upd hD
    have hD1 : upd H D (.dK []) D = some (.dK []) := upd_same
    generalize upd H D (.dK []) = H1 at sm1 hD1
    refine (ιEEEE v w 0 D (ιEE ([]) e0 ⟨rfl, iw.tk sm1.tk, hd, hsg, nm, .inl hD1, by simp; exact ω48 hd9, envd_nil, fun lo l us H2 hl hl2 hus sm2 => ?_, fun lo H2 sm2 => ql lo H2 (sm1.trans sm2)⟩))
    have hul : us.length = sg w := by rw [paired_len hus, rws_len]
    have sm12 := sm1.trans sm2
    refine (ιEAEEAAE _ rfl ga vs rfl (.inr (SqT.of (sm12 ga _ hga))) _ ⟨rfl, ιEEAAEE l us rfl (.inl (SqL.of hl2)) _ _ ⟨rfl, rfl, .inl ⟨by exact ω34, by exact ω372 hgl hlv⟩, ιEEAAE _ _ rfl rfl _ ⟨rfl, ?_⟩⟩⟩)
    rw [hul, hlv]
    by_cases big : 24 < g.length * sg w
    · rw [show decide ((24 : Int) < ((g.length : Nat) : Int) * ((sg w : Nat) : Int)) = true from decide_eq_true (by exact_mod_cast big)]
      have l1 : (Str.empty ++ Str.ofString "the game of the wish would have more than ").length ≤ sizeLine := by decide
      have l2 : (Str.empty ++ Str.ofString "the game of the wish would have more than " ++ Str.ofString (toString (24 : Int))).length ≤ sizeLine := by decide
      have l3 : (Str.empty ++ Str.ofString "the game of the wish would have more than " ++ Str.ofString (toString (24 : Int)) ++ Str.ofString " places").length ≤ sizeLine := by decide
      exact iteT (ιEAAE _ rfl l1 _ ⟨rfl, by decide, ιEAAE _ rfl l2 _ ⟨rfl, l3, l3, by show 1 ≤ sizeLine; decide, qm lo big H2 sm12⟩⟩)
    · rw [show decide ((24 : Int) < ((g.length : Nat) : Int) * ((sg w : Nat) : Int)) = false from decide_eq_false (by exact_mod_cast big)]
      refine iteF (ιEAEAEE _ rfl _ rfl (.ref ga) g (ιEEEE l us (rws e0 0 w) H1 ⟨rfl, ig.tk sm12.tk, wf, hgl, hl2, hus, by rw [rws_len]; exact ω159 hsg, fun r hr' => ?_, fun v' H3 g3 sm3 => ?_⟩))
      · have a1 := rws_ne w e0 0 r hr'
        have a2 := rws_dp w e0 0 r hr'
        exact ⟨a1.1, a1.2, by exact ω22 hd a2⟩
      · exact qy lo (by exact ω373 big) v' H3 g3 (sm12.trans sm3)
theorem ok_holdsl {f f1 : Addr} {fd fd1 : FuncData} {C6 : Addr} (n : Nat) (F : Fun K "holds" "holds" sHoldsF f fd) (T : Txt mg)
    (G1 : FnOk P w K mg base (CXE P w) (1 + n + 1) f1 fd1 ["wish", "number", "homes"] (spRows C6 n)) (k1 : PySem.W.keepIn K (.ref f1) = true) (m1 : mg "rows_of" = some (.ref f1)) (b1 : Binds K fd1 ["wish", "number", "homes"] []) :
    FnOk P w K mg base (CXE P w) (1 + n + 2) f fd ["game", "wish"] (spHoldsL C6 n) := by
  refine F.okX scHoldsF (fun vs H Q E h => ?_) (fun cdv A outer s H vs Q E hr h => ?_)
  · (refine εx3 h fun gv v w c'239 => εa2 c'239 fun e'238 _ => ?_; (try clear h); clear c'239; subst e'238)
    rfl
  · (refine εx3 h fun gv v w c'241 => εa8 c'241 fun e'240 iw hd hd9 hsg nm lo ql => ?_; (try clear h); clear c'241; subst e'240)
    have hu := hu_of hr
    refine ⟨_, pss_cons (ps_set (i := 2) scHoldsF.nd rfl (Or.inr rfl) (pe_call G1 (hr.mono (by exact ω39)) rfl m1 k1 b1 .nil (passX (E' := E) fun _ _ z => z) (pa_cons (pv 1) (pa_cons pe_int (pa_cons pe_dnewK pa_nil))))) pss_never, ?_⟩
    refine ⟨_, rfl, fun D hD => ?_⟩
    have sm1 : Same H (upd H D (.dK [])) := Same.upd hD
    have hD1 : upd H D (.dK []) D = some (.dK []) := upd_same
    generalize upd H D (.dK []) = H1 at sm1 hD1
    exact (ιEEEE v w 0 D (ιEE ([]) e0 ⟨rfl, iw.tk sm1.tk, hd, hsg, nm, .inl hD1, by simp; exact ω48 hd9, envd_nil, (fun lo' => by rw [lo] at lo'; cases lo'), fun lo H2 sm2 => ql H2 (sm1.trans sm2)⟩))
end
end K18
namespace K18
open PySem L2 Gm
noncomputable abbrev nLay : List Str := ["wish", "names", "found", "at", "part"]
theorem scLay : FnScope nLay ["wish", "names", "found"] (defScope sLay) := ⟨rfl, rfl, rfl, by decide +kernel, rfl, by decide +kernel, by decide +kernel⟩
theorem lcLay1 : LcOk (defScope sLay) nLay ["pair", "wish"] [none, some 0] (mkSc [(".0", .local), ("pair", .local), ("wish", .free)]) :=
  ⟨rfl, by decide +kernel, by decide +kernel, by decide +kernel, by decide +kernel, rfl, by decide +kernel⟩
noncomputable def envN (ns : List (Str × Nat)) : WEnv := fun x => ((ns.filter fun q => decide (q.1 = x)).getLast?).map (·.2)
theorem envN_snoc (ns : List (Str × Nat)) (x : Str) (n : Nat) : envN (ns ++ [(x, n)]) = put (envN ns) x n := by
  funext y
  unfold envN put
  rw [List.filter_append]
  by_cases h : x = y
  · rw [if_pos h.symm, List.filter_cons_of_pos (by simp [h])]
    simp
  · rw [if_neg (fun z => h z.symm), List.filter_cons_of_neg (by simp [h])]
    simp
theorem envN_last {ns : List (Str × Nat)} {x : Str} (h : dom (envN ns) x = true) : ∃ pre q, (ns.filter fun q => decide (q.1 = x)) = pre ++ [q] ∧ envN ns x = some q.2 := by
  unfold dom envN at h
  unfold envN
  generalize (ns.filter fun q => decide (q.1 = x)) = l at h ⊢
  cases e : l.getLast? with
  | none => rw [e] at h; cases h
  | some q =>
    obtain ⟨pre, hpre⟩ := List.getLast?_eq_some_iff.mp e
    exact (ιEE pre q ⟨hpre, rfl⟩)
noncomputable def IsNm (H : Hp) (u : V) (q : Str × Nat) : Prop := ∃ t, u = .ref t ∧ H t = some (.tup [.str q.1, .int (q.2 : Nat)])
noncomputable def IsLd (H0 H : Hp) (u : V) (r : Wish × List Int) : Prop := ∃ a v h, u = .ref a ∧ H a = some (.lst [v, .ref h]) ∧ IsW H v r.1 ∧ H h = some (.lst (r.2.map V.int)) ∧ H0 a = none ∧ H0 h = none
noncomputable def IsLdX (x : Addr) (H0 H : Hp) (u : V) (r : Wish × List Int) : Prop := ∃ a v h, u = .ref a ∧ H a = some (.lst [v, .ref h]) ∧ IsW H v r.1 ∧ H h = some (.lst (r.2.map V.int)) ∧ H0 a = none ∧ H0 h = none ∧ a ≠ x ∧ h ≠ x
noncomputable def hd1 (e : WEnv) (n : Nat) : Wish → List Int
  | .name x => [(((e x).getD 0 : Nat) : Int)]
  | _ => [(n : Int)]
theorem rws_isEnd {w : Wish} (h : isEnd w = true) (e : WEnv) (n : Nat) : rws e n w = [(w, hd1 e n w)] := by
  cases w <;> first | rfl | cases h
theorem hd1_part {w : Wish} (h : isEnd w = false) (e : WEnv) (n : Nat) : hd1 e n w = [(n : Int)] := by
  cases w <;> first | rfl | cases h
theorem nend_of {w p : Wish} (h : p ∈ parts w) : isEnd w = false := by
  cases w <;> first | rfl | simp [parts] at h
theorem shaped_intsW (ns : List Int) : SeqAt.shaped (.list (ns.map PyData.int)) = true := by
  have h1 := can_ints ns
  have h2 : ∀ ns : List Int, PyData.depthAll (ns.map PyData.int) ≤ 1 := fun ns => by
    induction ns with
    | nil => simp [PyData.depthAll]
    | cons a r ih =>
      simp [PyData.depthAll, PyData.depth]
      try exact ω45 ih
  have h2 := h2 ns
  unfold SeqAt.shaped
  rw [Bool.and_eq_true, decide_eq_true_eq]
  refine ⟨by simp [PyData.canLay0, h1], ?_⟩
  simp only [PyData.depth]
  exact ω47 h2
theorem hds_ne {n : Nat} {l : List Wish} (h : l ≠ []) : hds (n + 1) l ≠ [(n : Int)] := by
  cases l with
  | nil => exact absurd rfl h
  | cons p r =>
    intro z
    have := List.head_eq_of_cons_eq z
    exact ω235 this
noncomputable def spLay (n : Nat) : Sp := fun vs H Q _ => ∃ (v : V) (w : Wish) (N : Addr) (nus : List V) (ns : List (Str × Nat)) (F : Addr) (us : List V), vs = [v, .ref N, .ref F] ∧ IsW H v w ∧ dp w ≤ n ∧ sg w + us.length < 1000 ∧ loose (dom (envN ns)) w = false ∧ H N = some (.lst nus) ∧ N ≠ F ∧ Paired (IsNm H) nus ns ∧ ns.length + dp w < 1000 ∧ H F = some (.lst us) ∧
  ∀ (us' : List V) (H' : Hp), H' F = some (.lst (us ++ us')) → Paired (IsLd H H') us' (rws (envN ns) us.length w) → (∀ b o, H b = some o → b ≠ F → H' b = some o) → Q .non H'
noncomputable def spLayR : Nat → Sp
  | 0 => fun _ _ _ _ => False
  | n + 1 => spLay n
section
variable {P : Program} {w : World} {K : PySem.W.Frag} {mg : Str → Option Value} {base : Heap}
theorem lay_body {f f1 : Addr} {fd fd1 : FuncData} (n : Nat) (F : Fun K "_law_lay" "_law_lay" sLay f fd) (T : Txt mg)
    (G1 : FnOk P w K mg base CX0 1 f1 fd1 ["wish"] spPartsOf) (k1 : PySem.W.keepIn K (.ref f1) = true) (m1 : mg "_law_parts" = some (.ref f1)) (b1 : Binds K fd1 ["wish"] [])
    (G2 : FnOk P w K mg base CX0 (1 + n) f fd ["wish", "names", "found"] (spLayR n)) (k2 : PySem.W.keepIn K (.ref f) = true) (m2 : mg "_law_lay" = some (.ref f)) (b2 : Binds K fd ["wish", "names", "found"] []) :
    FnOk P w K mg base CX0 (1 + n + 1) f fd ["wish", "names", "found"] (spLay n) := by
  refine F.ok scLay (fun vs H Q E h => ?_) (fun cdv A outer s H vs Q E hr h => ?_)
  · (refine εx5 h fun v w N nus ns c'245 => εx2 c'245 fun F us c'246 => εa2 c'246 fun e'244 _ => ?_; (try clear h); clear c'245 c'246; subst e'244)
    rfl
  · (refine εx5 h fun v w N nus ns c'248 => εx2 c'248 fun F us c'249 => εa10 c'249 fun e'247 iw hd hsz lo hN nNF hnm hnl c'250 => εa2 c'250 fun hF q => ?_; (try clear h); clear c'248 c'249 c'250; subst e'247)
    have hu := hu_of hr
    have hu64 := hr.units
    refine (let X' : Cx := _; (?_ : ∃ t, PSs X' _ t ∧ _))
    refine ⟨_, pss_cons (ps_set (i := 3) scLay.nd rfl (Or.inl rfl) (pe_callB call_len_seq rfl T.len PySem.boot_len (pa_cons (pv 2) pa_nil)))
      (pss_cons (ps_expr (pe_bm PySem.F.plainAttrs_list PySem.F.slot_list_append PySem.F.type_list_append mt_append (pv 2) (pa_cons (pe_lst (pa_cons (pv 0) (pa_cons (pe_lst (pa_cons (pv 3) pa_nil)) pa_nil))) pa_nil)))
      (pss_cons (ps_cut (ps_if (pt_cmpR op_eq (pe_ix ix_tup (pv 0) pe_int (fun _ _ => rfl)) pe_str (nomark _)) (pss_one (ps_asg (pe_lst (pa_cons (pe_ix ix_list (pe_lc rfl lcLay1 (pi_list (pv 1)) (fun cl C ex s H => ⟨(pg_name (i := 0) lcLay1.nd rfl (Or.inl rfl)), (pif_one (pt_cmpR op_eq (pe_ix (ix_tupK K rfl) (pv 0) pe_int (fun _ _ => rfl)) (pe_ix (ix_tupK K rfl) (pv 1) pe_int (fun _ _ => rfl)) (nomark _))), (pe_ix (ix_tupK K rfl) (pv 0) pe_int (fun _ _ => rfl))⟩)) (pe_un un_neg pe_int) (fun _ _ => rfl)) pa_nil)) (pg_sub (pe_ix ix_list (pv 2) (pv 3) (fun _ _ => rfl)) pe_int set_list))) pss_nil))
      (pss_cons (ps_cut (ps_if (pt_cmpR (op_in_seq) (pe_ix ix_tup (pv 0) pe_int (fun _ _ => rfl)) (pe_tup (pa_cons pe_str (pa_cons pe_str pa_nil))) (by rfl)) (pss_one (ps_set (i := 1) scLay.nd rfl (Or.inl rfl) (pe_op op_cat (pv 1) (pe_lst (pa_cons (pe_tup (pa_cons (pe_ix ix_tup (pv 0) pe_int (fun _ _ => rfl)) (pa_cons (pv 3) pa_nil))) pa_nil))))) pss_nil))
      (pss_one (ps_for PassesOwn.never rfl (pi_list (pe_call G1 (hr.mono (by exact ω11)) rfl m1 k1 b1 .nil pass0 (pa_cons (pv 0) pa_nil))) (pg_name (i := 4) scLay.nd rfl (Or.inl rfl)) (pss_cons (ps_cut (ps_if (pt_cmpR (op_eqD hu64) (pe_ix ix_list (pe_ix ix_list (pv 2) (pv 3) (fun _ _ => rfl)) pe_int (fun _ _ => rfl)) (pe_lst (pa_cons (pv 3) pa_nil)) (nomark _)) (pss_one (ps_asg (pe_lst pa_nil) (pg_sub (pe_ix ix_list (pv 2) (pv 3) (fun _ _ => rfl)) pe_int set_list))) pss_nil))
        (pss_cons (ps_expr (pe_bm PySem.F.plainAttrs_list PySem.F.slot_list_append PySem.F.type_list_append mt_append (pe_ix ix_list (pe_ix ix_list (pv 2) (pv 3) (fun _ _ => rfl)) pe_int (fun _ _ => rfl)) (pa_cons (pe_callB call_len_seq rfl T.len PySem.boot_len (pa_cons (pv 2) pa_nil)) pa_nil)))
        (pss_one (ps_expr (pe_call G2 (hr.mono (by exact ω21)) rfl m2 k2 b2 .nil pass0 (pa_cons (pv 4) (pa_cons (pv 1) (pa_cons (pv 2) pa_nil))))))))))))), ?_⟩
    refine (let U'4 : TS := _; let U'3 : TS := tSeq _ U'4; let U'2 : TS := tSeq _ U'3; let U'1 : TS := tSeq _ U'2; (?_ : tSeq _ U'1 _ _ _))
    (refine εx2 (iw.items) fun wa ut c'252 => εa3 c'252 fun e'251 hwa it => ?_; clear c'252; subst e'251)
    have hwF : wa ≠ F := fun z => by rw [z, hF] at hwa; cases hwa
    have a0 : atI (V.str (kd w) :: ut) 0 = some (.str (kd w)) := (atI_nat (show (V.str (kd w) :: ut)[0]? = some (V.str (kd w)) from rfl) : atI (V.str (kd w) :: ut) ((0 : Nat) : Int) = _)
    have hsp := sg_pos w
    have hpl := parts_len w
    refine (ιEAEE _ rfl F us ⟨rfl, .inl (SqL.of hF), ?_⟩)
    refine (ιEAAEAE _ rfl (.inl ⟨rfl, _, SqL.of hF⟩) _ rfl _ ⟨rfl, by show 1 ≤ sizeLine; decide, fun h0 hh0 => ⟨by show 2 ≤ sizeLine; decide, fun Ea hEa => ?_⟩⟩)
    have nEh : Ea ≠ h0 := fun z => by rw [z, upd_same] at hEa; cases hEa
    have fEa : H Ea = none := by rw [upd_ne nEh] at hEa; exact hEa
    have nFh : F ≠ h0 := ne_of_none hF hh0
    have nFE : F ≠ Ea := ne_of_none hF fEa
    have hF2 : upd (upd H h0 (.lst [.int (us.length : Nat)])) Ea (.lst [.ref wa, .ref h0]) F = some (.lst us) := by rw [upd_ne nFE, upd_ne nFh]; exact hF
    refine (ιEEE F _ _ ⟨rfl, rfl, hF2, (by rw [sizeLine_eq]; exact ω236 hsz), ?_⟩)
    have fr3 : ∀ b o, H b = some o → b ≠ F → upd (upd (upd H h0 (.lst [.int (us.length : Nat)])) Ea (.lst [.ref wa, .ref h0])) F (.lst (us ++ [.ref Ea])) b = some o := fun b o z y => by
      rw [upd_ne y, upd_ne (ne_of_none z fEa), upd_ne (ne_of_none z hh0)]; exact z
    have hF3 : upd (upd (upd H h0 (.lst [.int (us.length : Nat)])) Ea (.lst [.ref wa, .ref h0])) F (.lst (us ++ [.ref Ea])) F = some (.lst (us ++ [.ref Ea])) := upd_same
    have hE3 : upd (upd (upd H h0 (.lst [.int (us.length : Nat)])) Ea (.lst [.ref wa, .ref h0])) F (.lst (us ++ [.ref Ea])) Ea = some (.lst [.ref wa, .ref h0]) := by rw [upd_ne (Ne.symm nFE), upd_same]
    have hh3 : upd (upd (upd H h0 (.lst [.int (us.length : Nat)])) Ea (.lst [.ref wa, .ref h0])) F (.lst (us ++ [.ref Ea])) h0 = some (.lst ([((us.length : Nat) : Int)].map V.int)) := by rw [upd_ne (Ne.symm nFh), upd_ne (Ne.symm nEh), upd_same]; rfl
    generalize upd (upd (upd H h0 (.lst [.int (us.length : Nat)])) Ea (.lst [.ref wa, .ref h0])) F (.lst (us ++ [.ref Ea])) = H3 at fr3 hF3 hE3 hh3
    have tkF : ∀ H' : Hp, (∀ b o, H b = some o → b ≠ F → H' b = some o) → TK H H' := fun H' fr b xs z => fr b _ z (fun y => by rw [y, hF] at z; cases z)
    have atF : ∀ r : List V, atI (us ++ V.ref Ea :: r) ((us.length : Nat) : Int) = some (.ref Ea) := fun r => atI_nat (by simp)
    have atF0 : atI (us ++ [V.ref Ea]) ((us.length : Nat) : Int) = some (.ref Ea) := atF []
    refine (let M'2 : St → Hp → Prop := fun σ' H' => ∃ hh, σ' = [some (.ref wa), some (.ref N), some (.ref F), some (.int (us.length : Nat)), none] ∧ H' F = some (.lst (us ++ [.ref Ea])) ∧ H' Ea = some (.lst [.ref wa, .ref hh]) ∧ H' hh = some (.lst ((hd1 (envN ns) us.length w).map V.int)) ∧ H hh = none ∧ Ea ≠ hh ∧ F ≠ hh ∧ ∀ b o, H b = some o → b ≠ F → H' b = some o; ⟨M'2, ?_, ?_⟩)
    · refine (ιEAEEE _ rfl wa _ 0 (ιEAAAAAE (.str (kd w)) rfl rfl (SqT.of (fr3 wa _ hwa hwF)) a0 rfl _ ⟨rfl, ?_⟩))
      rw [eq_name w]
      by_cases hw : isName w = true
      · obtain ⟨x, rfl⟩ : ∃ x, w = .name x := by
          rcases three w with ⟨_, z⟩ | z | z
          · rw [hw] at z; cases z
          · exact z
          · rw [not_name z] at hw; cases hw
        rw [hw]
        obtain ⟨wa', e1, hwa'⟩ := id iw
        cases e1
        have eut : ut = [.str x] := by
          rw [hwa'] at hwa
          cases hwa
          rfl
        subst eut
        (refine εx2 (envN_last (ns := ns) (x := x) (by unfold loose at lo; simpa using lo)) fun pre lq c'253 => εa2 c'253 fun hfil henv => ?_; clear c'253)
        refine iteT (ιEAE _ rfl N ⟨rfl, ⟨_, SqL.of (fr3 N _ hN nNF)⟩, fun D hD => lc_list (xs := nus) (fun i σ H4 => (∃ s0, σ = [s0, some (.ref wa)]) ∧ Same H3 H4 ∧ H4 D = some (.lst (((ns.take i).filter (fun q => decide (q.1 = x))).map fun q => V.int (q.2 : Nat)))) ?_ ?_ ?_ ?_⟩)
        · exact ⟨⟨none, rfl⟩, Same.upd hD, upd_same⟩
        · rintro i σ H4 _ ⟨_, sm4, _⟩
          exact SqL.of (sm4 N _ (fr3 N _ hN nNF))
        · rintro i y σ H4 hi ⟨⟨s0, rfl⟩, sm4, hD4⟩
          (refine εx1 (paired_get hnm hi) fun qq c'257 => εa2 c'257 fun hqi c'258 => εx1 c'258 fun t c'259 => εa2 c'259 fun e'256 ht => ?_; clear c'257 c'258 c'259; subst e'256)
          have htF : t ≠ F := fun z => by rw [z, hF] at ht; cases ht
          have ht4 := sm4 t _ (fr3 t _ ht htF)
          have hwa4 := sm4 wa _ (fr3 wa _ hwa hwF)
          have et : (ns.take (i + 1)).filter (fun q => decide (q.1 = x)) = (ns.take i).filter (fun q => decide (q.1 = x)) ++ (if qq.1 = x then [qq] else []) := by
            rw [List.take_add_one, hqi, List.filter_append]
            by_cases e : qq.1 = x <;> simp [e]
          have hil := get_lt hqi
          unfold gName
          refine (ιEAEEE _ rfl t _ 0 (ιEAAAAEAE (.str qq.1) rfl rfl (SqT.of ht4) rfl _ rfl wa (ιEEEAAAAAE _ 1 (.str x) rfl rfl (SqT.of hwa4) rfl rfl _ ⟨rfl, ?_⟩)))
          by_cases e : qq.1 = x
          · rw [if_pos e] at et
            rw [show decide (V.str qq.1 = V.str x) = true from decide_eq_true (by rw [e])]
            refine iteT (ιEAEEE _ rfl t _ 1 (ιEAAAAE _ rfl rfl (SqT.of ht4) rfl _ ⟨hD4, ?_, ⟨_, rfl⟩, sm4.upd' hD, ?_⟩))
            · have := List.length_filter_le (fun q : Str × Nat => decide (q.1 = x)) (ns.take i)
              rw [List.length_take] at this
              rw [List.length_map, sizeLine_eq]
              exact ω237 hnl this
            · rw [upd_same, et, List.map_append]
              rfl
          · rw [if_neg e, List.append_nil] at et
            rw [show decide (V.str qq.1 = V.str x) = false from decide_eq_false (fun z => e (V.str.inj z))]
            exact iteF ⟨⟨_, rfl⟩, sm4, by rw [et]; exact hD4⟩
        · rintro σ H4 ⟨_, sm4, hD4⟩
          rw [paired_len hnm, List.take_length, hfil, List.map_append] at hD4
          refine (ιEAEEE _ rfl D _ _ ⟨_, rfl, rfl, SqL.of hD4, atI_last _ _, by show 1 ≤ sizeLine; decide, fun h1 hh1 => ?_⟩)
          have sm5 : Same H4 (upd H4 h1 (.lst [.int (lq.2 : Nat)])) := Same.upd hh1
          have hh5 : upd H4 h1 (.lst [.int (lq.2 : Nat)]) h1 = some (.lst ([((lq.2 : Nat) : Int)].map V.int)) := upd_same
          have n1 : ∀ b o, H3 b = some o → b ≠ h1 := fun b o z => ne_of_none (sm4 b o z) hh1
          generalize upd H4 h1 (.lst [.int (lq.2 : Nat)]) = H5 at sm5 hh5
          have sm35 := sm4.trans sm5
          refine (ιEAEAEE _ rfl _ rfl F _ (ιEEAAAAEE _ (.ref Ea) rfl rfl (SqL.of (sm35 F _ hF3)) atF0 Ea _ (ιEE 1 1 ⟨rfl, rfl, sm35 Ea _ hE3, rfl, ?_⟩)))
          refine ⟨h1, rfl, by rw [upd_ne nFE]; exact sm35 F _ hF3, upd_same, ?_, ?_, n1 Ea _ hE3, n1 F _ hF3, fun b o z y => ?_⟩
          · rw [upd_ne (Ne.symm (n1 Ea _ hE3)), hh5]
            show _ = some (HO.lst ([(((envN ns x).getD 0 : Nat) : Int)].map V.int))
            rw [henv]
            rfl
          · cases z : H h1 with
            | none => rfl
            | some o =>
              by_cases y : h1 = F
              · exact absurd y.symm (n1 F _ hF3)
              · exact absurd rfl (n1 h1 o (fr3 h1 o z y))
          · rw [upd_ne (ne_of_none z fEa)]
            exact sm35 b o (fr3 b o z y)
      · rw [Bool.eq_false_iff.mpr hw]
        refine iteF ⟨h0, rfl, hF3, hE3, ?_, hh0, nEh, nFh, fr3⟩
        rw [hh3]
        cases w <;> first | rfl | exact absurd rfl hw
    · (rintro σ' H4 h'261; refine εx1 h'261 fun hh c'263 => εa8 c'263 fun e'262 hF4 hE4 hh4 fhh nEhh nFhh fr4 => ?_; (try clear h'261); clear c'263; subst e'262)
      refine (let M'3 : St → Hp → Prop := fun σ' H' => ∃ N2 nus2 ns2, σ' = [some (.ref wa), some (.ref N2), some (.ref F), some (.int (us.length : Nat)), none] ∧ H' F = some (.lst (us ++ [.ref Ea])) ∧ H' Ea = some (.lst [.ref wa, .ref hh]) ∧ H' hh = some (.lst ((hd1 (envN ns) us.length w).map V.int)) ∧ H' N2 = some (.lst nus2) ∧ N2 ≠ F ∧ N2 ≠ Ea ∧ N2 ≠ hh ∧ Paired (IsNm H') nus2 ns2 ∧ envN ns2 = envOf (envN ns) us.length w ∧ ns2.length ≤ ns.length + 1 ∧ ∀ b o, H b = some o → b ≠ F → H' b = some o; ⟨M'3, ?_, ?_⟩)
      · have hwa4 := fr4 wa _ hwa hwF
        refine (ιEAEEE _ rfl wa _ 0 ⟨.str (kd w), rfl, rfl, SqT.of hwa4, a0, by show 2 ≤ sizeLine; decide, fun t ht => ?_⟩)
        have sm5 : Same H4 (upd H4 t (.tup [.str "least", .str "most"])) := Same.upd ht
        have ht5 : upd H4 t (.tup [.str "least", .str "most"]) t = some (.tup [.str "least", .str "most"]) := upd_same
        generalize upd H4 t (.tup [.str "least", .str "most"]) = H5 at sm5 ht5
        refine (ιEEAAAAE t ([.str "least", .str "most"]) rfl (.inr (SqT.of ht5)) rfl rfl _ ⟨rfl, ?_⟩)
        rw [in_namer w]
        have nm5 : Paired (IsNm H5) nus ns := Paired.mapP hnm fun u q z => by
          obtain ⟨t, e1, e2⟩ := z
          exact ⟨t, e1, sm5.tk _ _ (tkF H4 fr4 _ _ e2)⟩
        have hN5 := sm5 N _ (fr4 N _ hN nNF)
        cases en' : isNamer w with
        | true =>
          (refine εx3 (isw_namer2 iw en') fun a' x b c'264 => εa3 c'264 fun e1 hb ep => ?_; clear c'264)
          cases e1
          refine iteT (ιEAEAEE _ rfl _ rfl wa _ (ιEEAAAAE 1 (.str x) rfl rfl (SqT.of (sm5 wa _ (fr4 wa _ hb hwF))) rfl _ ⟨rfl, by show 2 ≤ sizeLine; decide, fun t2 ht2 => ⟨by show 1 ≤ sizeLine; decide, fun l2 hl2 => ?_⟩⟩))
          have sm6 : Same H5 (upd H5 t2 (.tup [.str x, .int (us.length : Nat)])) := Same.upd ht2
          have ht6 : upd H5 t2 (.tup [.str x, .int (us.length : Nat)]) t2 = some (.tup [.str x, .int (us.length : Nat)]) := upd_same
          generalize upd H5 t2 (.tup [.str x, .int (us.length : Nat)]) = H6 at sm6 ht6 hl2 ⊢
          have sm7 : Same H6 (upd H6 l2 (.lst [.ref t2])) := Same.upd hl2
          have hl7 : upd H6 l2 (.lst [.ref t2]) l2 = some (.lst [.ref t2]) := upd_same
          generalize upd H6 l2 (.lst [.ref t2]) = H7 at sm7 hl7 ⊢
          refine (ιEEEE N l2 _ _ ⟨rfl, rfl, sm7 N _ (sm6 N _ hN5), hl7, (by rw [sizeLine_eq, paired_len hnm]; simp only [List.length_singleton]; exact ω238 hnl), fun N2 hN2 => ?_⟩)
          have sm8 : Same H7 (upd H7 N2 (.lst (nus ++ [.ref t2]))) := Same.upd hN2
          have hN8 : upd H7 N2 (.lst (nus ++ [.ref t2])) N2 = some (.lst (nus ++ [.ref t2])) := upd_same
          have sm47 := (sm5.trans sm6).trans sm7
          have nn : ∀ b o, H4 b = some o → N2 ≠ b := fun b o z => Ne.symm (ne_of_none (sm47 b o z) hN2)
          generalize upd H7 N2 (.lst (nus ++ [.ref t2])) = H8 at sm8 hN8
          have sm48 := sm47.trans sm8
          have sm58 := (sm6.trans sm7).trans sm8
          refine (ιEEE N2 _ (ns ++ [(x, us.length)]) ⟨rfl, sm48 F _ hF4, sm48 Ea _ hE4, sm48 hh _ hh4, hN8, nn F _ hF4, nn Ea _ hE4, nn hh _ hh4, Paired.snoc (Paired.mapP nm5 fun u q z => ?_) ⟨t2, rfl, (sm7.trans sm8) t2 _ ht6⟩, by rw [envN_snoc, ep], by simp, fun b o z y => sm48 b o (fr4 b o z y)⟩)
          obtain ⟨t, e1, e2⟩ := z
          exact ⟨t, e1, sm58 _ _ e2⟩
        | false =>
          exact iteF (ιEEE N nus ns ⟨rfl, sm5 F _ hF4, sm5 Ea _ hE4, sm5 hh _ hh4, hN5, nNF, ne_of_none hN fEa, ne_of_none hN fhh, nm5, by rw [envOf_plain en'], by exact ω60, fun b o z y => sm5 b o (fr4 b o z y)⟩)
      · clear hF4 hE4 hh4 fr4
        (rintro σ' H4 h'265; refine εx3 h'265 fun N2 nus2 ns2 c'267 => εa10 c'267 fun e'266 hF4 hE4 hh4 hN4 nN2F nN2E nN2h nm4 c'268 => εa3 c'268 fun henv hnl2 fr4 => ?_; (try clear h'265); clear c'267 c'268; subst e'266)
        refine (ιEAEE _ rfl (.ref wa) w ⟨rfl, iw.tk (tkF H4 fr4), fun l vs' H5 hl hl5 hps sm5 => ?_⟩)
        have hF5 := sm5 F _ hF4
        have hE5 := sm5 Ea _ hE4
        have hh5 := sm5 hh _ hh4
        have nl : ∀ b o, H4 b = some o → l ≠ b := fun b o z => Ne.symm (ne_of_none z hl)
        refine ⟨l, rfl, ⟨_, SqL.of hl5⟩, for_list (xs := vs') (fun i σ H6 => ∃ (h2 : Addr) (ui : List V) (s4 : Option V), σ = [some (.ref wa), some (.ref N2), some (.ref F), some (.int (us.length : Nat)), s4] ∧ (∀ b o, H5 b = some o → b ≠ F → b ≠ Ea → H6 b = some o) ∧ H6 F = some (.lst (us ++ .ref Ea :: ui)) ∧ H6 Ea = some (.lst [.ref wa, .ref h2]) ∧ H6 h2 = some (.lst ((if i = 0 then hd1 (envN ns) us.length w else hds (us.length + 1) ((parts w).take i)).map V.int)) ∧ ((i = 0 ∧ h2 = hh) ∨ (i ≠ 0 ∧ H5 h2 = none)) ∧ H h2 = none ∧ Ea ≠ h2 ∧ F ≠ h2 ∧ Paired (IsLdX h2 H5 H6) ui (fltW (envOf (envN ns) us.length w) (us.length + 1) ((parts w).take i))) ?_ ?_ ?_ ?_⟩
        · exact (ιEEE hh ([]) none ⟨rfl, fun b o z _ _ => z, hF5, hE5, hh5, .inl ⟨rfl, rfl⟩, fhh, nEhh, nFhh, .nil⟩)
        · (rintro i σ H6 _ h'269; refine εx3 h'269 fun _ _ _ c'270 => εa3 c'270 fun _ kp _ => ?_; (try clear h'269); clear c'270)
          exact SqL.of (kp l _ hl5 (nl F _ hF4) (nl Ea _ hE4))
        · (rintro i x σ H6 hi h'271; refine εx3 h'271 fun h2 ui s4 c'273 => εa10 c'273 fun e'272 kp hF6 hE6 hh6 fh2 fHh2 nEh2 nFh2 hui => ?_; (try clear h'271); clear c'273; subst e'272)
          obtain ⟨p, hpi, ip⟩ := paired_get hps hi
          have hpm := List.mem_of_getElem? hpi
          have hne := nend_of hpm
          have hdp := dp_parts hpm
          obtain ⟨n', rfl⟩ : ∃ n', n = n' + 1 := ⟨n - 1, by exact ω12 hd hdp⟩
          have et : (parts w).take (i + 1) = (parts w).take i ++ [p] := by rw [List.take_add_one, hpi]; rfl
          have hul : ui.length = tot ((parts w).take i) := by rw [paired_len hui, fltW_len]
          have htt1 := tot_take w (i + 1)
          rw [et, tot_snoc] at htt1
          have hil := get_lt hpi
          refine (let M'4 : St → Hp → Prop := fun σ' H' => ∃ h3, σ' = [some (.ref wa), some (.ref N2), some (.ref F), some (.int (us.length : Nat)), some x] ∧ (∀ b o, H5 b = some o → b ≠ F → b ≠ Ea → H' b = some o) ∧ H' F = some (.lst (us ++ .ref Ea :: ui)) ∧ H' Ea = some (.lst [.ref wa, .ref h3]) ∧ H' h3 = some (.lst ((hds (us.length + 1) ((parts w).take i)).map V.int)) ∧ H5 h3 = none ∧ H h3 = none ∧ Ea ≠ h3 ∧ F ≠ h3 ∧ Paired (IsLdX h3 H5 H') ui (fltW (envOf (envN ns) us.length w) (us.length + 1) ((parts w).take i)); ⟨M'4, ?_, ?_⟩)
          · refine (ιEAEAEE _ rfl _ rfl F _ (ιEEAAAAEE _ (.ref Ea) rfl rfl (SqL.of hF6) (atF ui) Ea _ (ιEEAAAAE 1 (.ref h2) rfl rfl (SqL.of hE6) rfl _ ⟨rfl, by show 1 ≤ sizeLine; decide, fun t ht => ?_⟩)))
            have sm7 : Same H6 (upd H6 t (.lst [.int (us.length : Nat)])) := Same.upd ht
            have ht7 : upd H6 t (.lst [.int (us.length : Nat)]) t = some (.lst ([((us.length : Nat) : Int)].map V.int)) := upd_same
            generalize upd H6 t (.lst [.int (us.length : Nat)]) = H7 at sm7 ht7
            refine (ιEEAAAAE _ _ (.lst (sm7 h2 _ hh6) (rds_ints _ _)) (.lst ht7 (rds_ints _ _)) (shaped_intsW _) (shaped_intsW _) _ ⟨rfl, ?_⟩)
            rw [eqvlist]
            by_cases hi0 : i = 0
            · subst hi0
              rw [if_pos rfl, hd1_part hne, decide_eq_true rfl]
              refine iteT ⟨Nat.zero_le _, fun h3 hh3' => ?_⟩
              have sm8 : Same H7 (upd H7 h3 (.lst [])) := Same.upd hh3'
              have hh8 : upd H7 h3 (.lst []) h3 = some (.lst []) := upd_same
              have n3 : ∀ b o, H6 b = some o → b ≠ h3 := fun b o z => ne_of_none (sm7 b o z) hh3'
              generalize upd H7 h3 (.lst []) = H8 at sm8 hh8
              have sm68 := sm7.trans sm8
              refine (ιEAEAEE _ rfl _ rfl F _ (ιEEAAAAEE _ (.ref Ea) rfl rfl (SqL.of (sm68 F _ hF6)) (atF ui) Ea _ (ιEE 1 1 ⟨rfl, rfl, sm68 Ea _ hE6, rfl, ?_⟩)))
              have k9 : ∀ b o, H8 b = some o → b ≠ Ea → upd H8 Ea (.lst [.ref wa, .ref h3]) b = some o := fun b o z y => by rw [upd_ne y]; exact z
              have hnil : ui = [] := by
                have : ui.length = 0 := by rw [hul]; rfl
                exact List.length_eq_zero_iff.mp this
              have f5 : H5 h3 = none := by
                cases z : H5 h3 with
                | none => rfl
                | some o => exact absurd rfl (n3 h3 o (kp h3 o z (Ne.symm (n3 F _ hF6)) (Ne.symm (n3 Ea _ hE6))))
              have fH : H h3 = none := by
                cases z : H h3 with
                | none => rfl
                | some o =>
                  have := sm5 h3 o (fr4 h3 o z (Ne.symm (n3 F _ hF6)))
                  rw [f5] at this
                  cases this
              exact ⟨h3, rfl, fun b o z y1 y2 => k9 b o (sm68 b o (kp b o z y1 y2)) y2, k9 F _ (sm68 F _ hF6) nFE, upd_same, k9 h3 _ hh8 (Ne.symm (n3 Ea _ hE6)), f5, fH, n3 Ea _ hE6, n3 F _ hF6, by rw [hnil]; exact .nil⟩
            · rw [if_neg hi0] at hh6 ⊢
              have f5 : H5 h2 = none := by
                rcases fh2 with ⟨z, _⟩ | ⟨_, z⟩
                · exact absurd z hi0
                · exact z
              rw [show decide (hds (us.length + 1) ((parts w).take i) = [((us.length : Nat) : Int)]) = false from decide_eq_false (hds_ne (by
                intro z
                have := congrArg List.length z
                rw [List.length_take] at this
                have : min i (parts w).length = 0 := this
                exact ω239 hil hi0 this))]
              refine iteF ⟨h2, rfl, fun b o z y1 y2 => sm7 b o (kp b o z y1 y2), sm7 F _ hF6, sm7 Ea _ hE6, sm7 h2 _ hh6, f5, fHh2, nEh2, nFh2, Paired.mapP hui fun u r z => ?_⟩
              (refine εx3 z fun a v h c'274 => εa5 c'274 fun e1 e2 e3 e4 e5 => ?_; (try clear z); clear c'274)
              exact (ιEEE a v h ⟨e1, sm7 a _ e2, e3.tk sm7.tk, sm7 h _ e4, e5⟩)
          · (rintro σ' H7 h'275; refine εx1 h'275 fun h3 c'277 => εa10 c'277 fun e'276 kp7 hF7 hE7 hh7 f5 fH3 nE3 nF3 hui7 => ?_; (try clear h'275); clear c'277; subst e'276)
            have hhl : ((hds (us.length + 1) ((parts w).take i)).map V.int).length ≤ 2 := by rw [List.length_map, hds_len, List.length_take]; exact ω74 hpl
            refine (ιEAEAEE _ rfl _ rfl F _ (ιEEAAAAEE _ (.ref Ea) rfl rfl (SqL.of hF7) (atF ui) Ea _ (ιEEAAAAAE 1 (.ref h3) rfl rfl (SqL.of hE7) rfl (.inl ⟨rfl, _, SqL.of hh7⟩) _ ⟨rfl, ιEEAAEE F _ rfl (.inl (SqL.of hF7)) h3 _ ⟨_, rfl, rfl, hh7, (by rw [sizeLine_eq]; exact ω75 hhl), ?_⟩⟩)))
            have hnum : (((us ++ V.ref Ea :: ui).length : Nat) : Int) = ((us.length + 1 + tot ((parts w).take i) : Nat) : Int) := by rw [List.length_append, List.length_cons, hul]; exact ω240
            dsimp only
            rw [hnum]
            have hh8 : upd H7 h3 (.lst ((hds (us.length + 1) ((parts w).take i)).map V.int ++ [V.int ((us.length + 1 + tot ((parts w).take i) : Nat) : Int)])) h3 = some (.lst ((hds (us.length + 1) ((parts w).take (i + 1))).map V.int)) := by
              rw [upd_same, et, hds_snoc, List.map_append]; rfl
            have k8 : ∀ b o, H7 b = some o → b ≠ h3 → upd H7 h3 (.lst ((hds (us.length + 1) ((parts w).take i)).map V.int ++ [V.int ((us.length + 1 + tot ((parts w).take i) : Nat) : Int)])) b = some o := fun b o z y => by rw [upd_ne y]; exact z
            generalize upd H7 h3 (.lst ((hds (us.length + 1) ((parts w).take i)).map V.int ++ [V.int ((us.length + 1 + tot ((parts w).take i) : Nat) : Int)])) = H8 at hh8 k8
            have k58 : ∀ b o, H5 b = some o → b ≠ F → b ≠ Ea → H8 b = some o := fun b o z y1 y2 => k8 b o (kp7 b o z y1 y2) (ne_of_none z f5)
            have tk58 : TK H5 H8 := fun b xs z => k58 b _ z (fun y => by rw [y, hF5] at z; cases z) (fun y => by rw [y, hE5] at z; cases z)
            have hF8 := k8 F _ hF7 nF3
            have hE8 := k8 Ea _ hE7 nE3
            have hN8 := k58 N2 _ (sm5 N2 _ hN4) nN2F nN2E
            have nm8 : Paired (IsNm H8) nus2 ns2 := Paired.mapP nm4 fun u q z => by
              obtain ⟨t, e1, e2⟩ := z
              exact ⟨t, e1, tk58 _ _ (sm5.tk _ _ e2)⟩
            have lop : loose (dom (envN ns2)) p = false := by
              rw [loose_parts hne, List.any_eq_false] at lo
              have := lo p hpm
              rw [henv, dom_envOf]
              simpa using this
            refine (ιEAEAEAE _ rfl _ rfl _ rfl x (ιEEEE p N2 nus2 ns2 (ιEE F (us ++ .ref Ea :: ui) ⟨rfl, ip.tk tk58, by exact ω13 hdp hd, by rw [List.length_append, List.length_cons, hul]; exact ω241 hsz htt1, lop, hN8, nN2F, nm8, by exact ω76 hnl hnl2 hdp, hF8, fun us' H9 hF9 hus9 fr9 => ?_⟩)))
            have tk79 : TK H7 H9 := fun b xs z => fr9 b _ (k8 b _ z (fun y => by rw [y, hh7] at z; cases z)) (fun y => by rw [y, hF7] at z; cases z)
            refine (ιEEE h3 (ui ++ us') _ ⟨rfl, fun b o z y1 y2 => fr9 b o (k58 b o z y1 y2) y1, by rw [hF9, List.append_assoc]; rfl, fr9 Ea _ hE8 (Ne.symm nFE), by rw [if_neg (Nat.succ_ne_zero i)]; exact fr9 h3 _ hh8 (Ne.symm nF3), .inr ⟨Nat.succ_ne_zero i, f5⟩, fH3, nE3, nF3, ?_⟩)
            rw [et, fltW_snoc]
            have nF5 : ∀ b, H5 b = none → b ≠ F := fun b z y => by rw [y, hF5] at z; cases z
            refine paired_append (Paired.mapP hui7 fun u r z => ?_) (Paired.mapP (show Paired (IsLd H8 H9) us' (rws (envOf (envN ns) us.length w) (us.length + 1 + tot ((parts w).take i)) p) from ?_) fun u r z => ?_)
            · (refine εx3 z fun a v h c'278 => εa8 c'278 fun e1 e2 e3 e4 e5 e6 e7 e8 => ?_; (try clear z); clear c'278)
              exact (ιEEE a v h ⟨e1, fr9 a _ (k8 a _ e2 e7) (nF5 a e5), e3.tk tk79, fr9 h _ (k8 h _ e4 e8) (nF5 h e6), e5, e6, e7, e8⟩)
            · rw [henv, List.length_append, List.length_cons, hul] at hus9
              rw [show us.length + 1 + tot ((parts w).take i) = us.length + (tot ((parts w).take i) + 1) by exact ω44]
              exact hus9
            · (refine εx3 z fun a v h c'279 => εa6 c'279 fun e1 e2 e3 e4 e5 e6 => ?_; (try clear z); clear c'279)
              have f : ∀ b, H8 b = none → H5 b = none ∧ b ≠ h3 := fun b z8 => by
                refine ⟨?_, fun y => by rw [y, hh8] at z8; cases z8⟩
                cases z : H5 b with
                | none => rfl
                | some o =>
                  have := k58 b o z (fun y => by rw [y, hF8] at z8; cases z8) (fun y => by rw [y, hE8] at z8; cases z8)
                  rw [z8] at this
                  cases this
              exact (ιEEE a v h ⟨e1, e2, e3, e4, (f a e5).1, (f h e6).1, (f a e5).2, (f h e6).2⟩)
        · (rintro σ H6 h'280; refine εx3 h'280 fun h2 ui s4 c'282 => εa10 c'282 fun e'281 kp hF6 hE6 hh6 fh2 fHh2 nEh2 nFh2 hui => ?_; (try clear h'280); clear c'282; subst e'281)
          have et : (parts w).take vs'.length = parts w := by rw [paired_len hps, List.take_length]
          rw [et] at hui hh6
          have tkH6 : TK H H6 := fun b xs z => kp b _ (sm5 b _ (tkF H4 fr4 b xs z)) (fun y => by rw [y, hF] at z; cases z) (ne_of_none z fEa)
          refine q (.ref Ea :: ui) H6 hF6 ?_ (fun b o z y => kp b o (sm5 b o (fr4 b o z y)) y (ne_of_none z fEa))
          have fE5 : ∀ b, H5 b = none → H b = none := fun b z => by
            cases y : H b with
            | none => rfl
            | some o =>
              have := sm5 b o (fr4 b o y (fun t => by rw [t, hF5] at z; cases z))
              rw [z] at this
              cases this
          have hui' : Paired (IsLd H H6) ui (fltW (envOf (envN ns) us.length w) (us.length + 1) (parts w)) := Paired.mapP hui fun u r z => by
            (refine εx3 z fun a v h c'283 => εa7 c'283 fun e1 e2 e3 e4 e5 e6 _ => ?_; (try clear z); clear c'283)
            exact (ιEEE a v h ⟨e1, e2, e3, e4, fE5 a e5, fE5 h e6⟩)
          have hlp := paired_len hps
          cases he : isEnd w with
          | true =>
            have ep := end_parts he
            rw [ep] at hui' hlp
            rw [show vs'.length = 0 from hlp, if_pos rfl] at hh6
            rw [rws_isEnd he]
            exact .cons (ιEEE Ea (.ref wa) h2 ⟨rfl, hE6, iw.tk tkH6, hh6, fEa, fHh2⟩) (by cases hui'; exact .nil)
          | false =>
            rw [if_neg (fun z => by
              rw [z] at hlp
              cases w <;> first | (cases he; done) | (simp [parts] at hlp; done))] at hh6
            rw [rws_parts he]
            exact .cons (ιEEE Ea (.ref wa) h2 ⟨rfl, hE6, iw.tk tkH6, hh6, fEa, fHh2⟩) hui'
theorem ok_lay {f f1 : Addr} {fd fd1 : FuncData} (n : Nat) (F : Fun K "_law_lay" "_law_lay" sLay f fd) (T : Txt mg)
    (G1 : FnOk P w K mg base CX0 1 f1 fd1 ["wish"] spPartsOf) (k1 : PySem.W.keepIn K (.ref f1) = true) (m1 : mg "_law_parts" = some (.ref f1)) (b1 : Binds K fd1 ["wish"] [])
    (k2 : PySem.W.keepIn K (.ref f) = true) (m2 : mg "_law_lay" = some (.ref f)) (b2 : Binds K fd ["wish", "names", "found"] []) :
    FnOk P w K mg base CX0 (1 + n + 1) f fd ["wish", "names", "found"] (spLay n) := by
  have go : ∀ n, FnOk P w K mg base CX0 (1 + n) f fd ["wish", "names", "found"] (spLayR n) := fun n => by
    induction n with
    | zero => exact ⟨fun _ _ _ _ h => h.elim, fun _ _ _ _ _ _ _ _ _ _ _ _ _ h => h.elim⟩
    | succ n ih => exact lay_body n F T G1 k1 m1 b1 ih k2 m2 b2
  exact lay_body n F T G1 k1 m1 b1 (go n) k2 m2 b2
end
end K18
namespace K18
open PySem L2 Gm
noncomputable abbrev nLCrown : List Str := ["wish", "crown"]
theorem scLCrown : FnScope nLCrown ["wish", "crown"] (defScope sLCrown) := ⟨rfl, rfl, rfl, by decide +kernel, rfl, by decide +kernel, by decide +kernel⟩
noncomputable def spLCrown (n : Nat) : Sp := fun vs H Q _ => ∃ (v : V) (w : Wish) (c : Int), vs = [v, .int c] ∧ IsW H v w ∧ dp w ≤ n ∧ ∀ H', Same H H' → Q (.int (crn c w)) H'
section
variable {P : Program} {w : World} {K : PySem.W.Frag} {mg : Str → Option Value} {base : Heap}
theorem ok_lcrown {f f1 : Addr} {fd fd1 : FuncData} (n : Nat) (F : Fun K "_law_crown" "_law_crown" sLCrown f fd) (T : Txt mg)
    (G1 : FnOk P w K mg base CX0 (1 + n + 1) f1 fd1 ["wish"] (spBinders n)) (k1 : PySem.W.keepIn K (.ref f1) = true) (m1 : mg "_law_binders" = some (.ref f1)) (b1 : Binds K fd1 ["wish"] []) :
    FnOk P w K mg base CX0 (1 + n + 2) f fd ["wish", "crown"] (spLCrown n) := by
  refine F.ok scLCrown (fun vs H Q E h => ?_) (fun cdv A outer s H vs Q E hr h => ?_)
  · (refine εx3 h fun v w c c'285 => εa2 c'285 fun e'284 _ => ?_; (try clear h); clear c'285; subst e'284)
    rfl
  · (refine εx3 h fun v w cr c'287 => εa4 c'287 fun e'286 iw hd q => ?_; (try clear h); clear c'287; subst e'286)
    have hu := hu_of hr
    have hu64 := hr.units
    refine (let X' : Cx := _; (?_ : ∃ t, PSs X' _ t ∧ _))
    refine ⟨_, pss_cons (ps_if (PW.pt (pw_or (pt_cmpR op_eq (pe_ix ix_tup (pv 0) pe_int (fun _ _ => rfl)) pe_str (nomark _)) (pw_or1 (pt_cmpR op_eq (pe_ix ix_tup (pv 0) pe_int (fun _ _ => rfl)) pe_str (nomark _))))) (pss_one (ps_ret (pe_op op_add (pe_op op_mul pe_int (pe_call G1 (hr.mono (by exact ω39)) rfl m1 k1 b1 .nil pass0 (pa_cons (pv 0) pa_nil))) (pe_callTy call_int_bl rfl T.int PyProof.Rows.boot_int (pa_cons (pe_cmpR op_eq (pe_ix ix_tup (pv 0) pe_int (fun _ _ => rfl)) pe_str (nomark _)) pa_nil))))) pss_nil)
      (pss_cons (ps_if (PW.pt (pw_or (pt_cmpR op_eq (pe_ix ix_tup (pv 0) pe_int (fun _ _ => rfl)) pe_str (nomark _)) (pw_or1 (pt_cmpR op_eq (pe_ix ix_tup (pv 0) pe_int (fun _ _ => rfl)) pe_str (nomark _))))) (pss_one (ps_ret (pe_callTy call_int_bl rfl T.int PyProof.Rows.boot_int (pa_cons (pe_cmpR op_ne (pe_cmpR op_eq (pe_ix ix_tup (pv 0) pe_int (fun _ _ => rfl)) (pv 1) (nomark _)) (pe_cmpR op_eq (pe_ix ix_tup (pv 0) pe_int (fun _ _ => rfl)) pe_str (nomark _)) (nomark _)) pa_nil)))) pss_nil)
      (pss_one (ps_ret pe_int))), ?_⟩
    refine (let U'2 : TS := _; let U'1 : TS := tSeq _ U'2; (?_ : tSeq _ U'1 _ _ _))
    cases w with
    | is c =>
      obtain ⟨a, rfl, ha⟩ := iw
      refine (ιEAEEE _ rfl a _ 0 (ιEAAAAAE (.str "is") rfl rfl (SqT.of ha) rfl rfl _ ⟨rfl, ?_⟩))
      rw [show decide (V.str "is" = V.str "least") = false from by decide +kernel]
      refine iteF ?_
      refine (ιEAEEE _ rfl a _ 0 (ιEAAAAAE (.str "is") rfl rfl (SqT.of ha) rfl rfl _ ⟨rfl, ?_⟩))
      rw [show decide (V.str "is" = V.str "most") = false from by decide +kernel]
      refine iteF ?_
      refine (ιEAEEE _ rfl a _ 0 (ιEAAAAAE (.str "is") rfl rfl (SqT.of ha) rfl rfl _ ⟨rfl, ?_⟩))
      rw [show decide (V.str "is" = V.str "is") = true from by decide +kernel]
      refine iteT (iteT ?_)
      refine (ιEAEEE _ rfl a _ 1 (ιEAAAAE (.int c) rfl rfl (SqT.of ha) rfl _ ⟨rfl, rfl, ιEAEEE _ rfl a _ 0 ⟨.str "is", rfl, rfl, SqT.of ha, rfl, rfl, rfl, _, rfl, ?_⟩⟩))
      rw [show decide (V.str "is" = V.str "is") = true from by decide +kernel, dec_iiK]
      refine cast_q (q H (Same.refl _)) ?_
      unfold crn
      by_cases e : cr = c
      · subst e; simp
      · have e' : ¬ c = cr := fun z => e z.symm
        simp [e, e']
    | no c =>
      obtain ⟨a, rfl, ha⟩ := iw
      refine (ιEAEEE _ rfl a _ 0 (ιEAAAAAE (.str "not") rfl rfl (SqT.of ha) rfl rfl _ ⟨rfl, ?_⟩))
      rw [show decide (V.str "not" = V.str "least") = false from by decide +kernel]
      refine iteF ?_
      refine (ιEAEEE _ rfl a _ 0 (ιEAAAAAE (.str "not") rfl rfl (SqT.of ha) rfl rfl _ ⟨rfl, ?_⟩))
      rw [show decide (V.str "not" = V.str "most") = false from by decide +kernel]
      refine iteF ?_
      refine (ιEAEEE _ rfl a _ 0 (ιEAAAAAE (.str "not") rfl rfl (SqT.of ha) rfl rfl _ ⟨rfl, ?_⟩))
      rw [show decide (V.str "not" = V.str "is") = false from by decide +kernel]
      refine iteF ?_
      refine (ιEAEEE _ rfl a _ 0 (ιEAAAAAE (.str "not") rfl rfl (SqT.of ha) rfl rfl _ ⟨rfl, ?_⟩))
      rw [show decide (V.str "not" = V.str "not") = true from by decide +kernel]
      refine iteT ?_
      refine (ιEAEEE _ rfl a _ 1 (ιEAAAAE (.int c) rfl rfl (SqT.of ha) rfl _ ⟨rfl, rfl, ιEAEEE _ rfl a _ 0 ⟨.str "not", rfl, rfl, SqT.of ha, rfl, rfl, rfl, _, rfl, ?_⟩⟩))
      rw [show decide (V.str "not" = V.str "is") = false from by decide +kernel, dec_iiK]
      refine cast_q (q H (Same.refl _)) ?_
      unfold crn
      by_cases e : cr = c
      · subst e; simp
      · have e' : ¬ c = cr := fun z => e z.symm
        simp [e, e']
    | name x =>
      obtain ⟨a, rfl, ha⟩ := iw
      refine (ιEAEEE _ rfl a _ 0 (ιEAAAAAE (.str "name") rfl rfl (SqT.of ha) rfl rfl _ ⟨rfl, ?_⟩))
      rw [show decide (V.str "name" = V.str "least") = false from by decide +kernel]
      refine iteF ?_
      refine (ιEAEEE _ rfl a _ 0 (ιEAAAAAE (.str "name") rfl rfl (SqT.of ha) rfl rfl _ ⟨rfl, ?_⟩))
      rw [show decide (V.str "name" = V.str "most") = false from by decide +kernel]
      refine iteF ?_
      refine (ιEAEEE _ rfl a _ 0 (ιEAAAAAE (.str "name") rfl rfl (SqT.of ha) rfl rfl _ ⟨rfl, ?_⟩))
      rw [show decide (V.str "name" = V.str "is") = false from by decide +kernel]
      refine iteF ?_
      refine (ιEAEEE _ rfl a _ 0 (ιEAAAAAE (.str "name") rfl rfl (SqT.of ha) rfl rfl _ ⟨rfl, ?_⟩))
      rw [show decide (V.str "name" = V.str "not") = false from by decide +kernel]
      refine iteF ?_
      exact q H (Same.refl _)
    | and x y =>
      (refine εx3 iw fun a b c c'289 => εa4 c'289 fun e'288 ha _ _ => ?_; (try clear iw); clear c'289; subst e'288)
      refine (ιEAEEE _ rfl a _ 0 (ιEAAAAAE (.str "and") rfl rfl (SqT.of ha) rfl rfl _ ⟨rfl, ?_⟩))
      rw [show decide (V.str "and" = V.str "least") = false from by decide +kernel]
      refine iteF ?_
      refine (ιEAEEE _ rfl a _ 0 (ιEAAAAAE (.str "and") rfl rfl (SqT.of ha) rfl rfl _ ⟨rfl, ?_⟩))
      rw [show decide (V.str "and" = V.str "most") = false from by decide +kernel]
      refine iteF ?_
      refine (ιEAEEE _ rfl a _ 0 (ιEAAAAAE (.str "and") rfl rfl (SqT.of ha) rfl rfl _ ⟨rfl, ?_⟩))
      rw [show decide (V.str "and" = V.str "is") = false from by decide +kernel]
      refine iteF ?_
      refine (ιEAEEE _ rfl a _ 0 (ιEAAAAAE (.str "and") rfl rfl (SqT.of ha) rfl rfl _ ⟨rfl, ?_⟩))
      rw [show decide (V.str "and" = V.str "not") = false from by decide +kernel]
      refine iteF ?_
      exact q H (Same.refl _)
    | or x y =>
      (refine εx3 iw fun a b c c'291 => εa4 c'291 fun e'290 ha _ _ => ?_; (try clear iw); clear c'291; subst e'290)
      refine (ιEAEEE _ rfl a _ 0 (ιEAAAAAE (.str "or") rfl rfl (SqT.of ha) rfl rfl _ ⟨rfl, ?_⟩))
      rw [show decide (V.str "or" = V.str "least") = false from by decide +kernel]
      refine iteF ?_
      refine (ιEAEEE _ rfl a _ 0 (ιEAAAAAE (.str "or") rfl rfl (SqT.of ha) rfl rfl _ ⟨rfl, ?_⟩))
      rw [show decide (V.str "or" = V.str "most") = false from by decide +kernel]
      refine iteF ?_
      refine (ιEAEEE _ rfl a _ 0 (ιEAAAAAE (.str "or") rfl rfl (SqT.of ha) rfl rfl _ ⟨rfl, ?_⟩))
      rw [show decide (V.str "or" = V.str "is") = false from by decide +kernel]
      refine iteF ?_
      refine (ιEAEEE _ rfl a _ 0 (ιEAAAAAE (.str "or") rfl rfl (SqT.of ha) rfl rfl _ ⟨rfl, ?_⟩))
      rw [show decide (V.str "or" = V.str "not") = false from by decide +kernel]
      refine iteF ?_
      exact q H (Same.refl _)
    | all x =>
      (refine εx2 iw fun a b c'293 => εa3 c'293 fun e'292 ha _ => ?_; (try clear iw); clear c'293; subst e'292)
      refine (ιEAEEE _ rfl a _ 0 (ιEAAAAAE (.str "all") rfl rfl (SqT.of ha) rfl rfl _ ⟨rfl, ?_⟩))
      rw [show decide (V.str "all" = V.str "least") = false from by decide +kernel]
      refine iteF ?_
      refine (ιEAEEE _ rfl a _ 0 (ιEAAAAAE (.str "all") rfl rfl (SqT.of ha) rfl rfl _ ⟨rfl, ?_⟩))
      rw [show decide (V.str "all" = V.str "most") = false from by decide +kernel]
      refine iteF ?_
      refine (ιEAEEE _ rfl a _ 0 (ιEAAAAAE (.str "all") rfl rfl (SqT.of ha) rfl rfl _ ⟨rfl, ?_⟩))
      rw [show decide (V.str "all" = V.str "is") = false from by decide +kernel]
      refine iteF ?_
      refine (ιEAEEE _ rfl a _ 0 (ιEAAAAAE (.str "all") rfl rfl (SqT.of ha) rfl rfl _ ⟨rfl, ?_⟩))
      rw [show decide (V.str "all" = V.str "not") = false from by decide +kernel]
      refine iteF ?_
      exact q H (Same.refl _)
    | some x =>
      (refine εx2 iw fun a b c'295 => εa3 c'295 fun e'294 ha _ => ?_; (try clear iw); clear c'295; subst e'294)
      refine (ιEAEEE _ rfl a _ 0 (ιEAAAAAE (.str "some") rfl rfl (SqT.of ha) rfl rfl _ ⟨rfl, ?_⟩))
      rw [show decide (V.str "some" = V.str "least") = false from by decide +kernel]
      refine iteF ?_
      refine (ιEAEEE _ rfl a _ 0 (ιEAAAAAE (.str "some") rfl rfl (SqT.of ha) rfl rfl _ ⟨rfl, ?_⟩))
      rw [show decide (V.str "some" = V.str "most") = false from by decide +kernel]
      refine iteF ?_
      refine (ιEAEEE _ rfl a _ 0 (ιEAAAAAE (.str "some") rfl rfl (SqT.of ha) rfl rfl _ ⟨rfl, ?_⟩))
      rw [show decide (V.str "some" = V.str "is") = false from by decide +kernel]
      refine iteF ?_
      refine (ιEAEEE _ rfl a _ 0 (ιEAAAAAE (.str "some") rfl rfl (SqT.of ha) rfl rfl _ ⟨rfl, ?_⟩))
      rw [show decide (V.str "some" = V.str "not") = false from by decide +kernel]
      refine iteF ?_
      exact q H (Same.refl _)
    | least x y =>
      have iw0 := iw
      (refine εx2 iw fun a b c'297 => εa3 c'297 fun e'296 ha ib => ?_; (try clear iw); clear c'297; subst e'296)
      refine (ιEAEEE _ rfl a _ 0 (ιEAAAAAE (.str "least") rfl rfl (SqT.of ha) rfl rfl _ ⟨rfl, ?_⟩))
      rw [show decide (V.str "least" = V.str "least") = true from by decide +kernel]
      refine iteT (iteT ?_)
      refine (ιEAEE _ rfl (.ref a) _ ⟨rfl, iw0, hd, fun H1 sm1 => (ιEEAAAE _ _ rfl rfl (.inl ⟨by decide, by decide⟩) _ ⟨rfl, ιEEEE a _ 0 (.str "least") ⟨rfl, rfl, SqT.of (sm1 a _ ha), rfl, rfl, ιEAEE _ rfl _ _ ⟨rfl, rfl, ?_⟩⟩⟩)⟩)
      rw [show decide (V.str "least" = V.str "least") = true from by decide +kernel]
      exact cast_q (q H1 sm1) (by simp [crn, bnd, parts])
    | most x y =>
      have iw0 := iw
      (refine εx2 iw fun a b c'299 => εa3 c'299 fun e'298 ha ib => ?_; (try clear iw); clear c'299; subst e'298)
      refine (ιEAEEE _ rfl a _ 0 (ιEAAAAAE (.str "most") rfl rfl (SqT.of ha) rfl rfl _ ⟨rfl, ?_⟩))
      rw [show decide (V.str "most" = V.str "least") = false from by decide +kernel]
      refine iteF ?_
      refine (ιEAEEE _ rfl a _ 0 (ιEAAAAAE (.str "most") rfl rfl (SqT.of ha) rfl rfl _ ⟨rfl, ?_⟩))
      rw [show decide (V.str "most" = V.str "most") = true from by decide +kernel]
      refine iteT ?_
      refine (ιEAEE _ rfl (.ref a) _ ⟨rfl, iw0, hd, fun H1 sm1 => (ιEEAAAE _ _ rfl rfl (.inl ⟨by decide, by decide⟩) _ ⟨rfl, ιEEEE a _ 0 (.str "most") ⟨rfl, rfl, SqT.of (sm1 a _ ha), rfl, rfl, ιEAEE _ rfl _ _ ⟨rfl, rfl, ?_⟩⟩⟩)⟩)
      rw [show decide (V.str "most" = V.str "least") = false from by decide +kernel]
      exact cast_q (q H1 sm1) (by simp [crn, bnd, parts])
end
end K18
namespace K18
open PySem L2 Gm
noncomputable abbrev nLRowsOf : List Str := ["game", "wish", "laid", "rows", "at", "sign", "kind", "starts", "ways", "start"]
theorem scLRowsOf : FnScope nLRowsOf ["game", "wish"] (defScope sLRowsOf) := ⟨rfl, rfl, rfl, by decide +kernel, rfl, by decide +kernel, by decide +kernel⟩
theorem lcLRowsOf1 : LcOk (defScope sLRowsOf) nLRowsOf ["number", "laid", "start"] [none, some 2, some 9] (mkSc [(".0", .local), ("number", .local), ("len", .globalImplicit), ("laid", .free), ("start", .free)]) :=
  ⟨rfl, by decide +kernel, by decide +kernel, by decide +kernel, by decide +kernel, rfl, by decide +kernel⟩
theorem rws_step : ∀ (w : Wish) (e : WEnv) (n : Nat), ∀ r ∈ rws e n w, isStep r.1 = true → ∃ h, r.2 = [h]
  | .is _, _, _, r, h, s => by simp [rws] at h; subst h; exact ⟨_, rfl⟩
  | .no _, _, _, r, h, s => by simp [rws] at h; subst h; exact ⟨_, rfl⟩
  | .name _, _, _, r, h, s => by simp [rws] at h; subst h; exact ⟨_, rfl⟩
  | .and a b, e, n, r, h, s => by
    simp only [rws, List.mem_cons, List.mem_append] at h
    rcases h with h | h | h
    · subst h; cases s
    · exact rws_step a _ _ r h s
    · exact rws_step b _ _ r h s
  | .or a b, e, n, r, h, s => by
    simp only [rws, List.mem_cons, List.mem_append] at h
    rcases h with h | h | h
    · subst h; cases s
    · exact rws_step a _ _ r h s
    · exact rws_step b _ _ r h s
  | .all a, e, n, r, h, s => by
    simp only [rws, List.mem_cons] at h
    rcases h with h | h
    · subst h; exact ⟨_, rfl⟩
    · exact rws_step a _ _ r h s
  | .some a, e, n, r, h, s => by
    simp only [rws, List.mem_cons] at h
    rcases h with h | h
    · subst h; exact ⟨_, rfl⟩
    · exact rws_step a _ _ r h s
  | .least x a, e, n, r, h, s => by
    simp only [rws, List.mem_cons] at h
    rcases h with h | h
    · subst h; exact ⟨_, rfl⟩
    · exact rws_step a _ _ r h s
  | .most x a, e, n, r, h, s => by
    simp only [rws, List.mem_cons] at h
    rcases h with h | h
    · subst h; exact ⟨_, rfl⟩
    · exact rws_step a _ _ r h s
theorem eq_kd (w : Wish) (k : Str) : decide (V.str (kd w) = V.str k) = decide (kd w = k) := by
  by_cases h : kd w = k
  · rw [decide_eq_true h, decide_eq_true (by rw [h])]
  · rw [decide_eq_false h, decide_eq_false (fun z => h (V.str.inj z))]
theorem step_kd (w : Wish) : isStep w = true ↔ (kd w = "all" ∨ kd w = "some") := by
  cases w with
  | all a => exact ⟨fun _ => .inl rfl, fun _ => rfl⟩
  | some a => exact ⟨fun _ => .inr rfl, fun _ => rfl⟩
  | _ => exact ⟨fun h => (by cases h), fun h => (by rcases h with h | h <;> exact absurd h (by simp only [kd]; decide +kernel))⟩
theorem one_kd (w : Wish) : isOne w = true ↔ (kd w = "and" ∨ kd w = "all") := by
  cases w with
  | and a b => exact ⟨fun _ => .inl rfl, fun _ => rfl⟩
  | all a => exact ⟨fun _ => .inr rfl, fun _ => rfl⟩
  | _ => exact ⟨fun h => (by cases h), fun h => (by rcases h with h | h <;> exact absurd h (by simp only [kd]; decide +kernel))⟩
noncomputable def sts (k : Nat) (ws : List Int) (w : Wish) : List Int := if isStep w then ws else [(k : Int)]
theorem wys_sts {m k : Nat} {ws hs : List Int} {w : Wish} (h : isStep w = true → ∃ x, hs = [x]) : (sts k ws w).flatMap (fun s : Int => hs.map fun x : Int => s * (m : Int) + x) = wys m k ws hs w := by
  unfold sts wys
  cases e : isStep w with
  | true =>
    obtain ⟨x, rfl⟩ := h e
    simp
    induction ws with
    | nil => rfl
    | cons a r ih => simp [ih]
  | false => simp
noncomputable def spLRowsOf (n : Nat) : Sp := fun vs H Q _ => ∃ (gv : V) (g : List Pl) (v : V) (w : Wish), vs = [gv, v] ∧ IsGm H gv g ∧ (∀ p ∈ g, WfPl g.length p) ∧ g.length < 60 ∧ IsW H v w ∧ dp w ≤ n ∧ dp w < 900 ∧ sg w < 900 ∧ loose (dom e0) w = false ∧
  ∀ v' H', IsGm H' v' (gmOf g (rws e0 0 w)) → Same H H' → Q v' H'
section
variable {P : Program} {w : World} {K : PySem.W.Frag} {mg : Str → Option Value} {base : Heap}
theorem ok_lrowsof {f f1 f2 : Addr} {fd fd1 fd2 : FuncData} (n : Nat) (F : Fun K "_law_rows_of" "_law_rows_of" sLRowsOf f fd) (T : Txt mg)
    (G1 : FnOk P w K mg base CX0 (1 + n + 1) f1 fd1 ["wish", "names", "found"] (spLay n)) (k1 : PySem.W.keepIn K (.ref f1) = true) (m1 : mg "_law_lay" = some (.ref f1)) (b1 : Binds K fd1 ["wish", "names", "found"] [])
    (G2 : FnOk P w K mg base CX0 (1 + n + 2) f2 fd2 ["wish", "crown"] (spLCrown n)) (k2 : PySem.W.keepIn K (.ref f2) = true) (m2 : mg "_law_crown" = some (.ref f2)) (b2 : Binds K fd2 ["wish", "crown"] []) :
    FnOk P w K mg base CX0 (1 + n + 3) f fd ["game", "wish"] (spLRowsOf n) := by
  refine F.ok scLRowsOf (fun vs H Q E h => ?_) (fun cdv A outer s H vs Q E hr h => ?_)
  · (refine εx4 h fun gv g v w c'301 => εa2 c'301 fun e'300 _ => ?_; (try clear h); clear c'301; subst e'300)
    rfl
  · (refine εx4 h fun gv g v w c'303 => εa10 c'303 fun e'302 ig wf hgl iw hd hd9 hsg lo q => ?_; (try clear h); clear c'303; subst e'302)
    have hu := hu_of hr
    have hu64 := hr.units
    refine (let X' : Cx := _; (?_ : ∃ t, PSs X' _ t ∧ _))
    refine ⟨_, pss_cons (ps_set (i := 2) scLRowsOf.nd rfl (Or.inr rfl) (pe_lst pa_nil))
      (pss_cons (ps_expr (pe_call G1 (hr.mono (by exact ω242)) rfl m1 k1 b1 .nil pass0 (pa_cons (pv 1) (pa_cons (pe_lst pa_nil) (pa_cons (pv 2) pa_nil)))))
      (pss_cons (ps_set (i := 3) scLRowsOf.nd rfl (Or.inl rfl) (pe_lst pa_nil))
      (pss_cons (ps_for PassesOwn.never rfl (pi_range1 rfl T.range (pa_cons (pe_callB call_len_seq rfl T.len PySem.boot_len (pa_cons (pv 0) pa_nil)) pa_nil)) (pg_name (i := 4) scLRowsOf.nd rfl (Or.inl rfl)) (pss_one (ps_for PassesOwn.never rfl (pi_list (pv 2)) (pg_name (i := 5) scLRowsOf.nd rfl (Or.inl rfl)) (pss_cons (ps_set (i := 6) scLRowsOf.nd rfl (Or.inl rfl) (pe_ix ix_tup (pe_ix ix_list (pv 5) pe_int (fun _ _ => rfl)) pe_int (fun _ _ => rfl)))
          (pss_cons (ps_set (i := 7) scLRowsOf.nd rfl (Or.inl rfl) (pe_lst (pa_cons (pv 4) pa_nil)))
          (pss_cons (ps_cut (ps_if (PW.pt (pw_or (pt_cmpR op_eq (pv 6) pe_str (nomark _)) (pw_or1 (pt_cmpR op_eq (pv 6) pe_str (nomark _))))) (pss_one (ps_set (i := 7) scLRowsOf.nd rfl (Or.inl rfl) (pe_callTy call_list_of rfl T.list PyProof.Rows.boot_list (pa_cons (pe_ix ix_tup (pe_ix ix_tup (pv 0) (pv 4) (fun _ _ => rfl)) pe_int (fun _ _ => rfl)) pa_nil)))) pss_nil))
          (pss_cons (ps_set (i := 8) scLRowsOf.nd rfl (Or.inl rfl) (pe_lst pa_nil))
          (pss_cons (ps_cut (ps_for PassesOwn.never rfl (pi_list (pv 7)) (pg_name (i := 9) scLRowsOf.nd rfl (Or.inr rfl)) (pss_one (ps_set (i := 8) scLRowsOf.nd rfl (Or.inl rfl) (pe_op op_cat (pv 8) (pe_lc rfl lcLRowsOf1 (pi_list (pe_ix ix_list (pv 5) pe_int (fun _ _ => rfl))) (fun cl C ex s H => ⟨(pg_name (i := 0) lcLRowsOf1.nd rfl (Or.inl rfl)), pif_nil, (pe_op op_add (pe_op op_mul (pv 2) (pe_callB (len_seqK K rfl) rfl T.len PySem.boot_len (pa_cons (pv 1) pa_nil))) (pv 0))⟩)))))))
          (pss_one (ps_expr (pe_bm PySem.F.plainAttrs_list PySem.F.slot_list_append PySem.F.type_list_append mt_append (pv 3) (pa_cons (pe_tup (pa_cons (pe_callTy call_int_bl rfl T.int PyProof.Rows.boot_int (pa_cons (pe_or (pe_cmpR op_eq (pv 6) pe_str (nomark _)) (pe_one (pe_cmpR op_eq (pv 6) pe_str (nomark _)))) pa_nil)) (pa_cons (pe_call G2 (hr.mono (by exact ω61)) rfl m2 k2 b2 .nil pass0 (pa_cons (pe_ix ix_list (pv 5) pe_int (fun _ _ => rfl)) (pa_cons (pe_ix ix_tup (pe_ix ix_tup (pv 0) (pv 4) (fun _ _ => rfl)) pe_int (fun _ _ => rfl)) pa_nil))) (pa_cons (pe_callTy call_tuple_of rfl T.tuple PyProof.Rows.boot_tuple (pa_cons (pv 8) pa_nil)) pa_nil)))) pa_nil))))))))))))
      (pss_one (ps_ret (pe_callTy call_tuple_of rfl T.tuple PyProof.Rows.boot_tuple (pa_cons (pv 3) pa_nil))))))), ?_⟩
    refine (let U'4 : TS := _; let U'3 : TS := tSeq _ U'4; let U'2 : TS := tSeq _ U'3; let U'1 : TS := tSeq _ U'2; (?_ : tSeq _ U'1 _ _ _))
    (refine εx2 (id ig) fun ga vs c'305 => εa3 c'305 fun e'304 hga hp => ?_; clear c'305; subst e'304)
    have hlv := paired_len hp
    refine ⟨Nat.zero_le _, fun L0 hL0 => ?_⟩
    have sm1 : Same H (upd H L0 (.lst [])) := Same.upd hL0
    have hL1 : upd H L0 (.lst []) L0 = some (.lst []) := upd_same
    generalize upd H L0 (.lst []) = H1 at sm1 hL1
    refine ⟨_, rfl, Nat.zero_le _, fun N hN => ?_⟩
    have nNL : N ≠ L0 := Ne.symm (ne_of_none hL1 hN)
    have sm2 : Same H1 (upd H1 N (.lst [])) := Same.upd hN
    have hN2 : upd H1 N (.lst []) N = some (.lst []) := upd_same
    generalize upd H1 N (.lst []) = H2 at sm2 hN2
    have hL2 := sm2 L0 _ hL1
    have smH2 := sm1.trans sm2
    refine (ιEAEEE _ rfl v w N (ιEEEE ([]) ([]) L0 ([]) ⟨rfl, iw.tk smH2.tk, hd, by simp; exact ω48 hsg, lo, hN2, nNL, .nil, by simp; exact ω48 hd9, hL2, fun ul H3 hL3 hul fr3 => ?_⟩))
    rw [List.nil_append] at hL3
    have hul : Paired (IsLd H2 H3) ul (rws e0 0 w) := hul
    have smH3 : Same H H3 := fun b o z => fr3 b o (smH2 b o z) (ne_of_none z hL0)
    have hrl : (rws e0 0 w).length = sg w := rws_len w e0 0
    have hrp := rws_ne w e0 0
    have hrd := rws_dp w e0 0
    have hrs := rws_step w e0 0
    generalize rws e0 0 w = rs at hul hrl hrp hrd hrs q
    have hlu := paired_len hul
    refine ⟨Nat.zero_le _, fun R hR => ?_⟩
    have sm4 : Same H3 (upd H3 R (.lst [])) := Same.upd hR
    have hR4 : upd H3 R (.lst []) R = some (.lst []) := upd_same
    generalize upd H3 R (.lst []) = H4 at sm4 hR4
    refine (ιEAEEAAE _ rfl ga vs rfl (.inr (SqT.of (sm4 ga _ (smH3 ga _ hga)))) _ ⟨rfl, by exact ω1, by exact ω14 hgl hlv, for_range (n := ((vs.length : Nat) : Int).toNat) (fun i σ H5 => ∃ (us2 : List V) (s4 s5 s6 s7 s8 s9 : Option V), σ = [some (.ref ga), some v, some (.ref L0), some (.ref R), s4, s5, s6, s7, s8, s9] ∧ Same H3 H5 ∧ H5 R = some (.lst us2) ∧ Paired (IsPl H5) us2 (gTo g rs i)) ?_ ?_ ?_⟩)
    · exact (ιEEEE ([]) none none none (ιEEE none none none ⟨rfl, sm4, hR4, .nil⟩))
    · (rintro i σ H5 hi h'306; refine εx5 h'306 fun us2 s4 s5 s6 s7 c'308 => εx2 c'308 fun s8 s9 c'309 => εa4 c'309 fun e'307 sm5 hR5 hus2 => ?_; (try clear h'306); clear c'308 c'309; subst e'307)
      have hig : i < g.length := by exact ω19 hlv hi
      rw [show (0 : Int) + (i : Int) = ((i : Nat) : Int) by exact ω5]
      have hpi : g[((i : Nat) : Int).toNat]? = some g[i] := by rw [Int.toNat_natCast]; exact List.getElem?_eq_getElem hig
      have wfp := wf g[i] (List.getElem_mem _)
      have gd : g.getD i (0, 0, []) = g[i] := by rw [List.getD_eq_getElem?_getD, List.getElem?_eq_getElem hig]; rfl
      generalize g[i] = p at hpi wfp gd
      have hwl := wf_len wfp
      refine (ιEAE _ rfl L0 ⟨rfl, ⟨_, SqL.of (sm5 L0 _ hL3)⟩, for_list (xs := ul) (fun j σ H6 => ∃ (us3 : List V) (s5 s6 s7 s8 s9 : Option V), σ = [some (.ref ga), some v, some (.ref L0), some (.ref R), some (.int i), s5, s6, s7, s8, s9] ∧ Same H3 H6 ∧ H6 R = some (.lst us3) ∧ Paired (IsPl H6) us3 (gTo g rs i ++ (rs.take j).map (gCell g rs.length i))) ?_ ?_ ?_ ?_⟩)
      · exact (ιEEEE us2 s5 s6 s7 (ιEE s8 s9 ⟨rfl, sm5, hR5, by rw [List.take_zero, List.map_nil, List.append_nil]; exact hus2⟩))
      · (rintro j σ H6 _ h'310; refine εx5 h'310 fun _ _ _ _ _ c'311 => εx1 c'311 fun _ c'312 => εa3 c'312 fun _ sm6 _ => ?_; (try clear h'310); clear c'311 c'312)
        exact SqL.of (sm6 L0 _ hL3)
      · (rintro j x σ H6 hj h'313; refine εx5 h'313 fun us3 t5 t6 t7 t8 c'315 => εx1 c'315 fun t9 c'316 => εa4 c'316 fun e'314 sm6 hR6 hus3 => ?_; (try clear h'313); clear c'315 c'316; subst e'314)
        (refine εx1 (paired_get hul hj) fun r c'318 => εa2 c'318 fun hrj c'319 => εx3 c'319 fun a v1 h c'320 => εa5 c'320 fun e'317 ha3 iv3 hh3 _ => ?_; clear c'318 c'319 c'320; subst e'317)
        have hjl := get_lt hrj
        have hrm := List.mem_of_getElem? hrj
        obtain ⟨c1, c2⟩ := hrp r hrm
        have c3 := hrd r hrm
        have c4 := hrs r hrm
        (refine εx2 ((iv3.tk sm6.tk).items) fun wa uw c'322 => εa3 c'322 fun e'321 hwa it => ?_; clear c'322; subst e'321)
        have iv6 := iv3.tk sm6.tk
        have ha6 := sm6 a _ ha3
        have a0 : atI (V.str (kd r.1) :: uw) 0 = some (.str (kd r.1)) := (atI_nat (show (V.str (kd r.1) :: uw)[0]? = some (V.str (kd r.1)) from rfl) : atI (V.str (kd r.1) :: uw) ((0 : Nat) : Int) = _)
        refine (ιEAEEE _ rfl a _ 0 (ιEAAAAEE (.ref wa) rfl rfl (SqL.of ha6) rfl wa _ (ιEE 0 (.str (kd r.1)) ⟨rfl, rfl, SqT.of hwa, a0, ?_⟩)))
        refine ⟨_, rfl, by show 1 ≤ sizeLine; decide, fun S hS => ?_⟩
        have sm7 : Same H6 (upd H6 S (.lst [.int i])) := Same.upd hS
        have hS7 : upd H6 S (.lst [.int i]) S = some (.lst ([(i : Int)].map V.int)) := upd_same
        generalize upd H6 S (.lst [.int i]) = H7 at sm7 hS7
        refine (let M'5 : St → Hp → Prop := fun σ' H' => ∃ S', σ' = [some (.ref ga), some v, some (.ref L0), some (.ref R), some (.int i), some (.ref a), some (.str (kd r.1)), some (.ref S'), t8, t9] ∧ Same H6 H' ∧ H' S' = some (.lst ((sts i p.2.2 r.1).map V.int)); ⟨M'5, ?_, ?_⟩)
        · (refine εa2 (gm_at hga hp (smH3.trans (sm6.trans sm7)).tk (k := ((i : Nat) : Int)) (by exact ω2) hpi) fun a1 c'323 => εx2 c'323 fun pa pb c'324 => εa3 c'324 fun a2 a3 a4 => ?_; clear c'323 c'324)
          refine (ιEAAE _ rfl rfl _ ⟨rfl, ?_⟩)
          rw [eq_kd]
          have go : isStep r.1 = true → ∀ L1, H7 L1 = none → ∃ S', [some (V.ref ga), some v, some (.ref L0), some (.ref R), some (.int i), some (.ref a), some (.str (kd r.1)), some (.ref L1), t8, t9] = [some (.ref ga), some v, some (.ref L0), some (.ref R), some (.int i), some (.ref a), some (.str (kd r.1)), some (.ref S'), t8, t9] ∧ Same H6 (upd H7 L1 (.lst (p.2.2.map V.int))) ∧ upd H7 L1 (.lst (p.2.2.map V.int)) S' = some (.lst ((sts i p.2.2 r.1).map V.int)) := fun st L1 hL1 =>
            ⟨L1, rfl, sm7.trans (Same.upd hL1), by rw [upd_same]; unfold sts; rw [if_pos st]⟩
          by_cases k1' : kd r.1 = "all"
          · rw [decide_eq_true k1']
            refine iteT (iteT (ιEAEAEE _ rfl _ rfl ga vs (ιEEAAAAEE _ _ rfl rfl (SqT.of a1) a2 pa _ (ιEEAAAAEE _ _ rfl rfl (SqT.of a3) rfl pb _ ⟨rfl, .inr (SqT.of a4), fun L1 hL1 => go ?_ L1 hL1⟩))))
            exact (step_kd _).mpr (.inl k1')
          · rw [decide_eq_false k1']
            refine iteF (ιEAAE _ rfl rfl _ ⟨rfl, ?_⟩)
            rw [eq_kd]
            by_cases k2' : kd r.1 = "some"
            · rw [decide_eq_true k2']
              refine iteT (ιEAEAEE _ rfl _ rfl ga vs (ιEEAAAAEE _ _ rfl rfl (SqT.of a1) a2 pa _ (ιEEAAAAEE _ _ rfl rfl (SqT.of a3) rfl pb _ ⟨rfl, .inr (SqT.of a4), fun L1 hL1 => go ?_ L1 hL1⟩)))
              exact (step_kd _).mpr (.inr k2')
            · rw [decide_eq_false k2']
              refine iteF ⟨S, rfl, sm7, ?_⟩
              rw [hS7]
              unfold sts
              rw [if_neg (fun z => ((step_kd _).mp z).elim k1' k2')]
        · clear hS7 sm7
          (rintro σ' H7 h'325; refine εx1 h'325 fun S' c'327 => εa3 c'327 fun e'326 sm7 hS7 => ?_; (try clear h'325); clear c'327; subst e'326)
          refine ⟨Nat.zero_le _, fun W0 hW0 => ?_⟩
          have sm8 : Same H7 (upd H7 W0 (.lst [])) := Same.upd hW0
          have hW8 : upd H7 W0 (.lst []) W0 = some (.lst []) := upd_same
          generalize upd H7 W0 (.lst []) = H8 at sm8 hW8
          have hsl : (sts i p.2.2 r.1).length < 1000 ∧ ∀ x ∈ sts i p.2.2 r.1, 0 ≤ x ∧ x < 1000 := by
            unfold sts
            cases isStep r.1 with
            | true => exact ⟨by simp; exact ω52 hgl hwl, fun x hx => by have := wfp.inn x (by simpa using hx); exact ω78 hgl this⟩
            | false => exact ⟨by simp, fun x hx => by simp at hx; exact ω243 hgl hig hx⟩
          obtain ⟨hs1, hs2⟩ := hsl
          refine (let M'6 : St → Hp → Prop := fun σ' H9 => ∃ (W : Addr) (t9 : Option V), σ' = [some (.ref ga), some v, some (.ref L0), some (.ref R), some (.int i), some (.ref a), some (.str (kd r.1)), some (.ref S'), some (.ref W), t9] ∧ Same H7 H9 ∧ H9 W = some (.lst ((((sts i p.2.2 r.1)).flatMap (fun s : Int => r.2.map fun x : Int => s * ((ul.length : Nat) : Int) + x)).map V.int)); ⟨M'6, ?_, ?_⟩)
          · refine (ιEAE _ rfl S' ⟨rfl, ⟨_, SqL.of (sm8 S' _ hS7)⟩, ?_⟩)
            refine for_list (xs := (sts i p.2.2 r.1).map V.int) (fun e σ H9 => ∃ (W : Addr) (t9 : Option V), σ = [some (.ref ga), some v, some (.ref L0), some (.ref R), some (.int i), some (.ref a), some (.str (kd r.1)), some (.ref S'), some (.ref W), t9] ∧ Same H7 H9 ∧ H9 W = some (.lst ((((sts i p.2.2 r.1).take e).flatMap (fun s : Int => r.2.map fun x : Int => s * ((ul.length : Nat) : Int) + x)).map V.int))) ?_ ?_ ?_ ?_
            · exact (ιEE W0 t9 ⟨rfl, sm8, hW8⟩)
            · (rintro e σ H9 _ h'328; refine εx2 h'328 fun _ _ c'329 => εa3 c'329 fun _ sm9 _ => ?_; (try clear h'328); clear c'329)
              exact SqL.of (sm9 S' _ hS7)
            · (rintro e y σ H9 he h'330; refine εx2 h'330 fun W t9' c'332 => εa3 c'332 fun e'331 sm9 hW9 => ?_; (try clear h'330); clear c'332; subst e'331)
              (refine εx1 (geti he) fun st c'334 => εa3 c'334 fun e'333 hst hstm => ?_; clear c'334; subst e'333)
              obtain ⟨q1, q2⟩ := hs2 st hstm
              have sm39 := (sm6.trans sm7).trans sm9
              have hh9 := sm39 h _ hh3
              have hel := get_lt hst
              unfold gName
              refine (ιEAEAEE _ rfl _ rfl a _ (ιEEAAAAE 1 (.ref h) rfl rfl (SqL.of (sm39 a _ ha3)) rfl h ⟨rfl, ⟨_, SqL.of hh9⟩, fun D hD => lc_mapI (L := r.2) (fun x => .int (st * (ul.length : Nat) + x)) hh9 (by exact ω244 c2) hD (fun x hx H10 sm10 Q' hQ => ?_) (fun H10 sm10 hD10 => ?_)⟩))
              · exact (ιEAEAEE _ rfl _ rfl L0 ul ⟨rfl, .inl (SqL.of (sm10 L0 _ (sm39 L0 _ hL3))), ιEEAAAE _ _ rfl rfl (.inl ⟨by exact ω245 q1, by exact ω246 q2⟩) _ ⟨rfl, ιEE _ _ ⟨rfl, rfl, hQ H10 (Same.refl _)⟩⟩⟩)
              · have hfl : (((sts i p.2.2 r.1).take e).flatMap (fun s : Int => r.2.map fun x : Int => s * ((ul.length : Nat) : Int) + x)).length ≤ 2000 := by
                  rw [List.length_flatMap]
                  have : ∀ l : List Int, (l.map fun s : Int => (r.2.map fun x : Int => s * ((ul.length : Nat) : Int) + x).length).sum ≤ 2 * l.length := fun l => by
                    induction l with
                    | nil => simp
                    | cons a l ih => simp at ih ⊢; exact ω247 c2 ih
                  have := this ((sts i p.2.2 r.1).take e)
                  rw [List.length_take] at this
                  exact ω248 hs1 this
                refine (ιEEEE W D _ _ ⟨rfl, rfl, sm10 W _ hW9, hD10, (by rw [List.length_map, List.length_map, sizeLine_eq]; exact ω249 c2 hfl), fun W2 hW2 => ?_⟩)
                refine (ιEE W2 _ ⟨rfl, (sm9.trans sm10).trans (Same.upd hW2), ?_⟩)
                rw [upd_same, List.take_add_one, hst, List.flatMap_append, List.map_append]
                simp
            · (rintro σ H9 h'335; refine εx2 h'335 fun W t9' c'337 => εa3 c'337 fun e'336 sm9 hW9 => ?_; (try clear h'335); clear c'337; subst e'336)
              rw [List.length_map, List.take_length] at hW9
              exact (ιEE W t9' ⟨rfl, sm9, hW9⟩)
          · (rintro σ H9 h'338; refine εx2 h'338 fun W t9' c'340 => εa3 c'340 fun e'339 sm9 hW9 => ?_; (try clear h'338); clear c'340; subst e'339)
            rw [hlu, wys_sts c4] at hW9
            have sm69 := sm7.trans sm9
            have sm39 := sm6.trans sm69
            have hR9 := sm69 R _ hR6
            have hul3 := paired_len hus3
            rw [List.length_append, gTo_len, List.length_map, List.length_take] at hul3
            have hmul : i * rs.length ≤ 60 * 1000 := Nat.mul_le_mul (by exact ω77 hgl hig) (by exact ω250 hsg hrl)
            (refine εa2 (gm_at hga hp (smH3.trans sm39).tk (k := ((i : Nat) : Int)) (by exact ω2) hpi) fun a1 c'341 => εx2 c'341 fun pa pb c'342 => εa3 c'342 fun a2 a3 a4 => ?_; clear c'341 c'342)
            have fin : ∀ (H12 : Hp) (t W2 : Addr), Same H9 H12 → H12 t = some (.tup [.int (hndW r.1), .int (crn p.2.1 r.1), .ref W2]) → H12 W2 = some (.tup ((wys rs.length i p.2.2 r.2 r.1).map V.int)) → ∃ (l : Addr) (xs : List V) (y : V), V.ref R = .ref l ∧ [V.ref t] = [y] ∧ H12 l = some (.lst xs) ∧ xs.length < sizeLine ∧ ∃ (us3 : List V) (s5 s6 s7 s8 s9 : Option V), [some (V.ref ga), some v, some (.ref L0), some (.ref R), some (.int i), some (.ref a), some (.str (kd r.1)), some (.ref S'), some (.ref W), t9'] = [some (.ref ga), some v, some (.ref L0), some (.ref R), some (.int i), s5, s6, s7, s8, s9] ∧ Same H3 (upd H12 l (.lst (xs ++ [y]))) ∧ upd H12 l (.lst (xs ++ [y])) R = some (.lst us3) ∧ Paired (IsPl (upd H12 l (.lst (xs ++ [y])))) us3 (gTo g rs i ++ (rs.take (j + 1)).map (gCell g rs.length i)) := by
              intro H12 t W2 sm912 ht12 hW12
              have hR12 := sm912 R _ hR9
              refine (ιEEEAAAAE R us3 (.ref t) rfl rfl hR12 (by rw [sizeLine_eq]; exact ω251 hsg hrl hul3 hmul) (us3 ++ [V.ref t]) (ιEEEE _ _ _ _ ⟨_, rfl, (sm39.trans sm912).upd' hR, upd_same, ?_⟩))
              have tk13 : TK H12 (upd H12 R (.lst (us3 ++ [V.ref t]))) := fun b xs z => by
                rw [upd_ne (fun y => by rw [y, hR12] at z; cases z)]; exact z
              rw [List.take_add_one, hrj, List.map_append, ← List.append_assoc]
              refine Paired.snoc (pls_tk (pls_tk hus3 (sm69.trans sm912).tk) tk13) (ιEE t W2 ⟨rfl, tk13 _ _ ?_, tk13 _ _ ?_⟩)
              · unfold gCell
                rw [gd]
                exact ht12
              · unfold gCell
                rw [gd]
                exact hW12
            refine (ιEAAE _ rfl (.inl ⟨rfl, _, SqL.of hR9⟩) _ ⟨rfl, rfl, _, rfl, ?_⟩)
            rw [eq_kd]
            by_cases k1' : kd r.1 = "and"
            · rw [decide_eq_true k1']
              refine iteT ?_
              have hv : hndW r.1 = 1 := by unfold hndW; rw [(one_kd _).mpr (.inl k1')]; rfl
              refine (ιEAEAEE _ rfl _ rfl a _ (ιEEAAAAEAE 0 (.ref wa) rfl rfl (SqL.of (sm39 a _ ha3)) rfl _ rfl _ ⟨rfl, ιEEEE ga vs _ _ ⟨rfl, rfl, SqT.of a1, a2, ιEEEE pa _ _ _ ⟨rfl, rfl, SqT.of a3, rfl, ιEEE (.ref wa) r.1 p.2.1 ⟨rfl, iv6.tk sm69.tk, by exact ω22 hd c3, fun H10 sm10 => (ιEAEE _ rfl W _ ⟨rfl, .inl ⟨SqL.of (sm10 W _ hW9), fun W2 hW2 => ⟨by show 3 ≤ sizeLine; decide, fun t ht => ?_⟩⟩⟩)⟩⟩⟩⟩))
              have sm11 := Same.upd (o := .tup ((wys rs.length i p.2.2 r.2 r.1).map V.int)) hW2
              have e11 : upd H10 W2 (.tup ((wys rs.length i p.2.2 r.2 r.1).map V.int)) W2 = some (.tup ((wys rs.length i p.2.2 r.2 r.1).map V.int)) := upd_same
              generalize upd H10 W2 (.tup ((wys rs.length i p.2.2 r.2 r.1).map V.int)) = H11 at sm11 e11 ht ⊢
              have sm12 : Same H11 (upd H11 t (.tup [.int (hndW r.1), .int (crn p.2.1 r.1), .ref W2])) := Same.upd ht
              have e12 : upd H11 t (.tup [.int (hndW r.1), .int (crn p.2.1 r.1), .ref W2]) t = some (.tup [.int (hndW r.1), .int (crn p.2.1 r.1), .ref W2]) := upd_same
              rw [hv] at sm12 e12
              refine fin _ t W2 ((sm10.trans sm11).trans sm12) (by rw [hv]; exact e12) (sm12 W2 _ e11)
            · rw [decide_eq_false k1']
              refine iteF ⟨_, rfl, rfl, ?_⟩
              rw [eq_kd]
              by_cases k2' : kd r.1 = "all"
              · rw [decide_eq_true k2']
                have hv : hndW r.1 = 1 := by unfold hndW; rw [(one_kd _).mpr (.inr k2')]; rfl
                refine (ιEAEAEE _ rfl _ rfl a _ (ιEEAAAAEAE 0 (.ref wa) rfl rfl (SqL.of (sm39 a _ ha3)) rfl _ rfl _ ⟨rfl, ιEEEE ga vs _ _ ⟨rfl, rfl, SqT.of a1, a2, ιEEEE pa _ _ _ ⟨rfl, rfl, SqT.of a3, rfl, ιEEE (.ref wa) r.1 p.2.1 ⟨rfl, iv6.tk sm69.tk, by exact ω22 hd c3, fun H10 sm10 => (ιEAEE _ rfl W _ ⟨rfl, .inl ⟨SqL.of (sm10 W _ hW9), fun W2 hW2 => ⟨by show 3 ≤ sizeLine; decide, fun t ht => ?_⟩⟩⟩)⟩⟩⟩⟩))
                have sm11 := Same.upd (o := .tup ((wys rs.length i p.2.2 r.2 r.1).map V.int)) hW2
                have e11 : upd H10 W2 (.tup ((wys rs.length i p.2.2 r.2 r.1).map V.int)) W2 = some (.tup ((wys rs.length i p.2.2 r.2 r.1).map V.int)) := upd_same
                generalize upd H10 W2 (.tup ((wys rs.length i p.2.2 r.2 r.1).map V.int)) = H11 at sm11 e11 ht ⊢
                have sm12 : Same H11 (upd H11 t (.tup [.int (hndW r.1), .int (crn p.2.1 r.1), .ref W2])) := Same.upd ht
                have e12 : upd H11 t (.tup [.int (hndW r.1), .int (crn p.2.1 r.1), .ref W2]) t = some (.tup [.int (hndW r.1), .int (crn p.2.1 r.1), .ref W2]) := upd_same
                rw [hv] at sm12 e12
                refine fin _ t W2 ((sm10.trans sm11).trans sm12) (by rw [hv]; exact e12) (sm12 W2 _ e11)
              · rw [decide_eq_false k2']
                have hv : hndW r.1 = 0 := by unfold hndW; rw [if_neg (fun z => ((one_kd _).mp z).elim k1' k2')]
                refine (ιEAEAEE _ rfl _ rfl a _ (ιEEAAAAEAE 0 (.ref wa) rfl rfl (SqL.of (sm39 a _ ha3)) rfl _ rfl _ ⟨rfl, ιEEEE ga vs _ _ ⟨rfl, rfl, SqT.of a1, a2, ιEEEE pa _ _ _ ⟨rfl, rfl, SqT.of a3, rfl, ιEEE (.ref wa) r.1 p.2.1 ⟨rfl, iv6.tk sm69.tk, by exact ω22 hd c3, fun H10 sm10 => (ιEAEE _ rfl W _ ⟨rfl, .inl ⟨SqL.of (sm10 W _ hW9), fun W2 hW2 => ⟨by show 3 ≤ sizeLine; decide, fun t ht => ?_⟩⟩⟩)⟩⟩⟩⟩))
                have sm11 := Same.upd (o := .tup ((wys rs.length i p.2.2 r.2 r.1).map V.int)) hW2
                have e11 : upd H10 W2 (.tup ((wys rs.length i p.2.2 r.2 r.1).map V.int)) W2 = some (.tup ((wys rs.length i p.2.2 r.2 r.1).map V.int)) := upd_same
                generalize upd H10 W2 (.tup ((wys rs.length i p.2.2 r.2 r.1).map V.int)) = H11 at sm11 e11 ht ⊢
                have sm12 : Same H11 (upd H11 t (.tup [.int (hndW r.1), .int (crn p.2.1 r.1), .ref W2])) := Same.upd ht
                have e12 : upd H11 t (.tup [.int (hndW r.1), .int (crn p.2.1 r.1), .ref W2]) t = some (.tup [.int (hndW r.1), .int (crn p.2.1 r.1), .ref W2]) := upd_same
                rw [hv] at sm12 e12
                refine fin _ t W2 ((sm10.trans sm11).trans sm12) (by rw [hv]; exact e12) (sm12 W2 _ e11)
      · (rintro σ H6 h'343; refine εx5 h'343 fun us3 t5 t6 t7 t8 c'345 => εx1 c'345 fun t9 c'346 => εa4 c'346 fun e'344 sm6 hR6 hus3 => ?_; (try clear h'343); clear c'345 c'346; subst e'344)
        refine (ιEEEE us3 _ _ _ (ιEEE _ _ _ ⟨rfl, sm6, hR6, ?_⟩))
        rw [hlu, List.take_length] at hus3
        rw [gTo_succ]
        exact hus3
    · (rintro σ H5 h'347; refine εx5 h'347 fun us2 s4 s5 s6 s7 c'349 => εx2 c'349 fun s8 s9 c'350 => εa4 c'350 fun e'348 sm5 hR5 hus2 => ?_; (try clear h'347); clear c'349 c'350; subst e'348)
      rw [show ((vs.length : Nat) : Int).toNat = g.length by exact ω6 hlv] at hus2
      refine (ιEAEE _ rfl R us2 ⟨rfl, .inl ⟨SqL.of hR5, fun t ht => ?_⟩⟩)
      exact q _ _ (ιEE t us2 ⟨rfl, upd_same, pls_tk hus2 (Same.upd ht).tk⟩) (smH3.trans (sm5.trans (Same.upd ht)))
end
end K18
namespace K18
open PySem L2 Gm
noncomputable abbrev nSpot : List Str := ["script", "spot"]
theorem scSpot : FnScope nSpot ["script", "spot"] (defScope sSpot) := ⟨rfl, rfl, rfl, by decide +kernel, rfl, by decide +kernel, by decide +kernel⟩
noncomputable abbrev nWish : List Str := ["script", "spot", "names", "crowns", "deep", "number", "kind", "one", "name", "inner"]
theorem scWish : FnScope nWish ["script", "spot", "names", "crowns", "deep"] (defScope sWish) := ⟨rfl, rfl, rfl, by decide +kernel, rfl, by decide +kernel, by decide +kernel⟩
noncomputable def But (x : Addr) (H H' : Hp) : Prop := ∀ b o, H b = some o → b ≠ x → H' b = some o
theorem But.trans {x : Addr} {H H1 H2 : Hp} (a : But x H H1) (b : But x H1 H2) : But x H H2 := fun c o h n => b c o (a c o h n) n
theorem But.same {x : Addr} {H H' : Hp} (a : Same H H') : But x H H' := fun b o h _ => a b o h
theorem But.tk {x : Addr} {H H' : Hp} {us : List V} (a : But x H H') (h : H x = some (.lst us)) : TK H H' := fun b xs z => a b _ z (fun y => by rw [y, h] at z; cases z)
noncomputable def spSpot (K : PySem.W.Frag) : Sp := fun vs H Q _ => ∃ (a sp : Addr) (ns : List Int) (i : Nat) (b : Int), vs = [.ref a, .ref sp] ∧ (∀ H', But sp H H' → SqL K H' a (ns.map V.int)) ∧ H sp = some (.lst [.int i, .int b]) ∧ ∀ (z : Int) (H' : Hp), H' sp = some (.lst [.int ((i + 1 : Nat) : Int), .int b]) → But sp H H' → Q (.int z) H'
structure Wsh (ns : List Str) (n : Nat) (w : Wish) : Prop where
  dp : dp w ≤ n
  cl : loose (fun x => decide (x ∈ ns)) w = false
  nm : nmOk w
noncomputable def spWish (K : PySem.W.Frag) (n : Nat) : Sp := fun vs H Q _ => ∃ (a sp nl cl : Addr) (ss : List Int) (i : Nat) (b : Int) (ns : List Str) (cs : List Int) (d : Int), vs = [.ref a, .ref sp, .ref nl, .ref cl, .int d] ∧ (∀ H', But sp H H' → SqL K H' a (ss.map V.int)) ∧ H sp = some (.lst [.int i, .int b]) ∧ H nl = some (.lst (ns.map V.str)) ∧ nl ≠ sp ∧ ns.length + n < 1000 ∧ (∀ x ∈ ns, x.length ≤ 9 ∧ PyData.strOk x = true) ∧ H cl = some (.lst (cs.map V.int)) ∧ cl ≠ sp ∧ cs ≠ [] ∧ cs.length < 1000 ∧ d ≤ n ∧
  ∀ (v : V) (w : Wish) (H' : Hp) (i' : Nat) (b' : Int), IsW H' v w → Wsh ns (n + 1) w → H' sp = some (.lst [.int i', .int b']) → But sp H H' → Q v H'
noncomputable def spWishR (K : PySem.W.Frag) : Nat → Sp
  | 0 => fun _ _ _ _ => False
  | n + 1 => spWish K n
theorem rds_strs (H : Hp) : ∀ xs : List Str, RDs H (xs.map V.str) (xs.map PyData.str)
  | [] => .nil
  | x :: r => .cons (.str x) (rds_strs H r)
theorem can_strs : ∀ xs : List Str, (∀ x ∈ xs, PyData.strOk x = true) → PyData.canLayAll0 (xs.map PyData.str) = true
  | [], _ => by simp [PyData.canLayAll0]
  | w :: r, h => by simp [PyData.canLayAll0, PyData.canLay0, can_strs r (fun x hx => h x (List.mem_cons_of_mem _ hx)), h w List.mem_cons_self]
theorem depth_strs : ∀ ws : List Str, PyData.depthAll (ws.map PyData.str) ≤ 1
  | [] => by simp [PyData.depthAll]
  | w :: r => by
    have := depth_strs r
    simp [PyData.depthAll, PyData.depth]
    try exact ω45 this
theorem shaped_strs (bs : List Str) (h : ∀ x ∈ bs, PyData.strOk x = true) : SeqAt.shaped (.list (bs.map PyData.str)) = true := by
  have h1 := can_strs bs h
  have h2 := depth_strs bs
  unfold SeqAt.shaped
  rw [Bool.and_eq_true, decide_eq_true_eq]
  refine ⟨by simp [PyData.canLay0, h1], ?_⟩
  simp only [PyData.depth]
  exact ω47 h2
theorem shaped_intsQ : SeqAt.shaped (.list []) = true := shaped_strs [] (fun x hx => by cases hx)
theorem ne_nil_strs (ns : List Str) : (!PyData.eqv (.list (ns.map PyData.str)) (.list [])) = !ns.isEmpty := by
  cases ns <;> simp [PyData.eqv, PyData.eqvAll]
theorem at_mod {α : Type} (f : α → V) {l : List α} (h : 0 < l.length) (z : Int) : ∃ x, x ∈ l ∧ atI (l.map f) (z % (((l.map f).length : Nat) : Int)) = some (f x) := by
  have h1 : 0 ≤ z % (((l.map f).length : Nat) : Int) := Int.emod_nonneg _ (by rw [List.length_map]; exact ω148 h)
  have h2 : z % (((l.map f).length : Nat) : Int) < (((l.map f).length : Nat) : Int) := Int.emod_lt_of_pos _ (by rw [List.length_map]; exact ω3 h)
  generalize z % (((l.map f).length : Nat) : Int) = y at h1 h2
  obtain ⟨k, rfl⟩ : ∃ k : Nat, y = k := ⟨y.toNat, by exact ω7 h1⟩
  rw [List.length_map] at h2
  have hk : k < l.length := by exact ω15 h2
  exact ⟨l[k], List.getElem_mem _, atI_nat (by rw [List.getElem?_map, List.getElem?_eq_getElem hk]; rfl)⟩
theorem dec_iiQ (a b : Int) : decide (V.int a = V.int b) = decide (a = b) := by
  by_cases e : a = b
  · rw [decide_eq_true e, decide_eq_true (by rw [e])]
  · rw [decide_eq_false e, decide_eq_false (fun z => e (V.int.inj z))]
theorem dput_snoc (ns : List Str) (x : Str) : dpt (fun y => decide (y ∈ ns)) x = fun y => decide (y ∈ ns ++ [x]) := by
  funext y
  unfold dpt
  by_cases h : y = x <;> by_cases h2 : y ∈ ns <;> simp [h, h2]
section
variable {P : Program} {w : World} {K : PySem.W.Frag} {mg : Str → Option Value} {base : Heap}
theorem ok_spot {f f1 : Addr} {fd fd1 : FuncData} (F : Fun K "_law_spot" "_law_spot" sSpot f fd) (T : Txt mg)
    (G1 : FnOk P w K mg base CX0 2 f1 fd1 ["script", "k"] (spPick K)) (k1 : PySem.W.keepIn K (.ref f1) = true) (m1 : mg "_law_pick" = some (.ref f1)) (b1 : Binds K fd1 ["script", "k"] []) :
    FnOk P w K mg base CX0 3 f fd ["script", "spot"] (spSpot K) := by
  refine F.ok scSpot (fun vs H Q E h => ?_) (fun cdv A outer s H vs Q E hr h => ?_)
  · (refine εx5 h fun a sp ns i b c'352 => εa2 c'352 fun e'351 _ => ?_; (try clear h); clear c'352; subst e'351)
    rfl
  · (refine εx5 h fun a sp ns i b c'354 => εa4 c'354 fun e'353 ha hsp q => ?_; (try clear h); clear c'354; subst e'353)
    refine (let X' : Cx := _; (?_ : ∃ t, PSs X' _ t ∧ _))
    refine ⟨_, pss_cons (ps_asg (pe_op op_add (pe_ix ix_list (pv 1) pe_int (fun _ _ => rfl)) pe_int) (pg_sub (pv 1) pe_int set_list))
      (pss_one (ps_ret (pe_call G1 (hr.mono (by decide)) rfl m1 k1 b1 .nil pass0 (pa_cons (pv 0) (pa_cons (pe_ix ix_list (pv 1) pe_int (fun _ _ => rfl)) pa_nil))))), ?_⟩
    refine (let U'1 : TS := _; (?_ : tSeq _ U'1 _ _ _))
    have b1 : But sp H (upd H sp (.lst [.int ((i + 1 : Nat) : Int), .int b])) := fun c o h n => by rw [upd_ne n]; exact h
    have e1 : upd H sp (.lst [.int ((i + 1 : Nat) : Int), .int b]) sp = some (.lst [.int ((i + 1 : Nat) : Int), .int b]) := upd_same
    refine (ιEAEEE _ rfl sp _ 0 (ιEAAAAEE (.int i) rfl rfl (SqL.of hsp) rfl _ _ ⟨rfl, rfl, ιEAEEE _ rfl sp _ 0 ⟨0, rfl, rfl, hsp, rfl, ?_⟩⟩))
    dsimp only
    rw [show (i : Int) + 1 = ((i + 1 : Nat) : Int) by exact ω149]
    exact (ιEAEAEE _ rfl _ rfl sp _ (ιEEAAAAEE 0 (.int ((i + 1 : Nat) : Int)) rfl rfl (SqL.of e1) rfl a ns ⟨i + 1, rfl, ha _ b1, fun z => q z _ e1 b1⟩))
theorem wish_body {f f1 f2 : Addr} {fd fd1 fd2 : FuncData} (n : Nat) (F : Fun K "_law_wish" "_law_wish" sWish f fd) (T : Txt mg)
    (G1 : FnOk P w K mg base CX0 3 f1 fd1 ["script", "spot"] (spSpot K)) (k1 : PySem.W.keepIn K (.ref f1) = true) (m1 : mg "_law_spot" = some (.ref f1)) (b1 : Binds K fd1 ["script", "spot"] [])
    (G2 : FnOk P w K mg base CX0 1 f2 fd2 ["cell", "k"] spMix) (k2 : PySem.W.keepIn K (.ref f2) = true) (m2 : mg "_law_mix" = some (.ref f2)) (b2 : Binds K fd2 ["cell", "k"] [])
    (G3 : FnOk P w K mg base CX0 (3 + n) f fd ["script", "spot", "names", "crowns", "deep"] (spWishR K n)) (k3 : PySem.W.keepIn K (.ref f) = true) (m3 : mg "_law_wish" = some (.ref f)) (b3 : Binds K fd ["script", "spot", "names", "crowns", "deep"] []) :
    FnOk P w K mg base CX0 (3 + n + 1) f fd ["script", "spot", "names", "crowns", "deep"] (spWish K n) := by
  refine F.ok scWish (fun vs H Q E h => ?_) (fun cdv A outer s H vs Q E hr h => ?_)
  · (refine εx5 h fun a sp nl cl ss c'356 => εx5 c'356 fun i b ns cs d c'357 => εa2 c'357 fun e'355 _ => ?_; (try clear h); clear c'356 c'357; subst e'355)
    rfl
  · (refine εx5 h fun a sp nl cl ss c'359 => εx5 c'359 fun i b ns cs d c'360 => εa10 c'360 fun e'358 ha hsp hnl nnsp hnsl hnn hcl ncsp c'361 => εa4 c'361 fun hcs hcsl hd q => ?_; (try clear h); clear c'359 c'360 c'361; subst e'358)
    have hu64 := hr.units
    refine (let X' : Cx := _; (?_ : ∃ t, PSs X' _ t ∧ _))
    refine ⟨_, pss_cons (ps_set (i := 5) scWish.nd rfl (Or.inl rfl) (pe_call G2 (hr.mono (by exact ω150)) rfl m2 k2 b2 .nil pass0 (pa_cons (pe_call G1 (hr.mono (by exact ω151)) rfl m1 k1 b1 .nil pass0 (pa_cons (pv 0) (pa_cons (pv 1) pa_nil))) (pa_cons (pe_ix ix_list (pv 1) pe_int (fun _ _ => rfl)) pa_nil))))
      (pss_cons (ps_set (i := 6) scWish.nd rfl (Or.inl rfl) (pe_op op_mod (pv 5) pe_int))
      (pss_cons (ps_asg (pe_op op_sub (pe_ix ix_list (pv 1) pe_int (fun _ _ => rfl)) pe_int) (pg_sub (pv 1) pe_int set_list))
      (pss_cons (ps_if (PW.pt (pw_or (pt_cmpR op_lt (pv 4) pe_int (nomark _)) (pw_or (pt_cmpR op_lt (pe_ix ix_list (pv 1) pe_int (fun _ _ => rfl)) pe_int (nomark _)) (pw_or1 (pt_cmpR op_eq (pv 6) pe_int (nomark _)))))) (pss_cons (ps_cut (ps_if (PW.pt (pw_and (pt_cmpR (op_neD hu64) (pv 2) (pe_lst pa_nil) (nomark _)) (pw_and1 (pt_cmpR op_gt (pe_op op_mod (pe_op op_fdiv (pv 5) pe_int) pe_int) pe_int (nomark _))))) (pss_one (ps_ret (pe_tup (pa_cons pe_str (pa_cons (pe_ix ix_list (pv 2) (pe_op op_mod (pe_op op_fdiv (pv 5) pe_int) (pe_callB call_len_seq rfl T.len PySem.boot_len (pa_cons (pv 2) pa_nil))) (fun _ _ => rfl)) pa_nil))))) pss_nil))
        (pss_one (ps_ret (pe_tup (pa_cons (pe_ix ix_list (pe_lst (pa_cons pe_str (pa_cons pe_str pa_nil))) (pe_op op_mod (pe_op op_fdiv (pv 5) pe_int) pe_int) (fun _ _ => rfl)) (pa_cons (pe_op op_add (pe_ix ix_list (pv 3) (pe_op op_mod (pe_op op_fdiv (pv 5) pe_int) (pe_callB call_len_seq rfl T.len PySem.boot_len (pa_cons (pv 3) pa_nil))) (fun _ _ => rfl)) (pe_callTy call_int_bl rfl T.int PyProof.Rows.boot_int (pa_cons (pe_cmpR op_eq (pe_op op_mod (pe_op op_fdiv (pv 5) pe_int) pe_int) pe_int (nomark _)) pa_nil))) pa_nil)))))) pss_nil)
      (pss_cons (ps_if (pt_cmpR op_lt (pv 6) pe_int (nomark _)) (pss_cons (ps_set (i := 7) scWish.nd rfl (Or.inl rfl) (pe_call G3 (hr.mono (by exact ω24)) rfl m3 k3 b3 .nil pass0 (pa_cons (pv 0) (pa_cons (pv 1) (pa_cons (pv 2) (pa_cons (pv 3) (pa_cons (pe_op op_sub (pv 4) pe_int) pa_nil)))))))
        (pss_one (ps_ret (pe_tup (pa_cons (pe_ix ix_list (pe_lst (pa_cons pe_str (pa_cons pe_str pa_nil))) (pe_op op_sub (pv 6) pe_int) (fun _ _ => rfl)) (pa_cons (pv 7) (pa_cons (pe_call G3 (hr.mono (by exact ω24)) rfl m3 k3 b3 .nil pass0 (pa_cons (pv 0) (pa_cons (pv 1) (pa_cons (pv 2) (pa_cons (pv 3) (pa_cons (pe_op op_sub (pv 4) pe_int) pa_nil)))))) pa_nil))))))) pss_nil)
      (pss_cons (ps_if (pt_cmpR op_lt (pv 6) pe_int (nomark _)) (pss_one (ps_ret (pe_tup (pa_cons (pe_ix ix_list (pe_lst (pa_cons pe_str (pa_cons pe_str pa_nil))) (pe_op op_sub (pv 6) pe_int) (fun _ _ => rfl)) (pa_cons (pe_call G3 (hr.mono (by exact ω24)) rfl m3 k3 b3 .nil pass0 (pa_cons (pv 0) (pa_cons (pv 1) (pa_cons (pv 2) (pa_cons (pv 3) (pa_cons (pe_op op_sub (pv 4) pe_int) pa_nil)))))) pa_nil))))) pss_nil)
      (pss_cons (ps_set (i := 8) scWish.nd rfl (Or.inl rfl) (pe_ix ix_list (pe_lst (pa_cons pe_str (pa_cons pe_str (pa_cons pe_str (pa_cons pe_str pa_nil))))) (pe_op op_mod (pe_op op_fdiv (pv 5) pe_int) pe_int) (fun _ _ => rfl)))
      (pss_cons (ps_set (i := 9) scWish.nd rfl (Or.inl rfl) (pe_call G3 (hr.mono (by exact ω24)) rfl m3 k3 b3 .nil pass0 (pa_cons (pv 0) (pa_cons (pv 1) (pa_cons (pe_op op_cat (pv 2) (pe_lst (pa_cons (pv 8) pa_nil))) (pa_cons (pv 3) (pa_cons (pe_op op_sub (pv 4) pe_int) pa_nil)))))))
      (pss_one (ps_ret (pe_tup (pa_cons (pe_ix ix_list (pe_lst (pa_cons pe_str (pa_cons pe_str (pa_cons pe_str (pa_cons pe_str pa_nil))))) (pe_op op_sub (pv 6) pe_int) (fun _ _ => rfl)) (pa_cons (pv 8) (pa_cons (pv 9) pa_nil))))))))))))), ?_⟩
    refine (let U'8 : TS := _; let U'7 : TS := tSeq _ U'8; let U'6 : TS := tSeq _ U'7; let U'5 : TS := tSeq _ U'6; let U'4 : TS := tSeq _ U'5; let U'3 : TS := tSeq _ U'4; let U'2 : TS := tSeq _ U'3; let U'1 : TS := tSeq _ U'2; (?_ : tSeq _ U'1 _ _ _))
    refine (ιEAEAEE _ rfl _ rfl a sp (ιEEE ss i b ⟨rfl, ha, hsp, fun z0 H1 hsp1 bt1 => ?_⟩))
    refine (ιEAEEE _ rfl sp _ 0 (ιEAAAAEE (.int ((i + 1 : Nat) : Int)) rfl rfl (SqL.of hsp1) rfl z0 _ ⟨rfl, fun z => ?_⟩))
    refine (ιEAEE _ rfl _ _ ⟨rfl, rfl, (by show (0 : Int) < 9; decide), ?_⟩)
    refine (ιEAEEE _ rfl sp _ 1 (ιEAAAAEE (.int b) rfl rfl (SqL.of hsp1) rfl _ _ ⟨rfl, rfl, ιEAEEE _ rfl sp _ 1 ⟨1, rfl, rfl, hsp1, rfl, ?_⟩⟩))
    have bt2 : But sp H (upd H1 sp (.lst [.int ((i + 1 : Nat) : Int), .int (b - 1)])) := bt1.trans fun c o h n => by rw [upd_ne n]; exact h
    have hsp2 : upd H1 sp (.lst [.int ((i + 1 : Nat) : Int), .int (b - 1)]) sp = some (.lst [.int ((i + 1 : Nat) : Int), .int (b - 1)]) := upd_same
    dsimp only
    rw [show [V.int ((i + 1 : Nat) : Int), V.int b].set 1 (.int (b - 1)) = [.int ((i + 1 : Nat) : Int), .int (b - 1)] from rfl]
    generalize upd H1 sp (.lst [.int ((i + 1 : Nat) : Int), .int (b - 1)]) = H2 at bt2 hsp2 ⊢
    have hnl2 := bt2 nl _ hnl nnsp
    have hcl2 := bt2 cl _ hcl ncsp
    refine (ιEAEEAAE _ rfl _ _ rfl rfl _ ⟨rfl, ?_⟩)
    by_cases c1 : d < 1
    · rw [decide_eq_true c1]
      refine iteT (iteT ?_)
      refine (let M'7 : St → Hp → Prop := fun σ' H' => σ' = [some (.ref a), some (.ref sp), some (.ref nl), some (.ref cl), some (.int d), some (.int z), some (.int (z % 9)), none, none, none] ∧ Same H2 H'; ⟨M'7, ?_, ?_⟩)
      · refine ⟨_, rfl, Nat.zero_le _, fun t ht => ?_⟩
        have smt : Same H2 (upd H2 t (.lst [])) := Same.upd ht
        have htt : upd H2 t (.lst []) t = some (.lst []) := upd_same
        generalize upd H2 t (.lst []) = H3 at smt htt
        refine (ιEEAAAAE _ _ (.lst (smt nl _ hnl2) (rds_strs _ ns)) (.lst htt .nil) (shaped_strs ns (fun x hx => (hnn x hx).2)) shaped_intsQ _ ⟨rfl, ?_⟩)
        rw [ne_nil_strs]
        cases hns : ns with
        | nil => exact iteF (iteF ⟨rfl, smt⟩)
        | cons x0 nr =>
          rw [← hns]
          have hpos : 0 < ns.length := by rw [hns]; simp
          rw [show (!ns.isEmpty) = true from by rw [hns]; rfl]
          refine iteT (ιEAEEAAAE _ rfl _ _ rfl rfl ⟨by decide, by decide⟩ _ (ιEAAAEE _ rfl rfl (by show (0 : Int) < 3; decide) _ _ ⟨rfl, rfl, _, rfl, ?_⟩))
          refine ite2 (fun _ => ?_) (fun _ => ⟨rfl, smt⟩)
          obtain ⟨x, hx, hat⟩ := at_mod V.str hpos (z / 27)
          refine (ιEAEAEE _ rfl _ rfl _ _ ⟨rfl, rfl, ⟨by decide, by decide⟩, ιEAEEAAE _ rfl nl _ rfl (.inl (SqL.of (smt nl _ hnl2))) _ (ιEAAAEEE _ rfl rfl (by show (0 : Int) < _; rw [List.length_map]; exact ω3 hpos) nl _ _ ⟨.str x, rfl, rfl, SqL.of (smt nl _ hnl2), hat, by show 2 ≤ sizeLine; decide, fun t2 ht2 => ?_⟩)⟩)
          have sm4 := Same.upd (o := .tup [.str "name", .str x]) ht2
          exact q _ (.name x) _ (i + 1) (b - 1) ⟨t2, rfl, upd_same⟩ ⟨by unfold dp; exact ω4, by unfold loose; simp [hx], (hnn x hx).1⟩ (sm4 sp _ (smt sp _ hsp2)) (bt2.trans (But.same (smt.trans sm4)))
      · rintro σ' H3 ⟨rfl, smt⟩
        refine ⟨by show 2 ≤ sizeLine; decide, fun l hl => ?_⟩
        have sml : Same H3 (upd H3 l (.lst [.str "is", .str "not"])) := Same.upd hl
        have hll : upd H3 l (.lst [.str "is", .str "not"]) l = some (.lst [.str "is", .str "not"]) := upd_same
        generalize upd H3 l (.lst [.str "is", .str "not"]) = H4 at sml hll
        have sm24 := smt.trans sml
        have hcpos : 0 < cs.length := by cases cs with
          | nil => exact absurd rfl hcs
          | cons _ _ => simp
        obtain ⟨c, hc, hat⟩ := at_mod V.int hcpos (z / 54)
        obtain ⟨kk, hk, hkk⟩ : ∃ kk : Str, atI [V.str "is", V.str "not"] (z / 27 % 2) = some (.str kk) ∧ (kk = "is" ∨ kk = "not") := by
          have : z / 27 % 2 = 0 ∨ z / 27 % 2 = 1 := by exact ω40
          rcases this with e | e <;> rw [e]
          · exact ⟨"is", rfl, .inl rfl⟩
          · exact ⟨"not", rfl, .inr rfl⟩
        refine (ιEAEEAAAE _ rfl _ _ rfl rfl ⟨by decide, by decide⟩ _ (ιEAAAEEE _ rfl rfl (by show (0 : Int) < 2; decide) l _ _ (ιEAAAAEAE (.str kk) rfl rfl (SqL.of hll) hk _ rfl _ ⟨rfl, ιEEAAAE _ _ rfl rfl ⟨by decide, by decide⟩ _ ⟨rfl, ιEEAAEE cl _ rfl (.inl (SqL.of (sm24 cl _ hcl2))) _ _ ⟨rfl, rfl, (by show (0 : Int) < _; rw [List.length_map]; exact ω3 hcpos), ιEEEE cl _ _ (.int c) ⟨rfl, rfl, SqL.of (sm24 cl _ hcl2), hat, ιEAEEAAAE _ rfl _ _ rfl rfl ⟨by decide, by decide⟩ _ (ιEAAAAEAE _ rfl rfl (by show (0 : Int) < 8; decide) rfl _ rfl _ ⟨_, rfl, rfl, by show 2 ≤ sizeLine; decide, fun t2 ht2 => ?_⟩)⟩⟩⟩⟩)))
        rcases hkk with rfl | rfl
        · exact q _ (.is _) _ (i + 1) (b - 1) ⟨t2, rfl, upd_same⟩ ⟨by unfold dp; exact ω4, rfl, trivial⟩ ((Same.upd ht2) sp _ (sm24 sp _ hsp2)) (bt2.trans (But.same (sm24.trans (Same.upd ht2))))
        · exact q _ (.no _) _ (i + 1) (b - 1) ⟨t2, rfl, upd_same⟩ ⟨by unfold dp; exact ω4, rfl, trivial⟩ ((Same.upd ht2) sp _ (sm24 sp _ hsp2)) (bt2.trans (But.same (sm24.trans (Same.upd ht2))))
    rw [decide_eq_false c1]
    refine iteF (ιEAEEE _ rfl sp _ 1 (ιEAAAAEE (.int (b - 1)) rfl rfl (SqL.of hsp2) rfl _ _ ⟨rfl, rfl, _, rfl, ?_⟩))
    by_cases c2 : b - 1 < 2
    · rw [decide_eq_true c2]
      refine iteT (iteT ?_)
      refine (let M'8 : St → Hp → Prop := fun σ' H' => σ' = [some (.ref a), some (.ref sp), some (.ref nl), some (.ref cl), some (.int d), some (.int z), some (.int (z % 9)), none, none, none] ∧ Same H2 H'; ⟨M'8, ?_, ?_⟩)
      · refine ⟨_, rfl, Nat.zero_le _, fun t ht => ?_⟩
        have smt : Same H2 (upd H2 t (.lst [])) := Same.upd ht
        have htt : upd H2 t (.lst []) t = some (.lst []) := upd_same
        generalize upd H2 t (.lst []) = H3 at smt htt
        refine (ιEEAAAAE _ _ (.lst (smt nl _ hnl2) (rds_strs _ ns)) (.lst htt .nil) (shaped_strs ns (fun x hx => (hnn x hx).2)) shaped_intsQ _ ⟨rfl, ?_⟩)
        rw [ne_nil_strs]
        cases hns : ns with
        | nil => exact iteF (iteF ⟨rfl, smt⟩)
        | cons x0 nr =>
          rw [← hns]
          have hpos : 0 < ns.length := by rw [hns]; simp
          rw [show (!ns.isEmpty) = true from by rw [hns]; rfl]
          refine iteT (ιEAEEAAAE _ rfl _ _ rfl rfl ⟨by decide, by decide⟩ _ (ιEAAAEE _ rfl rfl (by show (0 : Int) < 3; decide) _ _ ⟨rfl, rfl, _, rfl, ?_⟩))
          refine ite2 (fun _ => ?_) (fun _ => ⟨rfl, smt⟩)
          obtain ⟨x, hx, hat⟩ := at_mod V.str hpos (z / 27)
          refine (ιEAEAEE _ rfl _ rfl _ _ ⟨rfl, rfl, ⟨by decide, by decide⟩, ιEAEEAAE _ rfl nl _ rfl (.inl (SqL.of (smt nl _ hnl2))) _ (ιEAAAEEE _ rfl rfl (by show (0 : Int) < _; rw [List.length_map]; exact ω3 hpos) nl _ _ ⟨.str x, rfl, rfl, SqL.of (smt nl _ hnl2), hat, by show 2 ≤ sizeLine; decide, fun t2 ht2 => ?_⟩)⟩)
          have sm4 := Same.upd (o := .tup [.str "name", .str x]) ht2
          exact q _ (.name x) _ (i + 1) (b - 1) ⟨t2, rfl, upd_same⟩ ⟨by unfold dp; exact ω4, by unfold loose; simp [hx], (hnn x hx).1⟩ (sm4 sp _ (smt sp _ hsp2)) (bt2.trans (But.same (smt.trans sm4)))
      · rintro σ' H3 ⟨rfl, smt⟩
        refine ⟨by show 2 ≤ sizeLine; decide, fun l hl => ?_⟩
        have sml : Same H3 (upd H3 l (.lst [.str "is", .str "not"])) := Same.upd hl
        have hll : upd H3 l (.lst [.str "is", .str "not"]) l = some (.lst [.str "is", .str "not"]) := upd_same
        generalize upd H3 l (.lst [.str "is", .str "not"]) = H4 at sml hll
        have sm24 := smt.trans sml
        have hcpos : 0 < cs.length := by cases cs with
          | nil => exact absurd rfl hcs
          | cons _ _ => simp
        obtain ⟨c, hc, hat⟩ := at_mod V.int hcpos (z / 54)
        obtain ⟨kk, hk, hkk⟩ : ∃ kk : Str, atI [V.str "is", V.str "not"] (z / 27 % 2) = some (.str kk) ∧ (kk = "is" ∨ kk = "not") := by
          have : z / 27 % 2 = 0 ∨ z / 27 % 2 = 1 := by exact ω40
          rcases this with e | e <;> rw [e]
          · exact ⟨"is", rfl, .inl rfl⟩
          · exact ⟨"not", rfl, .inr rfl⟩
        refine (ιEAEEAAAE _ rfl _ _ rfl rfl ⟨by decide, by decide⟩ _ (ιEAAAEEE _ rfl rfl (by show (0 : Int) < 2; decide) l _ _ (ιEAAAAEAE (.str kk) rfl rfl (SqL.of hll) hk _ rfl _ ⟨rfl, ιEEAAAE _ _ rfl rfl ⟨by decide, by decide⟩ _ ⟨rfl, ιEEAAEE cl _ rfl (.inl (SqL.of (sm24 cl _ hcl2))) _ _ ⟨rfl, rfl, (by show (0 : Int) < _; rw [List.length_map]; exact ω3 hcpos), ιEEEE cl _ _ (.int c) ⟨rfl, rfl, SqL.of (sm24 cl _ hcl2), hat, ιEAEEAAAE _ rfl _ _ rfl rfl ⟨by decide, by decide⟩ _ (ιEAAAAEAE _ rfl rfl (by show (0 : Int) < 8; decide) rfl _ rfl _ ⟨_, rfl, rfl, by show 2 ≤ sizeLine; decide, fun t2 ht2 => ?_⟩)⟩⟩⟩⟩)))
        rcases hkk with rfl | rfl
        · exact q _ (.is _) _ (i + 1) (b - 1) ⟨t2, rfl, upd_same⟩ ⟨by unfold dp; exact ω4, rfl, trivial⟩ ((Same.upd ht2) sp _ (sm24 sp _ hsp2)) (bt2.trans (But.same (sm24.trans (Same.upd ht2))))
        · exact q _ (.no _) _ (i + 1) (b - 1) ⟨t2, rfl, upd_same⟩ ⟨by unfold dp; exact ω4, rfl, trivial⟩ ((Same.upd ht2) sp _ (sm24 sp _ hsp2)) (bt2.trans (But.same (sm24.trans (Same.upd ht2))))
    rw [decide_eq_false c2]
    refine iteF (ιEAAE _ rfl rfl _ ⟨rfl, ?_⟩)
    rw [dec_iiQ]
    by_cases c3 : z % 9 = 0
    · rw [decide_eq_true c3]
      refine iteT ?_
      refine (let M'9 : St → Hp → Prop := fun σ' H' => σ' = [some (.ref a), some (.ref sp), some (.ref nl), some (.ref cl), some (.int d), some (.int z), some (.int (z % 9)), none, none, none] ∧ Same H2 H'; ⟨M'9, ?_, ?_⟩)
      · refine ⟨_, rfl, Nat.zero_le _, fun t ht => ?_⟩
        have smt : Same H2 (upd H2 t (.lst [])) := Same.upd ht
        have htt : upd H2 t (.lst []) t = some (.lst []) := upd_same
        generalize upd H2 t (.lst []) = H3 at smt htt
        refine (ιEEAAAAE _ _ (.lst (smt nl _ hnl2) (rds_strs _ ns)) (.lst htt .nil) (shaped_strs ns (fun x hx => (hnn x hx).2)) shaped_intsQ _ ⟨rfl, ?_⟩)
        rw [ne_nil_strs]
        cases hns : ns with
        | nil => exact iteF (iteF ⟨rfl, smt⟩)
        | cons x0 nr =>
          rw [← hns]
          have hpos : 0 < ns.length := by rw [hns]; simp
          rw [show (!ns.isEmpty) = true from by rw [hns]; rfl]
          refine iteT (ιEAEEAAAE _ rfl _ _ rfl rfl ⟨by decide, by decide⟩ _ (ιEAAAEE _ rfl rfl (by show (0 : Int) < 3; decide) _ _ ⟨rfl, rfl, _, rfl, ?_⟩))
          refine ite2 (fun _ => ?_) (fun _ => ⟨rfl, smt⟩)
          obtain ⟨x, hx, hat⟩ := at_mod V.str hpos (z / 27)
          refine (ιEAEAEE _ rfl _ rfl _ _ ⟨rfl, rfl, ⟨by decide, by decide⟩, ιEAEEAAE _ rfl nl _ rfl (.inl (SqL.of (smt nl _ hnl2))) _ (ιEAAAEEE _ rfl rfl (by show (0 : Int) < _; rw [List.length_map]; exact ω3 hpos) nl _ _ ⟨.str x, rfl, rfl, SqL.of (smt nl _ hnl2), hat, by show 2 ≤ sizeLine; decide, fun t2 ht2 => ?_⟩)⟩)
          have sm4 := Same.upd (o := .tup [.str "name", .str x]) ht2
          exact q _ (.name x) _ (i + 1) (b - 1) ⟨t2, rfl, upd_same⟩ ⟨by unfold dp; exact ω4, by unfold loose; simp [hx], (hnn x hx).1⟩ (sm4 sp _ (smt sp _ hsp2)) (bt2.trans (But.same (smt.trans sm4)))
      · rintro σ' H3 ⟨rfl, smt⟩
        refine ⟨by show 2 ≤ sizeLine; decide, fun l hl => ?_⟩
        have sml : Same H3 (upd H3 l (.lst [.str "is", .str "not"])) := Same.upd hl
        have hll : upd H3 l (.lst [.str "is", .str "not"]) l = some (.lst [.str "is", .str "not"]) := upd_same
        generalize upd H3 l (.lst [.str "is", .str "not"]) = H4 at sml hll
        have sm24 := smt.trans sml
        have hcpos : 0 < cs.length := by cases cs with
          | nil => exact absurd rfl hcs
          | cons _ _ => simp
        obtain ⟨c, hc, hat⟩ := at_mod V.int hcpos (z / 54)
        obtain ⟨kk, hk, hkk⟩ : ∃ kk : Str, atI [V.str "is", V.str "not"] (z / 27 % 2) = some (.str kk) ∧ (kk = "is" ∨ kk = "not") := by
          have : z / 27 % 2 = 0 ∨ z / 27 % 2 = 1 := by exact ω40
          rcases this with e | e <;> rw [e]
          · exact ⟨"is", rfl, .inl rfl⟩
          · exact ⟨"not", rfl, .inr rfl⟩
        refine (ιEAEEAAAE _ rfl _ _ rfl rfl ⟨by decide, by decide⟩ _ (ιEAAAEEE _ rfl rfl (by show (0 : Int) < 2; decide) l _ _ (ιEAAAAEAE (.str kk) rfl rfl (SqL.of hll) hk _ rfl _ ⟨rfl, ιEEAAAE _ _ rfl rfl ⟨by decide, by decide⟩ _ ⟨rfl, ιEEAAEE cl _ rfl (.inl (SqL.of (sm24 cl _ hcl2))) _ _ ⟨rfl, rfl, (by show (0 : Int) < _; rw [List.length_map]; exact ω3 hcpos), ιEEEE cl _ _ (.int c) ⟨rfl, rfl, SqL.of (sm24 cl _ hcl2), hat, ιEAEEAAAE _ rfl _ _ rfl rfl ⟨by decide, by decide⟩ _ (ιEAAAAEAE _ rfl rfl (by show (0 : Int) < 8; decide) rfl _ rfl _ ⟨_, rfl, rfl, by show 2 ≤ sizeLine; decide, fun t2 ht2 => ?_⟩)⟩⟩⟩⟩)))
        rcases hkk with rfl | rfl
        · exact q _ (.is _) _ (i + 1) (b - 1) ⟨t2, rfl, upd_same⟩ ⟨by unfold dp; exact ω4, rfl, trivial⟩ ((Same.upd ht2) sp _ (sm24 sp _ hsp2)) (bt2.trans (But.same (sm24.trans (Same.upd ht2))))
        · exact q _ (.no _) _ (i + 1) (b - 1) ⟨t2, rfl, upd_same⟩ ⟨by unfold dp; exact ω4, rfl, trivial⟩ ((Same.upd ht2) sp _ (sm24 sp _ hsp2)) (bt2.trans (But.same (sm24.trans (Same.upd ht2))))
    rw [decide_eq_false c3]
    refine iteF ?_
    obtain ⟨n', rfl⟩ : ∃ n', n = n' + 1 := ⟨n - 1, by exact ω152 hd c1⟩
    refine (ιEAEEAAE _ rfl _ _ rfl rfl _ ⟨rfl, ?_⟩)
    by_cases c4 : z % 9 < 3
    · rw [decide_eq_true c4]
      refine iteT (ιEAEAEAE _ rfl _ rfl _ rfl _ ⟨rfl, ιEAEEAAE _ rfl _ _ rfl rfl a (ιEEEE sp nl cl ss (ιEEEE (i + 1) (b - 1) ns cs ⟨d - 1, rfl, (fun H' b' => ha H' (bt2.trans b')), hsp2, hnl2, nnsp, by exact ω41 hnsl, hnn, hcl2, ncsp, hcs, hcsl, by exact ω25 hd, fun v1 w1 H3 i3 b3 iw1 ws1 hsp3 bt3 => ?_⟩))⟩)
      obtain ⟨kk, hk, hkk⟩ : ∃ kk : Str, atI [V.str "and", V.str "or"] (z % 9 - 1) = some (.str kk) ∧ (kk = "and" ∨ kk = "or") := by
        have : z % 9 - 1 = 0 ∨ z % 9 - 1 = 1 := by exact ω153 c3 c4
        rcases this with e | e <;> rw [e]
        · exact ⟨"and", rfl, .inl rfl⟩
        · exact ⟨"or", rfl, .inr rfl⟩
      refine ⟨by show 2 ≤ sizeLine; decide, fun l hl => ?_⟩
      have sml : Same H3 (upd H3 l (.lst [.str "and", .str "or"])) := Same.upd hl
      have hll : upd H3 l (.lst [.str "and", .str "or"]) l = some (.lst [.str "and", .str "or"]) := upd_same
      generalize upd H3 l (.lst [.str "and", .str "or"]) = H4 at sml hll
      have bt4 := (bt2.trans bt3).trans (But.same sml)
      refine (ιEAEEAAE _ rfl _ _ rfl rfl l (ιEEEAAAAE _ _ (.str kk) rfl rfl (SqL.of hll) hk _ ⟨rfl, ιEAEAEAE _ rfl _ rfl _ rfl _ ⟨rfl, ιEAEEAAE _ rfl _ _ rfl rfl a (ιEEEE sp nl cl ss (ιEEEE i3 b3 ns cs ⟨d - 1, rfl, (fun H' b' => ha H' (bt4.trans b')), sml sp _ hsp3, bt4 nl _ hnl nnsp, nnsp, by exact ω41 hnsl, hnn, bt4 cl _ hcl ncsp, ncsp, hcs, hcsl, by exact ω25 hd, fun v2 w2 H5 i5 b5 iw2 ws2 hsp5 bt5 => ⟨by show 3 ≤ sizeLine; decide, fun t ht => ?_⟩⟩))⟩⟩))
      have sm6 := Same.upd (o := .tup [.str kk, v1, v2]) ht
      have iw1' := ((iw1.tk sml.tk).tk (bt5.tk (sml sp _ hsp3))).tk sm6.tk
      have bt6 := (bt4.trans bt5).trans (But.same sm6)
      rcases hkk with rfl | rfl
      · exact q _ (.and w1 w2) _ i5 b5 ⟨t, v1, v2, rfl, upd_same, iw1', iw2.tk sm6.tk⟩ ⟨by have := ws1.dp; have := ws2.dp; unfold dp; exact ω62 (by assumption) this, by unfold loose; rw [ws1.cl, ws2.cl]; rfl, ws1.nm, ws2.nm⟩ (sm6 sp _ hsp5) bt6
      · exact q _ (.or w1 w2) _ i5 b5 ⟨t, v1, v2, rfl, upd_same, iw1', iw2.tk sm6.tk⟩ ⟨by have := ws1.dp; have := ws2.dp; unfold dp; exact ω62 (by assumption) this, by unfold loose; rw [ws1.cl, ws2.cl]; rfl, ws1.nm, ws2.nm⟩ (sm6 sp _ hsp5) bt6
    rw [decide_eq_false c4]
    refine iteF (ιEAEEAAE _ rfl _ _ rfl rfl _ ⟨rfl, ?_⟩)
    by_cases c5 : z % 9 < 5
    · rw [decide_eq_true c5]
      obtain ⟨kk, hk, hkk⟩ : ∃ kk : Str, atI [V.str "all", V.str "some"] (z % 9 - 3) = some (.str kk) ∧ (kk = "all" ∨ kk = "some") := by
        have : z % 9 - 3 = 0 ∨ z % 9 - 3 = 1 := by exact ω154 c4 c5
        rcases this with e | e <;> rw [e]
        · exact ⟨"all", rfl, .inl rfl⟩
        · exact ⟨"some", rfl, .inr rfl⟩
      refine iteT ⟨by show 2 ≤ sizeLine; decide, fun l hl => ?_⟩
      have sml : Same H2 (upd H2 l (.lst [.str "all", .str "some"])) := Same.upd hl
      have hll : upd H2 l (.lst [.str "all", .str "some"]) l = some (.lst [.str "all", .str "some"]) := upd_same
      generalize upd H2 l (.lst [.str "all", .str "some"]) = H4 at sml hll
      have bt4 := bt2.trans (But.same sml)
      refine (ιEAEEAAE _ rfl _ _ rfl rfl l (ιEEEAAAAE _ _ (.str kk) rfl rfl (SqL.of hll) hk _ ⟨rfl, ιEAEAEAE _ rfl _ rfl _ rfl _ ⟨rfl, ιEEAAEE _ _ rfl rfl a sp (ιEEEE nl cl ss (i + 1) (ιEEEE (b - 1) ns cs (d - 1) ⟨rfl, (fun H' b' => ha H' (bt4.trans b')), sml sp _ hsp2, bt4 nl _ hnl nnsp, nnsp, by exact ω41 hnsl, hnn, bt4 cl _ hcl ncsp, ncsp, hcs, hcsl, by exact ω25 hd, fun v2 w2 H5 i5 b5 iw2 ws2 hsp5 bt5 => ⟨by show 2 ≤ sizeLine; decide, fun t ht => ?_⟩⟩))⟩⟩))
      have sm6 := Same.upd (o := .tup [.str kk, v2]) ht
      have bt6 := (bt4.trans bt5).trans (But.same sm6)
      rcases hkk with rfl | rfl
      · exact q _ (.all w2) _ i5 b5 ⟨t, v2, rfl, upd_same, iw2.tk sm6.tk⟩ ⟨by have := ws2.dp; unfold dp; exact ω26 this, ws2.cl, ws2.nm⟩ (sm6 sp _ hsp5) bt6
      · exact q _ (.some w2) _ i5 b5 ⟨t, v2, rfl, upd_same, iw2.tk sm6.tk⟩ ⟨by have := ws2.dp; unfold dp; exact ω26 this, ws2.cl, ws2.nm⟩ (sm6 sp _ hsp5) bt6
    rw [decide_eq_false c5]
    obtain ⟨x, hx, hx9⟩ : ∃ x : Str, atI [V.str "a", V.str "bb", V.str "xyz", V.str "a"] (z / 9 % 4) = some (.str x) ∧ x.length ≤ 9 ∧ PyData.strOk x = true := by
      have : z / 9 % 4 = 0 ∨ z / 9 % 4 = 1 ∨ z / 9 % 4 = 2 ∨ z / 9 % 4 = 3 := by exact ω155
      rcases this with e | e | e | e <;> rw [e]
      · exact ⟨"a", rfl, by decide +kernel, by decide +kernel⟩
      · exact ⟨"bb", rfl, by decide +kernel, by decide +kernel⟩
      · exact ⟨"xyz", rfl, by decide +kernel, by decide +kernel⟩
      · exact ⟨"a", rfl, by decide +kernel, by decide +kernel⟩
    refine iteF ⟨by show 4 ≤ sizeLine; decide, fun l hl => ?_⟩
    have sml : Same H2 (upd H2 l (.lst [.str "a", .str "bb", .str "xyz", .str "a"])) := Same.upd hl
    have hll : upd H2 l (.lst [.str "a", .str "bb", .str "xyz", .str "a"]) l = some (.lst [.str "a", .str "bb", .str "xyz", .str "a"]) := upd_same
    generalize upd H2 l (.lst [.str "a", .str "bb", .str "xyz", .str "a"]) = H3 at sml hll
    refine (ιEAEEAAAE _ rfl _ _ rfl rfl ⟨by decide, by decide⟩ _ (ιEAAAEEE _ rfl rfl (by show (0 : Int) < 4; decide) l _ _ ⟨.str x, rfl, rfl, SqL.of hll, hx, ?_⟩))
    refine (ιEAEAEAE _ rfl _ rfl _ rfl _ ⟨rfl, by show 1 ≤ sizeLine; decide, fun l1 hl1 => ?_⟩)
    have sm1 : Same H3 (upd H3 l1 (.lst [.str x])) := Same.upd hl1
    have hl11 : upd H3 l1 (.lst [.str x]) l1 = some (.lst [.str x]) := upd_same
    generalize upd H3 l1 (.lst [.str x]) = H4 at sm1 hl11
    have sm24 := sml.trans sm1
    refine (ιEEEE nl l1 _ _ ⟨rfl, rfl, sm24 nl _ hnl2, hl11, (by rw [List.length_map, sizeLine_eq]; simp only [List.length_singleton]; exact ω156 hnsl), fun l2 hl2 => ?_⟩)
    have sm2 : Same H4 (upd H4 l2 (.lst (ns.map V.str ++ [.str x]))) := Same.upd hl2
    have hl22 : upd H4 l2 (.lst (ns.map V.str ++ [.str x])) l2 = some (.lst ((ns ++ [x]).map V.str)) := by rw [upd_same, List.map_append]; rfl
    have n2 : l2 ≠ sp := Ne.symm (ne_of_none (sm24 sp _ hsp2) hl2)
    generalize upd H4 l2 (.lst (ns.map V.str ++ [.str x])) = H5 at sm2 hl22
    have bt5 := bt2.trans (But.same (sm24.trans sm2))
    refine (ιEAEAEE _ rfl _ rfl _ _ ⟨rfl, rfl, ιEEEE a sp l2 cl (ιEEEE ss (i + 1) (b - 1) (ns ++ [x]) (ιEE cs (d - 1) ⟨rfl, (fun H' b' => ha H' (bt5.trans b')), (sm24.trans sm2) sp _ hsp2, hl22, n2, by simp; exact ω157 hnsl, fun y hy => ?_, bt5 cl _ hcl ncsp, ncsp, hcs, hcsl, by exact ω25 hd, fun v1 w1 H6 i6 b6 iw1 ws1 hsp6 bt6 => ?_⟩))⟩)
    · rcases List.mem_append.mp hy with z | z
      · exact hnn y z
      · rw [List.mem_singleton.mp z]; exact hx9
    · obtain ⟨kk, hk, hkk⟩ : ∃ kk : Str, atI [V.str "least", V.str "most", V.str "least", V.str "most"] (z % 9 - 5) = some (.str kk) ∧ (kk = "least" ∨ kk = "most") := by
        have : z % 9 - 5 = 0 ∨ z % 9 - 5 = 1 ∨ z % 9 - 5 = 2 ∨ z % 9 - 5 = 3 := by exact ω158 c5
        rcases this with e | e | e | e <;> rw [e]
        · exact ⟨"least", rfl, .inl rfl⟩
        · exact ⟨"most", rfl, .inr rfl⟩
        · exact ⟨"least", rfl, .inl rfl⟩
        · exact ⟨"most", rfl, .inr rfl⟩
      refine ⟨by show 4 ≤ sizeLine; decide, fun l3 hl3 => ?_⟩
      have sm7 : Same H6 (upd H6 l3 (.lst [.str "least", .str "most", .str "least", .str "most"])) := Same.upd hl3
      have hl33 : upd H6 l3 (.lst [.str "least", .str "most", .str "least", .str "most"]) l3 = some (.lst [.str "least", .str "most", .str "least", .str "most"]) := upd_same
      generalize upd H6 l3 (.lst [.str "least", .str "most", .str "least", .str "most"]) = H7 at sm7 hl33
      refine (ιEAEEAAE _ rfl _ _ rfl rfl l3 (ιEEEAAAAE _ _ (.str kk) rfl rfl (SqL.of hl33) hk _ ⟨rfl, _, rfl, by show 3 ≤ sizeLine; decide, fun t ht => ?_⟩))
      have sm8 := Same.upd (o := .tup [.str kk, .str x, v1]) ht
      have lo : loose (dpt (fun y => decide (y ∈ ns)) x) w1 = false := by rw [dput_snoc]; exact ws1.cl
      have bt8 := (bt5.trans bt6).trans (But.same (sm7.trans sm8))
      rcases hkk with rfl | rfl
      · exact q _ (.least x w1) _ i6 b6 ⟨t, v1, rfl, upd_same, iw1.tk (sm7.trans sm8).tk⟩ ⟨by have := ws1.dp; unfold dp; exact ω26 this, lo, hx9.1, ws1.nm⟩ (sm8 sp _ (sm7 sp _ hsp6)) bt8
      · exact q _ (.most x w1) _ i6 b6 ⟨t, v1, rfl, upd_same, iw1.tk (sm7.trans sm8).tk⟩ ⟨by have := ws1.dp; unfold dp; exact ω26 this, lo, hx9.1, ws1.nm⟩ (sm8 sp _ (sm7 sp _ hsp6)) bt8
theorem ok_lwish {f f1 f2 : Addr} {fd fd1 fd2 : FuncData} (n : Nat) (F : Fun K "_law_wish" "_law_wish" sWish f fd) (T : Txt mg)
    (G1 : FnOk P w K mg base CX0 3 f1 fd1 ["script", "spot"] (spSpot K)) (k1 : PySem.W.keepIn K (.ref f1) = true) (m1 : mg "_law_spot" = some (.ref f1)) (b1 : Binds K fd1 ["script", "spot"] [])
    (G2 : FnOk P w K mg base CX0 1 f2 fd2 ["cell", "k"] spMix) (k2 : PySem.W.keepIn K (.ref f2) = true) (m2 : mg "_law_mix" = some (.ref f2)) (b2 : Binds K fd2 ["cell", "k"] [])
    (k3 : PySem.W.keepIn K (.ref f) = true) (m3 : mg "_law_wish" = some (.ref f)) (b3 : Binds K fd ["script", "spot", "names", "crowns", "deep"] []) :
    FnOk P w K mg base CX0 (3 + n + 1) f fd ["script", "spot", "names", "crowns", "deep"] (spWish K n) := by
  have go : ∀ n, FnOk P w K mg base CX0 (3 + n) f fd ["script", "spot", "names", "crowns", "deep"] (spWishR K n) := fun n => by
    induction n with
    | zero => exact ⟨fun _ _ _ _ h => h.elim, fun _ _ _ _ _ _ _ _ _ _ _ _ _ h => h.elim⟩
    | succ n ih => exact wish_body n F T G1 k1 m1 b1 G2 k2 m2 b2 ih k3 m3 b3
  exact wish_body n F T G1 k1 m1 b1 G2 k2 m2 b2 (go n) k3 m3 b3
end
end K18
namespace K18
open PySem L2 Gm
structure Nms8 (mg : Str → Option Value) (cl : Nat → Addr) : Prop where
  m1 : mg "Stuck" = some (.ref (cl 1))
  m2 : mg "NoPlace" = some (.ref (cl 2))
  m3 : mg "Twice" = some (.ref (cl 3))
  m4 : mg "TooMany" = some (.ref (cl 4))
  m5 : mg "Lost" = some (.ref (cl 5))
  m6 : mg "Loose" = some (.ref (cl 6))
  m7 : mg "NoNote" = some (.ref (cl 7))
  m8 : mg "WalkError" = some (.ref (cl 8))
structure Cls1 (K : PySem.W.Frag) (cl : Nat → Addr) (d : Nat) : Prop where
  lo : 1 ≤ d
  hi : d ≤ 7
  ex : ExK K (cl d)
  kit : ∀ j, 1 ≤ j → j ≤ 7 → PySem.W.kitOne K (.ref (cl d)) (.ref (cl j)) = some (decide (d = j))
  ve : PySem.W.kitOne K (.ref (cl d)) (.type "ValueError") = some true
  we : PySem.W.exmOne K (.ref (cl d)) (.ref (cl 8)) = some true
noncomputable def code (d : Nat) : Int := if d ≤ 3 then d else if d = 4 then 0 else d - 1
noncomputable def mks (d : Nat) : List Bool := [decide (d = 4), decide (d = 1), decide (d = 2), decide (d = 3), decide (d = 5), decide (d = 6), decide (d = 7), true]
noncomputable def spRefused : Sp := fun vs H Q _ => ∃ (a : Addr) (d : Nat), vs = [.ref a, .int (code d)] ∧ 1 ≤ d ∧ d ≤ 7 ∧ H a = some (.lst ((mks d).map V.bl)) ∧ ∀ H', Same H H' → Q (.bl true) H'
theorem scRefused : FnScope ["marks", "which"] ["marks", "which"] (defScope sRefused) := ⟨rfl, rfl, rfl, by decide +kernel, rfl, by decide +kernel, by decide +kernel⟩
theorem lcR : LcOk (defScope sRefused) ["marks", "which"] ["k", "which"] [none, some 1] (mkSc [(".0", .local), ("k", .local), ("which", .free)]) :=
  ⟨rfl, by decide +kernel, by decide +kernel, by decide +kernel, by decide +kernel, rfl, by decide +kernel⟩
theorem rds_bools (H : Hp) : ∀ bs : List Bool, RDs H (bs.map V.bl) (bs.map PyData.bool)
  | [] => .nil
  | b :: r => .cons (.bl b) (rds_bools H r)
theorem can_bools : ∀ bs : List Bool, PyData.canLayAll0 (bs.map PyData.bool) = true
  | [] => by simp [PyData.canLayAll0]
  | w :: r => by simp [PyData.canLayAll0, PyData.canLay0, can_bools r]
theorem depth_bools : ∀ ws : List Bool, PyData.depthAll (ws.map PyData.bool) ≤ 1
  | [] => by simp [PyData.depthAll]
  | w :: r => by
    have := depth_bools r
    simp [PyData.depthAll, PyData.depth]
    try exact ω45 this
theorem shaped_bools (bs : List Bool) : SeqAt.shaped (.list (bs.map PyData.bool)) = true := by
  have h1 := can_bools bs
  have h2 := depth_bools bs
  unfold SeqAt.shaped
  rw [Bool.and_eq_true, decide_eq_true_eq]
  refine ⟨by simp [PyData.canLay0, h1], ?_⟩
  simp only [PyData.depth]
  exact ω47 h2
theorem eqv_bools : ∀ bs : List Bool, PyData.eqvAll (bs.map PyData.bool) (bs.map PyData.bool) = true
  | [] => by simp [PyData.eqvAll]
  | w :: r => by simp [PyData.eqvAll, PyData.eqv, eqv_bools r]
theorem mks_eq {d : Nat} (h1 : 1 ≤ d) (h4 : d ≤ 7) : (List.range 7).map (fun k : Nat => decide ((k : Int) = code d)) ++ [true] = mks d := by
  have : d = 1 ∨ d = 2 ∨ d = 3 ∨ d = 4 ∨ d = 5 ∨ d = 6 ∨ d = 7 := by exact ω165 h1 h4
  rcases this with rfl | rfl | rfl | rfl | rfl | rfl | rfl <;> decide
section
variable {P : Program} {w : World} {K : PySem.W.Frag} {mg : Str → Option Value} {base : Heap}
theorem ok_refused {f : Addr} {fd : FuncData} (F : Fun K "_law_refused" "_law_refused" sRefused f fd) (T : Txt mg) : FnOk P w K mg base CX0 1 f fd ["marks", "which"] spRefused := by
  refine F.ok scRefused (fun vs H Q E h => ?_) (fun cdv A outer s H vs Q E hr h => ?_)
  · (refine εx2 h fun a d c'363 => εa2 c'363 fun e'362 _ => ?_; (try clear h); clear c'363; subst e'362)
    rfl
  · (refine εx2 h fun a d c'365 => εa5 c'365 fun e'364 d1 d4 ha q => ?_; (try clear h); clear c'365; subst e'364)
    have hu64 := hr.units
    refine ⟨_, pss_one (ps_ret (pe_cmpR (op_eqD hu64) (pv 0) (pe_op op_cat (pe_lc rfl lcR (pi_range1 rfl T.range (pa_cons pe_int pa_nil)) (fun cl C ex s H => ⟨pg_name (i := 0) lcR.nd rfl (Or.inl rfl), pif_nil, pe_cmpR op_eq (pv 0) (pv 1) (nomark _)⟩)) (pe_lst (pa_cons pe_bl pa_nil))) (nomark _))), ?_⟩
    refine (ιEAE _ rfl 7 ⟨rfl, by decide, by decide, fun D hD => lc_range (n := 7) (fun i σ H2 => (∃ s0, σ = [s0, some (.int (code d))]) ∧ Same H H2 ∧ H2 D = some (.lst ((List.range i).map fun k : Nat => V.bl (decide ((k : Int) = code d))))) ?_ ?_ ?_⟩)
    · exact ⟨⟨none, rfl⟩, Same.upd hD, upd_same⟩
    · rintro i σ H2 hi ⟨⟨s0, rfl⟩, sm, hD2⟩
      have e0 : (0 : Int) + (i : Int) = ((i : Nat) : Int) := by exact ω5
      unfold gName
      rw [e0]
      refine iteT (ιEAE _ rfl _ ⟨rfl, rfl, _, hD2, ?_, ⟨_, rfl⟩, sm.upd' hD, ?_⟩)
      · rw [List.length_map, List.length_range, sizeLine_eq]; exact ω374 hi
      · rw [upd_same, List.range_succ, List.map_append]
        congr 3
        show [V.bl (decide (V.int (i : Int) = V.int (code d)))] = [V.bl (decide ((i : Int) = code d))]
        congr 2
        rw [decide_eq_decide]
        exact ⟨fun z => V.int.inj z, fun z => by rw [z]⟩
    · rintro σ H2 ⟨_, sm, hD2⟩
      refine ⟨by show 1 ≤ sizeLine; decide, fun l hl => ?_⟩
      have nDl : D ≠ l := ne_of_none hD2 hl
      refine (ιEEEE D l _ _ ⟨rfl, rfl, by rw [upd_ne nDl]; exact hD2, upd_same, by rw [List.length_map, sizeLine_eq]; decide, fun m hm => ?_⟩)
      have e : (List.range 7).map (fun k : Nat => V.bl (decide ((k : Int) = code d))) ++ [V.bl true] = (mks d).map V.bl := by
        rw [← mks_eq d1 d4, List.map_append, List.map_map]; rfl
      rw [e]
      have nla : a ≠ l := ne_of_none (sm a _ ha) hl
      have hal : (upd H2 l (.lst [.bl true])) a = some (.lst ((mks d).map V.bl)) := by rw [upd_ne nla]; exact sm a _ ha
      have nma : a ≠ m := ne_of_none hal hm
      refine (ιEE _ _ ⟨.lst (by rw [upd_ne nma]; exact hal) (rds_bools _ _), .lst upd_same (rds_bools _ _), shaped_bools _, shaped_bools _, ?_⟩)
      have : PyData.eqv (.list ((mks d).map PyData.bool)) (.list ((mks d).map PyData.bool)) = true := by simp [PyData.eqv, eqv_bools]
      rw [this]
      exact q _ ((sm.trans (Same.upd hl)).trans (Same.upd hm))
end
end K18
namespace K18
open PySem L2 Gm
noncomputable abbrev nLTold : List Str := ["game", "wish", "found", "marks", "e"]
theorem scLTold : FnScope nLTold ["game", "wish"] (defScope sLTold) := ⟨rfl, rfl, rfl, by decide +kernel, rfl, by decide +kernel, by decide +kernel⟩
noncomputable abbrev nLLoose : List Str := ["game", "wish", "told"]
theorem scLLoose : FnScope nLLoose ["game", "wish"] (defScope sLLoose) := ⟨rfl, rfl, rfl, by decide +kernel, rfl, by decide +kernel, by decide +kernel⟩
theorem boot_verr : bootBuiltins "ValueError" = some (.type "ValueError") := by kernel_rfl
noncomputable def Told8 (g : List Pl) (w : Wish) (H : Hp) (v : V) : Prop := ∃ (t m : Addr) (f : V), v = .ref t ∧ H t = some (.tup [f, .ref m]) ∧
  ((loose (dom e0) w = true ∧ H m = some (.lst ((mks 6).map V.bl))) ∨ (loose (dom e0) w = false ∧ 24 < g.length * sg w ∧ H m = some (.lst ((mks 4).map V.bl))) ∨
    (loose (dom e0) w = false ∧ g.length * sg w ≤ 24 ∧ H m = some (.lst []) ∧ IsGm H f (gmOf g (rws e0 0 w))))
noncomputable def spLTold (n : Nat) : Sp := fun vs H Q _ => ∃ (gv : V) (g : List Pl) (v : V) (w : Wish), vs = [gv, v] ∧ IsGm H gv g ∧ (∀ p ∈ g, WfPl g.length p) ∧ g.length < 60 ∧ IsW H v w ∧ dp w ≤ n ∧ dp w < 900 ∧ sg w < 1000 ∧ nmOk w ∧ ∀ r H', Told8 g w H' r → Same H H' → Q r H'
noncomputable def spLLoose (n : Nat) : Sp := fun vs H Q _ => ∃ (gv v : V) (w : Wish), vs = [gv, v] ∧ IsW H v w ∧ dp w ≤ n ∧ dp w < 900 ∧ sg w < 1000 ∧ nmOk w ∧ loose (dom e0) w = true ∧ ∀ H', Q (.bl true) H'
section
variable {P : Program} {w : World} {K : PySem.W.Frag} {mg : Str → Option Value} {base : Heap}
theorem ok_ltold {f f1 : Addr} {fd fd1 : FuncData} {cl : Nat → Addr} (n : Nat) (F : Fun K "_law_told" "_law_told" sLTold f fd) (T : Txt mg) (C : Nms8 mg cl) (D4 : Cls1 K cl 4) (D6 : Cls1 K cl 6)
    (G1 : FnOk P w K mg base (CXE P w) (1 + n + 4) f1 fd1 ["game", "wish"] (spWishGame (cl 4) (cl 6) n)) (k1 : PySem.W.keepIn K (.ref f1) = true) (m1 : mg "wish_game" = some (.ref f1)) (b1 : Binds K fd1 ["game", "wish"] []) :
    FnOk P w K mg base CX0 (1 + n + 5) f fd ["game", "wish"] (spLTold n) := by
  refine F.ok scLTold (fun vs H Q E h => ?_) (fun cdv A outer s H vs Q E hr h => ?_)
  · (refine εx4 h fun gv g v w c'369 => εa2 c'369 fun e'368 _ => ?_; (try clear h); clear c'369; subst e'368)
    rfl
  · (refine εx4 h fun gv g v w c'371 => εa10 c'371 fun e'370 ig wf hgl iw hd hd9 hsg nm q => ?_; (try clear h); clear c'371; subst e'370)
    refine (let X' : Cx := _; (?_ : ∃ t, PSs X' _ t ∧ _))
    refine ⟨_, pss_cons (ps_set (i := 2) scLTold.nd rfl (Or.inl rfl) pe_non)
      (pss_cons (ps_set (i := 3) scLTold.nd rfl (Or.inl rfl) (pe_lst pa_nil))
      (pss_cons (ps_try (i := 2) (j := 4) (out := outer) rfl rfl rfl rfl scLTold.nd rfl (Or.inl rfl) G1 (hr.mono (by exact ω375)) rfl m1 k1 b1 .nil (pa_cons (pv 0) (pa_cons (pv 1) pa_nil)) rfl C.m8 rfl rfl (fun x =>
          pss_cons (ps_set (i := 3) scLTold.nd rfl (Or.inl rfl) (pe_lst (pa_cons (pe_callB (isinstEK K rfl) rfl T.isi PyProof.Rows.boot_isinstance (pa_cons (pv 4) (pa_cons (pe_glob (v := .ref (cl 4)) rfl C.m4 rfl) pa_nil)))
            (pa_cons (pe_callB (isinstEK K rfl) rfl T.isi PyProof.Rows.boot_isinstance (pa_cons (pv 4) (pa_cons (pe_glob (v := .ref (cl 1)) rfl C.m1 rfl) pa_nil)))
            (pa_cons (pe_callB (isinstEK K rfl) rfl T.isi PyProof.Rows.boot_isinstance (pa_cons (pv 4) (pa_cons (pe_glob (v := .ref (cl 2)) rfl C.m2 rfl) pa_nil)))
            (pa_cons (pe_callB (isinstEK K rfl) rfl T.isi PyProof.Rows.boot_isinstance (pa_cons (pv 4) (pa_cons (pe_glob (v := .ref (cl 3)) rfl C.m3 rfl) pa_nil))) pa_nil))))))
          (pss_cons (ps_set (i := 3) scLTold.nd rfl (Or.inl rfl) (pe_op op_cat (pv 3) (pe_lst (pa_cons (pe_callB (isinstEK K rfl) rfl T.isi PyProof.Rows.boot_isinstance (pa_cons (pv 4) (pa_cons (pe_glob (v := .ref (cl 5)) rfl C.m5 rfl) pa_nil)))
            (pa_cons (pe_callB (isinstEK K rfl) rfl T.isi PyProof.Rows.boot_isinstance (pa_cons (pv 4) (pa_cons (pe_glob (v := .ref (cl 6)) rfl C.m6 rfl) pa_nil)))
            (pa_cons (pe_callB (isinstEK K rfl) rfl T.isi PyProof.Rows.boot_isinstance (pa_cons (pv 4) (pa_cons (pe_glob (v := .ref (cl 7)) rfl C.m7 rfl) pa_nil))) pa_nil))))))
          (pss_one (ps_expr (pe_bmK K rfl PySem.F.plainAttrs_list PySem.F.slot_list_append PySem.F.type_list_append mt_append (pv 3) (pa_cons (pe_callB (isinstEK K rfl) rfl T.isi PyProof.Rows.boot_isinstance (pa_cons (pv 4) (pa_cons (pe_type rfl T.ValueError boot_verr) pa_nil))) pa_nil)))))))
      (pss_one (ps_ret (pe_tup (pa_cons (pv 2) (pa_cons (pv 3) pa_nil))))))), ?_⟩
    refine (let U'3 : TS := _; let U'2 : TS := tSeq _ U'3; let U'1 : TS := tSeq _ U'2; (?_ : tSeq _ U'1 _ _ _))
    refine ⟨Nat.zero_le _, fun m hm => ?_⟩
    have sm0 : Same H (upd H m (.lst [])) := Same.upd hm
    generalize hH1 : upd H m (.lst []) = H1 at sm0 ⊢
    have hm1 : H1 m = some (.lst []) := by rw [← hH1]; exact upd_same
    refine (ιEAEAEE _ rfl _ rfl gv g (ιEE v w ⟨rfl, ig.tk sm0.tk, wf, hgl, iw.tk sm0.tk, hd, hd9, hsg, nm, fun lo H2 sm => ?_, fun lo big H2 sm => ?_, fun lo big v' H2 g2 sm => ?_⟩))
    · refine ⟨cl 6, rfl, D6.we, fun x hx => ?_⟩
      have ex := D6.ex
      have kit := D6.kit
      have sm3 := Same.upd (o := ExcO x (cl 6)) hx
      generalize hH3 : upd H2 x (ExcO x (cl 6)) = H3 at sm3 ⊢
      have hx3 : H3 x = some (ExcO x (cl 6)) := by rw [← hH3]; exact upd_same
      refine (ιEAEEE _ rfl x (cl 6) (.ref (cl 4)) (ιEE (.ref (cl 4)) _ ⟨rfl, rfl, hx3, ex, kit 4 (by decide) (by decide), fun u r => r, ?_⟩))
      refine (ιEAEEE _ rfl x (cl 6) (.ref (cl 1)) (ιEE (.ref (cl 1)) _ ⟨rfl, rfl, hx3, ex, kit 1 (by decide) (by decide), fun u r => r, ?_⟩))
      refine (ιEAEEE _ rfl x (cl 6) (.ref (cl 2)) (ιEE (.ref (cl 2)) _ ⟨rfl, rfl, hx3, ex, kit 2 (by decide) (by decide), fun u r => r, ?_⟩))
      refine (ιEAEEE _ rfl x (cl 6) (.ref (cl 3)) (ιEE (.ref (cl 3)) _ ⟨rfl, rfl, hx3, ex, kit 3 (by decide) (by decide), fun u r => r, by show 4 ≤ sizeLine; decide, fun l hl => ?_⟩))
      have sm4 := Same.upd (o := .lst [.bl (decide (6 = 4)), .bl (decide (6 = 1)), .bl (decide (6 = 2)), .bl (decide (6 = 3))]) hl
      have hx4 := sm4 x _ hx3
      refine (ιEAEAEE _ rfl _ rfl x (cl 6) (ιEEE (.ref (cl 5)) (.ref (cl 5)) _ ⟨rfl, rfl, hx4, ex, kit 5 (by decide) (by decide), fun u r => r, ?_⟩))
      refine (ιEAEEE _ rfl x (cl 6) (.ref (cl 6)) (ιEE (.ref (cl 6)) _ ⟨rfl, rfl, hx4, ex, kit 6 (by decide) (by decide), fun u r => r, ?_⟩))
      refine (ιEAEEE _ rfl x (cl 6) (.ref (cl 7)) (ιEE (.ref (cl 7)) _ ⟨rfl, rfl, hx4, ex, kit 7 (by decide) (by decide), fun u r => r, by show 3 ≤ sizeLine; decide, fun l2 hl2 => ?_⟩))
      have sm5 := Same.upd (o := .lst [.bl (decide (6 = 5)), .bl (decide (6 = 6)), .bl (decide (6 = 7))]) hl2
      refine (ιEEEE l l2 _ _ ⟨rfl, rfl, sm5 l _ upd_same, upd_same, by show 4 + 3 ≤ sizeLine; decide, fun l3 hl3 => ?_⟩)
      have sm6 := Same.upd (o := .lst ([.bl (decide (6 = 4)), .bl (decide (6 = 1)), .bl (decide (6 = 2)), .bl (decide (6 = 3))] ++ [.bl (decide (6 = 5)), .bl (decide (6 = 6)), .bl (decide (6 = 7))])) hl3
      refine (ιEAAEAE _ rfl (.inl ⟨rfl, _, SqL.of upd_same⟩) _ rfl x (ιEEEE (cl 6) (.ty "ValueError") (.type "ValueError") _ ⟨rfl, rfl, sm6 x _ (sm5 x _ hx4), ex, D6.ve, fun u r => r, ?_⟩))
      refine (ιEEE l3 _ _ ⟨rfl, rfl, upd_same, by show 7 < sizeLine; decide, ?_⟩)
      have c5 := (((sm0.trans sm).trans sm3).trans sm4).trans sm5
      have c7 := (c5.trans sm6).upd' (l := l3) (o := .lst (([.bl (decide (6 = 4)), .bl (decide (6 = 1)), .bl (decide (6 = 2)), .bl (decide (6 = 3))] ++ [.bl (decide (6 = 5)), .bl (decide (6 = 6)), .bl (decide (6 = 7))]) ++ [.bl true])) (c5.free hl3)
      refine (ιEAE _ rfl _ ⟨rfl, by show 2 ≤ sizeLine; decide, fun t ht => ?_⟩)
      have sm8 := Same.upd (o := .tup [.non, .ref l3]) ht
      exact q _ _ (ιEEE t l3 .non ⟨rfl, upd_same, .inl ⟨lo, sm8 l3 _ upd_same⟩⟩) (c7.trans sm8)
    · refine ⟨cl 4, rfl, D4.we, fun x hx => ?_⟩
      have ex := D4.ex
      have kit := D4.kit
      have sm3 := Same.upd (o := ExcO x (cl 4)) hx
      generalize hH3 : upd H2 x (ExcO x (cl 4)) = H3 at sm3 ⊢
      have hx3 : H3 x = some (ExcO x (cl 4)) := by rw [← hH3]; exact upd_same
      refine (ιEAEEE _ rfl x (cl 4) (.ref (cl 4)) (ιEE (.ref (cl 4)) _ ⟨rfl, rfl, hx3, ex, kit 4 (by decide) (by decide), fun u r => r, ?_⟩))
      refine (ιEAEEE _ rfl x (cl 4) (.ref (cl 1)) (ιEE (.ref (cl 1)) _ ⟨rfl, rfl, hx3, ex, kit 1 (by decide) (by decide), fun u r => r, ?_⟩))
      refine (ιEAEEE _ rfl x (cl 4) (.ref (cl 2)) (ιEE (.ref (cl 2)) _ ⟨rfl, rfl, hx3, ex, kit 2 (by decide) (by decide), fun u r => r, ?_⟩))
      refine (ιEAEEE _ rfl x (cl 4) (.ref (cl 3)) (ιEE (.ref (cl 3)) _ ⟨rfl, rfl, hx3, ex, kit 3 (by decide) (by decide), fun u r => r, by show 4 ≤ sizeLine; decide, fun l hl => ?_⟩))
      have sm4 := Same.upd (o := .lst [.bl (decide (4 = 4)), .bl (decide (4 = 1)), .bl (decide (4 = 2)), .bl (decide (4 = 3))]) hl
      have hx4 := sm4 x _ hx3
      refine (ιEAEAEE _ rfl _ rfl x (cl 4) (ιEEE (.ref (cl 5)) (.ref (cl 5)) _ ⟨rfl, rfl, hx4, ex, kit 5 (by decide) (by decide), fun u r => r, ?_⟩))
      refine (ιEAEEE _ rfl x (cl 4) (.ref (cl 6)) (ιEE (.ref (cl 6)) _ ⟨rfl, rfl, hx4, ex, kit 6 (by decide) (by decide), fun u r => r, ?_⟩))
      refine (ιEAEEE _ rfl x (cl 4) (.ref (cl 7)) (ιEE (.ref (cl 7)) _ ⟨rfl, rfl, hx4, ex, kit 7 (by decide) (by decide), fun u r => r, by show 3 ≤ sizeLine; decide, fun l2 hl2 => ?_⟩))
      have sm5 := Same.upd (o := .lst [.bl (decide (4 = 5)), .bl (decide (4 = 6)), .bl (decide (4 = 7))]) hl2
      refine (ιEEEE l l2 _ _ ⟨rfl, rfl, sm5 l _ upd_same, upd_same, by show 4 + 3 ≤ sizeLine; decide, fun l3 hl3 => ?_⟩)
      have sm6 := Same.upd (o := .lst ([.bl (decide (4 = 4)), .bl (decide (4 = 1)), .bl (decide (4 = 2)), .bl (decide (4 = 3))] ++ [.bl (decide (4 = 5)), .bl (decide (4 = 6)), .bl (decide (4 = 7))])) hl3
      refine (ιEAAEAE _ rfl (.inl ⟨rfl, _, SqL.of upd_same⟩) _ rfl x (ιEEEE (cl 4) (.ty "ValueError") (.type "ValueError") _ ⟨rfl, rfl, sm6 x _ (sm5 x _ hx4), ex, D4.ve, fun u r => r, ?_⟩))
      refine (ιEEE l3 _ _ ⟨rfl, rfl, upd_same, by show 7 < sizeLine; decide, ?_⟩)
      have c5 := (((sm0.trans sm).trans sm3).trans sm4).trans sm5
      have c7 := (c5.trans sm6).upd' (l := l3) (o := .lst (([.bl (decide (4 = 4)), .bl (decide (4 = 1)), .bl (decide (4 = 2)), .bl (decide (4 = 3))] ++ [.bl (decide (4 = 5)), .bl (decide (4 = 6)), .bl (decide (4 = 7))]) ++ [.bl true])) (c5.free hl3)
      refine (ιEAE _ rfl _ ⟨rfl, by show 2 ≤ sizeLine; decide, fun t ht => ?_⟩)
      have sm8 := Same.upd (o := .tup [.non, .ref l3]) ht
      exact q _ _ (ιEEE t l3 .non ⟨rfl, upd_same, .inr (.inl ⟨lo, big, sm8 l3 _ upd_same⟩)⟩) (c7.trans sm8)
    · refine (ιEAE _ rfl _ ⟨rfl, by show 2 ≤ sizeLine; decide, fun t ht => ?_⟩)
      have sm3 := Same.upd (o := .tup [v', .ref m]) ht
      exact q _ _ (ιEEE t m v' ⟨rfl, upd_same, .inr (.inr ⟨lo, big, sm3 m _ (sm m _ hm1), g2.tk sm3.tk⟩)⟩) ((sm0.trans sm).trans sm3)
theorem ok_lloose {f f1 : Addr} {fd fd1 : FuncData} {C6 : Addr} (n : Nat) (F : Fun K "_law_loose" "_law_loose" sLLoose f fd) (T : Txt mg) (mL : mg "Loose" = some (.ref C6)) (wl : PySem.W.exmOne K (.ref C6) (.ref C6) = some true)
    (G1 : FnOk P w K mg base (CXE P w) (1 + n + 2) f1 fd1 ["game", "wish"] (spHoldsL C6 n)) (k1 : PySem.W.keepIn K (.ref f1) = true) (m1 : mg "holds" = some (.ref f1)) (b1 : Binds K fd1 ["game", "wish"] []) :
    FnOk P w K mg base CX0 (1 + n + 3) f fd ["game", "wish"] (spLLoose n) := by
  refine F.ok scLLoose (fun vs H Q E h => ?_) (fun cdv A outer s H vs Q E hr h => ?_)
  · (refine εx3 h fun gv v w c'373 => εa2 c'373 fun e'372 _ => ?_; (try clear h); clear c'373; subst e'372)
    rfl
  · (refine εx3 h fun gv v w c'375 => εa8 c'375 fun e'374 iw hd hd9 hsg nm lo q => ?_; (try clear h); clear c'375; subst e'374)
    refine (let X' : Cx := _; (?_ : ∃ t, PSs X' _ t ∧ _))
    refine ⟨_, pss_cons (ps_set (i := 2) scLLoose.nd rfl (Or.inl rfl) pe_bl)
      (pss_cons (ps_tryE (out := outer) rfl rfl rfl rfl G1 (hr.mono (by exact ω61)) rfl m1 k1 b1 .nil (pa_cons (pv 0) (pa_cons (pv 1) pa_nil)) rfl mL (fun x => pss_one (ps_set (i := 2) scLLoose.nd rfl (Or.inl rfl) pe_bl)))
      (pss_one (ps_ret (pv 2)))), ?_⟩
    refine (let U'2 : TS := _; let U'1 : TS := tSeq _ U'2; (?_ : tSeq _ U'1 _ _ _))
    exact (ιEAEAEE _ rfl _ rfl gv v ⟨w, rfl, iw, hd, hd9, hsg, nm, lo, fun H2 sm => ⟨C6, rfl, wl, fun a ha => ⟨_, rfl, q _⟩⟩⟩)
end
end K18
namespace K18
open PySem L2 Gm
noncomputable abbrev nLaw : List Str := ["script", "many", "low", "spread", "game", "wish", "room", "form", "told"]
theorem scLaw : FnScope nLaw ["script"] (defScope sLaw) := ⟨rfl, rfl, rfl, by decide +kernel, rfl, by decide +kernel, by decide +kernel⟩
theorem lcLaw1 : LcOk (defScope sLaw) nLaw ["k", "low"] [none, some 2] (mkSc [(".0", .local), ("k", .local), ("low", .free)]) :=
  ⟨rfl, by decide +kernel, by decide +kernel, by decide +kernel, by decide +kernel, rfl, by decide +kernel⟩
noncomputable def spLaw (K : PySem.W.Frag) : Sp := fun vs H Q _ => ∃ (a : Addr) (ns : List Int), vs = [.ref a] ∧ SqL K H a (ns.map V.int) ∧ ns.length ≤ 63 ∧ ∀ H', Q (.bl true) H'
theorem sql_same {K : PySem.W.Frag} {a : Addr} {H H' : Hp} {us : List V} (h : Same H H') (q : SqL K H a us) : SqL K H' a us := by
  rcases q with (q | ⟨o, q⟩) | q
  · exact .inl (.inl (h a _ q))
  · exact .inl (.inr ⟨o, h a _ q⟩)
  · exact .inr q
theorem loose_mono : ∀ (w : Wish) (d d' : Str → Bool), (∀ x, d x = true → d' x = true) → loose d w = false → loose d' w = false
  | .is _, _, _, _, _ => rfl
  | .no _, _, _, _, _ => rfl
  | .name x, d, d', h, l => by
    unfold loose at l ⊢
    cases e : d x with
    | true => rw [h x e]; rfl
    | false => rw [e] at l; cases l
  | .and a b, d, d', h, l => by
    unfold loose at l ⊢
    rw [Bool.or_eq_false_iff] at l ⊢
    exact ⟨loose_mono a d d' h l.1, loose_mono b d d' h l.2⟩
  | .or a b, d, d', h, l => by
    unfold loose at l ⊢
    rw [Bool.or_eq_false_iff] at l ⊢
    exact ⟨loose_mono a d d' h l.1, loose_mono b d d' h l.2⟩
  | .all a, d, d', h, l => loose_mono a d d' h l
  | .some a, d, d', h, l => loose_mono a d d' h l
  | .least x a, d, d', h, l => loose_mono a (dpt d x) (dpt d' x) (fun y e => by
      unfold dpt at e ⊢
      rw [Bool.or_eq_true] at e ⊢
      exact e.imp id (h y)) l
  | .most x a, d, d', h, l => loose_mono a (dpt d x) (dpt d' x) (fun y e => by
      unfold dpt at e ⊢
      rw [Bool.or_eq_true] at e ⊢
      exact e.imp id (h y)) l
theorem sg_dp : ∀ (w : Wish) (n : Nat), dp w ≤ n → sg w < 2 ^ n
  | .is _, n, h => by unfold dp at h; unfold sg; have := Nat.pow_le_pow_right (n := 2) (by decide) h; exact ω43 this
  | .no _, n, h => by unfold dp at h; unfold sg; have := Nat.pow_le_pow_right (n := 2) (by decide) h; exact ω43 this
  | .name _, n, h => by unfold dp at h; unfold sg; have := Nat.pow_le_pow_right (n := 2) (by decide) h; exact ω43 this
  | .and a b, n, h => by
    unfold dp at h
    obtain ⟨k, rfl⟩ : ∃ k, n = k + 1 := ⟨n - 1, by exact ω63 h⟩
    have h1 := sg_dp a k (by exact ω36 h)
    have h2 := sg_dp b k (by exact ω37 h)
    unfold sg
    rw [Nat.pow_succ]
    exact ω64 h1 h2
  | .or a b, n, h => by
    unfold dp at h
    obtain ⟨k, rfl⟩ : ∃ k, n = k + 1 := ⟨n - 1, by exact ω63 h⟩
    have h1 := sg_dp a k (by exact ω36 h)
    have h2 := sg_dp b k (by exact ω37 h)
    unfold sg
    rw [Nat.pow_succ]
    exact ω64 h1 h2
  | .all a, n, h => by
    unfold dp at h
    obtain ⟨k, rfl⟩ : ∃ k, n = k + 1 := ⟨n - 1, by exact ω28 h⟩
    have h1 := sg_dp a k (by exact ω8 h)
    unfold sg
    rw [Nat.pow_succ]
    exact ω29 h1
  | .some a, n, h => by
    unfold dp at h
    obtain ⟨k, rfl⟩ : ∃ k, n = k + 1 := ⟨n - 1, by exact ω28 h⟩
    have h1 := sg_dp a k (by exact ω8 h)
    unfold sg
    rw [Nat.pow_succ]
    exact ω29 h1
  | .least _ a, n, h => by
    unfold dp at h
    obtain ⟨k, rfl⟩ : ∃ k, n = k + 1 := ⟨n - 1, by exact ω28 h⟩
    have h1 := sg_dp a k (by exact ω8 h)
    unfold sg
    rw [Nat.pow_succ]
    exact ω29 h1
  | .most _ a, n, h => by
    unfold dp at h
    obtain ⟨k, rfl⟩ : ∃ k, n = k + 1 := ⟨n - 1, by exact ω28 h⟩
    have h1 := sg_dp a k (by exact ω8 h)
    unfold sg
    rw [Nat.pow_succ]
    exact ω29 h1
theorem swaps_tup {es : List Expr} {k pos t l env} : swapsWith (.Tuple es k pos) t l env = pure false := rfl
theorem pe_nm {X : Cx} {a b : Str} {j1 j2 k p1 p2 pos} : PE X (.Tuple [.Constant (.str a) j1 p1, .Constant (.str b) j2 p2] k pos) (tTup (tCons (tC (.str a)) (tCons (tC (.str b)) tNil))) := pe_tup (pa_cons pe_str (pa_cons pe_str pa_nil))
theorem pe_lst3 {X : Cx} {a b : Str} {es : List Expr} {t : TE} {j1 j2 k k1 p1 p2 q1 pos} (h : PE X (.Tuple es k1 q1) t) : PE X (.Tuple [.Constant (.str a) j1 p1, .Constant (.str b) j2 p2, .Tuple es k1 q1] k pos) (tTup (tCons (tC (.str a)) (tCons (tC (.str b)) (tCons t tNil)))) := pe_tup (pa_cons pe_str (pa_cons pe_str (pa_cons h pa_nil)))
theorem pe_lstv {X : Cx} {a b x : Str} {t : TE} {j1 j2 k p1 p2 q1 pos} (h : PE X (.Name x q1) t) : PE X (.Tuple [.Constant (.str a) j1 p1, .Constant (.str b) j2 p2, .Name x q1] k pos) (tTup (tCons (tC (.str a)) (tCons (tC (.str b)) (tCons t tNil)))) := pe_tup (pa_cons pe_str (pa_cons pe_str (pa_cons h pa_nil)))
theorem pe_two {X : Cx} {a : Str} {es fs : List Expr} {t u : TE} {j1 k k1 k2 p1 q1 q2 pos} (h : PE X (.Tuple es k1 q1) t) (h2 : PE X (.Tuple fs k2 q2) u) : PE X (.Tuple [.Constant (.str a) j1 p1, .Tuple es k1 q1, .Tuple fs k2 q2] k pos) (tTup (tCons (tC (.str a)) (tCons t (tCons u tNil)))) := pe_tup (pa_cons pe_str (pa_cons h (pa_cons h2 pa_nil)))
theorem pe_one2 {X : Cx} {a : Str} {es : List Expr} {t : TE} {j1 k k1 p1 q1 pos} (h : PE X (.Tuple es k1 q1) t) : PE X (.Tuple [.Constant (.str a) j1 p1, .Tuple es k1 q1] k pos) (tTup (tCons (tC (.str a)) (tCons t tNil))) := pe_tup (pa_cons pe_str (pa_cons h pa_nil))
theorem pe_nv2 {X : Cx} {a x : Str} {es : List Expr} {t u : TE} {j1 k k1 p1 q1 q2 pos} (h : PE X (.Name x q2) u) (h2 : PE X (.Tuple es k1 q1) t) : PE X (.Tuple [.Constant (.str a) j1 p1, .Name x q2, .Tuple es k1 q1] k pos) (tTup (tCons (tC (.str a)) (tCons u (tCons t tNil)))) := pe_tup (pa_cons pe_str (pa_cons h (pa_cons h2 pa_nil)))
section
variable {P : Program} {w : World} {K : PySem.W.Frag} {mg : Str → Option Value} {base : Heap}
set_option maxHeartbeats 8000000 in
theorem ok_law {f f1 f2 f3 f4 f5 f6 f7 f8 f9 : Addr} {fd fd1 fd2 fd3 fd4 fd5 fd6 fd7 fd8 fd9 : FuncData} (F : Fun K "law" "law" sLaw f fd) (T : Txt mg)
    (G1 : FnOk P w K mg base CX0 1 f1 fd1 ["script", "k"] (spCell K)) (k1 : PySem.W.keepIn K (.ref f1) = true) (m1 : mg "_law_cell_at" = some (.ref f1)) (b1 : Binds K fd1 ["script", "k"] [])
    (G2 : FnOk P w K mg base CX0 3 f2 fd2 ["script", "start", "many", "spread", "low"] (spGame K)) (k2 : PySem.W.keepIn K (.ref f2) = true) (m2 : mg "_law_game" = some (.ref f2)) (b2 : Binds K fd2 ["script", "start", "many", "spread", "low"] [])
    (G3 : FnOk P w K mg base CX0 7 f3 fd3 ["script", "spot", "names", "crowns", "deep"] (spWish K 3)) (k3 : PySem.W.keepIn K (.ref f3) = true) (m3 : mg "_law_wish" = some (.ref f3)) (b3 : Binds K fd3 ["script", "spot", "names", "crowns", "deep"] [])
    (G4 : FnOk P w K mg base CX0 29 f4 fd4 ["wish"] (spLSigns 27)) (k4 : PySem.W.keepIn K (.ref f4) = true) (m4 : mg "_law_signs" = some (.ref f4)) (b4 : Binds K fd4 ["wish"] [])
    (G5 : FnOk P w K mg base CX0 33 f5 fd5 ["game", "wish"] (spLTold 27)) (k5 : PySem.W.keepIn K (.ref f5) = true) (m5 : mg "_law_told" = some (.ref f5)) (b5 : Binds K fd5 ["game", "wish"] [])
    (G6 : FnOk P w K mg base CX0 1 f6 fd6 ["marks", "which"] spRefused) (k6 : PySem.W.keepIn K (.ref f6) = true) (m6 : mg "_law_refused" = some (.ref f6)) (b6 : Binds K fd6 ["marks", "which"] [])
    (G7 : FnOk P w K mg base CX0 31 f7 fd7 ["game", "wish"] (spLLoose 27)) (k7 : PySem.W.keepIn K (.ref f7) = true) (m7 : mg "_law_loose" = some (.ref f7)) (b7 : Binds K fd7 ["game", "wish"] [])
    (G8 : FnOk P w K mg base CX0 2 f8 fd8 ["found", "due"] spSame) (k8 : PySem.W.keepIn K (.ref f8) = true) (m8 : mg "_law_same" = some (.ref f8)) (b8 : Binds K fd8 ["found", "due"] [])
    (G9 : FnOk P w K mg base CX0 31 f9 fd9 ["game", "wish"] (spLRowsOf 27)) (k9 : PySem.W.keepIn K (.ref f9) = true) (m9 : mg "_law_rows_of" = some (.ref f9)) (b9 : Binds K fd9 ["game", "wish"] []) :
    FnOk P w K mg base CX0 34 f fd ["script"] (spLaw K) := by
  refine F.ok scLaw (fun vs H Q E h => ?_) (fun cdv A outer s H vs Q E hr h => ?_)
  · (refine εx2 h fun a ns c'377 => εa2 c'377 fun e'376 _ => ?_; (try clear h); clear c'377; subst e'376)
    rfl
  · (refine εx2 h fun a ns c'379 => εa4 c'379 fun e'378 hS hlen q => ?_; (try clear h); clear c'379; subst e'378)
    have hu64 := hr.units
    refine (let X' : Cx := _; (?_ : ∃ t, PSs X' _ t ∧ _))
    refine ⟨_, pss_cons (ps_set (i := 1) scLaw.nd rfl (Or.inl rfl) (pe_op op_add pe_int (pe_op op_mod (pe_call G1 (hr.mono (by decide)) rfl m1 k1 b1 .nil pass0 (pa_cons (pv 0) (pa_cons pe_int pa_nil))) pe_int)))
      (pss_cons (ps_set (i := 2) scLaw.nd rfl (Or.inr rfl) (pe_op op_mod (pe_call G1 (hr.mono (by decide)) rfl m1 k1 b1 .nil pass0 (pa_cons (pv 0) (pa_cons pe_int pa_nil))) (pe_op op_pow pe_int pe_int)))
      (pss_cons (ps_set (i := 3) scLaw.nd rfl (Or.inl rfl) (pe_op op_add pe_int (pe_op op_mod (pe_call G1 (hr.mono (by decide)) rfl m1 k1 b1 .nil pass0 (pa_cons (pv 0) (pa_cons pe_int pa_nil))) pe_int)))
      (pss_cons (ps_set (i := 4) scLaw.nd rfl (Or.inl rfl) (pe_call G2 (hr.mono (by decide)) rfl m2 k2 b2 .nil pass0 (pa_cons (pv 0) (pa_cons pe_int (pa_cons (pv 1) (pa_cons (pv 3) (pa_cons (pv 2) pa_nil)))))))
      (pss_cons (ps_set (i := 5) scLaw.nd rfl (Or.inl rfl) (pe_call G3 (hr.mono (by decide)) rfl m3 k3 b3 .nil pass0 (pa_cons (pv 0) (pa_cons (pe_lst (pa_cons (pe_op op_add pe_int (pv 1)) (pa_cons pe_int pa_nil))) (pa_cons (pe_lst pa_nil) (pa_cons (pe_lc rfl lcLaw1 (pi_range1 rfl T.range (pa_cons (pv 3) pa_nil)) (fun cl C ex s H => ⟨(pg_name (i := 0) lcLaw1.nd rfl (Or.inl rfl)), pif_nil, (pe_op op_add (pv 1) (pv 0))⟩)) (pa_cons pe_int pa_nil)))))))
      (pss_cons (ps_cut (ps_if (PW.pt (pw_and (pt_cmpR op_ne (pe_op op_mod (pe_call G1 (hr.mono (by decide)) rfl m1 k1 b1 .nil pass0 (pa_cons (pv 0) (pa_cons pe_int pa_nil))) pe_int) pe_int (nomark _)) (pw_and1 (pt_cmpR op_eq (pe_op op_mod (pe_op op_fdiv (pe_call G1 (hr.mono (by decide)) rfl m1 k1 b1 .nil pass0 (pa_cons (pv 0) (pa_cons pe_int pa_nil))) pe_int) pe_int) pe_int (nomark _))))) (pss_cons (ps_set (i := 6) scLaw.nd rfl (Or.inl rfl) (pe_callB (call_min2 rfl) rfl T.min PyProof.Rows.boot_min (pa_cons (pe_op op_mul pe_int (pv 1)) (pa_cons (pe_op op_add pe_int (pe_op op_mul (pe_op op_mod (pe_op op_fdiv (pe_call G1 (hr.mono (by decide)) rfl m1 k1 b1 .nil pass0 (pa_cons (pv 0) (pa_cons pe_int pa_nil))) pe_int) pe_int) (pv 1))) pa_nil))))
        (pss_cons (ps_set (i := 5) scLaw.nd rfl (Or.inl rfl) (pe_tup (pa_cons pe_str (pa_cons (pv 2) pa_nil))))
        (pss_one (ps_while PassesOwn.never (pt_cmpR op_le (pe_op op_mul (pv 1) (pe_op op_add (pe_call G4 (hr.mono (by decide)) rfl m4 k4 b4 .nil pass0 (pa_cons (pv 5) pa_nil)) pe_int)) (pv 6) (nomark _)) (pss_one (ps_set (i := 5) scLaw.nd rfl (Or.inl rfl) (pe_tup (pa_cons (pe_ix ix_list (pe_lst (pa_cons pe_str (pa_cons pe_str pa_nil))) (pe_op op_mod (pe_call G4 (hr.mono (by decide)) rfl m4 k4 b4 .nil pass0 (pa_cons (pv 5) pa_nil)) pe_int) (fun _ _ => rfl)) (pa_cons (pv 5) pa_nil))))))))) pss_nil))
      (pss_cons (ps_if (pt_cmpR op_eq (pe_op op_mod (pe_call G1 (hr.mono (by decide)) rfl m1 k1 b1 .nil pass0 (pa_cons (pv 0) (pa_cons pe_int pa_nil))) pe_int) pe_int (nomark _)) (pss_cons (ps_set (i := 7) scLaw.nd rfl (Or.inl rfl) (pe_op op_mod (pe_op op_fdiv (pe_call G1 (hr.mono (by decide)) rfl m1 k1 b1 .nil pass0 (pa_cons (pv 0) (pa_cons pe_int pa_nil))) pe_int) pe_int))
        (pss_cons (ps_cut (ps_if (pt_cmpR op_eq (pv 7) pe_int (nomark _)) (pss_one (ps_set (i := 5) scLaw.nd rfl (Or.inl rfl) (pe_nv2 (pv 5) (pe_lst3 (pe_two pe_nm pe_nm))) swaps_tup)) pss_nil))
        (pss_cons (ps_cut (ps_if (pt_cmpR op_eq (pv 7) pe_int (nomark _)) (pss_one (ps_set (i := 5) scLaw.nd rfl (Or.inl rfl) (pe_two (pe_lstv (pv 5)) (pe_one2 pe_nm)) swaps_tup)) pss_nil))
        (pss_cons (ps_cut (ps_if (pt_cmpR op_eq (pv 7) pe_int (nomark _)) (pss_one (ps_set (i := 5) scLaw.nd rfl (Or.inl rfl) (pe_two (pe_one2 pe_nm) (pe_lstv (pv 5))) swaps_tup)) pss_nil))
        (pss_one (ps_ret (pe_and (pe_call G6 (hr.mono (by decide)) rfl m6 k6 b6 .nil pass0 (pa_cons (pe_ix ix_tup (pe_call G5 (hr.mono (by decide)) rfl m5 k5 b5 .nil pass0 (pa_cons (pv 4) (pa_cons (pv 5) pa_nil))) pe_int (fun _ _ => rfl)) (pa_cons pe_int pa_nil))) (pe_one (pe_call G7 (hr.mono (by decide)) rfl m7 k7 b7 .nil pass0 (pa_cons (pv 4) (pa_cons (pv 5) pa_nil))))))))))) pss_nil)
      (pss_cons (ps_set (i := 8) scLaw.nd rfl (Or.inl rfl) (pe_call G5 (hr.mono (by decide)) rfl m5 k5 b5 .nil pass0 (pa_cons (pv 4) (pa_cons (pv 5) pa_nil))))
      (pss_cons (ps_if (pt_cmpR op_gt (pe_op op_mul (pv 1) (pe_call G4 (hr.mono (by decide)) rfl m4 k4 b4 .nil pass0 (pa_cons (pv 5) pa_nil))) pe_int (nomark _)) (pss_one (ps_ret (pe_call G6 (hr.mono (by decide)) rfl m6 k6 b6 .nil pass0 (pa_cons (pe_ix ix_tup (pv 8) pe_int (fun _ _ => rfl)) (pa_cons pe_int pa_nil))))) pss_nil)
      (pss_one (ps_ret (pe_and (pe_cmpR (op_eqD hu64) (pe_ix ix_tup (pv 8) pe_int (fun _ _ => rfl)) (pe_lst pa_nil) (nomark _)) (pe_one (pe_call G8 (hr.mono (by decide)) rfl m8 k8 b8 .nil pass0 (pa_cons (pe_ix ix_tup (pv 8) pe_int (fun _ _ => rfl)) (pa_cons (pe_call G9 (hr.mono (by decide)) rfl m9 k9 b9 .nil pass0 (pa_cons (pv 4) (pa_cons (pv 5) pa_nil))) pa_nil))))))))))))))), ?_⟩
    refine (let U'9 : TS := _; let U'8 : TS := tSeq _ U'9; let U'7 : TS := tSeq _ U'8; let U'6 : TS := tSeq _ U'7; let U'5 : TS := tSeq _ U'6; let U'4 : TS := tSeq _ U'5; let U'3 : TS := tSeq _ U'4; let U'2 : TS := tSeq _ U'3; let U'1 : TS := tSeq _ U'2; (?_ : tSeq _ U'1 _ _ _))
    obtain ⟨m, hm, m0, m6⟩ : ∃ m : Nat, (1 + ns.getD 0 0 % 6 : Int) = m ∧ 0 < m ∧ m ≤ 6 := ⟨(1 + ns.getD 0 0 % 6).toNat, by exact ω376, by exact ω377, by exact ω378⟩
    obtain ⟨sp, hsp, sp0, sp4⟩ : ∃ sp : Nat, (1 + ns.getD 1 0 % 4 : Int) = sp ∧ 0 < sp ∧ sp ≤ 4 := ⟨(1 + ns.getD 1 0 % 4).toNat, by exact ω160, by exact ω161, by exact ω162⟩
    refine (ιEAEEE _ rfl a ns 0 ⟨rfl, hS, ιEEAAAEE _ _ rfl rfl (by show (0 : Int) < 6; decide) _ _ ⟨rfl, rfl, ?_⟩⟩)
    dsimp only
    rw [hm]
    refine (ιEAEEE _ rfl a ns 2 ⟨rfl, hS, ιEEAAAEE _ _ rfl rfl ⟨by decide, by decide, by decide⟩ _ _ ⟨rfl, rfl, (by show (0 : Int) < 10 ^ (20 : Int).toNat; decide), ?_⟩⟩)
    obtain ⟨low, hlow⟩ : ∃ low, ns.getD 2 0 % 10 ^ (20 : Int).toNat = low := ⟨_, rfl⟩
    dsimp only
    rw [hlow]
    refine (ιEAEEE _ rfl a ns 1 ⟨rfl, hS, ιEEAAAEE _ _ rfl rfl (by show (0 : Int) < 4; decide) _ _ ⟨rfl, rfl, ?_⟩⟩)
    dsimp only
    rw [hsp]
    refine (ιEAEAEAE _ rfl _ rfl _ rfl _ ⟨rfl, ιEEEE a ns 4 m (ιEE (sp : Int) low ⟨rfl, hS, m0, by exact ω379 m6, by exact ω3 sp0, by exact ω224 sp4, fun v H1 g hl hw ig sm1 => ?_⟩)⟩)
    subst hl
    refine (ιEAEAEE _ rfl _ rfl _ _ ⟨rfl, rfl, by show 2 ≤ sizeLine; decide, fun S hS0 => ?_⟩)
    dsimp only
    rw [show (3 : Int) + ((g.length : Nat) : Int) = ((3 + g.length : Nat) : Int) by exact ω380]
    have sm2 : Same H1 (upd H1 S (.lst [.int ((3 + g.length : Nat) : Int), .int 6])) := Same.upd hS0
    have hS2 : upd H1 S (.lst [.int ((3 + g.length : Nat) : Int), .int 6]) S = some (.lst [.int ((3 + g.length : Nat) : Int), .int 6]) := upd_same
    generalize upd H1 S (.lst [.int ((3 + g.length : Nat) : Int), .int 6]) = H2 at sm2 hS2
    refine ⟨Nat.zero_le _, fun N hN => ?_⟩
    have sm3 : Same H2 (upd H2 N (.lst [])) := Same.upd hN
    have hN3 : upd H2 N (.lst []) N = some (.lst (([] : List Str).map V.str)) := upd_same
    have nNS : N ≠ S := Ne.symm (ne_of_none hS2 hN)
    generalize upd H2 N (.lst []) = H3 at sm3 hN3
    refine (ιEAE _ rfl _ ⟨rfl, by exact ω1, by exact ω163 sp4, fun D hD => lc_range (n := ((sp : Nat) : Int).toNat) (fun i σ H4 => (∃ s0, σ = [s0, some (.int low)]) ∧ Same H3 H4 ∧ H4 D = some (.lst (((List.range i).map fun k : Nat => low + (k : Int)).map V.int))) ?_ ?_ ?_⟩)
    · exact ⟨⟨none, rfl⟩, Same.upd hD, upd_same⟩
    · rintro i σ H4 hi ⟨⟨s0, rfl⟩, sm4, hD4⟩
      unfold gName
      rw [show (0 : Int) + (i : Int) = ((i : Nat) : Int) by exact ω5]
      refine iteT (ιEAEAEE _ rfl _ rfl _ _ ⟨rfl, rfl, _, hD4, ?_, ⟨_, rfl⟩, sm4.upd' hD, ?_⟩)
      · rw [List.length_map, List.length_map, List.length_range, sizeLine_eq]; exact ω225 sp4 hi
      · rw [upd_same, List.range_succ, List.map_append, List.map_append]; rfl
    · rintro σ H5 ⟨_, sm5, hD5⟩
      have nDS : D ≠ S := Ne.symm (ne_of_none (sm3 S _ hS2) hD)
      have sm15 : Same H1 H5 := (sm2.trans sm3).trans sm5
      have hsq : ∀ H', But S H5 H' → SqL K H' a (ns.map V.int) := fun H' bt => by
        rcases hS with (z | ⟨o, z⟩) | z
        · exact .inl (.inl (bt a _ (sm15 a _ (sm1 a _ z)) (ne_of_none (sm1 a _ z) hS0)))
        · exact .inl (.inr ⟨o, bt a _ (sm15 a _ (sm1 a _ z)) (ne_of_none (sm1 a _ z) hS0)⟩)
        · exact .inr z
      refine (ιEEEE a S N D (ιEEEE ns (3 + g.length) 6 ([]) (ιEE _ 3 ⟨rfl, hsq, (sm3.trans sm5) S _ hS2, sm5 N _ hN3, nNS, by decide, (fun x hx => by cases hx), hD5, nDS, (fun z => ?_), ?_, by decide, fun vw w H6 i6 b6 iw ws hsp6 bt6 => ?_⟩)))
      · have := congrArg List.length z
        rw [List.length_map, List.length_range] at this
        simp at this
        exact ω164 sp0 this
      · rw [List.length_map, List.length_range]
        exact ω227 sp4
      have sm16 : Same H1 H6 := fun b o z => bt6 b o (sm15 b o z) (ne_of_none z hS0)
      have hS6 := hsq H6 bt6
      have lo0 : loose (dom e0) w = false := loose_mono w _ _ (fun x h => by simp at h) ws.cl
      have hdw := ws.dp
      have hsw := sg_dp w 4 hdw
      refine (let M'10 : St → Hp → Prop := fun σ' H' => ∃ vw w s6, σ' = [some (.ref a), some (.int (g.length : Nat)), some (.int low), some (.int (sp : Nat)), some v, some vw, s6, none, none] ∧ Same H6 H' ∧ IsW H' vw w ∧ dp w ≤ 24 ∧ loose (dom e0) w = false ∧ nmOk w ∧ sg w < 100; ⟨M'10, ?_, ?_⟩)
      · refine (ιEAEEE _ rfl a ns 3 ⟨rfl, hS6, ιEEAAAAE _ _ rfl rfl (by show (0 : Int) < 4; decide) rfl _ ⟨rfl, ?_⟩⟩)
        refine ite2 (fun _ => ?_) (fun _ => iteF (ιEEE vw w none ⟨rfl, Same.refl _, iw, by exact ω252 hdw, lo0, ws.nm, by exact ω253 hsw⟩))
        refine (ιEAEEE _ rfl a ns 3 ⟨rfl, hS6, ιEEAAAEE _ _ rfl rfl ⟨by decide, by decide⟩ _ _ ⟨rfl, rfl, (by show (0 : Int) < 3; decide), rfl, _, rfl, ?_⟩⟩)
        refine ite2 (fun _ => ?_) (fun _ => (ιEEE vw w none ⟨rfl, Same.refl _, iw, by exact ω252 hdw, lo0, ws.nm, by exact ω253 hsw⟩))
        refine (ιEAEEAAAE _ rfl _ _ rfl rfl (.inl ⟨by decide, by decide⟩) _ ⟨rfl, ιEEE a ns 3 ⟨rfl, hS6, ιEEAAAEE _ _ rfl rfl ⟨by decide, by decide⟩ _ _ ⟨rfl, rfl, (by show (0 : Int) < 2; decide), ιEAEEAAAE _ rfl _ _ rfl rfl (.inl ⟨by exact ω381, by exact ω382⟩) _ (ιEAAEE _ rfl rfl _ _ ⟨rfl, ?_⟩)⟩⟩⟩)
        dsimp only
        have hrm : (if 24 + ns.getD 3 0 / 12 % 2 * ((g.length : Nat) : Int) < 24 * ((g.length : Nat) : Int) then 24 + ns.getD 3 0 / 12 % 2 * ((g.length : Nat) : Int) else 24 * ((g.length : Nat) : Int)) ≤ 24 * ((g.length : Nat) : Int) := by
          split <;> (first | exact ω383 (by assumption) | exact ω384)
        generalize (if 24 + ns.getD 3 0 / 12 % 2 * ((g.length : Nat) : Int) < 24 * ((g.length : Nat) : Int) then 24 + ns.getD 3 0 / 12 % 2 * ((g.length : Nat) : Int) else 24 * ((g.length : Nat) : Int)) = rm at hrm ⊢
        refine ⟨_, rfl, by show 2 ≤ sizeLine; decide, fun t ht => ?_⟩
        refine (let M'11 : Nat → St → Hp → Prop := fun k σ' H' => ∃ vw w, σ' = [some (.ref a), some (.int (g.length : Nat)), some (.int low), some (.int (sp : Nat)), some v, some vw, some (.int rm), none, none] ∧ Same H6 H' ∧ IsW H' vw w ∧ dp w = sg w ∧ sg w ≤ 24 ∧ loose (dom e0) w = false ∧ nmOk w ∧ k = 30 - sg w; ⟨M'11, (ιEEE 29 (.ref t) (.is low) ⟨rfl, Same.upd ht, ⟨t, rfl, upd_same⟩, rfl, (by show 1 ≤ 24; decide), rfl, trivial, rfl⟩), ?_⟩)
        (rintro k σ' H7 h'382; refine εx2 h'382 fun vw7 w7 c'385 => εa8 c'385 fun e'383 sm7 iw7 hd7 hs7 lo7 nm7 e'384 => ?_; (try clear h'382); clear c'385; subst e'383; subst e'384)
        refine (ιEAEAEE _ rfl _ rfl vw7 w7 ⟨rfl, iw7, by exact ω254 hd7 hs7, fun H8 sm8 => (ιEEAAEE _ _ rfl rfl _ _ ⟨rfl, rfl, .inl ⟨by exact ω34, by exact ω255 m6⟩, ιEAEEAAE _ rfl _ _ rfl rfl _ ⟨rfl, ?_⟩⟩)⟩)
        refine ite2 (fun c => ?_) (fun c => (ιEEE vw7 w7 _ ⟨rfl, sm7.trans sm8, iw7.tk sm8.tk, by exact ω385 hd7 hs7, lo7, nm7, by exact ω386 hs7⟩))
        have c' : ((g.length : Nat) : Int) * (((sg w7 : Nat) : Int) + 1) ≤ rm := of_decide_eq_true c
        have hs8 : sg w7 + 1 ≤ 24 := by
          have h1 : ((g.length : Nat) : Int) * (((sg w7 : Nat) : Int) + 1) ≤ ((g.length : Nat) : Int) * 24 := by exact ω387 hrm c'
          have h2 := Int.le_of_mul_le_mul_left h1 (by exact ω3 m0)
          exact ω388 h2
        refine (let M'12 : St → Hp → Prop := fun σ' H' => ∃ vw w, σ' = [some (.ref a), some (.int (g.length : Nat)), some (.int low), some (.int (sp : Nat)), some v, some vw, some (.int rm), none, none] ∧ Same H6 H' ∧ IsW H' vw w ∧ dp w = sg w ∧ sg w = sg w7 + 1 ∧ loose (dom e0) w = false ∧ nmOk w; ⟨M'12, ?_, ?_⟩)
        · (rintro σ'' H'' h'386; refine εx2 h'386 fun vw8 w8 c'387 => εa7 c'387 fun e1 e2 e3 e4 e5 e6 e7 => ?_; (try clear h'386); clear c'387)
          exact (ιEAEE (30 - sg w8) (by exact ω389 hs8 e5) vw8 w8 ⟨e1, e2, e3, e4, by exact ω390 hs8 e5, e6, e7, rfl⟩)
        · refine ⟨by show 2 ≤ sizeLine; decide, fun l hl => ?_⟩
          have sml : Same H8 (upd H8 l (.lst [.str "all", .str "some"])) := Same.upd hl
          have hll : upd H8 l (.lst [.str "all", .str "some"]) l = some (.lst [.str "all", .str "some"]) := upd_same
          generalize upd H8 l (.lst [.str "all", .str "some"]) = H9 at sml hll
          have sm79 := sm8.trans sml
          refine (ιEAEE _ rfl vw7 w7 ⟨rfl, iw7.tk sm79.tk, by exact ω254 hd7 hs7, fun H10 sm10 => ?_⟩)
          obtain ⟨kk, hk, hkk⟩ : ∃ kk : Str, atI [V.str "all", V.str "some"] (((sg w7 : Nat) : Int) % 2) = some (.str kk) ∧ (kk = "all" ∨ kk = "some") := by
            have : ((sg w7 : Nat) : Int) % 2 = 0 ∨ ((sg w7 : Nat) : Int) % 2 = 1 := by exact ω391
            rcases this with e | e <;> rw [e]
            · exact ⟨"all", rfl, .inl rfl⟩
            · exact ⟨"some", rfl, .inr rfl⟩
          refine (ιEEAAAEE _ _ rfl rfl (by show (0 : Int) < 2; decide) l _ (ιEEAAAAE _ (.str kk) rfl rfl (SqL.of (sm10 l _ hll)) hk _ ⟨rfl, by show 2 ≤ sizeLine; decide, fun t2 ht2 => ?_⟩))
          have smt := Same.upd (o := .tup [.str kk, vw7]) ht2
          have sm711 := (sm79.trans sm10).trans smt
          rcases hkk with rfl | rfl
          · exact (ιEE (.ref t2) (.all w7) ⟨rfl, sm7.trans sm711, (ιEE t2 vw7 ⟨rfl, upd_same, iw7.tk sm711.tk⟩), (by show 1 + dp w7 = 1 + sg w7; exact ω256 hd7), (by show 1 + sg w7 = sg w7 + 1; exact ω257), lo7, nm7⟩)
          · exact (ιEE (.ref t2) (.some w7) ⟨rfl, sm7.trans sm711, (ιEE t2 vw7 ⟨rfl, upd_same, iw7.tk sm711.tk⟩), (by show 1 + dp w7 = 1 + sg w7; exact ω256 hd7), (by show 1 + sg w7 = sg w7 + 1; exact ω257), lo7, nm7⟩)
      · clear iw ws lo0 hdw hsw
        (rintro σ' H7 h'388; refine εx3 h'388 fun vw w s6 c'390 => εa7 c'390 fun e'389 sm7 iw hdw lo0 nm0 hsw => ?_; (try clear h'388); clear c'390; subst e'389)
        have sm17 := sm16.trans sm7
        have hS7 := sql_same sm7 hS6
        have ig7 := ig.tk sm17.tk
        refine (ιEAEEE _ rfl a ns 3 ⟨rfl, hS7, ιEEAAAAE _ _ rfl rfl (by show (0 : Int) < 4; decide) rfl _ ⟨rfl, ?_⟩⟩)
        refine ite2 (fun _ => ?_) (fun _ => ?_)
        · refine (ιEAEEE _ rfl a ns 3 ⟨rfl, hS7, ιEEAAAEE _ _ rfl rfl ⟨by decide, by decide⟩ _ _ ⟨rfl, rfl, (by show (0 : Int) < 3; decide), ?_⟩⟩)
          have h3 : ns.getD 3 0 / 4 % 3 = 0 ∨ ns.getD 3 0 / 4 % 3 = 1 ∨ ns.getD 3 0 / 4 % 3 = 2 := by exact ω392
          dsimp only
          generalize ns.getD 3 0 / 4 % 3 = fm at h3 ⊢
          refine (let M'13 : St → Hp → Prop := fun σ' H' => ∃ vw2 w2, σ' = [some (.ref a), some (.int (g.length : Nat)), some (.int low), some (.int (sp : Nat)), some v, some vw2, s6, some (.int fm), none] ∧ Same H7 H' ∧ IsW H' vw2 w2 ∧ (fm = 0 ∧ dp w2 ≤ 27 ∧ loose (dom e0) w2 = true ∧ nmOk w2 ∧ sg w2 < 110 ∨ fm ≠ 0 ∧ vw2 = vw ∧ w2 = w); ⟨M'13, ?_, ?_⟩)
          · refine (ιEAAE _ rfl rfl _ ⟨rfl, ?_⟩)
            refine ite2 (fun c => ?_) (fun c => ?_)
            · have c' : fm = 0 := V.int.inj (of_decide_eq_true c)
              refine ⟨_, rfl, by show 2 ≤ sizeLine; decide, fun t1 ht1 => ⟨by show 2 ≤ sizeLine; decide, fun t2 ht2 => ⟨by show 3 ≤ sizeLine; decide, fun t3 ht3 => ⟨by show 3 ≤ sizeLine; decide, fun t4 ht4 => ⟨by show 3 ≤ sizeLine; decide, fun t5 ht5 => ?_⟩⟩⟩⟩⟩
              have q1 := Same.upd (o := .tup [.str "name", .str "qq"]) ht1
              have q2 := Same.upd (o := .tup [.str "name", .str "q"]) ht2
              have q3 := Same.upd (o := .tup [.str "and", .ref t1, .ref t2]) ht3
              have q4 := Same.upd (o := .tup [.str "least", .str "q", .ref t3]) ht4
              have q5 := Same.upd (o := .tup [.str "or", vw, .ref t4]) ht5
              refine (ιEE (.ref t5) (.or w (.least "q" (.and (.name "qq") (.name "q")))) ⟨rfl, (((q1.trans q2).trans q3).trans q4).trans q5, (ιEEE t5 vw (.ref t4) ⟨rfl, upd_same, iw.tk ((((q1.trans q2).trans q3).trans q4).trans q5).tk, ιEEAAEE t4 (.ref t3) rfl (q5 _ _ upd_same) t3 (.ref t1) ⟨.ref t2, rfl, q5 _ _ (q4 _ _ upd_same), ⟨t1, rfl, q5 _ _ (q4 _ _ (q3 _ _ (q2 _ _ upd_same)))⟩, ⟨t2, rfl, q5 _ _ (q4 _ _ (q3 _ _ upd_same))⟩⟩⟩), .inl ⟨c', ?_, ?_, ?_, ?_⟩⟩)
              · simp only [dp]; exact ω393 hdw
              · have : loose (dpt (dom e0) "q") (.and (.name "qq") (.name "q")) = true := by decide +kernel
                show (loose (dom e0) w || loose (dpt (dom e0) "q") (.and (.name "qq") (.name "q"))) = true
                rw [this, Bool.or_true]
              · exact ⟨nm0, (show Str.length "q" ≤ 9 from by decide), (show Str.length "qq" ≤ 9 from by decide), (show Str.length "q" ≤ 9 from by decide)⟩
              · simp only [sg]; exact ω394 hsw
            · exact (ιEE vw w ⟨rfl, Same.refl _, iw, .inr ⟨fun z => c (decide_eq_true (by rw [z])), rfl, rfl⟩⟩)
          · (rintro σ8 H8 h'391; refine εx2 h'391 fun vw2 w2 c'393 => εa4 c'393 fun e'392 sm8 iw2 or2 => ?_; (try clear h'391); clear c'393; subst e'392)
            refine (let M'14 : St → Hp → Prop := fun σ' H' => ∃ vw3 w3, σ' = [some (.ref a), some (.int (g.length : Nat)), some (.int low), some (.int (sp : Nat)), some v, some vw3, s6, some (.int fm), none] ∧ Same H7 H' ∧ IsW H' vw3 w3 ∧ (fm ≠ 2 ∧ dp w3 ≤ 27 ∧ loose (dom e0) w3 = true ∧ nmOk w3 ∧ sg w3 < 110 ∨ fm = 2 ∧ vw3 = vw ∧ w3 = w); ⟨M'14, ?_, ?_⟩)
            · refine (ιEAAE _ rfl rfl _ ⟨rfl, ?_⟩)
              refine ite2 (fun c => ?_) (fun c => ?_)
              · have c' : fm = 1 := V.int.inj (of_decide_eq_true c)
                obtain ⟨rfl, rfl⟩ : vw2 = vw ∧ w2 = w := by
                  rcases or2 with ⟨z, _⟩ | ⟨_, z⟩
                  · omega
                  · exact z
                refine ⟨_, rfl, by show 3 ≤ sizeLine; decide, fun t1 ht1 => ⟨by show 2 ≤ sizeLine; decide, fun t2 ht2 => ⟨by show 2 ≤ sizeLine; decide, fun t3 ht3 => ⟨by show 3 ≤ sizeLine; decide, fun t4 ht4 => ?_⟩⟩⟩⟩
                have q1 := Same.upd (o := .tup [.str "least", .str "q", vw2]) ht1
                have q2 := Same.upd (o := .tup [.str "name", .str "q"]) ht2
                have q3 := Same.upd (o := .tup [.str "some", .ref t2]) ht3
                have q4 := Same.upd (o := .tup [.str "or", .ref t1, .ref t3]) ht4
                refine (ιEE (.ref t4) (.or (.least "q" w2) (.some (.name "q"))) ⟨rfl, sm8.trans (((q1.trans q2).trans q3).trans q4), (ιEEE t4 (.ref t1) (.ref t3) ⟨rfl, upd_same, (ιEE t1 vw2 ⟨rfl, q4 _ _ (q3 _ _ (q2 _ _ upd_same)), iw2.tk (((q1.trans q2).trans q3).trans q4).tk⟩), (ιEE t3 (.ref t2) ⟨rfl, q4 _ _ upd_same, ⟨t2, rfl, q4 _ _ (q3 _ _ upd_same)⟩⟩)⟩), .inl ⟨by exact ω395 c', ?_, ?_, ?_, ?_⟩⟩)
                · simp only [dp]; exact ω396 hdw
                · have : loose (dom e0) (.some (.name "q")) = true := by decide +kernel
                  show (loose (dpt (dom e0) "q") w2 || loose (dom e0) (.some (.name "q"))) = true
                  rw [this, Bool.or_true]
                · exact ⟨⟨by decide, nm0⟩, by show Str.length "q" ≤ 9; decide⟩
                · simp only [sg]; exact ω397 hsw
              · have c' : fm ≠ 1 := fun z => c (decide_eq_true (by rw [z]))
                refine (ιEE vw2 w2 ⟨rfl, sm8, iw2, ?_⟩)
                rcases or2 with ⟨z, y⟩ | ⟨z, y⟩
                · exact .inl ⟨by exact ω398 z, y⟩
                · exact .inr ⟨by exact ω399 h3 c' z, y⟩
            · clear or2 iw2 sm8
              (rintro σ9 H9 h'394; refine εx2 h'394 fun vw3 w3 c'396 => εa4 c'396 fun e'395 sm9 iw3 or3 => ?_; (try clear h'394); clear c'396; subst e'395)
              refine (let M'15 : St → Hp → Prop := fun σ' H' => ∃ vw4 w4, σ' = [some (.ref a), some (.int (g.length : Nat)), some (.int low), some (.int (sp : Nat)), some v, some vw4, s6, some (.int fm), none] ∧ Same H7 H' ∧ IsW H' vw4 w4 ∧ dp w4 ≤ 27 ∧ loose (dom e0) w4 = true ∧ nmOk w4 ∧ sg w4 < 110; ⟨M'15, ?_, ?_⟩)
              · refine (ιEAAE _ rfl rfl _ ⟨rfl, ?_⟩)
                refine ite2 (fun c => ?_) (fun c => ?_)
                · have c' : fm = 2 := V.int.inj (of_decide_eq_true c)
                  obtain ⟨rfl, rfl⟩ : vw3 = vw ∧ w3 = w := by
                    rcases or3 with ⟨z, _⟩ | ⟨_, z⟩
                    · exact absurd c' z
                    · exact z
                  refine ⟨by show 2 ≤ sizeLine; decide, fun t1 ht1 => ⟨by show 2 ≤ sizeLine; decide, fun t2 ht2 => ⟨_, rfl, by show 3 ≤ sizeLine; decide, fun t3 ht3 => ⟨by show 3 ≤ sizeLine; decide, fun t4 ht4 => ?_⟩⟩⟩⟩
                  have q1 := Same.upd (o := .tup [.str "name", .str "q"]) ht1
                  have q2 := Same.upd (o := .tup [.str "all", .ref t1]) ht2
                  have q3 := Same.upd (o := .tup [.str "most", .str "q", vw3]) ht3
                  have q4 := Same.upd (o := .tup [.str "and", .ref t2, .ref t3]) ht4
                  refine (ιEE (.ref t4) (.and (.all (.name "q")) (.most "q" w3)) ⟨rfl, sm9.trans (((q1.trans q2).trans q3).trans q4), (ιEEE t4 (.ref t2) (.ref t3) ⟨rfl, upd_same, (ιEE t2 (.ref t1) ⟨rfl, q4 _ _ (q3 _ _ upd_same), ⟨t1, rfl, q4 _ _ (q3 _ _ (q2 _ _ upd_same))⟩⟩), (ιEE t3 vw3 ⟨rfl, q4 _ _ upd_same, iw3.tk (((q1.trans q2).trans q3).trans q4).tk⟩)⟩), ?_, ?_, ?_, ?_⟩)
                  · simp only [dp]; exact ω400 hdw
                  · have : loose (dom e0) (.all (.name "q")) = true := by decide +kernel
                    show (loose (dom e0) (.all (.name "q")) || loose (dpt (dom e0) "q") w3) = true
                    rw [this, Bool.true_or]
                  · exact ⟨by show Str.length "q" ≤ 9; decide, ⟨by decide, nm0⟩⟩
                  · simp only [sg]; exact ω401 hsw
                · have c' : fm ≠ 2 := fun z => c (decide_eq_true (by rw [z]))
                  rcases or3 with ⟨_, z⟩ | ⟨z, _⟩
                  · exact (ιEE vw3 w3 ⟨rfl, sm9, iw3, z⟩)
                  · exact absurd z c'
              · clear or3 iw3 sm9
                (rintro σ10 H10 h'397; refine εx2 h'397 fun vw4 w4 c'399 => εa7 c'399 fun e'398 sm10 iw4 hd4 lo4 nm4 hs4 => ?_; (try clear h'397); clear c'399; subst e'398)
                refine (ιEAEAEE _ rfl _ rfl v g (ιEE vw4 w4 ⟨rfl, ig7.tk sm10.tk, hw, by exact ω166 m6, iw4, hd4, by exact ω258 hd4, by exact ω259 hs4, nm4, fun r H11 told sm11 => ?_⟩))
                (refine εx3 told fun t mm f c'401 => εa3 c'401 fun e'400 ht th => ?_; (try clear told); clear c'401; subst e'400)
                have hmm : H11 mm = some (.lst ((mks 6).map V.bl)) := by
                  rcases th with ⟨_, z⟩ | ⟨z, _⟩ | ⟨z, _⟩
                  · exact z
                  · rw [lo4] at z; cases z
                  · rw [lo4] at z; cases z
                refine (ιEEEE t _ 1 (.ref mm) ⟨rfl, rfl, SqT.of ht, rfl, ιEE mm 6 ⟨rfl, by decide, by decide, hmm, fun H12 sm12 => ?_⟩⟩)
                exact ⟨_, rfl, iteT (ιEAEAEE _ rfl _ rfl v vw4 ⟨w4, rfl, iw4.tk (sm11.trans sm12).tk, hd4, by exact ω258 hd4, by exact ω259 hs4, nm4, lo4, fun H13 => q H13⟩)⟩
        · refine (ιEAEAEE _ rfl _ rfl v g (ιEE vw w ⟨rfl, ig7, hw, by exact ω166 m6, iw, by exact ω167 hdw, by exact ω260 hdw, by exact ω402 hsw, nm0, fun r H8 told sm8 => ?_⟩))
          (refine εx3 told fun t mm f c'403 => εa3 c'403 fun e'402 ht th => ?_; (try clear told); clear c'403; subst e'402)
          refine (ιEAEAEE _ rfl _ rfl vw w ⟨rfl, iw.tk sm8.tk, by exact ω167 hdw, fun H9 sm9 => (ιEEAAAEE _ _ rfl rfl (.inl ⟨by exact ω34, by exact ω255 m6⟩) _ _ ⟨rfl, rfl, _, rfl, ?_⟩)⟩)
          have cst : ((g.length * sg w : Nat) : Int) = ((g.length : Nat) : Int) * ((sg w : Nat) : Int) := by rw [Int.natCast_mul]
          refine ite2 (fun c => ?_) (fun c => ?_)
          · have c' : 24 < g.length * sg w := by
              have : (24 : Int) < ((g.length : Nat) : Int) * ((sg w : Nat) : Int) := of_decide_eq_true c
              omega
            have hmm : H8 mm = some (.lst ((mks 4).map V.bl)) := by
              rcases th with ⟨z, _⟩ | ⟨_, _, z⟩ | ⟨_, z, _⟩
              · rw [lo0] at z; cases z
              · exact z
              · omega
            exact (ιEAEEE _ rfl t _ 1 (ιEAAAAEE (.ref mm) rfl rfl (SqT.of (sm9 t _ ht)) rfl mm 4 ⟨rfl, by decide, by decide, sm9 mm _ hmm, fun H12 _ => q H12⟩))
          · have c' : g.length * sg w ≤ 24 := by
              have : ¬ (24 : Int) < ((g.length : Nat) : Int) * ((sg w : Nat) : Int) := fun z => c (decide_eq_true z)
              omega
            obtain ⟨hmm, hg⟩ : H8 mm = some (.lst []) ∧ IsGm H8 f (gmOf g (rws e0 0 w)) := by
              rcases th with ⟨z, _⟩ | ⟨_, z, _⟩ | ⟨_, _, z⟩
              · rw [lo0] at z; cases z
              · omega
              · exact z
            refine (ιEAEEE _ rfl t _ 1 ⟨.ref mm, rfl, rfl, SqT.of (sm9 t _ ht), rfl, Nat.zero_le _, fun l hl => ?_⟩)
            have sm10 := Same.upd (o := .lst []) hl
            refine (ιEEAAAAE _ _ (.lst (sm10 mm _ (sm9 mm _ hmm)) .nil) (.lst upd_same .nil) shaped_intsQ shaped_intsQ _ ⟨rfl, ?_⟩)
            rw [show PyData.eqv (.list []) (.list []) = true from by simp [PyData.eqv, PyData.eqvAll]]
            refine iteT (ιEAEEE _ rfl t _ 0 (ιEAAAAEAE f rfl rfl (SqT.of (sm10 t _ (sm9 t _ ht))) rfl _ rfl _ ⟨rfl, ιEEEE v g vw w ⟨rfl, ig7.tk ((sm8.trans sm9).trans sm10).tk, hw, by exact ω166 m6, iw.tk ((sm8.trans sm9).trans sm10).tk, by exact ω167 hdw, by exact ω260 hdw, by exact ω403 hsw, lo0, fun v' H11 g11 sm11 => ?_⟩⟩))
            exact (ιEEE f v' _ ⟨rfl, hg.tk ((sm9.trans sm10).trans sm11).tk, g11, (by unfold gmOf; rw [gTo_len, rws_len]; exact ω261 c'), q _⟩)
end
end K18
namespace K18
open PySem L2 Gm
theorem len0 {us : List Value} {n : Nat} (h : us.length = n + 1) : ∃ a r, us = a :: r ∧ r.length = n := by
  cases us with
  | nil => cases h
  | cons a r => exact ⟨a, r, rfl, Nat.succ.inj h⟩
theorem len1 {us : List Value} (h : us.length = 1) : ∃ a0, us = [a0] := by
  obtain ⟨a, r, rfl, h2⟩ := len0 h
  rw [List.eq_nil_of_length_eq_zero h2]
  exact ⟨a, rfl⟩
theorem len2 {us : List Value} (h : us.length = 2) : ∃ a0 a1, us = [a0, a1] := by
  obtain ⟨a0, r, rfl, h2⟩ := len0 h
  obtain ⟨a1, rfl⟩ := len1 h2
  exact ⟨a0, a1, rfl⟩
theorem len3 {us : List Value} (h : us.length = 3) : ∃ a0 a1 a2, us = [a0, a1, a2] := by
  obtain ⟨a0, r, rfl, h2⟩ := len0 h
  obtain ⟨a1, a2, rfl⟩ := len2 h2
  exact ⟨a0, a1, a2, rfl⟩
theorem len4 {us : List Value} (h : us.length = 4) : ∃ a0 a1 a2 a3, us = [a0, a1, a2, a3] := by
  obtain ⟨a0, r, rfl, h2⟩ := len0 h
  obtain ⟨a1, a2, a3, rfl⟩ := len3 h2
  exact ⟨a0, a1, a2, a3, rfl⟩
theorem len5 {us : List Value} (h : us.length = 5) : ∃ a0 a1 a2 a3 a4, us = [a0, a1, a2, a3, a4] := by
  obtain ⟨a0, r, rfl, h2⟩ := len0 h
  obtain ⟨a1, a2, a3, a4, rfl⟩ := len4 h2
  exact ⟨a0, a1, a2, a3, a4, rfl⟩
theorem all_mk {l : PySem.W.OpenLaw} {w : World} {K : PySem.W.Frag} {h : Heap} {mg : Str → Option Value} {fa f1 f2 f3 f4 f5 f6 f7 f8 f9 f10 f11 f12 f13 f14 f15 f16 f17 f18 f19 f20 f21 f22 f23 f24 f25 f26 f27 f28 : Addr} (X : K.In h) (G : h.Ns mainGlobals mg) (hfa : mg "law" = some (.ref fa))
    {od1 an1 od2 an2 od3 an3 od4 an4 od5 an5 od6 an6 od7 an7 od8 an8 od9 an9 od10 an10 od11 an11 od12 an12 od13 an13 od14 an14 od15 an15 od16 an16 od17 an17 od18 an18 od19 an19 od20 an20 od21 an21 od22 an22 od23 an23 od24 an24 od25 an25 od26 an26 od27 an27 od28 an28 : Option Addr} {sl1 sl2 sl3 sl4 sl5 sl6 sl7 sl8 sl9 sl10 sl11 sl12 sl13 sl14 sl15 sl16 sl17 sl18 sl19 sl20 sl21 sl22 sl23 sl24 sl25 sl26 sl27 sl28 : Array (Option Value)}
    {oc1 kV1 dc1 pm1 cd1 ct1 oc2 kV2 dc2 pm2 cd2 ct2 oc3 kV3 dc3 pm3 cd3 ct3 oc4 kV4 dc4 pm4 cd4 ct4 oc5 kV5 dc5 pm5 cd5 ct5 oc6 kV6 dc6 pm6 cd6 ct6 oc7 kV7 dc7 pm7 cd7 ct7 oc8 kV8 dc8 pm8 cd8 ct8 oc9 kV9 dc9 pm9 cd9 ct9 oc10 kV10 dc10 pm10 cd10 ct10 oc11 kV11 dc11 pm11 cd11 ct11 oc12 kV12 dc12 pm12 cd12 ct12 oc13 kV13 dc13 pm13 cd13 ct13 oc14 kV14 dc14 pm14 cd14 ct14 oc15 kV15 dc15 pm15 cd15 ct15 oc16 kV16 dc16 pm16 cd16 ct16 oc17 kV17 dc17 pm17 cd17 ct17 oc18 kV18 dc18 pm18 cd18 ct18 oc19 kV19 dc19 pm19 cd19 ct19 oc20 kV20 dc20 pm20 cd20 ct20 oc21 kV21 dc21 pm21 cd21 ct21 oc22 kV22 dc22 pm22 cd22 ct22 oc23 kV23 dc23 pm23 cd23 ct23 oc24 kV24 dc24 pm24 cd24 ct24 oc25 kV25 dc25 pm25 cd25 ct25 oc26 kV26 dc26 pm26 cd26 ct26 oc27 kV27 dc27 pm27 cd27 ct27 oc28 kV28 dc28 pm28 cd28 ct28 : Value}
    (a1 : PySem.W.nsIn K mainGlobals "parts_of" = some (some (.ref f1))) (l1 : K.lookup f1 = some ⟨oc1, od1, .func (PySem.W.fnOf "parts_of" "parts_of" (defArgs sPartsOf) (defBody sPartsOf) (defScope sPartsOf) .none kV1 dc1 pm1 an1 cd1 ct1), sl1⟩) (c1 : PySem.W.codeIn K cd1 "parts_of" = true) (k1 : PySem.W.keepIn K (.ref f1) = true)
    (a2 : PySem.W.nsIn K mainGlobals "holds" = some (some (.ref f2))) (l2 : K.lookup f2 = some ⟨oc2, od2, .func (PySem.W.fnOf "holds" "holds" (defArgs sHoldsF) (defBody sHoldsF) (defScope sHoldsF) .none kV2 dc2 pm2 an2 cd2 ct2), sl2⟩) (c2 : PySem.W.codeIn K cd2 "holds" = true) (k2 : PySem.W.keepIn K (.ref f2) = true)
    (a3 : PySem.W.nsIn K mainGlobals "wish_game" = some (some (.ref f3))) (l3 : K.lookup f3 = some ⟨oc3, od3, .func (PySem.W.fnOf "wish_game" "wish_game" (defArgs sWishGame) (defBody sWishGame) (defScope sWishGame) .none kV3 dc3 pm3 an3 cd3 ct3), sl3⟩) (c3 : PySem.W.codeIn K cd3 "wish_game" = true) (k3 : PySem.W.keepIn K (.ref f3) = true)
    (a4 : PySem.W.nsIn K mainGlobals "rows_of" = some (some (.ref f4))) (l4 : K.lookup f4 = some ⟨oc4, od4, .func (PySem.W.fnOf "rows_of" "rows_of" (defArgs sRowsOf) (defBody sRowsOf) (defScope sRowsOf) .none kV4 dc4 pm4 an4 cd4 ct4), sl4⟩) (c4 : PySem.W.codeIn K cd4 "rows_of" = true) (k4 : PySem.W.keepIn K (.ref f4) = true)
    (a5 : PySem.W.nsIn K mainGlobals "home_of" = some (some (.ref f5))) (l5 : K.lookup f5 = some ⟨oc5, od5, .func (PySem.W.fnOf "home_of" "home_of" (defArgs sHomeOf) (defBody sHomeOf) (defScope sHomeOf) .none kV5 dc5 pm5 an5 cd5 ct5), sl5⟩) (c5 : PySem.W.codeIn K cd5 "home_of" = true) (k5 : PySem.W.keepIn K (.ref f5) = true)
    (a6 : PySem.W.nsIn K mainGlobals "game_of" = some (some (.ref f6))) (l6 : K.lookup f6 = some ⟨oc6, od6, .func (PySem.W.fnOf "game_of" "game_of" (defArgs sGameOf) (defBody sGameOf) (defScope sGameOf) .none kV6 dc6 pm6 an6 cd6 ct6), sl6⟩) (c6 : PySem.W.codeIn K cd6 "game_of" = true) (k6 : PySem.W.keepIn K (.ref f6) = true)
    (a7 : PySem.W.nsIn K mainGlobals "ways_of" = some (some (.ref f7))) (l7 : K.lookup f7 = some ⟨oc7, od7, .func (PySem.W.fnOf "ways_of" "ways_of" (defArgs sWaysOf) (defBody sWaysOf) (defScope sWaysOf) .none kV7 dc7 pm7 an7 cd7 ct7), sl7⟩) (c7 : PySem.W.codeIn K cd7 "ways_of" = true) (k7 : PySem.W.keepIn K (.ref f7) = true)
    (a8 : PySem.W.nsIn K mainGlobals "crown_of" = some (some (.ref f8))) (l8 : K.lookup f8 = some ⟨oc8, od8, .func (PySem.W.fnOf "crown_of" "crown_of" (defArgs sCrownOf) (defBody sCrownOf) (defScope sCrownOf) .none kV8 dc8 pm8 an8 cd8 ct8), sl8⟩) (c8 : PySem.W.codeIn K cd8 "crown_of" = true) (k8 : PySem.W.keepIn K (.ref f8) = true)
    (a9 : PySem.W.nsIn K mainGlobals "namers_in" = some (some (.ref f9))) (l9 : K.lookup f9 = some ⟨oc9, od9, .func (PySem.W.fnOf "namers_in" "namers_in" (defArgs sNamers) (defBody sNamers) (defScope sNamers) .none kV9 dc9 pm9 an9 cd9 ct9), sl9⟩) (c9 : PySem.W.codeIn K cd9 "namers_in" = true) (k9 : PySem.W.keepIn K (.ref f9) = true)
    (a10 : PySem.W.nsIn K mainGlobals "_law_cell_at" = some (some (.ref f10))) (l10 : K.lookup f10 = some ⟨oc10, od10, .func (PySem.W.fnOf "_law_cell_at" "_law_cell_at" (defArgs sCell) (defBody sCell) (defScope sCell) .none kV10 dc10 pm10 an10 cd10 ct10), sl10⟩) (c10 : PySem.W.codeIn K cd10 "_law_cell_at" = true) (k10 : PySem.W.keepIn K (.ref f10) = true)
    (a11 : PySem.W.nsIn K mainGlobals "_law_pick" = some (some (.ref f11))) (l11 : K.lookup f11 = some ⟨oc11, od11, .func (PySem.W.fnOf "_law_pick" "_law_pick" (defArgs sPick) (defBody sPick) (defScope sPick) .none kV11 dc11 pm11 an11 cd11 ct11), sl11⟩) (c11 : PySem.W.codeIn K cd11 "_law_pick" = true) (k11 : PySem.W.keepIn K (.ref f11) = true)
    (a12 : PySem.W.nsIn K mainGlobals "_law_whole" = some (some (.ref f12))) (l12 : K.lookup f12 = some ⟨oc12, od12, .func (PySem.W.fnOf "_law_whole" "_law_whole" (defArgs sWhole) (defBody sWhole) (defScope sWhole) .none kV12 dc12 pm12 an12 cd12 ct12), sl12⟩) (c12 : PySem.W.codeIn K cd12 "_law_whole" = true) (k12 : PySem.W.keepIn K (.ref f12) = true)
    (a13 : PySem.W.nsIn K mainGlobals "_law_mix" = some (some (.ref f13))) (l13 : K.lookup f13 = some ⟨oc13, od13, .func (PySem.W.fnOf "_law_mix" "_law_mix" (defArgs sMix) (defBody sMix) (defScope sMix) .none kV13 dc13 pm13 an13 cd13 ct13), sl13⟩) (c13 : PySem.W.codeIn K cd13 "_law_mix" = true) (k13 : PySem.W.keepIn K (.ref f13) = true)
    (a14 : PySem.W.nsIn K mainGlobals "_law_place" = some (some (.ref f14))) (l14 : K.lookup f14 = some ⟨oc14, od14, .func (PySem.W.fnOf "_law_place" "_law_place" (defArgs sPlace) (defBody sPlace) (defScope sPlace) .none kV14 dc14 pm14 an14 cd14 ct14), sl14⟩) (c14 : PySem.W.codeIn K cd14 "_law_place" = true) (k14 : PySem.W.keepIn K (.ref f14) = true)
    (a15 : PySem.W.nsIn K mainGlobals "_law_game" = some (some (.ref f15))) (l15 : K.lookup f15 = some ⟨oc15, od15, .func (PySem.W.fnOf "_law_game" "_law_game" (defArgs sGame) (defBody sGame) (defScope sGame) .none kV15 dc15 pm15 an15 cd15 ct15), sl15⟩) (c15 : PySem.W.codeIn K cd15 "_law_game" = true) (k15 : PySem.W.keepIn K (.ref f15) = true)
    (a16 : PySem.W.nsIn K mainGlobals "_law_same" = some (some (.ref f16))) (l16 : K.lookup f16 = some ⟨oc16, od16, .func (PySem.W.fnOf "_law_same" "_law_same" (defArgs sSame) (defBody sSame) (defScope sSame) .none kV16 dc16 pm16 an16 cd16 ct16), sl16⟩) (c16 : PySem.W.codeIn K cd16 "_law_same" = true) (k16 : PySem.W.keepIn K (.ref f16) = true)
    (a17 : PySem.W.nsIn K mainGlobals "_law_refused" = some (some (.ref f17))) (l17 : K.lookup f17 = some ⟨oc17, od17, .func (PySem.W.fnOf "_law_refused" "_law_refused" (defArgs sRefused) (defBody sRefused) (defScope sRefused) .none kV17 dc17 pm17 an17 cd17 ct17), sl17⟩) (c17 : PySem.W.codeIn K cd17 "_law_refused" = true) (k17 : PySem.W.keepIn K (.ref f17) = true)
    (a18 : PySem.W.nsIn K mainGlobals "_law_told" = some (some (.ref f18))) (l18 : K.lookup f18 = some ⟨oc18, od18, .func (PySem.W.fnOf "_law_told" "_law_told" (defArgs sLTold) (defBody sLTold) (defScope sLTold) .none kV18 dc18 pm18 an18 cd18 ct18), sl18⟩) (c18 : PySem.W.codeIn K cd18 "_law_told" = true) (k18 : PySem.W.keepIn K (.ref f18) = true)
    (a19 : PySem.W.nsIn K mainGlobals "_law_spot" = some (some (.ref f19))) (l19 : K.lookup f19 = some ⟨oc19, od19, .func (PySem.W.fnOf "_law_spot" "_law_spot" (defArgs sSpot) (defBody sSpot) (defScope sSpot) .none kV19 dc19 pm19 an19 cd19 ct19), sl19⟩) (c19 : PySem.W.codeIn K cd19 "_law_spot" = true) (k19 : PySem.W.keepIn K (.ref f19) = true)
    (a20 : PySem.W.nsIn K mainGlobals "_law_wish" = some (some (.ref f20))) (l20 : K.lookup f20 = some ⟨oc20, od20, .func (PySem.W.fnOf "_law_wish" "_law_wish" (defArgs sWish) (defBody sWish) (defScope sWish) .none kV20 dc20 pm20 an20 cd20 ct20), sl20⟩) (c20 : PySem.W.codeIn K cd20 "_law_wish" = true) (k20 : PySem.W.keepIn K (.ref f20) = true)
    (a21 : PySem.W.nsIn K mainGlobals "_law_parts" = some (some (.ref f21))) (l21 : K.lookup f21 = some ⟨oc21, od21, .func (PySem.W.fnOf "_law_parts" "_law_parts" (defArgs sLParts) (defBody sLParts) (defScope sLParts) .none kV21 dc21 pm21 an21 cd21 ct21), sl21⟩) (c21 : PySem.W.codeIn K cd21 "_law_parts" = true) (k21 : PySem.W.keepIn K (.ref f21) = true)
    (a22 : PySem.W.nsIn K mainGlobals "_law_signs" = some (some (.ref f22))) (l22 : K.lookup f22 = some ⟨oc22, od22, .func (PySem.W.fnOf "_law_signs" "_law_signs" (defArgs sLSigns) (defBody sLSigns) (defScope sLSigns) .none kV22 dc22 pm22 an22 cd22 ct22), sl22⟩) (c22 : PySem.W.codeIn K cd22 "_law_signs" = true) (k22 : PySem.W.keepIn K (.ref f22) = true)
    (a23 : PySem.W.nsIn K mainGlobals "_law_binders" = some (some (.ref f23))) (l23 : K.lookup f23 = some ⟨oc23, od23, .func (PySem.W.fnOf "_law_binders" "_law_binders" (defArgs sBinders) (defBody sBinders) (defScope sBinders) .none kV23 dc23 pm23 an23 cd23 ct23), sl23⟩) (c23 : PySem.W.codeIn K cd23 "_law_binders" = true) (k23 : PySem.W.keepIn K (.ref f23) = true)
    (a24 : PySem.W.nsIn K mainGlobals "_law_lay" = some (some (.ref f24))) (l24 : K.lookup f24 = some ⟨oc24, od24, .func (PySem.W.fnOf "_law_lay" "_law_lay" (defArgs sLay) (defBody sLay) (defScope sLay) .none kV24 dc24 pm24 an24 cd24 ct24), sl24⟩) (c24 : PySem.W.codeIn K cd24 "_law_lay" = true) (k24 : PySem.W.keepIn K (.ref f24) = true)
    (a25 : PySem.W.nsIn K mainGlobals "_law_crown" = some (some (.ref f25))) (l25 : K.lookup f25 = some ⟨oc25, od25, .func (PySem.W.fnOf "_law_crown" "_law_crown" (defArgs sLCrown) (defBody sLCrown) (defScope sLCrown) .none kV25 dc25 pm25 an25 cd25 ct25), sl25⟩) (c25 : PySem.W.codeIn K cd25 "_law_crown" = true) (k25 : PySem.W.keepIn K (.ref f25) = true)
    (a26 : PySem.W.nsIn K mainGlobals "_law_rows_of" = some (some (.ref f26))) (l26 : K.lookup f26 = some ⟨oc26, od26, .func (PySem.W.fnOf "_law_rows_of" "_law_rows_of" (defArgs sLRowsOf) (defBody sLRowsOf) (defScope sLRowsOf) .none kV26 dc26 pm26 an26 cd26 ct26), sl26⟩) (c26 : PySem.W.codeIn K cd26 "_law_rows_of" = true) (k26 : PySem.W.keepIn K (.ref f26) = true)
    (a27 : PySem.W.nsIn K mainGlobals "_law_loose" = some (some (.ref f27))) (l27 : K.lookup f27 = some ⟨oc27, od27, .func (PySem.W.fnOf "_law_loose" "_law_loose" (defArgs sLLoose) (defBody sLLoose) (defScope sLLoose) .none kV27 dc27 pm27 an27 cd27 ct27), sl27⟩) (c27 : PySem.W.codeIn K cd27 "_law_loose" = true) (k27 : PySem.W.keepIn K (.ref f27) = true)
    (a28 : PySem.W.nsIn K mainGlobals "law" = some (some (.ref f28))) (l28 : K.lookup f28 = some ⟨oc28, od28, .func (PySem.W.fnOf "law" "law" (defArgs sLaw) (defBody sLaw) (defScope sLaw) .none kV28 dc28 pm28 an28 cd28 ct28), sl28⟩) (c28 : PySem.W.codeIn K cd28 "law" = true) (k28 : PySem.W.keepIn K (.ref f28) = true)
    {C1 C2 C3 C4 C5 C6 C7 C8 : Addr}
    {mt : Tok}
    {aENDS : Addr}
    {aNAMERS : Addr}
    {aSTEPPERS : Addr}
    {aOF_HAND_ONE : Addr}
    (z1 : PySem.W.nsIn K mainGlobals "len" = some none) (z2 : PySem.W.nsIn K mainGlobals "range" = some none) (z3 : PySem.W.nsIn K mainGlobals "sorted" = some none) (z4 : PySem.W.nsIn K mainGlobals "set" = some none) (z5 : PySem.W.nsIn K mainGlobals "tuple" = some none) (z6 : PySem.W.nsIn K mainGlobals "isinstance" = some none) (z7 : PySem.W.nsIn K mainGlobals "int" = some none) (z8 : PySem.W.nsIn K mainGlobals "bool" = some none) (z9 : PySem.W.nsIn K mainGlobals "list" = some none) (z10 : PySem.W.nsIn K mainGlobals "all" = some none) (z11 : PySem.W.nsIn K mainGlobals "any" = some none) (z12 : PySem.W.nsIn K mainGlobals "dict" = some none) (z13 : PySem.W.nsIn K mainGlobals "max" = some none) (z14 : PySem.W.nsIn K mainGlobals "min" = some none) (z15 : PySem.W.nsIn K mainGlobals "sum" = some none) (z16 : PySem.W.nsIn K mainGlobals "ValueError" = some none)
    (hib : PySem.W.kitOne K (.type "int") (.type "bool") = some false)
    (cn1 : PySem.W.nsIn K mainGlobals "Stuck" = some (some (.ref C1)))
    (cn2 : PySem.W.nsIn K mainGlobals "NoPlace" = some (some (.ref C2)))
    (cn3 : PySem.W.nsIn K mainGlobals "Twice" = some (some (.ref C3)))
    (cn4 : PySem.W.nsIn K mainGlobals "TooMany" = some (some (.ref C4)))
    (cn5 : PySem.W.nsIn K mainGlobals "Lost" = some (some (.ref C5)))
    (cn6 : PySem.W.nsIn K mainGlobals "Loose" = some (some (.ref C6)))
    (cn7 : PySem.W.nsIn K mainGlobals "NoNote" = some (some (.ref C7)))
    (cn8 : PySem.W.nsIn K mainGlobals "WalkError" = some (some (.ref C8)))
    (ce4 : PySem.W.excIn K C4 VE "ValueError.__new__" = true)
    (xc4 : (PySem.W.clsIn K C4).isSome = true)
    (xg4 : PySem.W.findIn K (.ref C4) "__getattribute__" = some (some (.builtin "BaseException.__getattribute__")))
    (xb4 : PySem.W.mroIn K C4 (.type "BaseException") = some true)
    (xk4 : PySem.W.findIn K (.ref C4) "__getattr__" = some none)
    (xa4 : PySem.W.findIn K (.ref C4) "__class__" = some (some (.builtin "object.__class__")))
    (xm4 : PySem.W.mroIn K C4 (.type "object") = some true)
    (ve4 : PySem.W.kitOne K (.ref C4) (.type "ValueError") = some true)
    (we4 : PySem.W.exmOne K (.ref C4) (.ref C8) = some true)
    (e41 : PySem.W.kitOne K (.ref C4) (.ref C1) = some false)
    (e42 : PySem.W.kitOne K (.ref C4) (.ref C2) = some false)
    (e43 : PySem.W.kitOne K (.ref C4) (.ref C3) = some false)
    (e44 : PySem.W.kitOne K (.ref C4) (.ref C4) = some true)
    (e45 : PySem.W.kitOne K (.ref C4) (.ref C5) = some false)
    (e46 : PySem.W.kitOne K (.ref C4) (.ref C6) = some false)
    (e47 : PySem.W.kitOne K (.ref C4) (.ref C7) = some false)
    (ce6 : PySem.W.excIn K C6 VE "ValueError.__new__" = true)
    (xc6 : (PySem.W.clsIn K C6).isSome = true)
    (xg6 : PySem.W.findIn K (.ref C6) "__getattribute__" = some (some (.builtin "BaseException.__getattribute__")))
    (xb6 : PySem.W.mroIn K C6 (.type "BaseException") = some true)
    (xk6 : PySem.W.findIn K (.ref C6) "__getattr__" = some none)
    (xa6 : PySem.W.findIn K (.ref C6) "__class__" = some (some (.builtin "object.__class__")))
    (xm6 : PySem.W.mroIn K C6 (.type "object") = some true)
    (ve6 : PySem.W.kitOne K (.ref C6) (.type "ValueError") = some true)
    (we6 : PySem.W.exmOne K (.ref C6) (.ref C8) = some true)
    (e61 : PySem.W.kitOne K (.ref C6) (.ref C1) = some false)
    (e62 : PySem.W.kitOne K (.ref C6) (.ref C2) = some false)
    (e63 : PySem.W.kitOne K (.ref C6) (.ref C3) = some false)
    (e64 : PySem.W.kitOne K (.ref C6) (.ref C4) = some false)
    (e65 : PySem.W.kitOne K (.ref C6) (.ref C5) = some false)
    (e66 : PySem.W.kitOne K (.ref C6) (.ref C6) = some true)
    (e67 : PySem.W.kitOne K (.ref C6) (.ref C7) = some false)
    (xn : PySem.W.specialIn K (.builtin "object.__class__") "__get__" = some (some (.builtin "getset_descriptor.__get__")))
    (xt : PySem.W.takesIn K (.builtin "object.__class__") = some true)
    (qENDS : PySem.W.nsIn K mainGlobals "ENDS" = some (some (.ref aENDS)))
    (qNAMERS : PySem.W.nsIn K mainGlobals "NAMERS" = some (some (.ref aNAMERS)))
    (qSTEPPERS : PySem.W.nsIn K mainGlobals "STEPPERS" = some (some (.ref aSTEPPERS)))
    (qOF_HAND_ONE : PySem.W.nsIn K mainGlobals "OF_HAND_ONE" = some (some (.ref aOF_HAND_ONE)))
    (tE : tupK K aENDS = some [.str "is", .str "not"])
    (tN : tupK K aNAMERS = some [.str "least", .str "most"])
    (tS : tupK K aSTEPPERS = some [.str "all", .str "some"])
    (tO : tupK K aOF_HAND_ONE = some [.str "and", .str "all"])
    (qM : PySem.W.nsIn K mainGlobals "MOST" = some (some (.int 24 mt)))
    (hit : PySem.W.kitOne K (.type "int") (.type "tuple") = some false)
    (hst : PySem.W.kitOne K (.type "str") (.type "tuple") = some false)
    (wl : PySem.W.exmOne K (.ref C6) (.ref C6) = some true)
    : ∃ fd : FuncData, (∀ (s : Shared) (v : Value), BindsTo s fd ⟨[v], []⟩ [("script", v)]) ∧ ∀ base : Heap, K.In base → base.Ns mainGlobals mg → FnOk l.prog w K mg base CX0 34 fa fd ["script"] (spLaw K) := by
  have e := hfa.symm.trans (PySem.W.mg_of X G a28)
  cases e
  have T : Txt mg := ⟨PySem.W.mg_none_of X G z1, PySem.W.mg_none_of X G z2, PySem.W.mg_none_of X G z3, PySem.W.mg_none_of X G z4, PySem.W.mg_none_of X G z5, PySem.W.mg_none_of X G z6, PySem.W.mg_none_of X G z7, PySem.W.mg_none_of X G z8, PySem.W.mg_none_of X G z9, PySem.W.mg_none_of X G z10, PySem.W.mg_none_of X G z11, PySem.W.mg_none_of X G z12, PySem.W.mg_none_of X G z13, PySem.W.mg_none_of X G z14, PySem.W.mg_none_of X G z15, PySem.W.mg_none_of X G z16⟩
  have F1 := fun_mk (st := sPartsOf) l1 c1 k1
  have F2 := fun_mk (st := sHoldsF) l2 c2 k2
  have F3 := fun_mk (st := sWishGame) l3 c3 k3
  have F4 := fun_mk (st := sRowsOf) l4 c4 k4
  have F5 := fun_mk (st := sHomeOf) l5 c5 k5
  have F6 := fun_mk (st := sGameOf) l6 c6 k6
  have F7 := fun_mk (st := sWaysOf) l7 c7 k7
  have F8 := fun_mk (st := sCrownOf) l8 c8 k8
  have F9 := fun_mk (st := sNamers) l9 c9 k9
  have F10 := fun_mk (st := sCell) l10 c10 k10
  have F11 := fun_mk (st := sPick) l11 c11 k11
  have F12 := fun_mk (st := sWhole) l12 c12 k12
  have F13 := fun_mk (st := sMix) l13 c13 k13
  have F14 := fun_mk (st := sPlace) l14 c14 k14
  have F15 := fun_mk (st := sGame) l15 c15 k15
  have F16 := fun_mk (st := sSame) l16 c16 k16
  have F17 := fun_mk (st := sRefused) l17 c17 k17
  have F18 := fun_mk (st := sLTold) l18 c18 k18
  have F19 := fun_mk (st := sSpot) l19 c19 k19
  have F20 := fun_mk (st := sWish) l20 c20 k20
  have F21 := fun_mk (st := sLParts) l21 c21 k21
  have F22 := fun_mk (st := sLSigns) l22 c22 k22
  have F23 := fun_mk (st := sBinders) l23 c23 k23
  have F24 := fun_mk (st := sLay) l24 c24 k24
  have F25 := fun_mk (st := sLCrown) l25 c25 k25
  have F26 := fun_mk (st := sLRowsOf) l26 c26 k26
  have F27 := fun_mk (st := sLLoose) l27 c27 k27
  have F28 := fun_mk (st := sLaw) l28 c28 k28
  have b1 := F1.binds (ps := ["wish"]) fun _ _ _ _ _ _ us hl => by obtain ⟨a0,rfl⟩:=len1 hl; rfl
  have m1 := PySem.W.mg_of X G a1
  have b2 := F2.binds (ps := ["game", "wish"]) fun _ _ _ _ _ _ us hl => by obtain ⟨a0,a1,rfl⟩:=len2 hl; rfl
  have m2 := PySem.W.mg_of X G a2
  have b3 := F3.binds (ps := ["game", "wish"]) fun _ _ _ _ _ _ us hl => by obtain ⟨a0,a1,rfl⟩:=len2 hl; rfl
  have m3 := PySem.W.mg_of X G a3
  have b4 := F4.binds (ps := ["wish", "number", "homes"]) fun _ _ _ _ _ _ us hl => by obtain ⟨a0,a1,a2,rfl⟩:=len3 hl; rfl
  have m4 := PySem.W.mg_of X G a4
  have b5 := F5.binds (ps := ["name", "homes"]) fun _ _ _ _ _ _ us hl => by obtain ⟨a0,a1,rfl⟩:=len2 hl; rfl
  have m5 := PySem.W.mg_of X G a5
  have b6 := F6.binds (ps := ["game", "rows"]) fun _ _ _ _ _ _ us hl => by obtain ⟨a0,a1,rfl⟩:=len2 hl; rfl
  have m6 := PySem.W.mg_of X G a6
  have b7 := F7.binds (ps := ["game", "place", "sign", "heads", "many"]) fun _ _ _ _ _ _ us hl => by obtain ⟨a0,a1,a2,a3,a4,rfl⟩:=len5 hl; rfl
  have m7 := PySem.W.mg_of X G a7
  have b8 := F8.binds (ps := ["game", "place", "sign"]) fun _ _ _ _ _ _ us hl => by obtain ⟨a0,a1,a2,rfl⟩:=len3 hl; rfl
  have m8 := PySem.W.mg_of X G a8
  have b9 := F9.binds (ps := ["wish"]) fun _ _ _ _ _ _ us hl => by obtain ⟨a0,rfl⟩:=len1 hl; rfl
  have m9 := PySem.W.mg_of X G a9
  have b10 := F10.binds (ps := ["script", "k"]) fun _ _ _ _ _ _ us hl => by obtain ⟨a0,a1,rfl⟩:=len2 hl; rfl
  have m10 := PySem.W.mg_of X G a10
  have b11 := F11.binds (ps := ["script", "k"]) fun _ _ _ _ _ _ us hl => by obtain ⟨a0,a1,rfl⟩:=len2 hl; rfl
  have m11 := PySem.W.mg_of X G a11
  have b12 := F12.binds (ps := ["x"]) fun _ _ _ _ _ _ us hl => by obtain ⟨a0,rfl⟩:=len1 hl; rfl
  have m12 := PySem.W.mg_of X G a12
  have b13 := F13.binds (ps := ["cell", "k"]) fun _ _ _ _ _ _ us hl => by obtain ⟨a0,a1,rfl⟩:=len2 hl; rfl
  have m13 := PySem.W.mg_of X G a13
  have b14 := F14.binds (ps := ["number", "many", "spread", "low"]) fun _ _ _ _ _ _ us hl => by obtain ⟨a0,a1,a2,a3,rfl⟩:=len4 hl; rfl
  have m14 := PySem.W.mg_of X G a14
  have b15 := F15.binds (ps := ["script", "start", "many", "spread", "low"]) fun _ _ _ _ _ _ us hl => by obtain ⟨a0,a1,a2,a3,a4,rfl⟩:=len5 hl; rfl
  have m15 := PySem.W.mg_of X G a15
  have b16 := F16.binds (ps := ["found", "due"]) fun _ _ _ _ _ _ us hl => by obtain ⟨a0,a1,rfl⟩:=len2 hl; rfl
  have m16 := PySem.W.mg_of X G a16
  have b17 := F17.binds (ps := ["marks", "which"]) fun _ _ _ _ _ _ us hl => by obtain ⟨a0,a1,rfl⟩:=len2 hl; rfl
  have m17 := PySem.W.mg_of X G a17
  have b18 := F18.binds (ps := ["game", "wish"]) fun _ _ _ _ _ _ us hl => by obtain ⟨a0,a1,rfl⟩:=len2 hl; rfl
  have m18 := PySem.W.mg_of X G a18
  have b19 := F19.binds (ps := ["script", "spot"]) fun _ _ _ _ _ _ us hl => by obtain ⟨a0,a1,rfl⟩:=len2 hl; rfl
  have m19 := PySem.W.mg_of X G a19
  have b20 := F20.binds (ps := ["script", "spot", "names", "crowns", "deep"]) fun _ _ _ _ _ _ us hl => by obtain ⟨a0,a1,a2,a3,a4,rfl⟩:=len5 hl; rfl
  have m20 := PySem.W.mg_of X G a20
  have b21 := F21.binds (ps := ["wish"]) fun _ _ _ _ _ _ us hl => by obtain ⟨a0,rfl⟩:=len1 hl; rfl
  have m21 := PySem.W.mg_of X G a21
  have b22 := F22.binds (ps := ["wish"]) fun _ _ _ _ _ _ us hl => by obtain ⟨a0,rfl⟩:=len1 hl; rfl
  have m22 := PySem.W.mg_of X G a22
  have b23 := F23.binds (ps := ["wish"]) fun _ _ _ _ _ _ us hl => by obtain ⟨a0,rfl⟩:=len1 hl; rfl
  have m23 := PySem.W.mg_of X G a23
  have b24 := F24.binds (ps := ["wish", "names", "found"]) fun _ _ _ _ _ _ us hl => by obtain ⟨a0,a1,a2,rfl⟩:=len3 hl; rfl
  have m24 := PySem.W.mg_of X G a24
  have b25 := F25.binds (ps := ["wish", "crown"]) fun _ _ _ _ _ _ us hl => by obtain ⟨a0,a1,rfl⟩:=len2 hl; rfl
  have m25 := PySem.W.mg_of X G a25
  have b26 := F26.binds (ps := ["game", "wish"]) fun _ _ _ _ _ _ us hl => by obtain ⟨a0,a1,rfl⟩:=len2 hl; rfl
  have m26 := PySem.W.mg_of X G a26
  have b27 := F27.binds (ps := ["game", "wish"]) fun _ _ _ _ _ _ us hl => by obtain ⟨a0,a1,rfl⟩:=len2 hl; rfl
  have m27 := PySem.W.mg_of X G a27
  let cl : Nat → Addr := fun n => [C8, C1, C2, C3, C4, C5, C6, C7, C8].getD n C8
  have Nm8 : Nms8 mg cl := ⟨PySem.W.mg_of X G cn1, PySem.W.mg_of X G cn2, PySem.W.mg_of X G cn3, PySem.W.mg_of X G cn4, PySem.W.mg_of X G cn5, PySem.W.mg_of X G cn6, PySem.W.mg_of X G cn7, PySem.W.mg_of X G cn8⟩
  have D4 : Cls1 K cl 4 := ⟨by decide, by decide, ⟨xc4, xg4, xb4, xk4, xa4, xn, xt, xm4⟩, fun j h3 h4 => by
    have b : j = 1 ∨ j = 2 ∨ j = 3 ∨ j = 4 ∨ j = 5 ∨ j = 6 ∨ j = 7 := by exact ω165 h3 h4
    rcases b with rfl | rfl | rfl | rfl | rfl | rfl | rfl
    · exact e41
    · exact e42
    · exact e43
    · exact e44
    · exact e45
    · exact e46
    · exact e47, ve4, we4⟩
  have R4s : Ref K mg "TooMany" (cl 4) := ⟨Nm8.m4, ce4⟩
  have D6 : Cls1 K cl 6 := ⟨by decide, by decide, ⟨xc6, xg6, xb6, xk6, xa6, xn, xt, xm6⟩, fun j h3 h4 => by
    have b : j = 1 ∨ j = 2 ∨ j = 3 ∨ j = 4 ∨ j = 5 ∨ j = 6 ∨ j = 7 := by exact ω165 h3 h4
    rcases b with rfl | rfl | rfl | rfl | rfl | rfl | rfl
    · exact e61
    · exact e62
    · exact e63
    · exact e64
    · exact e65
    · exact e66
    · exact e67, ve6, we6⟩
  have R6s : Ref K mg "Loose" (cl 6) := ⟨Nm8.m6, ce6⟩
  have gENDS := PySem.W.mg_of X G qENDS
  have gNAMERS := PySem.W.mg_of X G qNAMERS
  have gSTEPPERS := PySem.W.mg_of X G qSTEPPERS
  have gOF_HAND_ONE := PySem.W.mg_of X G qOF_HAND_ONE
  have mM := PySem.W.mg_of X G qM
  exact ⟨PySem.W.fnOf "law" "law" (defArgs sLaw) (defBody sLaw) (defScope sLaw) .none kV28 dc28 pm28 an28 cd28 ct28, fun s v => .of_eq rfl, fun base _ _ =>
    (ok_law F28 T (ok_cell F10 T ) k10 m10 b10 (ok_game F15 T (ok_pick F11 T F10 m10 b10) k11 m11 b11 (ok_mix F13 ) k13 m13 b13 (ok_place F14 T ) k14 m14 b14) k15 m15 b15 (ok_lwish 3 F20 T (ok_spot F19 T (ok_pick F11 T F10 m10 b10) k11 m11 b11) k19 m19 b19 (ok_mix F13 ) k13 m13 b13 k20 m20 b20) k20 m20 b20 (ok_lsigns 27 F22 T  (ok_lparts F21 T ) k21 m21 b21 k22 m22 b22) k22 m22 b22 (ok_ltold 27 F18 T Nm8 D4 D6 (ok_wishgame 27 F3 T R4s mM (ok_rowsof 27 F4 T gENDS tE gNAMERS tN (ok_partsof hit hst F1 T ) k1 m1 b1 (ok_homeof F5 T R6s ) k5 m5 b5 k4 m4 b4) k4 m4 b4 (ok_gameof 27 F6 T gOF_HAND_ONE tO (ok_crownof 27 F8 T  (ok_namers 27 F9 T gNAMERS tN (ok_partsof hit hst F1 T ) k1 m1 b1 k9 m9 b9) k9 m9 b9) k8 m8 b8 (ok_waysof F7 T gSTEPPERS tS ) k7 m7 b7) k6 m6 b6) k3 m3 b3) k18 m18 b18 (ok_refused F17 T ) k17 m17 b17 (ok_lloose 27 F27 T Nm8.m6 wl (ok_holdsl 27 F2 T  (ok_rowsof 27 F4 T gENDS tE gNAMERS tN (ok_partsof hit hst F1 T ) k1 m1 b1 (ok_homeof F5 T R6s ) k5 m5 b5 k4 m4 b4) k4 m4 b4) k2 m2 b2) k27 m27 b27 (ok_same F16 T (ok_whole F12 T hib) k12 m12 b12) k16 m16 b16 (ok_lrowsof 27 F26 T  (ok_lay 27 F24 T  (ok_lparts F21 T ) k21 m21 b21 k24 m24 b24) k24 m24 b24 (ok_lcrown 27 F25 T  (ok_binders 27 F23 T  (ok_lparts F21 T ) k21 m21 b21 k23 m23 b23) k23 m23 b23) k25 m25 b25) k26 m26 b26)⟩
theorem walk {l : PySem.W.OpenLaw} {q : Program} {loose : List Str} {XP : (Str → Option Value) → Heap → Prop} {YP : World → Heap → Prop} {d : DefRec} {K : Params → PySem.W.Frag} (hn : l.most = some 63) (hdf : d.params.defaults = [])
    (hY : ∀ (w : World) (h : Heap), YP w h → (K w.params).In h)
    (F : ∀ (w : World) (mg : Str → Option Value) (fa : Addr) (h : Heap), (K w.params).In h → h.Ns mainGlobals mg → mg d.name = some (.ref fa) →
      ∃ fd : FuncData, (∀ (s : Shared) (u : Value), BindsTo s fd ⟨[u], []⟩ [("script", u)]) ∧ ∀ base : Heap, (K w.params).In base → base.Ns mainGlobals mg → FnOk l.prog w (K w.params) mg base CX0 34 fa fd ["script"] (spLaw (K w.params))) :
    PySem.W.WalkO q loose XP YP l.row.toRowW d [] (fun f vs => PySem.call f vs) :=
  L2.walk_of (n := 63) (k := 34) (x := "script") (CX := fun _ => CX0) (sp := fun w => spLaw (K w.params)) hn (by decide) hdf ⟨rfl, by decide, by decide⟩ hY F (fun _ _ a ns hl _ hS => ⟨a, ns, rfl, hS, hl, fun _ => rfl⟩) fun _ _ _ _ _ z => z
end K18
open PySem PySem.W PyProof.Rows
set_option maxHeartbeats 0 in
theorem PySem.Challenge.cw_crownwalk_k18_wish_game_holds : PySem.Challenge.rw_crownwalk_k18_wish_game.Holds := by
  w_on; o_law; k_head; (case hw => w_witness2)
  k_fill
  refine K18.walk (l := PySem.Challenge.rw_crownwalk_k18_wish_game) rfl rfl (fun w h Y => PySem.W.kIn_of Y) ?F
  case F =>
    intro w mg fa h KX G hmg
    refine' K18.all_mk KX G hmg ?a1 ?l1 ?c1 ?k1 ?a2 ?l2 ?c2 ?k2 ?a3 ?l3 ?c3 ?k3 ?a4 ?l4 ?c4 ?k4 ?a5 ?l5 ?c5 ?k5 ?a6 ?l6 ?c6 ?k6 ?a7 ?l7 ?c7 ?k7 ?a8 ?l8 ?c8 ?k8 ?a9 ?l9 ?c9 ?k9 ?a10 ?l10 ?c10 ?k10 ?a11 ?l11 ?c11 ?k11 ?a12 ?l12 ?c12 ?k12 ?a13 ?l13 ?c13 ?k13 ?a14 ?l14 ?c14 ?k14 ?a15 ?l15 ?c15 ?k15 ?a16 ?l16 ?c16 ?k16 ?a17 ?l17 ?c17 ?k17 ?a18 ?l18 ?c18 ?k18 ?a19 ?l19 ?c19 ?k19 ?a20 ?l20 ?c20 ?k20 ?a21 ?l21 ?c21 ?k21 ?a22 ?l22 ?c22 ?k22 ?a23 ?l23 ?c23 ?k23 ?a24 ?l24 ?c24 ?k24 ?a25 ?l25 ?c25 ?k25 ?a26 ?l26 ?c26 ?k26 ?a27 ?l27 ?c27 ?k27 ?a28 ?l28 ?c28 ?k28 ?z1 ?z2 ?z3 ?z4 ?z5 ?z6 ?z7 ?z8 ?z9 ?z10 ?z11 ?z12 ?z13 ?z14 ?z15 ?z16 ?hib ?cn1 ?cn2 ?cn3 ?cn4 ?cn5 ?cn6 ?cn7 ?cn8 ?ce4 ?xc4 ?xg4 ?xb4 ?xk4 ?xa4 ?xm4 ?ve4 ?we4 ?e41 ?e42 ?e43 ?e44 ?e45 ?e46 ?e47 ?ce6 ?xc6 ?xg6 ?xb6 ?xk6 ?xa6 ?xm6 ?ve6 ?we6 ?e61 ?e62 ?e63 ?e64 ?e65 ?e66 ?e67 ?xn ?xt ?qENDS ?qNAMERS ?qSTEPPERS ?qOF_HAND_ONE ?tE ?tN ?tS ?tO ?qM ?hit ?hst ?wl
    (case a1 => k_is); (case l1 => k_is); (case c1 => k_is); (case k1 => k_is)
    (case a2 => k_is); (case l2 => k_is); (case c2 => k_is); (case k2 => k_is)
    (case a3 => k_is); (case l3 => k_is); (case c3 => k_is); (case k3 => k_is)
    (case a4 => k_is); (case l4 => k_is); (case c4 => k_is); (case k4 => k_is)
    (case a5 => k_is); (case l5 => k_is); (case c5 => k_is); (case k5 => k_is)
    (case a6 => k_is); (case l6 => k_is); (case c6 => k_is); (case k6 => k_is)
    (case a7 => k_is); (case l7 => k_is); (case c7 => k_is); (case k7 => k_is)
    (case a8 => k_is); (case l8 => k_is); (case c8 => k_is); (case k8 => k_is)
    (case a9 => k_is); (case l9 => k_is); (case c9 => k_is); (case k9 => k_is)
    (case a10 => k_is); (case l10 => k_is); (case c10 => k_is); (case k10 => k_is)
    (case a11 => k_is); (case l11 => k_is); (case c11 => k_is); (case k11 => k_is)
    (case a12 => k_is); (case l12 => k_is); (case c12 => k_is); (case k12 => k_is)
    (case a13 => k_is); (case l13 => k_is); (case c13 => k_is); (case k13 => k_is)
    (case a14 => k_is); (case l14 => k_is); (case c14 => k_is); (case k14 => k_is)
    (case a15 => k_is); (case l15 => k_is); (case c15 => k_is); (case k15 => k_is)
    (case a16 => k_is); (case l16 => k_is); (case c16 => k_is); (case k16 => k_is)
    (case a17 => k_is); (case l17 => k_is); (case c17 => k_is); (case k17 => k_is)
    (case a18 => k_is); (case l18 => k_is); (case c18 => k_is); (case k18 => k_is)
    (case a19 => k_is); (case l19 => k_is); (case c19 => k_is); (case k19 => k_is)
    (case a20 => k_is); (case l20 => k_is); (case c20 => k_is); (case k20 => k_is)
    (case a21 => k_is); (case l21 => k_is); (case c21 => k_is); (case k21 => k_is)
    (case a22 => k_is); (case l22 => k_is); (case c22 => k_is); (case k22 => k_is)
    (case a23 => k_is); (case l23 => k_is); (case c23 => k_is); (case k23 => k_is)
    (case a24 => k_is); (case l24 => k_is); (case c24 => k_is); (case k24 => k_is)
    (case a25 => k_is); (case l25 => k_is); (case c25 => k_is); (case k25 => k_is)
    (case a26 => k_is); (case l26 => k_is); (case c26 => k_is); (case k26 => k_is)
    (case a27 => k_is); (case l27 => k_is); (case c27 => k_is); (case k27 => k_is)
    (case a28 => k_is); (case l28 => k_is); (case c28 => k_is); (case k28 => k_is)
    (case z1 => k_is); (case z2 => k_is); (case z3 => k_is); (case z4 => k_is); (case z5 => k_is); (case z6 => k_is); (case z7 => k_is); (case z8 => k_is); (case z9 => k_is); (case z10 => k_is); (case z11 => k_is); (case z12 => k_is); (case z13 => k_is); (case z14 => k_is); (case z15 => k_is); (case z16 => k_is)
    (case hib => first | k_is | k_exc | rfl | (simp only [PySem.W.kitOne]; rfl) | decide +kernel)
    (case cn1 => first | k_is | k_exc | rfl | (simp only [PySem.W.kitOne]; rfl) | decide +kernel)
    (case cn2 => first | k_is | k_exc | rfl | (simp only [PySem.W.kitOne]; rfl) | decide +kernel)
    (case cn3 => first | k_is | k_exc | rfl | (simp only [PySem.W.kitOne]; rfl) | decide +kernel)
    (case cn4 => first | k_is | k_exc | rfl | (simp only [PySem.W.kitOne]; rfl) | decide +kernel)
    (case cn5 => first | k_is | k_exc | rfl | (simp only [PySem.W.kitOne]; rfl) | decide +kernel)
    (case cn6 => first | k_is | k_exc | rfl | (simp only [PySem.W.kitOne]; rfl) | decide +kernel)
    (case cn7 => first | k_is | k_exc | rfl | (simp only [PySem.W.kitOne]; rfl) | decide +kernel)
    (case cn8 => first | k_is | k_exc | rfl | (simp only [PySem.W.kitOne]; rfl) | decide +kernel)
    (case ce4 => first | k_is | k_exc | rfl | (simp only [PySem.W.kitOne]; rfl) | decide +kernel)
    (case xc4 => first | k_is | k_exc | rfl | (simp only [PySem.W.kitOne]; rfl) | decide +kernel)
    (case xg4 => first | k_is | k_exc | rfl | (simp only [PySem.W.kitOne]; rfl) | decide +kernel)
    (case xb4 => first | k_is | k_exc | rfl | (simp only [PySem.W.kitOne]; rfl) | decide +kernel)
    (case xk4 => first | k_is | k_exc | rfl | (simp only [PySem.W.kitOne]; rfl) | decide +kernel)
    (case xa4 => first | k_is | k_exc | rfl | (simp only [PySem.W.kitOne]; rfl) | decide +kernel)
    (case xm4 => first | k_is | k_exc | rfl | (simp only [PySem.W.kitOne]; rfl) | decide +kernel)
    (case ve4 => first | k_is | k_exc | rfl | (simp only [PySem.W.kitOne]; rfl) | decide +kernel)
    (case we4 => first | k_is | k_exc | rfl | (simp only [PySem.W.kitOne]; rfl) | decide +kernel)
    (case e41 => first | k_is | k_exc | rfl | (simp only [PySem.W.kitOne]; rfl) | decide +kernel)
    (case e42 => first | k_is | k_exc | rfl | (simp only [PySem.W.kitOne]; rfl) | decide +kernel)
    (case e43 => first | k_is | k_exc | rfl | (simp only [PySem.W.kitOne]; rfl) | decide +kernel)
    (case e44 => first | k_is | k_exc | rfl | (simp only [PySem.W.kitOne]; rfl) | decide +kernel)
    (case e45 => first | k_is | k_exc | rfl | (simp only [PySem.W.kitOne]; rfl) | decide +kernel)
    (case e46 => first | k_is | k_exc | rfl | (simp only [PySem.W.kitOne]; rfl) | decide +kernel)
    (case e47 => first | k_is | k_exc | rfl | (simp only [PySem.W.kitOne]; rfl) | decide +kernel)
    (case ce6 => first | k_is | k_exc | rfl | (simp only [PySem.W.kitOne]; rfl) | decide +kernel)
    (case xc6 => first | k_is | k_exc | rfl | (simp only [PySem.W.kitOne]; rfl) | decide +kernel)
    (case xg6 => first | k_is | k_exc | rfl | (simp only [PySem.W.kitOne]; rfl) | decide +kernel)
    (case xb6 => first | k_is | k_exc | rfl | (simp only [PySem.W.kitOne]; rfl) | decide +kernel)
    (case xk6 => first | k_is | k_exc | rfl | (simp only [PySem.W.kitOne]; rfl) | decide +kernel)
    (case xa6 => first | k_is | k_exc | rfl | (simp only [PySem.W.kitOne]; rfl) | decide +kernel)
    (case xm6 => first | k_is | k_exc | rfl | (simp only [PySem.W.kitOne]; rfl) | decide +kernel)
    (case ve6 => first | k_is | k_exc | rfl | (simp only [PySem.W.kitOne]; rfl) | decide +kernel)
    (case we6 => first | k_is | k_exc | rfl | (simp only [PySem.W.kitOne]; rfl) | decide +kernel)
    (case e61 => first | k_is | k_exc | rfl | (simp only [PySem.W.kitOne]; rfl) | decide +kernel)
    (case e62 => first | k_is | k_exc | rfl | (simp only [PySem.W.kitOne]; rfl) | decide +kernel)
    (case e63 => first | k_is | k_exc | rfl | (simp only [PySem.W.kitOne]; rfl) | decide +kernel)
    (case e64 => first | k_is | k_exc | rfl | (simp only [PySem.W.kitOne]; rfl) | decide +kernel)
    (case e65 => first | k_is | k_exc | rfl | (simp only [PySem.W.kitOne]; rfl) | decide +kernel)
    (case e66 => first | k_is | k_exc | rfl | (simp only [PySem.W.kitOne]; rfl) | decide +kernel)
    (case e67 => first | k_is | k_exc | rfl | (simp only [PySem.W.kitOne]; rfl) | decide +kernel)
    (case xn => first | k_is | k_exc | rfl | (simp only [PySem.W.kitOne]; rfl) | decide +kernel)
    (case xt => first | k_is | k_exc | rfl | (simp only [PySem.W.kitOne]; rfl) | decide +kernel)
    (case qENDS => first | k_is | k_exc | rfl | (simp only [PySem.W.kitOne]; rfl) | decide +kernel)
    (case qNAMERS => first | k_is | k_exc | rfl | (simp only [PySem.W.kitOne]; rfl) | decide +kernel)
    (case qSTEPPERS => first | k_is | k_exc | rfl | (simp only [PySem.W.kitOne]; rfl) | decide +kernel)
    (case qOF_HAND_ONE => first | k_is | k_exc | rfl | (simp only [PySem.W.kitOne]; rfl) | decide +kernel)
    (case tE => first | k_is | k_exc | rfl | (simp only [PySem.W.kitOne]; rfl) | decide +kernel)
    (case tN => first | k_is | k_exc | rfl | (simp only [PySem.W.kitOne]; rfl) | decide +kernel)
    (case tS => first | k_is | k_exc | rfl | (simp only [PySem.W.kitOne]; rfl) | decide +kernel)
    (case tO => first | k_is | k_exc | rfl | (simp only [PySem.W.kitOne]; rfl) | decide +kernel)
    (case qM => first | k_is | k_exc | rfl | (simp only [PySem.W.kitOne]; rfl) | decide +kernel)
    (case hit => first | k_is | k_exc | rfl | (simp only [PySem.W.kitOne]; rfl) | decide +kernel)
    (case hst => first | k_is | k_exc | rfl | (simp only [PySem.W.kitOne]; rfl) | decide +kernel)
    (case wl => first | k_is | k_exc | rfl | (simp only [PySem.W.kitOne]; rfl) | decide +kernel)
#print axioms PySem.Challenge.cw_crownwalk_k18_wish_game_holds
