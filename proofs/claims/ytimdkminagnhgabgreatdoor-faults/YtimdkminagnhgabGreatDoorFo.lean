/-
  Every function that a law can reach keeps to what the plain semantics knows. Printed by program. Own work.
-/
import Derived.Test.YtimdkminagnhgabGreatDoorLsA
namespace Go.Proofs.YtimdkminagnhgabGreatDoor
open Go.Vm Go.Proofs
set_option maxRecDepth 100000

def qsF (f : FuncId) : Bool := Nat.beq f 23 || Nat.beq f 111
def funOkB (G : Nat) (fn : Func) : Bool := (match fn.body with | some c => codeOk G qsF c | none => false) && !(fn.name == "runtime.NumGoroutine")
def funQB (fn : Func) : Bool := (match fn.body with | some c => codeQ qsF c | none => false)
theorem funQ_of {f : FuncId} {fn : Func} (hf : Tryz.prog.funcs[f]? = some fn) (h : funQB fn = true) : FunQ Tryz.prog qsF f := by
  unfold funQB at h
  cases hb : fn.body with
  | none => rw [hb] at h; simp at h
  | some c => rw [hb] at h; exact ⟨fn, c, hf, hb, h⟩
theorem fun_q (f : FuncId) (h : qsF f = true) : FunQ Tryz.prog qsF f := by
  simp only [qsF, Bool.or_eq_true] at h
  rcases h with h | h
  · have e := Nat.eq_of_beq_eq_true h; subst e; exact funQ_of Tryz.func23 (by kernel_rfl)
  · have e := Nat.eq_of_beq_eq_true h; subst e; exact funQ_of Tryz.func111 (by kernel_rfl)
theorem funOk_of {G : Nat} {f : FuncId} {fn : Func} (hf : Tryz.prog.funcs[f]? = some fn) (h : funOkB G fn = true) : FunOk Tryz.prog G qsF f := by
  unfold funOkB at h
  cases hb : fn.body with
  | none => rw [hb] at h; simp at h
  | some c =>
    rw [hb] at h
    simp only [Bool.and_eq_true, Bool.not_eq_true'] at h
    exact ⟨fn, c, hf, hb, h.1, h.2⟩
theorem fun_step {Q : Nat → Prop} {n m : Nat} (h : Q n) (r : ∀ f, n + 1 ≤ f → f ≤ m → Q f) : ∀ f, n ≤ f → f ≤ m → Q f := by
  intro f h1 h2
  by_cases e : f = n
  · subst e; exact h
  · exact r f (by omega) h2

theorem fo_3 : FunOk Tryz.prog 3 qsF 3 := funOk_of Tryz.func3 (by kernel_rfl)
theorem fo_4 : FunOk Tryz.prog 3 qsF 4 := funOk_of Tryz.func4 (by kernel_rfl)
theorem fo_5 : FunOk Tryz.prog 3 qsF 5 := funOk_of Tryz.func5 (by kernel_rfl)
theorem fo_6 : FunOk Tryz.prog 3 qsF 6 := funOk_of Tryz.func6 (by kernel_rfl)
theorem fo_7 : FunOk Tryz.prog 3 qsF 7 := funOk_of Tryz.func7 (by kernel_rfl)
theorem fo_8 : FunOk Tryz.prog 3 qsF 8 := funOk_of Tryz.func8 (by kernel_rfl)
theorem fo_9 : FunOk Tryz.prog 3 qsF 9 := funOk_of Tryz.func9 (by kernel_rfl)
theorem fo_10 : FunOk Tryz.prog 3 qsF 10 := funOk_of Tryz.func10 (by kernel_rfl)
theorem fo_11 : FunOk Tryz.prog 3 qsF 11 := funOk_of Tryz.func11 (by kernel_rfl)
theorem fo_12 : FunOk Tryz.prog 3 qsF 12 := funOk_of Tryz.func12 (by kernel_rfl)
theorem fo_13 : FunOk Tryz.prog 3 qsF 13 := funOk_of Tryz.func13 (by kernel_rfl)
theorem fo_14 : FunOk Tryz.prog 3 qsF 14 := funOk_of Tryz.func14 (by kernel_rfl)
theorem fo_15 : FunOk Tryz.prog 3 qsF 15 := funOk_of Tryz.func15 (by kernel_rfl)
theorem fo_16 : FunOk Tryz.prog 3 qsF 16 := funOk_of Tryz.func16 (by kernel_rfl)
theorem fo_17 : FunOk Tryz.prog 3 qsF 17 := funOk_of Tryz.func17 (by kernel_rfl)
theorem fo_18 : FunOk Tryz.prog 3 qsF 18 := funOk_of Tryz.func18 (by kernel_rfl)
theorem fo_19 : FunOk Tryz.prog 3 qsF 19 := funOk_of Tryz.func19 (by kernel_rfl)
theorem fo_20 : FunOk Tryz.prog 3 qsF 20 := funOk_of Tryz.func20 (by kernel_rfl)
theorem fo_21 : FunOk Tryz.prog 3 qsF 21 := funOk_of Tryz.func21 (by kernel_rfl)
theorem fo_22 : FunOk Tryz.prog 3 qsF 22 := funOk_of Tryz.func22 (by kernel_rfl)
theorem fo_23 : FunOk Tryz.prog 3 qsF 23 := funOk_of Tryz.func23 (by kernel_rfl)
theorem fo_24 : FunOk Tryz.prog 3 qsF 24 := funOk_of Tryz.func24 (by kernel_rfl)
theorem fo_25 : FunOk Tryz.prog 3 qsF 25 := funOk_of Tryz.func25 (by kernel_rfl)
theorem fo_26 : FunOk Tryz.prog 3 qsF 26 := funOk_of Tryz.func26 (by kernel_rfl)
theorem fo_27 : FunOk Tryz.prog 3 qsF 27 := funOk_of Tryz.func27 (by kernel_rfl)
theorem fo_28 : FunOk Tryz.prog 3 qsF 28 := funOk_of Tryz.func28 (by kernel_rfl)
theorem fo_29 : FunOk Tryz.prog 3 qsF 29 := funOk_of Tryz.func29 (by kernel_rfl)
theorem fo_30 : FunOk Tryz.prog 3 qsF 30 := funOk_of Tryz.func30 (by kernel_rfl)
theorem fo_31 : FunOk Tryz.prog 3 qsF 31 := funOk_of Tryz.func31 (by kernel_rfl)
theorem fo_32 : FunOk Tryz.prog 3 qsF 32 := funOk_of Tryz.func32 (by kernel_rfl)
theorem fo_33 : FunOk Tryz.prog 3 qsF 33 := funOk_of Tryz.func33 (by kernel_rfl)
theorem fo_34 : FunOk Tryz.prog 3 qsF 34 := funOk_of Tryz.func34 (by kernel_rfl)
theorem fo_35 : FunOk Tryz.prog 3 qsF 35 := funOk_of Tryz.func35 (by kernel_rfl)
theorem fo_36 : FunOk Tryz.prog 3 qsF 36 := funOk_of Tryz.func36 (by kernel_rfl)
theorem fo_37 : FunOk Tryz.prog 3 qsF 37 := funOk_of Tryz.func37 (by kernel_rfl)
theorem fo_38 : FunOk Tryz.prog 3 qsF 38 := funOk_of Tryz.func38 (by kernel_rfl)
theorem fo_39 : FunOk Tryz.prog 3 qsF 39 := funOk_of Tryz.func39 (by kernel_rfl)
theorem fo_40 : FunOk Tryz.prog 3 qsF 40 := funOk_of Tryz.func40 (by kernel_rfl)
theorem fo_41 : FunOk Tryz.prog 3 qsF 41 := funOk_of Tryz.func41 (by kernel_rfl)
theorem fo_42 : FunOk Tryz.prog 3 qsF 42 := funOk_of Tryz.func42 (by kernel_rfl)
theorem fo_43 : FunOk Tryz.prog 3 qsF 43 := funOk_of Tryz.func43 (by kernel_rfl)
theorem fo_44 : FunOk Tryz.prog 3 qsF 44 := funOk_of Tryz.func44 (by kernel_rfl)
theorem fo_45 : FunOk Tryz.prog 3 qsF 45 := funOk_of Tryz.func45 (by kernel_rfl)
theorem fo_46 : FunOk Tryz.prog 3 qsF 46 := funOk_of Tryz.func46 (by kernel_rfl)
theorem fo_47 : FunOk Tryz.prog 3 qsF 47 := funOk_of Tryz.func47 (by kernel_rfl)
theorem fo_48 : FunOk Tryz.prog 3 qsF 48 := funOk_of Tryz.func48 (by kernel_rfl)
theorem fo_49 : FunOk Tryz.prog 3 qsF 49 := funOk_of Tryz.func49 (by kernel_rfl)
theorem fo_50 : FunOk Tryz.prog 3 qsF 50 := funOk_of Tryz.func50 (by kernel_rfl)
theorem fo_51 : FunOk Tryz.prog 3 qsF 51 := funOk_of Tryz.func51 (by kernel_rfl)
theorem fo_52 : FunOk Tryz.prog 3 qsF 52 := funOk_of Tryz.func52 (by kernel_rfl)
theorem fo_53 : FunOk Tryz.prog 3 qsF 53 := funOk_of Tryz.func53 (by kernel_rfl)
theorem fo_54 : FunOk Tryz.prog 3 qsF 54 := funOk_of Tryz.func54 (by kernel_rfl)
theorem fo_55 : FunOk Tryz.prog 3 qsF 55 := funOk_of Tryz.func55 (by kernel_rfl)
theorem fo_56 : FunOk Tryz.prog 3 qsF 56 := funOk_of Tryz.func56 (by kernel_rfl)
theorem fo_57 : FunOk Tryz.prog 3 qsF 57 := funOk_of Tryz.func57 (by kernel_rfl)
theorem fo_58 : FunOk Tryz.prog 3 qsF 58 := funOk_of Tryz.func58 (by kernel_rfl)
theorem fo_59 : FunOk Tryz.prog 3 qsF 59 := funOk_of Tryz.func59 (by kernel_rfl)
theorem fo_60 : FunOk Tryz.prog 3 qsF 60 := funOk_of Tryz.func60 (by kernel_rfl)
theorem fo_61 : FunOk Tryz.prog 3 qsF 61 := funOk_of Tryz.func61 (by kernel_rfl)
theorem fo_62 : FunOk Tryz.prog 3 qsF 62 := funOk_of Tryz.func62 (by kernel_rfl)
theorem fo_63 : FunOk Tryz.prog 3 qsF 63 := funOk_of Tryz.func63 (by kernel_rfl)
theorem fo_64 : FunOk Tryz.prog 3 qsF 64 := funOk_of Tryz.func64 (by kernel_rfl)
theorem fo_65 : FunOk Tryz.prog 3 qsF 65 := funOk_of Tryz.func65 (by kernel_rfl)
theorem fo_66 : FunOk Tryz.prog 3 qsF 66 := funOk_of Tryz.func66 (by kernel_rfl)
theorem fo_67 : FunOk Tryz.prog 3 qsF 67 := funOk_of Tryz.func67 (by kernel_rfl)
theorem fo_68 : FunOk Tryz.prog 3 qsF 68 := funOk_of Tryz.func68 (by kernel_rfl)
theorem fo_69 : FunOk Tryz.prog 3 qsF 69 := funOk_of Tryz.func69 (by kernel_rfl)
theorem fo_70 : FunOk Tryz.prog 3 qsF 70 := funOk_of Tryz.func70 (by kernel_rfl)
theorem fo_71 : FunOk Tryz.prog 3 qsF 71 := funOk_of Tryz.func71 (by kernel_rfl)
theorem fo_72 : FunOk Tryz.prog 3 qsF 72 := funOk_of Tryz.func72 (by kernel_rfl)
theorem fo_73 : FunOk Tryz.prog 3 qsF 73 := funOk_of Tryz.func73 (by kernel_rfl)
theorem fo_74 : FunOk Tryz.prog 3 qsF 74 := funOk_of Tryz.func74 (by kernel_rfl)
theorem fo_75 : FunOk Tryz.prog 3 qsF 75 := funOk_of Tryz.func75 (by kernel_rfl)
theorem fo_76 : FunOk Tryz.prog 3 qsF 76 := funOk_of Tryz.func76 (by kernel_rfl)
theorem fo_77 : FunOk Tryz.prog 3 qsF 77 := funOk_of Tryz.func77 (by kernel_rfl)
theorem fo_78 : FunOk Tryz.prog 3 qsF 78 := funOk_of Tryz.func78 (by kernel_rfl)
theorem fo_79 : FunOk Tryz.prog 3 qsF 79 := funOk_of Tryz.func79 (by kernel_rfl)
theorem fo_80 : FunOk Tryz.prog 3 qsF 80 := funOk_of Tryz.func80 (by kernel_rfl)
theorem fo_81 : FunOk Tryz.prog 3 qsF 81 := funOk_of Tryz.func81 (by kernel_rfl)
theorem fo_82 : FunOk Tryz.prog 3 qsF 82 := funOk_of Tryz.func82 (by kernel_rfl)
theorem fo_83 : FunOk Tryz.prog 3 qsF 83 := funOk_of Tryz.func83 (by kernel_rfl)
theorem fo_84 : FunOk Tryz.prog 3 qsF 84 := funOk_of Tryz.func84 (by kernel_rfl)
theorem fo_85 : FunOk Tryz.prog 3 qsF 85 := funOk_of Tryz.func85 (by kernel_rfl)
theorem fo_86 : FunOk Tryz.prog 3 qsF 86 := funOk_of Tryz.func86 (by kernel_rfl)
theorem fo_87 : FunOk Tryz.prog 3 qsF 87 := funOk_of Tryz.func87 (by kernel_rfl)
theorem fo_88 : FunOk Tryz.prog 3 qsF 88 := funOk_of Tryz.func88 (by kernel_rfl)
theorem fo_89 : FunOk Tryz.prog 3 qsF 89 := funOk_of Tryz.func89 (by kernel_rfl)
theorem fo_90 : FunOk Tryz.prog 3 qsF 90 := funOk_of Tryz.func90 (by kernel_rfl)
theorem fo_91 : FunOk Tryz.prog 3 qsF 91 := funOk_of Tryz.func91 (by kernel_rfl)
theorem fo_92 : FunOk Tryz.prog 3 qsF 92 := funOk_of Tryz.func92 (by kernel_rfl)
theorem fo_93 : FunOk Tryz.prog 3 qsF 93 := funOk_of Tryz.func93 (by kernel_rfl)
theorem fo_94 : FunOk Tryz.prog 3 qsF 94 := funOk_of Tryz.func94 (by kernel_rfl)
theorem fo_95 : FunOk Tryz.prog 3 qsF 95 := funOk_of Tryz.func95 (by kernel_rfl)
theorem fo_96 : FunOk Tryz.prog 3 qsF 96 := funOk_of Tryz.func96 (by kernel_rfl)
theorem fo_97 : FunOk Tryz.prog 3 qsF 97 := funOk_of Tryz.func97 (by kernel_rfl)
theorem fo_98 : FunOk Tryz.prog 3 qsF 98 := funOk_of Tryz.func98 (by kernel_rfl)
theorem fo_99 : FunOk Tryz.prog 3 qsF 99 := funOk_of Tryz.func99 (by kernel_rfl)
theorem fo_100 : FunOk Tryz.prog 3 qsF 100 := funOk_of Tryz.func100 (by kernel_rfl)
theorem fo_101 : FunOk Tryz.prog 3 qsF 101 := funOk_of Tryz.func101 (by kernel_rfl)
theorem fo_102 : FunOk Tryz.prog 3 qsF 102 := funOk_of Tryz.func102 (by kernel_rfl)
theorem fo_103 : FunOk Tryz.prog 3 qsF 103 := funOk_of Tryz.func103 (by kernel_rfl)
theorem fo_104 : FunOk Tryz.prog 3 qsF 104 := funOk_of Tryz.func104 (by kernel_rfl)
theorem fo_105 : FunOk Tryz.prog 3 qsF 105 := funOk_of Tryz.func105 (by kernel_rfl)
theorem fo_106 : FunOk Tryz.prog 3 qsF 106 := funOk_of Tryz.func106 (by kernel_rfl)
theorem fo_107 : FunOk Tryz.prog 3 qsF 107 := funOk_of Tryz.func107 (by kernel_rfl)
theorem fo_108 : FunOk Tryz.prog 3 qsF 108 := funOk_of Tryz.func108 (by kernel_rfl)
theorem fo_109 : FunOk Tryz.prog 3 qsF 109 := funOk_of Tryz.func109 (by kernel_rfl)
theorem fo_110 : FunOk Tryz.prog 3 qsF 110 := funOk_of Tryz.func110 (by kernel_rfl)
theorem fo_111 : FunOk Tryz.prog 3 qsF 111 := funOk_of Tryz.func111 (by kernel_rfl)
theorem fo_112 : FunOk Tryz.prog 3 qsF 112 := funOk_of Tryz.func112 (by kernel_rfl)
theorem fo_113 : FunOk Tryz.prog 3 qsF 113 := funOk_of Tryz.func113 (by kernel_rfl)
theorem fo_114 : FunOk Tryz.prog 3 qsF 114 := funOk_of Tryz.func114 (by kernel_rfl)
theorem fo_115 : FunOk Tryz.prog 3 qsF 115 := funOk_of Tryz.func115 (by kernel_rfl)
theorem fo_116 : FunOk Tryz.prog 3 qsF 116 := funOk_of Tryz.func116 (by kernel_rfl)
theorem fo_117 : FunOk Tryz.prog 3 qsF 117 := funOk_of Tryz.func117 (by kernel_rfl)
theorem fo_118 : FunOk Tryz.prog 3 qsF 118 := funOk_of Tryz.func118 (by kernel_rfl)
theorem fo_119 : FunOk Tryz.prog 3 qsF 119 := funOk_of Tryz.func119 (by kernel_rfl)
theorem fo_120 : FunOk Tryz.prog 3 qsF 120 := funOk_of Tryz.func120 (by kernel_rfl)
theorem fo_121 : FunOk Tryz.prog 3 qsF 121 := funOk_of Tryz.func121 (by kernel_rfl)
theorem fo_122 : FunOk Tryz.prog 3 qsF 122 := funOk_of Tryz.func122 (by kernel_rfl)
theorem fo_123 : FunOk Tryz.prog 3 qsF 123 := funOk_of Tryz.func123 (by kernel_rfl)
theorem fo_124 : FunOk Tryz.prog 3 qsF 124 := funOk_of Tryz.func124 (by kernel_rfl)
theorem fo_125 : FunOk Tryz.prog 3 qsF 125 := funOk_of Tryz.func125 (by kernel_rfl)
theorem fo_126 : FunOk Tryz.prog 3 qsF 126 := funOk_of Tryz.func126 (by kernel_rfl)
theorem fo_127 : FunOk Tryz.prog 3 qsF 127 := funOk_of Tryz.func127 (by kernel_rfl)
theorem fo_128 : FunOk Tryz.prog 3 qsF 128 := funOk_of Tryz.func128 (by kernel_rfl)
theorem fo_129 : FunOk Tryz.prog 3 qsF 129 := funOk_of Tryz.func129 (by kernel_rfl)
theorem fo_130 : FunOk Tryz.prog 3 qsF 130 := funOk_of Tryz.func130 (by kernel_rfl)
theorem fo_131 : FunOk Tryz.prog 3 qsF 131 := funOk_of Tryz.func131 (by kernel_rfl)
theorem fo_132 : FunOk Tryz.prog 3 qsF 132 := funOk_of Tryz.func132 (by kernel_rfl)
theorem fo_133 : FunOk Tryz.prog 3 qsF 133 := funOk_of Tryz.func133 (by kernel_rfl)
theorem fo_134 : FunOk Tryz.prog 3 qsF 134 := funOk_of Tryz.func134 (by kernel_rfl)
theorem fo_135 : FunOk Tryz.prog 3 qsF 135 := funOk_of Tryz.func135 (by kernel_rfl)
theorem fo_136 : FunOk Tryz.prog 3 qsF 136 := funOk_of Tryz.func136 (by kernel_rfl)
theorem fo_137 : FunOk Tryz.prog 3 qsF 137 := funOk_of Tryz.func137 (by kernel_rfl)
theorem fo_138 : FunOk Tryz.prog 3 qsF 138 := funOk_of Tryz.func138 (by kernel_rfl)
theorem fo_139 : FunOk Tryz.prog 3 qsF 139 := funOk_of Tryz.func139 (by kernel_rfl)
theorem fo_140 : FunOk Tryz.prog 3 qsF 140 := funOk_of Tryz.func140 (by kernel_rfl)
theorem fo_141 : FunOk Tryz.prog 3 qsF 141 := funOk_of Tryz.func141 (by kernel_rfl)
theorem fo_142 : FunOk Tryz.prog 3 qsF 142 := funOk_of Tryz.func142 (by kernel_rfl)
theorem fo_143 : FunOk Tryz.prog 3 qsF 143 := funOk_of Tryz.func143 (by kernel_rfl)
theorem fo_144 : FunOk Tryz.prog 3 qsF 144 := funOk_of Tryz.func144 (by kernel_rfl)
theorem fo_145 : FunOk Tryz.prog 3 qsF 145 := funOk_of Tryz.func145 (by kernel_rfl)
theorem fo_146 : FunOk Tryz.prog 3 qsF 146 := funOk_of Tryz.func146 (by kernel_rfl)
theorem fo_147 : FunOk Tryz.prog 3 qsF 147 := funOk_of Tryz.func147 (by kernel_rfl)
theorem fo_148 : FunOk Tryz.prog 3 qsF 148 := funOk_of Tryz.func148 (by kernel_rfl)
theorem fo_149 : FunOk Tryz.prog 3 qsF 149 := funOk_of Tryz.func149 (by kernel_rfl)
theorem fo_150 : FunOk Tryz.prog 3 qsF 150 := funOk_of Tryz.func150 (by kernel_rfl)
theorem fo_151 : FunOk Tryz.prog 3 qsF 151 := funOk_of Tryz.func151 (by kernel_rfl)
theorem fo_152 : FunOk Tryz.prog 3 qsF 152 := funOk_of Tryz.func152 (by kernel_rfl)
theorem fo_153 : FunOk Tryz.prog 3 qsF 153 := funOk_of Tryz.func153 (by kernel_rfl)
theorem fo_154 : FunOk Tryz.prog 3 qsF 154 := funOk_of Tryz.func154 (by kernel_rfl)
theorem fo_155 : FunOk Tryz.prog 3 qsF 155 := funOk_of Tryz.func155 (by kernel_rfl)
theorem fo_156 : FunOk Tryz.prog 3 qsF 156 := funOk_of Tryz.func156 (by kernel_rfl)
theorem fo_157 : FunOk Tryz.prog 3 qsF 157 := funOk_of Tryz.func157 (by kernel_rfl)
theorem fo_158 : FunOk Tryz.prog 3 qsF 158 := funOk_of Tryz.func158 (by kernel_rfl)
theorem fo_159 : FunOk Tryz.prog 3 qsF 159 := funOk_of Tryz.func159 (by kernel_rfl)
theorem fo_160 : FunOk Tryz.prog 3 qsF 160 := funOk_of Tryz.func160 (by kernel_rfl)
theorem fo_161 : FunOk Tryz.prog 3 qsF 161 := funOk_of Tryz.func161 (by kernel_rfl)
theorem fo_162 : FunOk Tryz.prog 3 qsF 162 := funOk_of Tryz.func162 (by kernel_rfl)
theorem fo_163 : FunOk Tryz.prog 3 qsF 163 := funOk_of Tryz.func163 (by kernel_rfl)
theorem fo_164 : FunOk Tryz.prog 3 qsF 164 := funOk_of Tryz.func164 (by kernel_rfl)
theorem fo_165 : FunOk Tryz.prog 3 qsF 165 := funOk_of Tryz.func165 (by kernel_rfl)
theorem fo_166 : FunOk Tryz.prog 3 qsF 166 := funOk_of Tryz.func166 (by kernel_rfl)
theorem fo_167 : FunOk Tryz.prog 3 qsF 167 := funOk_of Tryz.func167 (by kernel_rfl)
theorem fo_168 : FunOk Tryz.prog 3 qsF 168 := funOk_of Tryz.func168 (by kernel_rfl)
theorem fo_169 : FunOk Tryz.prog 3 qsF 169 := funOk_of Tryz.func169 (by kernel_rfl)
theorem fo_170 : FunOk Tryz.prog 3 qsF 170 := funOk_of Tryz.func170 (by kernel_rfl)
theorem fo_171 : FunOk Tryz.prog 3 qsF 171 := funOk_of Tryz.func171 (by kernel_rfl)
theorem fo_172 : FunOk Tryz.prog 3 qsF 172 := funOk_of Tryz.func172 (by kernel_rfl)
theorem fo_173 : FunOk Tryz.prog 3 qsF 173 := funOk_of Tryz.func173 (by kernel_rfl)
theorem fo_174 : FunOk Tryz.prog 3 qsF 174 := funOk_of Tryz.func174 (by kernel_rfl)
theorem fo_175 : FunOk Tryz.prog 3 qsF 175 := funOk_of Tryz.func175 (by kernel_rfl)
theorem fo_176 : FunOk Tryz.prog 3 qsF 176 := funOk_of Tryz.func176 (by kernel_rfl)
theorem fo_177 : FunOk Tryz.prog 3 qsF 177 := funOk_of Tryz.func177 (by kernel_rfl)
theorem fo_178 : FunOk Tryz.prog 3 qsF 178 := funOk_of Tryz.func178 (by kernel_rfl)
theorem fo_179 : FunOk Tryz.prog 3 qsF 179 := funOk_of Tryz.func179 (by kernel_rfl)
theorem fo_180 : FunOk Tryz.prog 3 qsF 180 := funOk_of Tryz.func180 (by kernel_rfl)
theorem fo_181 : FunOk Tryz.prog 3 qsF 181 := funOk_of Tryz.func181 (by kernel_rfl)
theorem fo_182 : FunOk Tryz.prog 3 qsF 182 := funOk_of Tryz.func182 (by kernel_rfl)
theorem fo_183 : FunOk Tryz.prog 3 qsF 183 := funOk_of Tryz.func183 (by kernel_rfl)
theorem fo_184 : FunOk Tryz.prog 3 qsF 184 := funOk_of Tryz.func184 (by kernel_rfl)
theorem fo_185 : FunOk Tryz.prog 3 qsF 185 := funOk_of Tryz.func185 (by kernel_rfl)
theorem fo_186 : FunOk Tryz.prog 3 qsF 186 := funOk_of Tryz.func186 (by kernel_rfl)
theorem fo_187 : FunOk Tryz.prog 3 qsF 187 := funOk_of Tryz.func187 (by kernel_rfl)
theorem fo_188 : FunOk Tryz.prog 3 qsF 188 := funOk_of Tryz.func188 (by kernel_rfl)
theorem fo_189 : FunOk Tryz.prog 3 qsF 189 := funOk_of Tryz.func189 (by kernel_rfl)
theorem fo_190 : FunOk Tryz.prog 3 qsF 190 := funOk_of Tryz.func190 (by kernel_rfl)
theorem fo_191 : FunOk Tryz.prog 3 qsF 191 := funOk_of Tryz.func191 (by kernel_rfl)
theorem fo_192 : FunOk Tryz.prog 3 qsF 192 := funOk_of Tryz.func192 (by kernel_rfl)
theorem fo_193 : FunOk Tryz.prog 3 qsF 193 := funOk_of Tryz.func193 (by kernel_rfl)
theorem fo_194 : FunOk Tryz.prog 3 qsF 194 := funOk_of Tryz.func194 (by kernel_rfl)
theorem fo_195 : FunOk Tryz.prog 3 qsF 195 := funOk_of Tryz.func195 (by kernel_rfl)
theorem fo_196 : FunOk Tryz.prog 3 qsF 196 := funOk_of Tryz.func196 (by kernel_rfl)
theorem fo_197 : FunOk Tryz.prog 3 qsF 197 := funOk_of Tryz.func197 (by kernel_rfl)
theorem fo_198 : FunOk Tryz.prog 3 qsF 198 := funOk_of Tryz.func198 (by kernel_rfl)
theorem fo_199 : FunOk Tryz.prog 3 qsF 199 := funOk_of Tryz.func199 (by kernel_rfl)
theorem fo_200 : FunOk Tryz.prog 3 qsF 200 := funOk_of Tryz.func200 (by kernel_rfl)
theorem fo_201 : FunOk Tryz.prog 3 qsF 201 := funOk_of Tryz.func201 (by kernel_rfl)
theorem fo_202 : FunOk Tryz.prog 3 qsF 202 := funOk_of Tryz.func202 (by kernel_rfl)
theorem fo_203 : FunOk Tryz.prog 3 qsF 203 := funOk_of Tryz.func203 (by kernel_rfl)
theorem fo_204 : FunOk Tryz.prog 3 qsF 204 := funOk_of Tryz.func204 (by kernel_rfl)
theorem fo_205 : FunOk Tryz.prog 3 qsF 205 := funOk_of Tryz.func205 (by kernel_rfl)
theorem fo_206 : FunOk Tryz.prog 3 qsF 206 := funOk_of Tryz.func206 (by kernel_rfl)
theorem fo_207 : FunOk Tryz.prog 3 qsF 207 := funOk_of Tryz.func207 (by kernel_rfl)
theorem fo_208 : FunOk Tryz.prog 3 qsF 208 := funOk_of Tryz.func208 (by kernel_rfl)
theorem fo_209 : FunOk Tryz.prog 3 qsF 209 := funOk_of Tryz.func209 (by kernel_rfl)
theorem fo_210 : FunOk Tryz.prog 3 qsF 210 := funOk_of Tryz.func210 (by kernel_rfl)
theorem fo_211 : FunOk Tryz.prog 3 qsF 211 := funOk_of Tryz.func211 (by kernel_rfl)
theorem fo_212 : FunOk Tryz.prog 3 qsF 212 := funOk_of Tryz.func212 (by kernel_rfl)
theorem fo_213 : FunOk Tryz.prog 3 qsF 213 := funOk_of Tryz.func213 (by kernel_rfl)
theorem fo_214 : FunOk Tryz.prog 3 qsF 214 := funOk_of Tryz.func214 (by kernel_rfl)
theorem fo_215 : FunOk Tryz.prog 3 qsF 215 := funOk_of Tryz.func215 (by kernel_rfl)
theorem fo_216 : FunOk Tryz.prog 3 qsF 216 := funOk_of Tryz.func216 (by kernel_rfl)
theorem fo_217 : FunOk Tryz.prog 3 qsF 217 := funOk_of Tryz.func217 (by kernel_rfl)
theorem fo_218 : FunOk Tryz.prog 3 qsF 218 := funOk_of Tryz.func218 (by kernel_rfl)
theorem fo_219 : FunOk Tryz.prog 3 qsF 219 := funOk_of Tryz.func219 (by kernel_rfl)
theorem fo_220 : FunOk Tryz.prog 3 qsF 220 := funOk_of Tryz.func220 (by kernel_rfl)
theorem fo_221 : FunOk Tryz.prog 3 qsF 221 := funOk_of Tryz.func221 (by kernel_rfl)
theorem fo_222 : FunOk Tryz.prog 3 qsF 222 := funOk_of Tryz.func222 (by kernel_rfl)
theorem fo_223 : FunOk Tryz.prog 3 qsF 223 := funOk_of Tryz.func223 (by kernel_rfl)
theorem fo_224 : FunOk Tryz.prog 3 qsF 224 := funOk_of Tryz.func224 (by kernel_rfl)
theorem fo_225 : FunOk Tryz.prog 3 qsF 225 := funOk_of Tryz.func225 (by kernel_rfl)
theorem fo_226 : FunOk Tryz.prog 3 qsF 226 := funOk_of Tryz.func226 (by kernel_rfl)
theorem fo_227 : FunOk Tryz.prog 3 qsF 227 := funOk_of Tryz.func227 (by kernel_rfl)
theorem fo_228 : FunOk Tryz.prog 3 qsF 228 := funOk_of Tryz.func228 (by kernel_rfl)
theorem fo_229 : FunOk Tryz.prog 3 qsF 229 := funOk_of Tryz.func229 (by kernel_rfl)
theorem fo_230 : FunOk Tryz.prog 3 qsF 230 := funOk_of Tryz.func230 (by kernel_rfl)
theorem fo_231 : FunOk Tryz.prog 3 qsF 231 := funOk_of Tryz.func231 (by kernel_rfl)
theorem fo_232 : FunOk Tryz.prog 3 qsF 232 := funOk_of Tryz.func232 (by kernel_rfl)
theorem fo_233 : FunOk Tryz.prog 3 qsF 233 := funOk_of Tryz.func233 (by kernel_rfl)
theorem fos_3 : ∀ f : Nat, 3 ≤ f → f ≤ 27 → FunOk Tryz.prog 3 qsF f :=
  fun_step fo_3 <| fun_step fo_4 <| fun_step fo_5 <| fun_step fo_6 <| fun_step fo_7 <| fun_step fo_8 <| fun_step fo_9 <| fun_step fo_10 <| fun_step fo_11 <| fun_step fo_12 <| fun_step fo_13 <| fun_step fo_14 <| fun_step fo_15 <| fun_step fo_16 <| fun_step fo_17 <| fun_step fo_18 <| fun_step fo_19 <| fun_step fo_20 <| fun_step fo_21 <| fun_step fo_22 <| fun_step fo_23 <| fun_step fo_24 <| fun_step fo_25 <| fun_step fo_26 <| fun_step fo_27 <| fun f h1 h2 => absurd h1 (by omega)
theorem fos_28 : ∀ f : Nat, 28 ≤ f → f ≤ 52 → FunOk Tryz.prog 3 qsF f :=
  fun_step fo_28 <| fun_step fo_29 <| fun_step fo_30 <| fun_step fo_31 <| fun_step fo_32 <| fun_step fo_33 <| fun_step fo_34 <| fun_step fo_35 <| fun_step fo_36 <| fun_step fo_37 <| fun_step fo_38 <| fun_step fo_39 <| fun_step fo_40 <| fun_step fo_41 <| fun_step fo_42 <| fun_step fo_43 <| fun_step fo_44 <| fun_step fo_45 <| fun_step fo_46 <| fun_step fo_47 <| fun_step fo_48 <| fun_step fo_49 <| fun_step fo_50 <| fun_step fo_51 <| fun_step fo_52 <| fun f h1 h2 => absurd h1 (by omega)
theorem fos_53 : ∀ f : Nat, 53 ≤ f → f ≤ 77 → FunOk Tryz.prog 3 qsF f :=
  fun_step fo_53 <| fun_step fo_54 <| fun_step fo_55 <| fun_step fo_56 <| fun_step fo_57 <| fun_step fo_58 <| fun_step fo_59 <| fun_step fo_60 <| fun_step fo_61 <| fun_step fo_62 <| fun_step fo_63 <| fun_step fo_64 <| fun_step fo_65 <| fun_step fo_66 <| fun_step fo_67 <| fun_step fo_68 <| fun_step fo_69 <| fun_step fo_70 <| fun_step fo_71 <| fun_step fo_72 <| fun_step fo_73 <| fun_step fo_74 <| fun_step fo_75 <| fun_step fo_76 <| fun_step fo_77 <| fun f h1 h2 => absurd h1 (by omega)
theorem fos_78 : ∀ f : Nat, 78 ≤ f → f ≤ 102 → FunOk Tryz.prog 3 qsF f :=
  fun_step fo_78 <| fun_step fo_79 <| fun_step fo_80 <| fun_step fo_81 <| fun_step fo_82 <| fun_step fo_83 <| fun_step fo_84 <| fun_step fo_85 <| fun_step fo_86 <| fun_step fo_87 <| fun_step fo_88 <| fun_step fo_89 <| fun_step fo_90 <| fun_step fo_91 <| fun_step fo_92 <| fun_step fo_93 <| fun_step fo_94 <| fun_step fo_95 <| fun_step fo_96 <| fun_step fo_97 <| fun_step fo_98 <| fun_step fo_99 <| fun_step fo_100 <| fun_step fo_101 <| fun_step fo_102 <| fun f h1 h2 => absurd h1 (by omega)
theorem fos_103 : ∀ f : Nat, 103 ≤ f → f ≤ 127 → FunOk Tryz.prog 3 qsF f :=
  fun_step fo_103 <| fun_step fo_104 <| fun_step fo_105 <| fun_step fo_106 <| fun_step fo_107 <| fun_step fo_108 <| fun_step fo_109 <| fun_step fo_110 <| fun_step fo_111 <| fun_step fo_112 <| fun_step fo_113 <| fun_step fo_114 <| fun_step fo_115 <| fun_step fo_116 <| fun_step fo_117 <| fun_step fo_118 <| fun_step fo_119 <| fun_step fo_120 <| fun_step fo_121 <| fun_step fo_122 <| fun_step fo_123 <| fun_step fo_124 <| fun_step fo_125 <| fun_step fo_126 <| fun_step fo_127 <| fun f h1 h2 => absurd h1 (by omega)
theorem fos_128 : ∀ f : Nat, 128 ≤ f → f ≤ 152 → FunOk Tryz.prog 3 qsF f :=
  fun_step fo_128 <| fun_step fo_129 <| fun_step fo_130 <| fun_step fo_131 <| fun_step fo_132 <| fun_step fo_133 <| fun_step fo_134 <| fun_step fo_135 <| fun_step fo_136 <| fun_step fo_137 <| fun_step fo_138 <| fun_step fo_139 <| fun_step fo_140 <| fun_step fo_141 <| fun_step fo_142 <| fun_step fo_143 <| fun_step fo_144 <| fun_step fo_145 <| fun_step fo_146 <| fun_step fo_147 <| fun_step fo_148 <| fun_step fo_149 <| fun_step fo_150 <| fun_step fo_151 <| fun_step fo_152 <| fun f h1 h2 => absurd h1 (by omega)
theorem fos_153 : ∀ f : Nat, 153 ≤ f → f ≤ 177 → FunOk Tryz.prog 3 qsF f :=
  fun_step fo_153 <| fun_step fo_154 <| fun_step fo_155 <| fun_step fo_156 <| fun_step fo_157 <| fun_step fo_158 <| fun_step fo_159 <| fun_step fo_160 <| fun_step fo_161 <| fun_step fo_162 <| fun_step fo_163 <| fun_step fo_164 <| fun_step fo_165 <| fun_step fo_166 <| fun_step fo_167 <| fun_step fo_168 <| fun_step fo_169 <| fun_step fo_170 <| fun_step fo_171 <| fun_step fo_172 <| fun_step fo_173 <| fun_step fo_174 <| fun_step fo_175 <| fun_step fo_176 <| fun_step fo_177 <| fun f h1 h2 => absurd h1 (by omega)
theorem fos_178 : ∀ f : Nat, 178 ≤ f → f ≤ 202 → FunOk Tryz.prog 3 qsF f :=
  fun_step fo_178 <| fun_step fo_179 <| fun_step fo_180 <| fun_step fo_181 <| fun_step fo_182 <| fun_step fo_183 <| fun_step fo_184 <| fun_step fo_185 <| fun_step fo_186 <| fun_step fo_187 <| fun_step fo_188 <| fun_step fo_189 <| fun_step fo_190 <| fun_step fo_191 <| fun_step fo_192 <| fun_step fo_193 <| fun_step fo_194 <| fun_step fo_195 <| fun_step fo_196 <| fun_step fo_197 <| fun_step fo_198 <| fun_step fo_199 <| fun_step fo_200 <| fun_step fo_201 <| fun_step fo_202 <| fun f h1 h2 => absurd h1 (by omega)
theorem fos_203 : ∀ f : Nat, 203 ≤ f → f ≤ 227 → FunOk Tryz.prog 3 qsF f :=
  fun_step fo_203 <| fun_step fo_204 <| fun_step fo_205 <| fun_step fo_206 <| fun_step fo_207 <| fun_step fo_208 <| fun_step fo_209 <| fun_step fo_210 <| fun_step fo_211 <| fun_step fo_212 <| fun_step fo_213 <| fun_step fo_214 <| fun_step fo_215 <| fun_step fo_216 <| fun_step fo_217 <| fun_step fo_218 <| fun_step fo_219 <| fun_step fo_220 <| fun_step fo_221 <| fun_step fo_222 <| fun_step fo_223 <| fun_step fo_224 <| fun_step fo_225 <| fun_step fo_226 <| fun_step fo_227 <| fun f h1 h2 => absurd h1 (by omega)
theorem fos_228 : ∀ f : Nat, 228 ≤ f → f ≤ 233 → FunOk Tryz.prog 3 qsF f :=
  fun_step fo_228 <| fun_step fo_229 <| fun_step fo_230 <| fun_step fo_231 <| fun_step fo_232 <| fun_step fo_233 <| fun f h1 h2 => absurd h1 (by omega)
theorem fun_ok (f : Nat) (h : okF f = true) : FunOk Tryz.prog 3 qsF f := by
  have h : 3 ≤ f ∧ f ≤ 233 := by
    simp only [okF, Bool.and_eq_true] at h
    exact ⟨Nat.le_of_ble_eq_true h.1, Nat.le_of_ble_eq_true h.2⟩
  by_cases b3 : f ≤ 27
  · exact fos_3 f (by omega) b3
  by_cases b28 : f ≤ 52
  · exact fos_28 f (by omega) b28
  by_cases b53 : f ≤ 77
  · exact fos_53 f (by omega) b53
  by_cases b78 : f ≤ 102
  · exact fos_78 f (by omega) b78
  by_cases b103 : f ≤ 127
  · exact fos_103 f (by omega) b103
  by_cases b128 : f ≤ 152
  · exact fos_128 f (by omega) b128
  by_cases b153 : f ≤ 177
  · exact fos_153 f (by omega) b153
  by_cases b178 : f ≤ 202
  · exact fos_178 f (by omega) b178
  by_cases b203 : f ≤ 227
  · exact fos_203 f (by omega) b203
  exact fos_228 f (by omega) (by omega)

end Go.Proofs.YtimdkminagnhgabGreatDoor
