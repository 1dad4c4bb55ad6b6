import PyProof.Rows.All
import Wide.All
import OpenK.AllK
import Wide.FinOn
import HandS.ForMost
import HandS.More
import HandS.DictComp
import HandS.IsInst
import HandS.Wide
import HandS.TupAny
import PyProof.StrOps2
import PySem.Challenge.RW_contractbook_k01_numbers_of_a_row
set_option Elab.async false
set_option linter.all false
set_option maxRecDepth 100000
set_option maxHeartbeats 4000000
namespace Bk
open PySem PySem.Spec PyProof.Rows L2

/-! ### steps of a reading -/
section steps
variable {D : Ends} {σ : L2.St} {H : Hp} {Q : VK} {v : V}
theorem g_seq {t u : TS} (h : t { D with nx := u D } σ H) : tSeq t u D σ H := h
theorem g_next (h : D.nx σ H) : tNext D σ H := h
theorem g_asg {te : TE} {g : TG} (h : te σ H fun x H1 => g x σ H1 D.nx) : tAsg te g D σ H := h
theorem g_name {i : Nat} {R : L2.St → Hp → Prop} (h : R (σ.set i (some v)) H) : gName i v σ H R := h
theorem g_ret {te : TE} (h : te σ H D.rt) : tRet te D σ H := h
theorem g_drop {te : TE} (h : te σ H fun _ H1 => D.nx σ H1) : tDrop te D σ H := h
theorem g_ifs {c : TT} {t u : TS} (h : c σ H fun b H1 => if b = true then t D σ H1 else u D σ H1) : tIfS c t u D σ H := h
theorem g_if {c : TT} {t u : TE} (h : c σ H fun b H1 => if b = true then t σ H1 Q else u σ H1 Q) : tIf c t u σ H Q := h
theorem g_c (h : Q v H) : tC v σ H Q := h
theorem g_op {r : R2} {ta tb : TE} (h : ta σ H fun x H1 => tb σ H1 fun y H2 => r x y H2 Q) : tOp r ta tb σ H Q := h
theorem g_un {r : V → Hp → VK → Prop} {ta : TE} (h : ta σ H fun x H1 => r x H1 Q) : tUn r ta σ H Q := h
theorem g_neg {g : Int → V} {i : Int} (h : Q (g i) H) : rU g (.int i) H Q := ⟨i, rfl, h⟩
theorem g_I0 {g : Int → Int → V} {i j : Int} (h : Q (g i j) H) : rI0 g (.int i) (.int j) H Q := ⟨i, j, rfl, rfl, h⟩
theorem g_I {C : Int → Int → Prop} {g : Int → Int → V} {i j : Int} (hc : C i j) (h : Q (g i j) H) : rI C g (.int i) (.int j) H Q := ⟨i, j, rfl, rfl, hc, h⟩
theorem dec_int {i j : Int} : decide (V.int i = V.int j) = decide (i = j) := by
  by_cases e : i = j
  · rw [e]; simp
  · rw [decide_eq_false e]
    exact decide_eq_false (fun z => e (V.int.inj z))
theorem dec_str {i j : Str} : decide (V.str i = V.str j) = decide (i = j) := by
  by_cases e : i = j
  · rw [e]; simp
  · rw [decide_eq_false e]
    exact decide_eq_false (fun z => e (V.str.inj z))
theorem dec_bl {i j : Bool} : decide (V.bl i = V.bl j) = decide (i = j) := by
  cases i <;> cases j <;> rfl
theorem g_eqI {i j : Int} (h : Q (.bl (decide (i = j))) H) : rEq (.int i) (.int j) H Q := ⟨rfl, by rw [dec_int]; exact h⟩
theorem g_eqS {i j : Str} (h : Q (.bl (decide (i = j))) H) : rEq (.str i) (.str j) H Q := ⟨rfl, by rw [dec_str]; exact h⟩
theorem g_eqB {i j : Bool} (h : Q (.bl (decide (i = j))) H) : rEq (.bl i) (.bl j) H Q := ⟨rfl, by rw [dec_bl]; exact h⟩
theorem g_neI {i j : Int} (h : Q (.bl (!decide (i = j))) H) : rNe (.int i) (.int j) H Q := ⟨rfl, by rw [dec_int]; exact h⟩
theorem g_neS {i j : Str} (h : Q (.bl (!decide (i = j))) H) : rNe (.str i) (.str j) H Q := ⟨rfl, by rw [dec_str]; exact h⟩
theorem g_neB {i j : Bool} (h : Q (.bl (!decide (i = j))) H) : rNe (.bl i) (.bl j) H Q := ⟨rfl, by rw [dec_bl]; exact h⟩
theorem g_test {te : TE} {R : Bool → Hp → Prop} (h : te σ H fun x H' => ∃ k, x = .bl k ∧ R k H') : tTest te σ H R := h
theorem g_b {te : TE} {R : Bool → Hp → Prop} (h : te σ H fun x H' => ∃ k, x = .bl k ∧ R k H') : tB te σ H R := h
theorem g_and {t u : TT} {R : Bool → Hp → Prop} (h : t σ H fun c H1 => if c = true then u σ H1 R else R false H1) : tAnd t u σ H R := h
theorem g_or {t u : TT} {R : Bool → Hp → Prop} (h : t σ H fun c H1 => if c = true then R true H1 else u σ H1 R) : tOr t u σ H R := h
theorem g_not {t : TT} {R : Bool → Hp → Prop} (h : t σ H fun c H1 => R (!c) H1) : tNot t σ H R := h
theorem g_andV {ta tb : TE} (h : ta σ H fun x H1 => ∃ c, x = .bl c ∧ if c = true then tb σ H1 Q else Q (.bl false) H1) : tAndV ta tb σ H Q := h
theorem g_orV {ta tb : TE} (h : ta σ H fun x H1 => ∃ c, x = .bl c ∧ if c = true then Q (.bl true) H1 else tb σ H1 Q) : tOrV ta tb σ H Q := h
theorem g_notV {ta : TE} (h : ta σ H fun x H1 => ∃ c, x = .bl c ∧ Q (.bl (!c)) H1) : tNotV ta σ H Q := h
theorem g_cons {ta : TE} {tr : TA} {R : List V → Hp → Prop} (h : ta σ H fun x H1 => tr σ H1 fun xs H2 => R (x :: xs) H2) : tCons ta tr σ H R := h
theorem g_chain {r r' : R2} {ta tb tc : TE} (h : ta σ H fun x H1 => tb σ H1 fun y H2 => r x y H2 fun z H3 => ∃ k, z = .bl k ∧ (if k = true then tc σ H3 fun z' H4 => r' y z' H4 Q else Q (.bl false) H3)) : tChain r r' ta tb tc σ H Q := h
theorem g_nil {R : List V → Hp → Prop} (h : R [] H) : tNil σ H R := h
theorem g_call {sp : Sp} {dvs : List V} {E : XK} {t : TA} (h : t σ H fun vs H1 => sp (vs ++ dvs) H1 Q E) : tCall sp dvs E t σ H Q := h
theorem g_cb {r : List V → Hp → VK → Prop} {t : TA} (h : t σ H fun vs H1 => r vs H1 Q) : tCB r t σ H Q := h
theorem g_dget {td ty : TE} (h : td σ H fun x H1 => ty σ H1 fun y H2 => ∃ a v, x = .ref a ∧ DGet H2 a y (some v) ∧ Q v H2) : tDGet td ty σ H Q := h
theorem g_dput {td ty tv : TE} (h : tv σ H fun v H1 => td σ H1 fun x H2 => ty σ H2 fun y H3 => ∃ a H4, x = .ref a ∧ DPut H3 a y v H4 ∧ D.nx σ H4) : sDPut td ty tv D σ H := h
theorem g_tup {t : TA} (h : t σ H fun xs H1 => xs.length ≤ sizeLine ∧ ∀ p, H1 p = none → Q (.ref p) (upd H1 p (.tup xs))) : tTup t σ H Q := h
theorem g_lst {t : TA} (h : t σ H fun xs H1 => xs.length ≤ sizeLine ∧ ∀ p, H1 p = none → Q (.ref p) (upd H1 p (.lst xs))) : tLst t σ H Q := h
theorem g_for {wi : TI} {g : TG} {tb : TS} (h : wi σ H fun J H1 => ∃ W : Nat → Nat → L2.St → Hp → Prop, (∃ m, W 0 m σ H1) ∧ ∀ i m σ H, W i m σ H →
  (J.stop i H ∧ D.nx σ H) ∨ (J.go i H ∧ ∃ N : L2.St → Hp → Prop, (∀ σ' H', N σ' H' → ∃ m', m' < m ∧ W (i + 1) m' σ' H') ∧ ∀ x H', J.yld i H x H' → g x σ H' fun σ2 H2 => tb { D with nx := N, ct := N, bk := D.nx } σ2 H2)) : tFor wi g tb D σ H := h
theorem g_rng1 {ta : TA} {R : It → Hp → Prop} (h : ta σ H fun vs H1 => ∃ j : Int, vs = [.int j] ∧ -(2 ^ 62) ≤ j ∧ j < 2 ^ 62 ∧ R (Itr 0 j.toNat) H1) : iRng1 ta σ H R := h
theorem g_rng2 {ta : TA} {R : It → Hp → Prop} (h : ta σ H fun vs H1 => ∃ i j : Int, vs = [.int i, .int j] ∧ (-(2 ^ 62) ≤ i ∧ i < 2 ^ 62 ∧ -(2 ^ 62) ≤ j ∧ j < 2 ^ 62) ∧ R (Itr i (j - i).toNat) H1) : iRng2 ta σ H R := h
theorem g_ilist {K : PySem.W.Frag} {tl : TE} {R : It → Hp → Prop} (h : tl σ H fun x H1 => ∃ a, x = .ref a ∧ (∃ xs, SqL K H1 a xs) ∧ R (Itl K a) H1) : iList K tl σ H R := h
theorem g_itup {K : PySem.W.Frag} {tl : TE} {R : It → Hp → Prop} (h : tl σ H fun x H1 => ∃ a, x = .ref a ∧ (∃ xs, SqT K H1 a xs) ∧ R (Itt K a) H1) : iTup K tl σ H R := h
theorem g_lc {wi : TI} {g : TG} {tt : TT} {te : TE} {vs : List Nat} (h : wi σ H fun J H1 => ∀ D, H1 D = none → ∃ W : Nat → Nat → Hp → Prop, (∃ m, W 0 m (upd H1 D (.lst []))) ∧ ∀ i m H, W i m H →
  (J.stop i H ∧ Q (.ref D) H) ∨ (J.go i H ∧ ∃ Nx : Hp → Prop, (∀ H', Nx H' → ∃ m', m' < m ∧ W (i + 1) m' H') ∧ ∀ x H', J.yld i H x H' → g x (wipe σ vs) H' fun σ2 H2 => wipe σ2 vs = wipe σ vs ∧ tt σ2 H2 fun b H3 =>
    if b = true then te σ2 H3 fun y H4 => ∃ acc, H4 D = some (.lst acc) ∧ acc.length < sizeLine ∧ Nx (upd H4 D (.lst (acc ++ [y]))) else Nx H3)) : tLc wi g tt te vs σ H Q := h
theorem g_yes {R : Bool → Hp → Prop} (h : R true H) : tYes σ H R := h
theorem g_sl {r : V → Option Int → Option Int → Hp → VK → Prop} {te : TE} {tl th : TO} (h : te σ H fun x H1 => tl σ H1 fun l H2 => th σ H2 fun u H3 => r x l u H3 Q) : tSl r te tl th σ H Q := h
theorem g_nopart {R : Option Int → Hp → Prop} (h : R none H) : tNoPart σ H R := h
theorem g_part {t : TE} {R : Option Int → Hp → Prop} (h : t σ H fun x H1 => ∃ i, x = .int i ∧ R (some i) H1) : tPart t σ H R := h
theorem g_disp {trs : List (TE × TE)} (h : ∀ p, H p = none → tPairs trs σ (upd H p (.dK [])) fun ps H2 => H2 p = some (.dK []) ∧ ∃ kvs : List (Key × V), ps = kvs.map (fun kv => (kV kv.1, kv.2)) ∧ kvs.length ≤ 15 ∧ Q (.ref p) (upd H2 p (.dK (mergeK [] kvs)))) : tDisp trs σ H Q := h
theorem g_pairs0 {R : List (V × V) → Hp → Prop} (h : R [] H) : tPairs [] σ H R := h
theorem g_pairs {tk tv : TE} {r : List (TE × TE)} {R : List (V × V) → Hp → Prop} (h : tk σ H fun x H1 => tv σ H1 fun y H2 => tPairs r σ H2 fun ps H3 => R ((x, y) :: ps) H3) : tPairs ((tk, tv) :: r) σ H R := h
theorem g_gtup {K : PySem.W.Frag} {n : Nat} {t : TGs} {a : Addr} {xs : List V} {R : L2.St → Hp → Prop} (h : SqT K H a xs) (hl : xs.length = n) (q : t xs σ H R) : gTup K n t (.ref a) σ H R := ⟨a, xs, rfl, h, hl, q⟩
theorem g_gcons {t : TG} {u : TGs} {x : V} {r : List V} {R : L2.St → Hp → Prop} (q : t x σ H fun σ' H' => u r σ' H' R) : gCons t u (x :: r) σ H R := ⟨x, r, rfl, q⟩
theorem g_gnil {R : L2.St → Hp → Prop} (q : R σ H) : gNil [] σ H R := ⟨rfl, q⟩
theorem g_isN {x : V} {R : Bool → Hp → Prop} (h : R (decide (x = .non)) H) : ∃ k, V.bl (decide (x = .non)) = .bl k ∧ R k H := ⟨_, rfl, h⟩
theorem g_bm {K : PySem.W.Frag} {T : String} {r : V → List V → Hp → VK → Prop} {to : TE} {t : TA} (h : to σ H fun x H1 => tyV K T x H1 ∧ t σ H1 fun xs H2 => r x xs H2 Q) : tBM K T r to t σ H Q := h
theorem g_bm0 {K : PySem.W.Frag} {T : String} {r : V → List V → Hp → VK → Prop} {to : TE} (h : to σ H fun x H1 => tyV K T x H1 ∧ r x [] H1 Q) : tBM0 K T r to σ H Q := h
theorem ifd {p A B : Prop} [Decidable p] (h1 : p → A) (h2 : ¬ p → B) : if decide p = true then A else B := by
  by_cases h : p
  · rw [if_pos (decide_eq_true h)]; exact h1 h
  · rw [if_neg (by simp [h])]; exact h2 h
theorem ifdn {p A B : Prop} [Decidable p] (h1 : p → B) (h2 : ¬ p → A) : if (!decide p) = true then A else B := by
  by_cases h : p
  · rw [if_neg (by simp [h])]; exact h1 h
  · rw [if_pos (by simp [h])]; exact h2 h
theorem ifn {b : Bool} {A B : Prop} (h1 : b = true → B) (h2 : b = false → A) : if (!b) = true then A else B := by
  cases b
  · exact h2 rfl
  · exact h1 rfl
theorem ifb {b : Bool} {A B : Prop} (h1 : b = true → A) (h2 : b = false → B) : if b = true then A else B := by
  cases b
  · exact h2 rfl
  · exact h1 rfl
theorem iteNF {A B : Prop} (h : A) : if (!false) = true then A else B := h
theorem iteNT {A B : Prop} (h : B) : if (!true) = true then A else B := h
/-- a and b, a or b: the way that two tests may take is read once -/
theorem and_cut {p U F : Prop} [Decidable p] (q : Prop) (hF : ¬ (p ∧ q) → F) (hU : p → (¬ q → F) → U) : if decide p = true then U else F :=
  ifd (fun c => hU c fun z => hF fun y => z y.2) (fun c => hF fun y => c y.1)
theorem or_cut {p U T : Prop} [Decidable p] (q : Prop) (hT : p ∨ q → T) (hU : ¬ p → (q → T) → U) : if decide p = true then T else U :=
  ifd (fun c => hT (.inl c)) (fun c => hU c fun z => hT (.inr z))
/-- a key of a dict that stands at a -/
theorem g_key {a : Addr} {kvs : List (Key × V)} {k : Str} {w : V} {R : V → Prop} (hd : H a = some (.dK kvs)) (hv : valV kvs (.inr k) = some w) (h : R w) :
    ∃ b v, V.ref a = .ref b ∧ DGet H b (.str k) (some v) ∧ R v := ⟨a, w, rfl, .inl ⟨kvs, .inr k, .inl hd, rfl, hv.symm⟩, h⟩
theorem g_put {a : Addr} {kvs kvs' : List (Key × V)} {k : Str} {w : V} {R : Hp → Prop} (hd : H a = some (.dK kvs)) (hl : kvs.length < sizeLine) (hv : putK kvs (.inr k) w = kvs') (h : R (upd H a (.dK kvs'))) :
    ∃ b H4, V.ref a = .ref b ∧ DPut H b (.str k) w H4 ∧ R H4 := ⟨a, _, rfl, .inl ⟨kvs, .inr k, hd, rfl, hl, rfl⟩, by rw [hv]; exact h⟩
end steps

local macro_rules
  | `(tactic| walk_at "go") => `(tactic| repeat (first
      | with_reducible refine g_seq ?_
      | with_reducible refine g_next ?_
      | with_reducible refine g_asg ?_
      | with_reducible refine g_name ?_
      | with_reducible refine g_ret ?_
      | with_reducible refine g_drop ?_
      | with_reducible refine g_ifs ?_
      | with_reducible refine g_if ?_
      | with_reducible refine g_c ?_
      | ((with_reducible refine (?_ : tVar _ _ _ _)); refine ⟨_, rfl, ?_⟩)
      | with_reducible refine g_op ?_
      | with_reducible refine g_un ?_
      | with_reducible refine g_I0 ?_
      | with_reducible refine g_neg ?_
      | with_reducible refine g_eqI ?_
      | with_reducible refine g_eqS ?_
      | with_reducible refine g_neI ?_
      | with_reducible refine g_neS ?_
      | with_reducible refine g_eqB ?_
      | with_reducible refine g_neB ?_
      | with_reducible refine g_test ?_
      | with_reducible refine g_b ?_
      | with_reducible refine g_and ?_
      | with_reducible refine g_or ?_
      | with_reducible refine g_not ?_
      | with_reducible refine g_andV ?_
      | with_reducible refine g_orV ?_
      | with_reducible refine g_notV ?_
      | with_reducible refine iteT ?_
      | with_reducible refine iteF ?_
      | with_reducible refine iteNF ?_
      | with_reducible refine iteNT ?_
      | with_reducible refine ⟨_, rfl, ?_⟩
      | with_reducible refine ⟨rfl, ?_⟩
      | with_reducible refine ⟨_, _, rfl, rfl, ?_⟩
      | with_reducible refine ⟨_, _, rfl, ?_⟩
      | with_reducible refine g_call ?_
      | with_reducible refine g_cb ?_
      | with_reducible refine g_cons ?_
      | with_reducible refine g_nil ?_
      | with_reducible refine g_chain ?_
      | with_reducible refine g_dget ?_
      | with_reducible refine g_dput ?_
      | with_reducible refine g_tup ?_
      | with_reducible refine g_lst ?_
      | with_reducible refine g_bm ?_
      | with_reducible refine g_disp ?_
      | with_reducible refine g_pairs0 ?_
      | with_reducible refine g_pairs ?_
      | with_reducible refine g_for ?_
      | with_reducible refine g_gcons ?_
      | with_reducible refine g_gnil ?_
      | with_reducible refine g_rng1 ?_
      | with_reducible refine g_rng2 ?_
      | with_reducible refine g_ilist ?_
      | with_reducible refine g_itup ?_
      | with_reducible refine g_lc ?_
      | with_reducible refine g_yes ?_
      | with_reducible refine g_sl ?_
      | with_reducible refine g_nopart ?_
      | with_reducible refine g_part ?_
      | with_reducible refine g_bm0 ?_
      ))

/-! ### what a def of the text is known to keep -/
structure Own (K : PySem.W.Frag) (mg : Str → Option Value) (x : Str) (st : Stmt) (ps : List Str) (f : Addr) (fd : FuncData) : Prop where
  F : Fun K x x st f fd
  g : mg x = some (.ref f)
  b : Binds K fd ps []
structure Has (P : Program) (w : World) (K : PySem.W.Frag) (mg : Str → Option Value) (base : Heap) (x : Str) (ps : List Str) (lv : Nat) (CX : CXT) (sp : Sp) (f : Addr) (fd : FuncData) : Prop where
  G : FnOk P w K mg base CX lv f fd ps sp
  g : mg x = some (.ref f)
  k : PySem.W.keepIn K (.ref f) = true
  b : Binds K fd ps []
theorem Has.mono {P : Program} {w : World} {K : PySem.W.Frag} {mg : Str → Option Value} {base : Heap} {x : Str} {ps : List Str} {j i : Nat} {CX : CXT} {sp : Sp} {f : Addr} {fd : FuncData} (D : Has P w K mg base x ps j CX sp f fd) (h : j ≤ i) :
    Has P w K mg base x ps i CX sp f fd := ⟨D.G.mono h, D.g, D.k, D.b⟩
theorem Own.has {P : Program} {w : World} {K : PySem.W.Frag} {mg : Str → Option Value} {base : Heap} {x : Str} {st : Stmt} {ps : List Str} {f : Addr} {fd : FuncData} {lv : Nat} {CX : CXT} {sp : Sp} (O : Own K mg x st ps f fd)
    (G : FnOk P w K mg base CX lv f fd ps sp) : Has P w K mg base x ps lv CX sp f fd := ⟨G, O.g, O.F.kp, O.b⟩

/-! ### what stays -/
/-- all stays but what stands at s -/
def KB (s : Addr) (H H' : Hp) : Prop := ∀ a o, a ≠ s → H a = some o → H' a = some o
theorem KB.refl (s : Addr) (H : Hp) : KB s H H := fun _ _ _ h => h
theorem KB.trans {s : Addr} {H H1 H2 : Hp} (a : KB s H H1) (b : KB s H1 H2) : KB s H H2 := fun x o n h => b x o n (a x o n h)
theorem KB.of {s : Addr} {H H' : Hp} (e : Same H H') : KB s H H' := fun a o _ h => e a o h
theorem KB.upd {s : Addr} {H : Hp} {o : HO} : KB s H (upd H s o) := fun a u n h => by rw [upd_ne n]; exact h
theorem same_new {H : Hp} {p : Addr} {o : HO} (h : H p = none) : Same H (upd H p o) := fun b x e => by
  rw [upd_ne (ne_of_none e h)]
  exact e
theorem Rd.same {H H' : Hp} {a : Addr} {u : HO} (e : Same H H') (h : Rd H a u) : Rd H' a u := by
  rcases h with h | ⟨o, h⟩
  · exact .inl (e _ _ h)
  · exact .inr ⟨o, e _ _ h⟩
theorem SqT.same {K : PySem.W.Frag} {H H' : Hp} {a : Addr} {xs : List V} (e : Same H H') (h : SqT K H a xs) : SqT K H' a xs := by
  rcases h with h | h
  · exact .inl (Rd.same e h)
  · exact .inr h
theorem sqt {K : PySem.W.Frag} {H : Hp} {a : Addr} {xs : List V} (h : H a = some (.tup xs)) : SqT K H a xs := .inl (.inl h)
theorem sql {K : PySem.W.Frag} {H : Hp} {a : Addr} {xs : List V} (h : H a = some (.lst xs)) : SqL K H a xs := .inl (.inl h)
theorem KB.rd {s : Addr} {H H' : Hp} {a : Addr} {u : HO} {kvs : List (Key × V)} (e : KB s H H') (hs : H s = some (.dK kvs)) (hu : ∀ k, u ≠ .dK k) (h : Rd H a u) : Rd H' a u := by
  rcases h with h | ⟨o, h⟩
  · exact .inl (e _ _ (fun z => by rw [z, hs] at h; exact hu _ (Option.some.inj h).symm) h)
  · exact .inr ⟨o, e _ _ (fun z => by rw [z, hs] at h; cases h) h⟩
theorem KB.seq {K : PySem.W.Frag} {s : Addr} {H H' : Hp} {a : Addr} {xs : List V} {kvs : List (Key × V)} (e : KB s H H') (hs : H s = some (.dK kvs)) (h : SqL K H a xs) : SqL K H' a xs := by
  rcases h with h | h
  · exact .inl (e.rd hs (fun _ z => by cases z) h)
  · exact .inr h
theorem KB.tup {K : PySem.W.Frag} {s : Addr} {H H' : Hp} {a : Addr} {xs : List V} {kvs : List (Key × V)} (e : KB s H H') (hs : H s = some (.dK kvs)) (h : SqT K H a xs) : SqT K H' a xs := by
  rcases h with h | h
  · exact .inl (e.rd hs (fun _ z => by cases z) h)
  · exact .inr h
/-- tuples stay -/
def TM (K : PySem.W.Frag) (H H' : Hp) : Prop := ∀ a xs, SqT K H a xs → SqT K H' a xs
theorem TM.refl {K : PySem.W.Frag} (H : Hp) : TM K H H := fun _ _ h => h
theorem TM.trans {K : PySem.W.Frag} {H H1 H2 : Hp} (a : TM K H H1) (b : TM K H1 H2) : TM K H H2 := fun x y h => b x y (a x y h)
theorem TM.of {K : PySem.W.Frag} {H H' : Hp} (e : Same H H') : TM K H H' := fun _ _ h => SqT.same e h
theorem KB.tm {K : PySem.W.Frag} {s : Addr} {H H' : Hp} {kvs : List (Key × V)} (e : KB s H H') (hs : H s = some (.dK kvs)) : TM K H H' := fun _ _ h => e.tup hs h
theorem sz {n : Nat} (h : n ≤ 1000) : n ≤ sizeLine := Nat.le_of_lt (small1000 h)

theorem at_any {α : Type} {xs : List α} {z : Int} {j : Nat} {v : α} (e : z = (j : Int)) (h : xs[j]? = some v) : atI xs z = some v := by
  rw [e]
  exact atI_nat h

/-! ### a text told n times -/
/-- one sign, n times -/
def rp (c : Nat) (n : Int) : Str := ⟨(List.replicate n.toNat c).toArray⟩
theorem rp_fold (c : Nat) : ∀ (k : Nat) (a : Array Nat), (List.replicate k (#[c] : Array Nat)).foldl (· ++ ·) a = a ++ (List.replicate k c).toArray
  | 0, a => by simp
  | k + 1, a => by
    rw [List.replicate_succ, List.foldl_cons, rp_fold c k, List.replicate_succ]
    apply Array.ext'
    simp
theorem rp_len {c : Nat} {n : Int} : (rp c n).length = n.toNat := by
  show ((List.replicate n.toNat c).toArray).size = n.toNat
  simp
def rRepS : R2 := fun x y H Q => ∃ (c : Nat) (n : Int), x = .str ⟨#[c]⟩ ∧ y = .int n ∧ 0 ≤ n ∧ n ≤ 1000 ∧ Q (.str (rp c n)) H
theorem op_rep_str {X : Cx} : OpR X (binaryOp .Mult) rRepS := by
  intro pins s σ H x y v u Q I rx ry h
  obtain ⟨c, n, rfl, rfl, h0, h1, q⟩ := h
  obtain ⟨t, rfl⟩ := rx
  obtain ⟨t', rfl⟩ := ry
  have hz : (1000 : Nat) ≤ sizeLine := by decide
  refine PySem.P.mul_str (by simp; omega) (fun h2 h3 => ?_) (fun h2 h3 => ?_) ?_
  · have : (1 : Int) ≤ (2 ^ 63 - 1) / n := by
      apply (Int.le_ediv_iff_mul_le (by omega)).mpr
      omega
    show ¬ ((1 : Nat) : Int) > _
    omega
  · show decide _ = false
    refine decide_eq_false ?_
    show ¬ (1 * n.toNat > _)
    have : n.toNat ≤ 1000 := by omega
    omega
  · by_cases h2 : n < 1
    · rw [if_pos h2]
      have e : rp c n = Str.empty := by
        unfold rp
        rw [show n.toNat = 0 by omega]
        rfl
      rw [e] at q
      exact ⟨by decide, ⟨.str Str.empty, H, I.tok _, ⟨_, rfl⟩, q⟩⟩
    · rw [if_neg h2]
      by_cases h3 : n = 1
      · subst h3
        rw [if_pos (by rfl)]
        have e : rp c 1 = ⟨#[c]⟩ := rfl
        rw [e] at q
        exact ⟨.str ⟨#[c]⟩, H, I, ⟨_, rfl⟩, q⟩
      · rw [if_neg (by simp [h3]; intro z; cases z)]
        have e : (⟨(List.replicate n.toNat (#[c] : Array Nat)).foldl (· ++ ·) #[]⟩ : Str) = rp c n := by
          rw [rp_fold]
          simp [rp]
        rw [e]
        refine ⟨?_, ⟨.str (rp c n), H, I.tok _, ⟨_, rfl⟩, q⟩⟩
        rw [rp_len]
        omega
def topS (i : Nat) : Stmt := PySem.Challenge.pw_contractbook_k01_numbers_of_a_row.main.body.getD i (.Pass ⟨0, 0, 0, 0⟩)
/-! ### the law's own drawing: what stands in the dict of the script -/
structure Cfg where
  sz : Int
  pl : Int
  tu : Int
  ta : Int
structure Cfg.Ok (c : Cfg) : Prop where
  sz1 : 1 ≤ c.sz
  sz8 : c.sz ≤ 8
  pl0 : 0 ≤ c.pl
  plz : c.pl < c.sz
  tu0 : 0 ≤ c.tu
  tuz : c.tu < 26
  ta : c.ta = 0 ∨ c.ta = 1
def sd (c : Cfg) (na nm : Addr) (n re mx : Int) : List (Key × V) :=
  [(.inr "numbers", .ref na), (.inr "at", .int n), (.inr "size", .int c.sz), (.inr "place", .int c.pl), (.inr "turn", .int c.tu), (.inr "talk", .int c.ta), (.inr "rest", .int re), (.inr "names", .ref nm), (.inr "mixed", .int mx)]
structure LS (K : PySem.W.Frag) (c : Cfg) (ns : List Int) (xs : List Str) (s na nm : Addr) (H : Hp) : Prop where
  st : ∃ n re mx : Int, H s = some (.dK (sd c na nm n re mx)) ∧ 0 ≤ n ∧ 0 ≤ re ∧ 0 ≤ mx ∧ mx < 2147483647
  num : SqL K H na (ns.map V.int)
  nms : SqL K H nm (xs.map V.str)
  ok : c.Ok
  len : ns.length ≤ 63
  few : xs.length ≤ 8
theorem LS.same {K : PySem.W.Frag} {c : Cfg} {ns : List Int} {xs : List Str} {s na nm : Addr} {H H' : Hp} (L : LS K c ns xs s na nm H) (e : Same H H') : LS K c ns xs s na nm H' := by
  obtain ⟨⟨n, re, mx, h, r⟩, h1, h2, h3, h4, h5⟩ := L
  exact ⟨⟨n, re, mx, e _ _ h, r⟩, e.seq h1, e.seq h2, h3, h4, h5⟩
theorem LS.put {K : PySem.W.Frag} {c : Cfg} {ns : List Int} {xs : List Str} {s na nm : Addr} {H : Hp} (L : LS K c ns xs s na nm H) {n re mx : Int} (h0 : 0 ≤ n) (h1 : 0 ≤ re) (h2 : 0 ≤ mx) (h3 : mx < 2147483647) :
    LS K c ns xs s na nm (upd H s (.dK (sd c na nm n re mx))) := by
  obtain ⟨⟨n', re', mx', h, r⟩, g1, g2, g3, g4, g5⟩ := L
  exact ⟨⟨n, re, mx, upd_same, h0, h1, h2, h3⟩, KB.seq KB.upd h g1, KB.seq KB.upd h g2, g3, g4, g5⟩
theorem LS.tm {K : PySem.W.Frag} {c : Cfg} {ns : List Int} {xs : List Str} {s na nm : Addr} {H H' : Hp} (L : LS K c ns xs s na nm H) (e : KB s H H') : TM K H H' := by
  obtain ⟨⟨n, re, mx, h, r⟩, _⟩ := L
  exact e.tm h
/-- a number is taken: 0 up to m -/
def spTaken (K : PySem.W.Frag) : Sp := fun vs H Q _ => ∃ (c : Cfg) (ns : List Int) (xs : List Str) (s na nm : Addr) (m : Int), vs = [.ref s, .int m] ∧ LS K c ns xs s na nm H ∧ 0 < m ∧ m ≤ 10000000000000 ∧
  ∀ (r : Int) (H' : Hp), 0 ≤ r → r < m → KB s H H' → LS K c ns xs s na nm H' → Q (.int r) H'
theorem use_taken {K : PySem.W.Frag} {c : Cfg} {ns : List Int} {xs : List Str} {s na nm : Addr} {m : Int} {H : Hp} {Q : VK} {E : XK} (L : LS K c ns xs s na nm H) (h0 : 0 < m) (h1 : m ≤ 10000000000000)
    (q : ∀ (r : Int) (H' : Hp), 0 ≤ r → r < m → KB s H H' → LS K c ns xs s na nm H' → Q (.int r) H') : spTaken K ([.ref s, .int m] ++ []) H Q E := ⟨c, ns, xs, s, na, nm, m, rfl, L, h0, h1, q⟩
theorem log_small {i m : Int} (h0 : 0 < m) (h1 : m ≤ 10000000000000) : CDivW i m := wide_div (b := 64) h0 (by omega) (by decide) (by decide)
section
variable {P : Program} {w : World} {K : PySem.W.Frag} {mg : Str → Option Value} {base : Heap}
abbrev s__law_taken : Stmt := topS 5
theorem sc__law_taken : FnScope ["_law_s", "_law_most", "_law_found", "_law_number_here"] ["_law_s", "_law_most"] (defScope s__law_taken) := ⟨rfl, rfl, rfl, by decide +kernel, rfl, by decide +kernel, by decide +kernel⟩
theorem h__law_taken {k : Nat} {f : Addr} {fd : FuncData} (O : Own K mg "_law_taken" s__law_taken ["_law_s", "_law_most"] f fd)  (m_len : mg "len" = none) (m_int : mg "int" = none) : Has P w K mg base "_law_taken" ["_law_s", "_law_most"] (k + 1) CX0 (spTaken K) f fd := by
  refine O.has (O.F.ok sc__law_taken (fun vs H Q E h => ?_) (fun cdv A outer s H vs Q E hr h => ?_))
  · obtain ⟨c, ns, xs, s, na, nm, m, rfl, _⟩ := h
    rfl
  obtain ⟨c, ns, xs, s, na, nm, m, rfl, L, h0, h1, q⟩ := h
  obtain ⟨n, re, mx, hs, g0, g1, g2, g3⟩ := L.st
  refine ⟨_, (pss_cons (ps_if (pt_cmpR op_gt (pe_dget (hu_of hr) (pv 0) pe_str (fun _ _ => rfl)) pe_int (nomark _)) (pss_cons (ps_set (i := 2) sc__law_taken.nd rfl (.inl rfl) (pe_op op_mod (pe_dget (hu_of hr) (pv 0) pe_str (fun _ _ => rfl)) (pv 1))) (pss_cons (ps_dput (hu_of hr) (pv 0) pe_str (pe_op op_fdivW (pe_dget (hu_of hr) (pv 0) pe_str (fun _ _ => rfl)) (pv 1)) (by rfl)) (pss_one (ps_ret (pv 2))))) pss_nil) (pss_cons (ps_dput (hu_of hr) (pv 0) pe_str (pe_op op_add (pe_dget (hu_of hr) (pv 0) pe_str (fun _ _ => rfl)) pe_int) (by rfl)) (pss_cons (ps_if (pt_cmpR op_le (pe_dget (hu_of hr) (pv 0) pe_str (fun _ _ => rfl)) (pe_callB call_len_seq (by rfl) m_len (by decide +kernel) (pa_cons (pe_dget (hu_of hr) (pv 0) pe_str (fun _ _ => rfl)) pa_nil)) (nomark _)) (pss_cons (ps_set (i := 3) sc__law_taken.nd rfl (.inl rfl) (pe_ix ix_list (pe_dget (hu_of hr) (pv 0) pe_str (fun _ _ => rfl)) (pe_op op_sub (pe_dget (hu_of hr) (pv 0) pe_str (fun _ _ => rfl)) pe_int) (fun _ _ => rfl))) (pss_cons (ps_dput (hu_of hr) (pv 0) pe_str (pe_op op_mul (pe_op op_fdivW (pv 3) (pv 1)) (pe_callTy call_int1 (by rfl) m_int (by decide +kernel) (pa_cons (pe_cmpR op_ge (pv 3) (pe_op op_pow pe_int pe_int) (nomark _)) pa_nil))) (by rfl)) (pss_one (ps_ret (pe_op op_mod (pv 3) (pv 1)))))) pss_nil) (pss_cons (ps_dput (hu_of hr) (pv 0) pe_str (pe_op op_mod (pe_op op_mul (pe_dget (hu_of hr) (pv 0) pe_str (fun _ _ => rfl)) pe_int) pe_int) (by rfl)) (pss_one (ps_ret (pe_ifExp (pt_cmpR op_gt (pv 1) (pe_op op_pow pe_int pe_int) (nomark _)) (pe_op op_mod (pe_op op_pow (pe_op op_fdivW (pe_dget (hu_of hr) (pv 0) pe_str (fun _ _ => rfl)) pe_int) pe_int) (pv 1)) (pe_op op_mod (pe_op op_fdivW (pe_dget (hu_of hr) (pv 0) pe_str (fun _ _ => rfl)) pe_int) (pv 1))))))))), ?_⟩
  walk_at "go"
  refine g_key hs (by rfl) ?_
  walk_at "go"
  refine ifd (fun c1 => ?_) (fun c1 => ?_)
  · walk_at "go"
    refine g_key hs (by rfl) ?_
    walk_at "go"
    refine g_I h0 ?_
    walk_at "go"
    refine g_key hs (by rfl) ?_
    walk_at "go"
    refine g_I (log_small h0 h1) ?_
    walk_at "go"
    refine g_put hs (by show 9 < sizeLine; decide) (by rfl) ?_
    walk_at "go"
    exact q _ _ (Int.emod_nonneg _ (by omega)) (Int.emod_lt_of_pos _ h0) KB.upd (L.put g0 (Int.ediv_nonneg g1 (by omega)) g2 g3)
  walk_at "go"
  refine g_key hs (by rfl) ?_
  walk_at "go"
  refine g_put hs (by show 9 < sizeLine; decide) (by rfl) ?_
  have L2 := L.put (n := n + 1) (re := re) (mx := mx) (by omega) g1 g2 g3
  have hs2 : (upd H s (.dK (sd c na nm (n + 1) re mx))) s = some (.dK (sd c na nm (n + 1) re mx)) := upd_same
  walk_at "go"
  refine g_key hs2 (by rfl) ?_
  walk_at "go"
  refine g_key hs2 (by rfl) ?_
  walk_at "go"
  refine ⟨_, _, rfl, .inl L2.num, ?_⟩
  walk_at "go"
  refine ifd (fun c2 => ?_) (fun c2 => ?_)
  · walk_at "go"
    refine g_key hs2 (by rfl) ?_
    walk_at "go"
    refine g_key hs2 (by rfl) ?_
    walk_at "go"
    rw [List.length_map] at c2
    have hk : n.toNat < ns.length := by omega
    refine ⟨_, _, _, .int ns[n.toNat], rfl, rfl, L2.num, at_of (j := n.toNat) (by omega) (by rw [List.getElem?_map, List.getElem?_eq_getElem hk]; rfl), ?_⟩
    generalize ns[n.toNat] = z
    walk_at "go"
    refine g_I (log_small h0 h1) ?_
    walk_at "go"
    refine g_I ⟨by decide, by decide, by decide⟩ ?_
    walk_at "go"
    refine .inr ⟨_, rfl, ?_⟩
    refine g_I (.inr (by split <;> decide)) ?_
    walk_at "go"
    refine g_put hs2 (by show 9 < sizeLine; decide) (by rfl) ?_
    walk_at "go"
    refine g_I h0 ?_
    rw [upd_upd]
    refine q _ _ (Int.emod_nonneg _ (by omega)) (Int.emod_lt_of_pos _ h0) KB.upd (L.put (by omega) ?_ g2 g3)
    by_cases hz : (10 : Int) ^ (18 : Int).toNat ≤ z
    · rw [decide_eq_true hz]
      have : 0 ≤ z := Int.le_trans (by decide) hz
      exact Int.mul_nonneg (Int.ediv_nonneg this (by omega)) (by decide)
    · rw [decide_eq_false hz]
      simp
  walk_at "go"
  refine g_key hs2 (by rfl) ?_
  walk_at "go"
  refine g_I (.inl (by omega)) ?_
  walk_at "go"
  refine g_I (by decide) ?_
  walk_at "go"
  refine g_put hs2 (by show 9 < sizeLine; decide) (by rfl) ?_
  rw [upd_upd]
  have b0 : 0 ≤ mx * 48271 % 2147483647 := Int.emod_nonneg _ (by decide)
  have b1 : mx * 48271 % 2147483647 < 2147483647 := Int.emod_lt_of_pos _ (by decide)
  generalize mx * 48271 % 2147483647 = my at b0 b1 ⊢
  have L3 := L.put (n := n + 1) (re := re) (mx := my) (by omega) g1 b0 b1
  have hs3 : (upd H s (.dK (sd c na nm (n + 1) re my))) s = some (.dK (sd c na nm (n + 1) re my)) := upd_same
  walk_at "go"
  refine g_I ⟨by decide, by decide, by decide⟩ ?_
  walk_at "go"
  refine ifd (fun c3 => ?_) (fun c3 => ?_)
  · walk_at "go"
    refine g_key hs3 (by rfl) ?_
    walk_at "go"
    refine g_I ⟨by decide, by decide⟩ ?_
    walk_at "go"
    refine g_I ⟨by decide, by decide, by omega⟩ ?_
    walk_at "go"
    refine g_I h0 ?_
    exact q _ _ (Int.emod_nonneg _ (by omega)) (Int.emod_lt_of_pos _ h0) KB.upd L3
  · walk_at "go"
    refine g_key hs3 (by rfl) ?_
    walk_at "go"
    refine g_I ⟨by decide, by decide⟩ ?_
    walk_at "go"
    refine g_I h0 ?_
    exact q _ _ (Int.emod_nonneg _ (by omega)) (Int.emod_lt_of_pos _ h0) KB.upd L3
end

/-! ### words, numbers -/
def wordsL : List Str := ["none", "give", "both", "turned", "later", "often", "if", "num", "read", "plus", "below", "all"]
def wd (c : Cfg) (k : Int) : Str := if c.ta = 1 ∧ k < 12 then wordsL.getD k.toNat "none" else rp 113 c.pl ++ ⟨#[97 + ((k + c.tu) % 26).toNat]⟩ ++ rp 113 (c.sz - c.pl - 1)
theorem letters_at : ∀ j : Fin 26, (Str.ofString "abcdefghijklmnopqrstuvwxyz").cps.toList[j.val]? = some (97 + j.val) := by decide +kernel
theorem app_len (a b : Str) : (a ++ b).length = a.length + b.length := by
  show (a.cps ++ b.cps).size = a.cps.size + b.cps.size
  simp
def spWord (K : PySem.W.Frag) : Sp := fun vs H Q _ => ∃ (c : Cfg) (ns : List Int) (xs : List Str) (s na nm : Addr) (k : Int), vs = [.ref s, .int k] ∧ LS K c ns xs s na nm H ∧ 0 ≤ k ∧ k ≤ 1000 ∧ ∀ H', Same H H' → Q (.str (wd c k)) H'
theorem use_word {K : PySem.W.Frag} {c : Cfg} {ns : List Int} {xs : List Str} {s na nm : Addr} {k : Int} {H : Hp} {Q : VK} {E : XK} (L : LS K c ns xs s na nm H) (h0 : 0 ≤ k) (h1 : k ≤ 1000) (q : ∀ H', Same H H' → Q (.str (wd c k)) H') :
    spWord K ([.ref s, .int k] ++ []) H Q E := ⟨c, ns, xs, s, na, nm, k, rfl, L, h0, h1, q⟩
def spNumber (K : PySem.W.Frag) : Sp := fun vs H Q _ => ∃ (c : Cfg) (ns : List Int) (xs : List Str) (s na nm : Addr), vs = [.ref s] ∧ LS K c ns xs s na nm H ∧
  ∀ (r : Int) (H' : Hp), -1000000000000 < r → r < 1000000000000 → KB s H H' → LS K c ns xs s na nm H' → Q (.int r) H'
theorem use_number {K : PySem.W.Frag} {c : Cfg} {ns : List Int} {xs : List Str} {s na nm : Addr} {H : Hp} {Q : VK} {E : XK} (L : LS K c ns xs s na nm H)
    (q : ∀ (r : Int) (H' : Hp), -1000000000000 < r → r < 1000000000000 → KB s H H' → LS K c ns xs s na nm H' → Q (.int r) H') : spNumber K ([.ref s] ++ []) H Q E := ⟨c, ns, xs, s, na, nm, rfl, L, q⟩
section
variable {P : Program} {w : World} {K : PySem.W.Frag} {mg : Str → Option Value} {base : Heap}
abbrev s__law_word : Stmt := topS 6
theorem sc__law_word : FnScope ["_law_s", "_law_k", "_law_words", "_law_sign"] ["_law_s", "_law_k"] (defScope s__law_word) := ⟨rfl, rfl, rfl, by decide +kernel, rfl, by decide +kernel, by decide +kernel⟩
theorem h__law_word {k : Nat} {f : Addr} {fd : FuncData} (O : Own K mg "_law_word" s__law_word ["_law_s", "_law_k"] f fd)  : Has P w K mg base "_law_word" ["_law_s", "_law_k"] (k + 1) CX0 (spWord K) f fd := by
  refine O.has (O.F.ok sc__law_word (fun vs H Q E h => ?_) (fun cdv A outer s H vs Q E hr h => ?_))
  · obtain ⟨c, ns, xs, s, na, nm, k, rfl, _⟩ := h
    rfl
  obtain ⟨c, ns, xs, s, na, nm, k, rfl, L, h0, h1, q⟩ := h
  obtain ⟨n, re, mx, hs, g0, g1, g2, g3⟩ := L.st
  have c0 := L.ok
  refine ⟨_, (pss_cons (ps_if (PW.pt (pw_and (pt_cmpR op_eq (pe_dget (hu_of hr) (pv 0) pe_str (fun _ _ => rfl)) pe_int (nomark _)) (pw_and1 (pt_cmpR op_lt (pv 1) pe_int (nomark _))))) (pss_cons (ps_set (i := 2) sc__law_word.nd rfl (.inl rfl) (pe_lst (pa_cons pe_str (pa_cons pe_str (pa_cons pe_str (pa_cons pe_str (pa_cons pe_str (pa_cons pe_str (pa_cons pe_str (pa_cons pe_str (pa_cons pe_str (pa_cons pe_str (pa_cons pe_str (pa_cons pe_str pa_nil)))))))))))))) (pss_one (ps_ret (pe_ix ix_list (pv 2) (pv 1) (fun _ _ => rfl))))) pss_nil) (pss_cons (ps_set (i := 3) sc__law_word.nd rfl (.inl rfl) (pe_ix ix_str pe_str (pe_op op_mod (pe_op op_add (pv 1) (pe_dget (hu_of hr) (pv 0) pe_str (fun _ _ => rfl))) pe_int) (fun _ _ => rfl))) (pss_one (ps_ret (pe_op op_add_str (pe_op op_add_str (pe_op op_rep_str pe_str (pe_dget (hu_of hr) (pv 0) pe_str (fun _ _ => rfl))) (pv 3)) (pe_op op_rep_str pe_str (pe_op op_sub (pe_op op_sub (pe_dget (hu_of hr) (pv 0) pe_str (fun _ _ => rfl)) (pe_dget (hu_of hr) (pv 0) pe_str (fun _ _ => rfl))) pe_int))))))), ?_⟩
  have tail : ∀ (H1 : Hp), Same H H1 → ¬ (c.ta = 1 ∧ k < 12) → Q (.str (rp 113 c.pl ++ ⟨#[97 + ((k + c.tu) % 26).toNat]⟩ ++ rp 113 (c.sz - c.pl - 1))) H1 := fun H1 e hc => by
    have z := q H1 e
    unfold wd at z
    rw [if_neg hc] at z
    exact z
  walk_at "go"
  refine g_key hs (by rfl) ?_
  walk_at "go"
  refine and_cut (k < 12) (fun hc => ?_) (fun c1 back => ?_)
  · walk_at "go"
    refine g_key hs (by rfl) ?_
    walk_at "go"
    refine g_I (by decide) ?_
    have b0 : 0 ≤ (k + c.tu) % 26 := Int.emod_nonneg _ (by decide)
    have b1 : (k + c.tu) % 26 < 26 := Int.emod_lt_of_pos _ (by decide)
    have bn : ((k + c.tu) % 26).toNat < 26 := by omega
    refine ⟨_, (k + c.tu) % 26, 97 + ((k + c.tu) % 26).toNat, rfl, rfl, by decide +kernel, at_any (j := ((k + c.tu) % 26).toNat) (by omega) (letters_at ⟨((k + c.tu) % 26).toNat, bn⟩), ?_⟩
    walk_at "go"
    refine g_key hs (by rfl) ?_
    have p0 := c0.pl0
    have p1 := c0.plz
    have p2 := c0.sz8
    refine ⟨113, c.pl, rfl, rfl, p0, by omega, ?_⟩
    walk_at "go"
    have e1 : (rp 113 c.pl).length ≤ 8 := by rw [rp_len]; omega
    have e2 : (⟨#[97 + ((k + c.tu) % 26).toNat]⟩ : Str).length = 1 := rfl
    have hz : (1000 : Nat) ≤ sizeLine := by decide
    refine ⟨by omega, ?_⟩
    walk_at "go"
    refine g_key hs (by rfl) ?_
    walk_at "go"
    refine g_key hs (by rfl) ?_
    walk_at "go"
    refine ⟨113, c.sz - c.pl - 1, rfl, rfl, by omega, by omega, ?_⟩
    have e3 : (rp 113 (c.sz - c.pl - 1)).length ≤ 8 := by rw [rp_len]; omega
    walk_at "go"
    refine ⟨?_, ?_⟩
    · rw [app_len]; omega
    · exact tail H (Same.refl H) hc
  · walk_at "go"
    refine ifd (fun c2 => ?_) back
    walk_at "go"
    refine ⟨by show 12 ≤ sizeLine; decide, fun p hp => ?_⟩
    walk_at "go"
    have hk : k.toNat < wordsL.length := by show k.toNat < 12; omega
    have hi : (wordsL.map V.str)[k.toNat]? = some (.str (wordsL.getD k.toNat "none")) := by
      rw [List.getElem?_map, List.getD, List.getElem?_eq_getElem hk]
      rfl
    refine ⟨_, wordsL.map V.str, _, _, rfl, rfl, sql upd_same, at_of (j := k.toNat) (by omega) hi, ?_⟩
    have z := q _ (same_new (o := .lst (wordsL.map V.str)) hp)
    unfold wd at z
    rw [if_pos ⟨c1, c2⟩] at z
    exact z
abbrev s__law_number : Stmt := topS 7
theorem sc__law_number : FnScope ["_law_s"] ["_law_s"] (defScope s__law_number) := ⟨rfl, rfl, rfl, by decide +kernel, rfl, by decide +kernel, by decide +kernel⟩
theorem h__law_number {k : Nat} {f : Addr} {fd : FuncData} (O : Own K mg "_law_number" s__law_number ["_law_s"] f fd)  {f__law_taken : Addr} {fd__law_taken : FuncData} (D__law_taken : Has P w K mg base "_law_taken" ["_law_s", "_law_most"] k CX0 (spTaken K) f__law_taken fd__law_taken) : Has P w K mg base "_law_number" ["_law_s"] (k + 1) CX0 (spNumber K) f fd := by
  refine O.has (O.F.ok sc__law_number (fun vs H Q E h => ?_) (fun cdv A outer s H vs Q E hr h => ?_))
  · obtain ⟨c, ns, xs, s, na, nm, rfl, _⟩ := h
    rfl
  obtain ⟨c, ns, xs, s, na, nm, rfl, L, q⟩ := h
  refine ⟨_, (pss_cons (ps_if (pt_cmpR op_eq (pe_call D__law_taken.G hr (by rfl) D__law_taken.g D__law_taken.k D__law_taken.b .nil pass0 (pa_cons (pv 0) (pa_cons pe_int pa_nil))) pe_int (nomark _)) (pss_one (ps_ret (pe_op op_add (pe_op op_sub (pe_call D__law_taken.G hr (by rfl) D__law_taken.g D__law_taken.k D__law_taken.b .nil pass0 (pa_cons (pv 0) (pa_cons (pe_op op_sub (pe_op op_mul pe_int (pe_op op_pow pe_int pe_int)) pe_int) pa_nil))) (pe_op op_pow pe_int pe_int)) pe_int))) pss_nil) (pss_one (ps_ret (pe_op op_sub (pe_call D__law_taken.G hr (by rfl) D__law_taken.g D__law_taken.k D__law_taken.b .nil pass0 (pa_cons (pv 0) (pa_cons pe_int pa_nil))) pe_int)))), ?_⟩
  walk_at "go"
  refine use_taken L (by decide) (by decide) fun r H1 a0 a1 e1 L1 => ?_
  walk_at "go"
  refine ifd (fun c1 => ?_) (fun c1 => ?_)
  · walk_at "go"
    refine g_I ⟨by decide, by decide, by decide⟩ ?_
    walk_at "go"
    refine g_I (.inl ⟨by decide, by decide⟩) ?_
    walk_at "go"
    refine use_taken L1 (by decide) (by decide) fun r2 H2 b0 b1 e2 L2 => ?_
    walk_at "go"
    refine g_I ⟨by decide, by decide, by decide⟩ ?_
    walk_at "go"
    have e : (10 : Int) ^ (12 : Int).toNat = 1000000000000 := by decide
    rw [e] at b1 ⊢
    exact q _ _ (by omega) (by omega) (e1.trans e2) L2
  · walk_at "go"
    refine use_taken L1 (by decide) (by decide) fun r2 H2 b0 b1 e2 L2 => ?_
    walk_at "go"
    exact q _ _ (by omega) (by omega) (e1.trans e2) L2
end

/-! ### told numbers -/
inductive Op where
  | plus | minus | times | most | least
def Op.word : Op → Str
  | .plus => "plus"
  | .minus => "minus"
  | .times => "times"
  | .most => "most"
  | .least => "least"
def Op.app : Op → Int → Int → Int
  | .plus, a, b => a + b
  | .minus, a, b => a - b
  | .times, a, b => a * b
  | .most, a, b => if b > a then b else a
  | .least, a, b => if b < a then b else a
inductive Num where
  | num (n : Int)
  | read (x : Str)
  | bin (o : Op) (a b : Num)
def Num.deep : Num → Nat
  | .num _ => 0
  | .read _ => 0
  | .bin _ a b => max a.deep b.deep + 1
def Num.In (xs : List Str) : Num → Prop
  | .num n => -1000000000000 < n ∧ n < 1000000000000
  | .read x => x ∈ xs
  | .bin _ a b => a.In xs ∧ b.In xs
/-- the value v tells the number in the heap -/
def DN (K : PySem.W.Frag) (H : Hp) : Num → V → Prop
  | .num n, v => ∃ a, v = .ref a ∧ SqT K H a [.str "num", .int n]
  | .read x, v => ∃ a, v = .ref a ∧ SqT K H a [.str "read", .str x]
  | .bin o p q, v => ∃ a u z, v = .ref a ∧ SqT K H a [.str o.word, u, z] ∧ DN K H p u ∧ DN K H q z
theorem DN.tm {K : PySem.W.Frag} {H H' : Hp} (e : TM K H H') : ∀ {t : Num} {v : V}, DN K H t v → DN K H' t v
  | .num n, v, ⟨a, h1, h2⟩ => ⟨a, h1, e _ _ h2⟩
  | .read x, v, ⟨a, h1, h2⟩ => ⟨a, h1, e _ _ h2⟩
  | .bin o p q, v, ⟨a, u, z, h1, h2, h3, h4⟩ => ⟨a, u, z, h1, e _ _ h2, DN.tm e h3, DN.tm e h4⟩
def opWords : List V := [.str "plus", .str "minus", .str "times", .str "most", .str "least"]
theorem op_at {i : Int} (h0 : 0 ≤ i) (h1 : i < 5) : ∃ o : Op, atI opWords i = some (.str o.word) := by
  have : i = 0 ∨ i = 1 ∨ i = 2 ∨ i = 3 ∨ i = 4 := by omega
  rcases this with rfl | rfl | rfl | rfl | rfl
  · exact ⟨.plus, at_any (j := 0) rfl rfl⟩
  · exact ⟨.minus, at_any (j := 1) rfl rfl⟩
  · exact ⟨.times, at_any (j := 2) rfl rfl⟩
  · exact ⟨.most, at_any (j := 3) rfl rfl⟩
  · exact ⟨.least, at_any (j := 4) rfl rfl⟩
def spTold (K : PySem.W.Frag) (n : Nat) : Sp := fun vs H Q _ => ∃ (c : Cfg) (ns : List Int) (xs : List Str) (s na nm : Addr) (d : Int), vs = [.ref s, .int d] ∧ LS K c ns xs s na nm H ∧ 0 ≤ d ∧ d < n ∧
  ∀ (v : V) (t : Num) (H' : Hp), KB s H H' → LS K c ns xs s na nm H' → DN K H' t v → t.In xs → (t.deep : Int) ≤ d → Q v H'
theorem use_told {K : PySem.W.Frag} {n : Nat} {c : Cfg} {ns : List Int} {xs : List Str} {s na nm : Addr} {d : Int} {H : Hp} {Q : VK} {E : XK} (L : LS K c ns xs s na nm H) (h0 : 0 ≤ d) (h1 : d < n)
    (q : ∀ (v : V) (t : Num) (H' : Hp), KB s H H' → LS K c ns xs s na nm H' → DN K H' t v → t.In xs → (t.deep : Int) ≤ d → Q v H') : spTold K n ([.ref s, .int d] ++ []) H Q E := ⟨c, ns, xs, s, na, nm, d, rfl, L, h0, h1, q⟩
section
variable {P : Program} {w : World} {K : PySem.W.Frag} {mg : Str → Option Value} {base : Heap}
abbrev s__law_told : Stmt := topS 8
theorem sc__law_told : FnScope ["_law_s", "_law_deep", "_law_way", "_law_one"] ["_law_s", "_law_deep"] (defScope s__law_told) := ⟨rfl, rfl, rfl, by decide +kernel, rfl, by decide +kernel, by decide +kernel⟩
theorem h__law_told {n : Nat} {k : Nat} {f : Addr} {fd : FuncData} (O : Own K mg "_law_told" s__law_told ["_law_s", "_law_deep"] f fd)  {f__law_told : Addr} {fd__law_told : FuncData} (D__law_told : Has P w K mg base "_law_told" ["_law_s", "_law_deep"] k CX0 (spTold K n) f__law_told fd__law_told) {f__law_number : Addr} {fd__law_number : FuncData} (D__law_number : Has P w K mg base "_law_number" ["_law_s"] k CX0 (spNumber K) f__law_number fd__law_number) {f__law_taken : Addr} {fd__law_taken : FuncData} (D__law_taken : Has P w K mg base "_law_taken" ["_law_s", "_law_most"] k CX0 (spTaken K) f__law_taken fd__law_taken) (m_len : mg "len" = none) : Has P w K mg base "_law_told" ["_law_s", "_law_deep"] (k + 1) CX0 (spTold K (n + 1)) f fd := by
  refine O.has (O.F.ok sc__law_told (fun vs H Q E h => ?_) (fun cdv A outer s H vs Q E hr h => ?_))
  · obtain ⟨c, ns, xs, s, na, nm, d, rfl, _⟩ := h
    rfl
  obtain ⟨c, ns, xs, s, na, nm, d, rfl, L, h0, h1, q⟩ := h
  refine ⟨_, (pss_cons (ps_set (i := 2) sc__law_told.nd rfl (.inl rfl) (pe_call D__law_taken.G hr (by rfl) D__law_taken.g D__law_taken.k D__law_taken.b .nil pass0 (pa_cons (pv 0) (pa_cons pe_int pa_nil)))) (pss_cons (ps_if (PW.pt (pw_or (pt_cmpR op_lt (pv 2) pe_int (nomark _)) (pw_or1 (pt_cmpR op_eq (pv 1) pe_int (nomark _))))) (pss_cons (ps_if (PW.pt (pw_and (pt_cmpR op_eq (pe_op op_mod (pv 2) pe_int) pe_int (nomark _)) (pw_and1 (pt_cmpR op_gt (pe_callB call_len_seq (by rfl) m_len (by decide +kernel) (pa_cons (pe_dget (hu_of hr) (pv 0) pe_str (fun _ _ => rfl)) pa_nil)) pe_int (nomark _))))) (pss_one (ps_ret (pe_tup (pa_cons pe_str (pa_cons (pe_ix ix_list (pe_dget (hu_of hr) (pv 0) pe_str (fun _ _ => rfl)) (pe_call D__law_taken.G hr (by rfl) D__law_taken.g D__law_taken.k D__law_taken.b .nil pass0 (pa_cons (pv 0) (pa_cons (pe_callB call_len_seq (by rfl) m_len (by decide +kernel) (pa_cons (pe_dget (hu_of hr) (pv 0) pe_str (fun _ _ => rfl)) pa_nil)) pa_nil))) (fun _ _ => rfl)) pa_nil))))) pss_nil) (pss_one (ps_ret (pe_tup (pa_cons pe_str (pa_cons (pe_call D__law_number.G hr (by rfl) D__law_number.g D__law_number.k D__law_number.b .nil pass0 (pa_cons (pv 0) pa_nil)) pa_nil)))))) pss_nil) (pss_cons (ps_set (i := 3) sc__law_told.nd rfl (.inl rfl) (pe_call D__law_told.G hr (by rfl) D__law_told.g D__law_told.k D__law_told.b .nil pass0 (pa_cons (pv 0) (pa_cons (pe_op op_sub (pv 1) pe_int) pa_nil)))) (pss_one (ps_ret (pe_tup (pa_cons (pe_ix ix_list (pe_lst (pa_cons pe_str (pa_cons pe_str (pa_cons pe_str (pa_cons pe_str (pa_cons pe_str pa_nil)))))) (pe_op op_sub (pv 2) pe_int) (fun _ _ => rfl)) (pa_cons (pv 3) (pa_cons (pe_call D__law_told.G hr (by rfl) D__law_told.g D__law_told.k D__law_told.b .nil pass0 (pa_cons (pv 0) (pa_cons (pe_op op_sub (pv 1) pe_int) pa_nil))) pa_nil))))))))), ?_⟩
  walk_at "go"
  refine use_taken L (by decide) (by decide) fun r H1 a0 a1 e1 L1 => ?_
  have leaf : ∀ (Hx : Hp), KB s H Hx → LS K c ns xs s na nm Hx → ∀ (m : Int) (p : Addr), -1000000000000 < m → m < 1000000000000 → Hx p = none → Q (.ref p) (upd Hx p (.tup [.str "num", .int m])) := fun Hx ex Lx m p b0 b1 np =>
    q _ (.num m) _ (ex.trans (.of (same_new np))) (Lx.same (same_new np)) ⟨p, rfl, sqt upd_same⟩ ⟨b0, b1⟩ h0
  walk_at "go"
  refine or_cut (d = 0) (fun hc => ?_) (fun c1 back => ?_)
  · walk_at "go"
    refine g_I (by decide) ?_
    walk_at "go"
    obtain ⟨n1, re1, mx1, hs1, _⟩ := L1.st
    refine and_cut (0 < (xs.length : Int)) (fun hc => ?_) (fun c1 back => ?_)
    · walk_at "go"
      refine use_number L1 fun m H2 b0 b1 e2 L2 => ?_
      walk_at "go"
      refine ⟨by show 2 ≤ sizeLine; decide, fun p np => ?_⟩
      exact leaf H2 (e1.trans e2) L2 m p b0 b1 np
    · walk_at "go"
      refine g_key hs1 (by rfl) ?_
      walk_at "go"
      refine ⟨_, _, rfl, .inl L1.nms, ?_⟩
      walk_at "go"
      rw [List.length_map]
      refine ifd (fun c2 => ?_) back
      walk_at "go"
      refine g_key hs1 (by rfl) ?_
      walk_at "go"
      refine g_key hs1 (by rfl) ?_
      walk_at "go"
      refine ⟨_, _, rfl, .inl L1.nms, ?_⟩
      walk_at "go"
      rw [List.length_map]
      have few := L1.few
      refine use_taken L1 c2 (by omega) fun j H2 b0 b1 e2 L2 => ?_
      have hj : j.toNat < xs.length := by omega
      refine ⟨_, _, _, .str xs[j.toNat], rfl, rfl, L2.nms, at_of (j := j.toNat) (by omega) (by rw [List.getElem?_map, List.getElem?_eq_getElem hj]; rfl), ?_⟩
      walk_at "go"
      refine ⟨by show 2 ≤ sizeLine; decide, fun p np => ?_⟩
      exact q _ (.read xs[j.toNat]) _ ((e1.trans e2).trans (.of (same_new np))) (L2.same (same_new np)) ⟨p, rfl, sqt upd_same⟩ (List.getElem_mem hj) h0
  · walk_at "go"
    refine ifd back (fun c2 => ?_)
    walk_at "go"
    refine use_told L1 (by omega) (by omega) fun u t1 H2 e2 L2 d1 i1 p1 => ?_
    walk_at "go"
    refine ⟨by show 5 ≤ sizeLine; decide, fun p np => ?_⟩
    walk_at "go"
    obtain ⟨o, ho⟩ := op_at (i := r - 3) (by omega) (by omega)
    refine ⟨_, opWords, _, _, rfl, rfl, sql upd_same, ho, ?_⟩
    have s3 := same_new (o := .lst opWords) np
    have L3 := L2.same s3
    walk_at "go"
    refine use_told L3 (by omega) (by omega) fun z t2 H4 e4 L4 d2 i2 p2 => ?_
    walk_at "go"
    refine ⟨by show 3 ≤ sizeLine; decide, fun p' np' => ?_⟩
    have s5 := same_new (o := .tup [.str o.word, u, z]) np'
    refine q _ (.bin o t1 t2) _ ((((e1.trans e2).trans (.of s3)).trans e4).trans (.of s5)) (L4.same s5) ⟨p', u, z, rfl, sqt upd_same, ?_, ?_⟩ ⟨i1, i2⟩ ?_
    · exact DN.tm (((TM.of s3).trans (L3.tm e4)).trans (.of s5)) d1
    · exact DN.tm (.of s5) d2
    · show ((max t1.deep t2.deep + 1 : Nat) : Int) ≤ d
      omega
theorem none_told {f : Addr} {fd : FuncData} : FnOk P w K mg base CX0 0 f fd ["_law_s", "_law_deep"] (spTold K 0) := by
  have no : ∀ vs H Q E, ¬ spTold K 0 vs H Q E := fun vs H Q E h => by
    obtain ⟨c, ns, xs, s, na, nm, d, _, _, h0, h1, _⟩ := h
    omega
  exact ⟨fun vs H Q E h => absurd h (no vs H Q E), fun A outer s H args us vs Q E _ _ _ _ h => absurd h (no vs H Q E)⟩
end

/-! ### rows -/
structure RowOk (xs : List Str) (kvs : List (Key × V)) : Prop where
  nd : (kvs.map (·.1)).Nodup
  all : ∀ p ∈ kvs, ∃ (x : Str) (n : Int), p = (.inr x, .int n) ∧ -1000000000000 < n ∧ n < 1000000000000
  has : ∀ x ∈ xs, ∃ n : Int, valV kvs (.inr x) = some (.int n)
theorem valV_mem {kvs : List (Key × V)} {k : Key} {v : V} (h : valV kvs k = some v) : (k, v) ∈ kvs := by
  unfold valV at h
  obtain ⟨p, hp, e⟩ := Option.map_eq_some_iff.mp h
  have m := List.mem_of_find?_eq_some hp
  have q : p.1 = k := of_decide_eq_true (List.find?_some (p := fun kv : Key × V => decide (kv.1 = k)) hp)
  rw [← q, ← e]
  exact m
theorem valV_of_mem : ∀ {kvs : List (Key × V)} {p : Key × V}, (kvs.map (·.1)).Nodup → p ∈ kvs → valV kvs p.1 = some p.2
  | q :: r, p, nd, m => by
    obtain ⟨h1, h2⟩ := List.nodup_cons.mp nd
    rcases List.mem_cons.mp m with e | m
    · subst e
      exact valV_pos rfl
    · have : ¬ q.1 = p.1 := fun e => h1 (List.mem_map.mpr ⟨p, m, e.symm⟩)
      rw [valV_neg this]
      exact valV_of_mem h2 m
theorem putK_len {kvs : List (Key × V)} {k : Key} {v : V} : (putK kvs k v).length ≤ kvs.length + 1 := length_putK kvs k v
theorem valV_putK {kvs : List (Key × V)} {k j : Key} {v : V} : valV (putK kvs k v) j = if j = k then some v else valV kvs j := by
  unfold putK
  rw [valV_any]
  cases h : valV kvs k with
  | none =>
    rw [if_neg (by simp)]
    exact valV_snoc k j v kvs h
  | some u =>
    rw [if_pos (by simp), valV_map]
    by_cases e : j = k
    · rw [if_pos e, e, h]
      simp
    · rw [if_neg e]
      cases valV kvs j <;> simp [e]
theorem putK_keys {kvs : List (Key × V)} {k : Key} {v : V} (h : (kvs.map (·.1)).Nodup) : ((putK kvs k v).map (·.1)).Nodup := by
  cases e : valV kvs k with
  | none => exact nd_putK v h e
  | some u =>
    unfold putK
    rw [valV_any, e, if_pos (by rfl)]
    have : (kvs.map fun kv => if kv.1 = k then (kv.1, v) else kv).map (·.1) = kvs.map (·.1) := by
      rw [List.map_map]
      apply List.map_congr_left
      intro p _
      show (if p.1 = k then (p.1, v) else p).1 = p.1
      split <;> rfl
    rw [this]
    exact h
theorem putK_mem {kvs : List (Key × V)} {k : Key} {v : V} {p : Key × V} (h : p ∈ putK kvs k v) : p = (k, v) ∨ p ∈ kvs := by
  unfold putK at h
  split at h
  · obtain ⟨q, hq, e⟩ := List.mem_map.mp h
    split at e
    · rename_i z
      rw [← e, z]
      exact .inl rfl
    · rw [← e]
      exact .inr hq
  · rcases List.mem_append.mp h with h | h
    · exact .inr h
    · exact .inl (List.mem_singleton.mp h)
theorem RowOk.nil : RowOk [] [] := ⟨List.nodup_nil, fun p h => absurd h List.not_mem_nil, fun x h => absurd h List.not_mem_nil⟩
theorem RowOk.put {xs : List Str} {kvs : List (Key × V)} (h : RowOk xs kvs) (x : Str) {n : Int} (h0 : -1000000000000 < n) (h1 : n < 1000000000000) : RowOk (xs ++ [x]) (putK kvs (.inr x) (.int n)) := by
  refine ⟨putK_keys h.nd, fun p hp => ?_, fun y hy => ?_⟩
  · rcases putK_mem hp with e | hp
    · exact ⟨x, n, e, h0, h1⟩
    · exact h.all p hp
  · rw [valV_putK]
    by_cases e : (Sum.inr y : Key) = Sum.inr x
    · rw [if_pos e]
      exact ⟨n, rfl⟩
    · rw [if_neg e]
      rcases List.mem_append.mp hy with hy | hy
      · exact h.has y hy
      · rw [List.mem_singleton.mp hy] at e
        exact absurd rfl e
/-- a row of the names xs stands at d, apart from s -/
def RowAt (xs : List Str) (s : Addr) (H : Hp) (d : Addr) : Prop := d ≠ s ∧ ∃ kvs, H d = some (.dK kvs) ∧ RowOk xs kvs
theorem RowAt.kb {xs : List Str} {s : Addr} {H H' : Hp} {d : Addr} (e : KB s H H') (h : RowAt xs s H d) : RowAt xs s H' d := by
  obtain ⟨n, kvs, h1, h2⟩ := h
  exact ⟨n, kvs, e _ _ n h1, h2⟩
def spRows (K : PySem.W.Frag) : Sp := fun vs H Q _ => ∃ (c : Cfg) (ns : List Int) (xs : List Str) (s na nm : Addr) (d : Nat), vs = [.ref s, .int d] ∧ LS K c ns xs s na nm H ∧ d ≤ 1000 ∧
  ∀ (p : Addr) (rs : List Addr) (H' : Hp), KB s H H' → LS K c ns xs s na nm H' → H' p = some (.lst (rs.map V.ref)) → rs.length = d → (∀ r ∈ rs, RowAt xs s H' r) → Q (.ref p) H'
theorem use_rows {K : PySem.W.Frag} {c : Cfg} {ns : List Int} {xs : List Str} {s na nm : Addr} {d : Nat} {j : Int} {H : Hp} {Q : VK} {E : XK} (L : LS K c ns xs s na nm H) (hj : j = d) (h : d ≤ 1000)
    (q : ∀ (p : Addr) (rs : List Addr) (H' : Hp), KB s H H' → LS K c ns xs s na nm H' → H' p = some (.lst (rs.map V.ref)) → rs.length = d → (∀ r ∈ rs, RowAt xs s H' r) → Q (.ref p) H') :
    spRows K ([.ref s, .int j] ++ []) H Q E := ⟨c, ns, xs, s, na, nm, d, by rw [hj]; rfl, L, h, q⟩
section
variable {P : Program} {w : World} {K : PySem.W.Frag} {mg : Str → Option Value} {base : Heap}
abbrev s__law_rows : Stmt := topS 9
theorem sc__law_rows : FnScope ["_law_s", "_law_hours", "_law_rows_here", "_law_hour", "_law_row", "_law_name"] ["_law_s", "_law_hours"] (defScope s__law_rows) := ⟨rfl, rfl, rfl, by decide +kernel, rfl, by decide +kernel, by decide +kernel⟩
theorem h__law_rows {k : Nat} {f : Addr} {fd : FuncData} (O : Own K mg "_law_rows" s__law_rows ["_law_s", "_law_hours"] f fd)  {f__law_number : Addr} {fd__law_number : FuncData} (D__law_number : Has P w K mg base "_law_number" ["_law_s"] k CX0 (spNumber K) f__law_number fd__law_number) (m_range : mg "range" = none) : Has P w K mg base "_law_rows" ["_law_s", "_law_hours"] (k + 1) CX0 (spRows K) f fd := by
  refine O.has (O.F.ok sc__law_rows (fun vs H Q E h => ?_) (fun cdv A outer s H vs Q E hr h => ?_))
  · obtain ⟨c, ns, xs, s, na, nm, d, rfl, _⟩ := h
    rfl
  obtain ⟨c, ns, xs, s, na, nm, d, rfl, L, hd, q⟩ := h
  refine ⟨_, (pss_cons (ps_set (i := 2) sc__law_rows.nd rfl (.inl rfl) (pe_lst pa_nil)) (pss_cons (ps_for PassesOwn.never rfl (pi_range1 (by rfl) m_range (pa_cons (pv 1) pa_nil)) (pg_name (i := 3) sc__law_rows.nd rfl (.inl rfl)) (pss_cons (ps_set (i := 4) sc__law_rows.nd rfl (.inl rfl) pe_dnewK) (pss_cons (ps_for PassesOwn.never rfl (pi_list (pe_dget (hu_of hr) (pv 0) pe_str (fun _ _ => rfl))) (pg_name (i := 5) sc__law_rows.nd rfl (.inl rfl)) (pss_one (ps_dput (hu_of hr) (pv 4) (pv 5) (pe_call D__law_number.G hr (by rfl) D__law_number.g D__law_number.k D__law_number.b .nil pass0 (pa_cons (pv 0) pa_nil)) (by rfl)))) (pss_one (ps_expr (pe_bm PySem.F.plainAttrs_list PySem.F.slot_list_append PySem.F.type_list_append mt_append (pv 2) (pa_cons (pv 4) pa_nil))))))) (pss_one (ps_ret (pv 2))))), ?_⟩
  walk_at "go"
  refine ⟨by show 0 ≤ sizeLine; decide, fun p np => ?_⟩
  have s1 := same_new (o := .lst []) np
  have L1 := L.same s1
  have hps : p ≠ s := fun z => by
    obtain ⟨n, re, mx, h, _⟩ := L.st
    rw [z, h] at np
    cases np
  walk_at "go"
  refine ⟨by omega, by omega, for_range (lo := 0) (n := d) (fun i σ H3 => ∃ y3 y4 y5, σ = [some (.ref s), some (.int d), some (.ref p), y3, y4, y5] ∧ ∃ rs : List Addr, H3 p = some (.lst (rs.map V.ref)) ∧ rs.length = i ∧ (∀ r ∈ rs, RowAt xs s H3 r) ∧ LS K c ns xs s na nm H3 ∧ KB s H H3)
    ⟨none, none, none, rfl, [], upd_same, rfl, fun r h => absurd h List.not_mem_nil, L1, .of s1⟩ (fun i σ H3 hi hW => ?_) (fun σ H3 hW => ?_)⟩
  · obtain ⟨y3, y4, y5, rfl, rs, hp3, hlen, hrs, L3, e3⟩ := hW
    walk_at "go"
    intro r nr
    have s4 := same_new (o := .dK []) nr
    have L4 := L3.same s4
    have hrs4 : r ≠ s := fun z => by
      obtain ⟨n, re, mx, h, _⟩ := L3.st
      rw [z, h] at nr
      cases nr
    have hrp : p ≠ r := ne_of_none hp3 nr
    obtain ⟨n4, re4, mx4, hs4, _⟩ := L4.st
    walk_at "go"
    refine g_key hs4 (by rfl) ?_
    walk_at "go"
    refine ⟨⟨_, L4.nms⟩, for_list (xs := xs.map V.str) (fun j σ H5 => ∃ y5, σ = [some (.ref s), some (.int d), some (.ref p), some (.int (0 + i)), some (.ref r), y5] ∧ ∃ kvs, H5 r = some (.dK kvs) ∧ RowOk (xs.take j) kvs ∧ kvs.length ≤ j ∧ H5 p = some (.lst (rs.map V.ref)) ∧ (∀ r ∈ rs, RowAt xs s H5 r) ∧ LS K c ns xs s na nm H5 ∧ KB s H H5)
      ⟨y5, rfl, [], upd_same, RowOk.nil, Nat.le_refl _, by rw [upd_ne hrp]; exact hp3, fun z hz => (hrs z hz).kb (.of s4), L4, e3.trans (.of s4)⟩ (fun j σ H5 hj hW => ?_) (fun j x σ H5 hx hW => ?_) (fun σ H5 hW => ?_)⟩
    · obtain ⟨y5, rfl, kvs, h1, h2, h3, h4, h5, L5, e5⟩ := hW
      exact L5.nms
    · obtain ⟨y5, rfl, kvs, h1, h2, h3, h4, h5, L5, e5⟩ := hW
      rw [List.getElem?_map] at hx
      obtain ⟨x', hx', rfl⟩ := Option.map_eq_some_iff.mp hx
      have few := L5.few
      have hjl : j < xs.length := (List.getElem?_eq_some_iff.mp hx').1
      walk_at "go"
      refine use_number L5 fun m H6 b0 b1 e6 L6 => ?_
      walk_at "go"
      have h16 := e6 _ _ hrs4 h1
      refine g_put h16 (Nat.lt_of_le_of_lt h3 (Nat.lt_of_lt_of_le (by omega : j < 1000) (by decide))) (by rfl) ?_
      have e7 : ∀ a o, a ≠ r → H6 a = some o → upd H6 r (.dK (putK kvs (.inr x') (.int m))) a = some o := fun a o n h => by rw [upd_ne n]; exact h
      have hrl : ¬ r ∈ rs := fun m => by
        have z := hrs r m
        obtain ⟨_, k0, z, _⟩ := z
        rw [z] at nr
        cases nr
      obtain ⟨n6, re6, mx6, hs6, bds⟩ := L6.st
      refine ⟨some (.str x'), rfl, putK kvs (.inr x') (.int m), upd_same, ?_, Nat.le_trans putK_len (by omega), ?_, fun z hz => ?_, ?_, ?_⟩
      · rw [List.take_add_one, hx']
        exact h2.put x' b0 b1
      · exact e7 _ _ hrp (e6 _ _ hps h4)
      · obtain ⟨zs, k0, z1, z2⟩ := (h5 z hz).kb e6
        exact ⟨zs, k0, e7 _ _ (fun y => hrl (by rw [← y]; exact hz)) z1, z2⟩
      · exact ⟨⟨n6, re6, mx6, e7 _ _ (fun y => hrs4 y.symm) hs6, bds⟩, KB.seq (s := r) (fun a o n h => e7 a o n h) h16 L6.num, KB.seq (s := r) (fun a o n h => e7 a o n h) h16 L6.nms, L6.ok, L6.len, L6.few⟩
      · intro a o n h
        by_cases hz : a = r
        · rw [hz] at h
          have := e3 _ _ hrs4 h
          rw [nr] at this
          cases this
        · exact e7 a o hz ((e5.trans e6) a o n h)
    · obtain ⟨y5, rfl, kvs, h1, h2, h3, h4, h5, L5, e5⟩ := hW
      rw [List.length_map, List.take_length] at h2
      walk_at "go"
      refine ⟨.inl ⟨rfl, _, sql h4⟩, ?_⟩
      walk_at "go"
      refine ⟨p, _, _, rfl, rfl, h4, by rw [List.length_map]; exact small1000 (by omega), ?_⟩
      have hlp : ∀ a o, a ≠ p → H5 a = some o → upd H5 p (.lst (rs.map V.ref ++ [.ref r])) a = some o := fun a o n h => by rw [upd_ne n]; exact h
      obtain ⟨n5, re5, mx5, hs5, bds⟩ := L5.st
      refine ⟨some (.int (0 + i)), some (.ref r), y5, rfl, rs ++ [r], ?_, by simp [hlen], fun z hz => ?_, ?_, ?_⟩
      · rw [upd_same, List.map_append]
        rfl
      · rcases List.mem_append.mp hz with hz | hz
        · obtain ⟨zs, k0, z1, z2⟩ := h5 z hz
          exact ⟨zs, k0, hlp _ _ (ne_of z1 h4 (fun y => by cases y)) z1, z2⟩
        · rw [List.mem_singleton.mp hz]
          exact ⟨hrs4, kvs, hlp _ _ (fun y => hrp y.symm) h1, h2⟩
      · have hlk : ∀ {b : Addr} {ys : List V}, b ≠ p → SqL K H5 b ys → SqL K (upd H5 p (.lst (rs.map V.ref ++ [.ref r]))) b ys := fun {b ys} n z => by
          rcases z with (z | ⟨o, z⟩) | z
          · exact .inl (.inl (hlp _ _ n z))
          · exact .inl (.inr ⟨o, hlp _ _ n z⟩)
          · exact .inr z
        have apart : ∀ {b : Addr} {ys : List V}, SqL K H b ys → SqL K H5 b ys → SqL K (upd H5 p (.lst (rs.map V.ref ++ [.ref r]))) b ys := fun {b ys} y z => by
          rcases y with (y | ⟨o, y⟩) | y
          · exact hlk (ne_of_none y np) z
          · exact hlk (ne_of_none y np) z
          · exact .inr y
        exact ⟨⟨n5, re5, mx5, hlp _ _ hps.symm hs5, bds⟩, apart L.num L5.num, apart L.nms L5.nms, L5.ok, L5.len, L5.few⟩
      · intro a o n h
        have z := e5 a o n h
        exact hlp a o (ne_of_none h np) z
  · obtain ⟨y3, y4, y5, rfl, rs, hp3, hlen, hrs, L3, e3⟩ := hW
    walk_at "go"
    exact q p rs H3 e3 L3 hp3 hlen hrs
end

/-! ### the drawing's beginning -/
def spBegun (K : PySem.W.Frag) : Sp := fun vs H Q _ => ∃ (ns : List Int) (na : Addr), vs = [.ref na] ∧ SqL K H na (ns.map V.int) ∧ ns.length ≤ 63 ∧
  ∀ (c : Cfg) (s nm : Addr) (H' : Hp), Same H H' → H s = none → LS K c ns [] s na nm H' → Q (.ref s) H'
theorem use_begun {K : PySem.W.Frag} {ns : List Int} {na : Addr} {H : Hp} {Q : VK} {E : XK} (h : SqL K H na (ns.map V.int)) (hl : ns.length ≤ 63)
    (q : ∀ (c : Cfg) (s nm : Addr) (H' : Hp), Same H H' → H s = none → LS K c ns [] s na nm H' → Q (.ref s) H') : spBegun K ([.ref na] ++ []) H Q E := ⟨ns, na, rfl, h, hl, q⟩
def sd0 (na : Addr) : List (Key × V) :=
  [(.inr "numbers", .ref na), (.inr "at", .int 0), (.inr "size", .int 1), (.inr "place", .int 0), (.inr "turn", .int 0), (.inr "talk", .int 0), (.inr "rest", .int 0)]
def cfg0 : Cfg := ⟨1, 0, 0, 0⟩
theorem cfg0_ok : cfg0.Ok := ⟨by decide, by decide, by decide, by decide, by decide, by decide, .inl rfl⟩
/-- a number of the dict is set anew -/
theorem LS.cfg {K : PySem.W.Frag} {c c' : Cfg} {ns : List Int} {xs : List Str} {s na nm : Addr} {H : Hp} {n re mx : Int} (L : LS K c ns xs s na nm H) (h0 : 0 ≤ n) (h1 : 0 ≤ re) (h2 : 0 ≤ mx) (h3 : mx < 2147483647) (ok : c'.Ok) :
    LS K c' ns xs s na nm (upd H s (.dK (sd c' na nm n re mx))) := by
  obtain ⟨⟨n', re', mx', h, r⟩, g1, g2, g3, g4, g5⟩ := L
  exact ⟨⟨n, re, mx, upd_same, h0, h1, h2, h3⟩, KB.seq KB.upd h g1, KB.seq KB.upd h g2, ok, g4, g5⟩
theorem same_kb {s : Addr} {H H1 H2 : Hp} (a : Same H H1) (n : H s = none) (b : KB s H1 H2) : Same H H2 := fun x o h => b x o (ne_of_none h n) (a x o h)
section
variable {P : Program} {w : World} {K : PySem.W.Frag} {mg : Str → Option Value} {base : Heap}
abbrev s__law_begun : Stmt := topS 4
theorem sc__law_begun : FnScope ["_law_script", "_law_mixed", "_law_cell", "_law_s"] ["_law_script"] (defScope s__law_begun) := ⟨rfl, rfl, rfl, by decide +kernel, rfl, by decide +kernel, by decide +kernel⟩
theorem h__law_begun {k : Nat} {f : Addr} {fd : FuncData} (O : Own K mg "_law_begun" s__law_begun ["_law_script"] f fd)  {f__law_taken : Addr} {fd__law_taken : FuncData} (D__law_taken : Has P w K mg base "_law_taken" ["_law_s", "_law_most"] k CX0 (spTaken K) f__law_taken fd__law_taken) (m_int : mg "int" = none) (m_len : mg "len" = none) : Has P w K mg base "_law_begun" ["_law_script"] (k + 1) CX0 (spBegun K) f fd := by
  refine O.has (O.F.ok sc__law_begun (fun vs H Q E h => ?_) (fun cdv A outer s H vs Q E hr h => ?_))
  · obtain ⟨ns, na, rfl, _⟩ := h
    rfl
  obtain ⟨ns, na, rfl, hS, h63, q⟩ := h
  refine ⟨_, (pss_cons (ps_set (i := 1) sc__law_begun.nd rfl (.inl rfl) pe_int) (pss_cons (ps_for PassesOwn.never rfl (pi_list (pv 0)) (pg_name (i := 2) sc__law_begun.nd rfl (.inl rfl)) (pss_one (ps_set (i := 1) sc__law_begun.nd rfl (.inl rfl) (pe_op op_mod (pe_op op_add (pe_op op_add (pe_op op_mul (pv 1) pe_int) (pe_op op_mul (pv 2) pe_int)) pe_int) pe_int)))) (pss_cons (ps_set (i := 3) sc__law_begun.nd rfl (.inl rfl) (pe_disp (pps_cons pe_str (pv 0) (pps_cons pe_str pe_int (pps_cons pe_str pe_int (pps_cons pe_str pe_int (pps_cons pe_str pe_int (pps_cons pe_str pe_int (pps_cons pe_str pe_int pps_nil))))))) (by rfl) (by rfl) (fun z => by cases z) (by decide))) (pss_cons (ps_dput (hu_of hr) (pv 3) pe_str (pe_lst pa_nil) (by rfl)) (pss_cons (ps_dput (hu_of hr) (pv 3) pe_str (pe_op op_mul (pv 1) (pe_callTy call_int1 (by rfl) m_int (by decide +kernel) (pa_cons (pe_cmpR op_gt (pe_callB call_len_seq (by rfl) m_len (by decide +kernel) (pa_cons (pv 0) pa_nil)) pe_int (nomark _)) pa_nil))) (by rfl)) (pss_cons (ps_dput (hu_of hr) (pv 3) pe_str (pe_op op_add pe_int (pe_call D__law_taken.G hr (by rfl) D__law_taken.g D__law_taken.k D__law_taken.b .nil pass0 (pa_cons (pv 3) (pa_cons pe_int pa_nil)))) (by rfl)) (pss_cons (ps_dput (hu_of hr) (pv 3) pe_str (pe_call D__law_taken.G hr (by rfl) D__law_taken.g D__law_taken.k D__law_taken.b .nil pass0 (pa_cons (pv 3) (pa_cons (pe_dget (hu_of hr) (pv 3) pe_str (fun _ _ => rfl)) pa_nil))) (by rfl)) (pss_cons (ps_dput (hu_of hr) (pv 3) pe_str (pe_call D__law_taken.G hr (by rfl) D__law_taken.g D__law_taken.k D__law_taken.b .nil pass0 (pa_cons (pv 3) (pa_cons pe_int pa_nil))) (by rfl)) (pss_cons (ps_dput (hu_of hr) (pv 3) pe_str (pe_callTy call_int1 (by rfl) m_int (by decide +kernel) (pa_cons (pe_cmpR op_eq (pe_call D__law_taken.G hr (by rfl) D__law_taken.g D__law_taken.k D__law_taken.b .nil pass0 (pa_cons (pv 3) (pa_cons pe_int pa_nil))) pe_int (nomark _)) pa_nil)) (by rfl)) (pss_one (ps_ret (pv 3)))))))))))), ?_⟩
  walk_at "go"
  refine ⟨⟨_, hS⟩, for_list (xs := ns.map V.int) (fun i σ H3 => H3 = H ∧ ∃ (m : Int) (y : Option V), σ = [some (.ref na), some (.int m), y, none] ∧ 0 ≤ m ∧ m < 2147483647)
    ⟨rfl, 0, none, rfl, by decide, by decide⟩ (fun i σ H3 hi hW => ?_) (fun i x σ H3 hx hW => ?_) (fun σ H3 hW => ?_)⟩
  · obtain ⟨rfl, _⟩ := hW
    exact hS
  · obtain ⟨rfl, m, y, rfl, m0, m1⟩ := hW
    rw [List.getElem?_map] at hx
    obtain ⟨z, hz, rfl⟩ := Option.map_eq_some_iff.mp hx
    walk_at "go"
    refine g_I (.inl (by omega)) ?_
    walk_at "go"
    refine g_I (.inr (by decide)) ?_
    walk_at "go"
    refine g_I (by decide) ?_
    walk_at "go"
    exact ⟨Int.emod_nonneg _ (by decide), Int.emod_lt_of_pos _ (by decide)⟩
  obtain ⟨rfl, m, y, rfl, m0, m1⟩ := hW
  walk_at "go"
  intro s nsn
  walk_at "go"
  refine ⟨upd_same, sd0 na, rfl, by show 7 ≤ 15; decide, ?_⟩
  rw [upd_upd]
  have s1 := same_new (o := .dK (sd0 na)) nsn
  have hs1 : (upd H3 s (.dK (sd0 na))) s = some (.dK (sd0 na)) := upd_same
  show _
  walk_at "go"
  refine ⟨by show 0 ≤ sizeLine; decide, fun nm nn => ?_⟩
  walk_at "go"
  have s2 := same_new (o := .lst []) nn
  have hsn : s ≠ nm := ne_of_none hs1 nn
  refine g_put (s2 _ _ hs1) (by show 7 < sizeLine; decide) (by rfl) ?_
  walk_at "go"
  refine ⟨_, _, rfl, .inl (KB.seq KB.upd (s2 _ _ hs1) ((s1.trans s2).seq hS)), ?_⟩
  walk_at "go"
  refine .inr ⟨_, rfl, ?_⟩
  refine g_I (.inl (by omega)) ?_
  walk_at "go"
  refine g_put upd_same (by show 8 < sizeLine; decide) (by rfl) ?_
  rw [upd_upd]
  have hmx : 0 ≤ m * (if decide (2 < (((ns.map V.int).length : Nat) : Int)) = true then 1 else 0) ∧ m * (if decide (2 < (((ns.map V.int).length : Nat) : Int)) = true then 1 else 0) < 2147483647 := by
    split <;> omega
  generalize m * (if decide (2 < (((ns.map V.int).length : Nat) : Int)) = true then 1 else 0) = mx at hmx ⊢
  have L1 : LS K cfg0 ns [] s na nm (upd (upd (upd H3 s (.dK (sd0 na))) nm (.lst [])) s (.dK (sd cfg0 na nm 0 0 mx))) :=
    ⟨⟨0, 0, mx, upd_same, by decide, by decide, hmx.1, hmx.2⟩, KB.seq KB.upd (s2 _ _ hs1) ((s1.trans s2).seq hS), sql (by rw [upd_ne hsn.symm]; exact upd_same), cfg0_ok, h63, by decide⟩
  have e1 : Same H3 (upd (upd (upd H3 s (.dK (sd0 na))) nm (.lst [])) s (.dK (sd cfg0 na nm 0 0 mx))) := same_kb (s1.trans s2) nsn KB.upd
  show tSeq _ _ _ _ (upd (upd (upd H3 s (.dK (sd0 na))) nm (.lst [])) s (.dK (sd cfg0 na nm 0 0 mx)))
  generalize upd (upd (upd H3 s (.dK (sd0 na))) nm (.lst [])) s (.dK (sd cfg0 na nm 0 0 mx)) = H4 at L1 e1 ⊢
  -- size
  walk_at "go"
  refine use_taken L1 (by decide) (by decide) fun a H5 a0 a1 e5 L5 => ?_
  walk_at "go"
  obtain ⟨n5, re5, mx5, hs5, g0, g1, g2, g3⟩ := L5.st
  refine g_put hs5 (by show 9 < sizeLine; decide) (by rfl) ?_
  have L6 := L5.cfg (c' := ⟨1 + a, 0, 0, 0⟩) g0 g1 g2 g3 ⟨by show 1 ≤ 1 + a; omega, by show 1 + a ≤ 8; omega, Int.le_refl 0, by show 0 < 1 + a; omega, Int.le_refl 0, (by decide : (0 : Int) < 26), .inl rfl⟩
  have hs6 : upd H5 s (.dK (sd ⟨1 + a, 0, 0, 0⟩ na nm n5 re5 mx5)) s = some (.dK (sd ⟨1 + a, 0, 0, 0⟩ na nm n5 re5 mx5)) := upd_same
  have e6 : KB s H4 (upd H5 s (.dK (sd ⟨1 + a, 0, 0, 0⟩ na nm n5 re5 mx5))) := e5.trans KB.upd
  -- place
  walk_at "go"
  refine g_key hs6 (by rfl) ?_
  walk_at "go"
  refine use_taken L6 (by show 0 < 1 + a; omega) (by show 1 + a ≤ 10000000000000; omega) fun b H7 b0 b1 e7 L7 => ?_
  walk_at "go"
  obtain ⟨n7, re7, mx7, hs7, i0, i1, i2, i3⟩ := L7.st
  refine g_put hs7 (by show 9 < sizeLine; decide) (by rfl) ?_
  have L8 := L7.cfg (c' := ⟨1 + a, b, 0, 0⟩) i0 i1 i2 i3 ⟨by show 1 ≤ 1 + a; omega, by show 1 + a ≤ 8; omega, b0, b1, Int.le_refl 0, (by decide : (0 : Int) < 26), .inl rfl⟩
  -- turn
  walk_at "go"
  refine use_taken L8 (by decide) (by decide) fun t H9 t0 t1 e9 L9 => ?_
  walk_at "go"
  obtain ⟨n9, re9, mx9, hs9, j0, j1, j2, j3⟩ := L9.st
  refine g_put hs9 (by show 9 < sizeLine; decide) (by rfl) ?_
  have L10 := L9.cfg (c' := ⟨1 + a, b, t, 0⟩) j0 j1 j2 j3 ⟨by show 1 ≤ 1 + a; omega, by show 1 + a ≤ 8; omega, b0, b1, t0, t1, .inl rfl⟩
  -- talk
  walk_at "go"
  refine use_taken L10 (by decide) (by decide) fun u H11 u0 u1 e11 L11 => ?_
  walk_at "go"
  refine .inr ⟨_, rfl, ?_⟩
  walk_at "go"
  obtain ⟨n11, re11, mx11, hs11, k0, k1, k2, k3⟩ := L11.st
  refine g_put hs11 (by show 9 < sizeLine; decide) (by rfl) ?_
  have L12 := L11.cfg (c' := ⟨1 + a, b, t, if decide (u = 8) = true then 1 else 0⟩) k0 k1 k2 k3 ⟨by show 1 ≤ 1 + a; omega, by show 1 + a ≤ 8; omega, b0, b1, t0, t1, by
    show (if decide (u = 8) = true then (1 : Int) else 0) = 0 ∨ (if decide (u = 8) = true then (1 : Int) else 0) = 1
    split
    · exact .inr rfl
    · exact .inl rfl⟩
  walk_at "go"
  refine q _ s nm _ (same_kb e1 nsn ?_) nsn L12
  exact ((((((e6.trans e7).trans KB.upd).trans e9).trans KB.upd).trans e11).trans KB.upd)
end

/-! ### what a number comes to -/
def lk (kvs : List (Key × V)) (x : Str) : Int := match valV kvs (.inr x) with
  | some (.int n) => n
  | _ => 0
def Num.val (kvs : List (Key × V)) : Num → Int
  | .num n => n
  | .read x => lk kvs x
  | .bin o a b => o.app (a.val kvs) (b.val kvs)
theorem lk_at {xs : List Str} {kvs : List (Key × V)} {x : Str} (h : RowOk xs kvs) (hx : x ∈ xs) : valV kvs (.inr x) = some (.int (lk kvs x)) ∧ -1000000000000 < lk kvs x ∧ lk kvs x < 1000000000000 := by
  obtain ⟨n, hn⟩ := h.has x hx
  have e : lk kvs x = n := by unfold lk; rw [hn]
  rw [e]
  refine ⟨hn, ?_⟩
  obtain ⟨y, m, h1, h2, h3⟩ := h.all _ (valV_mem hn)
  have e2 : n = m := V.int.inj (Prod.mk.inj h1).2
  rw [e2]
  exact ⟨h2, h3⟩
theorem app_bits {o : Op} {a b : Int} {n : Nat} (h0 : 0 < n) (ha : a.natAbs < 2 ^ n) (hb : b.natAbs < 2 ^ n) : (o.app a b).natAbs < 2 ^ (n + n) := by
  have h2 : 2 ^ (n + 1) ≤ 2 ^ (n + n) := Nat.pow_le_pow_right (by decide) (by omega)
  have h3 : 2 ^ (n + 1) = 2 * 2 ^ n := by rw [Nat.pow_succ]; omega
  have h4 : 2 ^ n ≤ 2 ^ (n + 1) := Nat.pow_le_pow_right (by decide) (by omega)
  cases o with
  | plus => show (a + b).natAbs < _; omega
  | minus => show (a - b).natAbs < _; omega
  | times => exact wide_lt ha hb
  | most => show (if b > a then b else a).natAbs < _; split <;> omega
  | least => show (if b < a then b else a).natAbs < _; split <;> omega
theorem val_bits {xs : List Str} {kvs : List (Key × V)} (h : RowOk xs kvs) : ∀ {t : Num} {d : Nat}, t.In xs → t.deep ≤ d → (t.val kvs).natAbs < 2 ^ (40 * 2 ^ d)
  | .num n, d, i, _ => by
    have : 40 * 2 ^ 0 ≤ 40 * 2 ^ d := Nat.mul_le_mul (Nat.le_refl _) (Nat.pow_le_pow_right (by decide) (Nat.zero_le d))
    have h1 : 2 ^ 40 ≤ 2 ^ (40 * 2 ^ d) := Nat.pow_le_pow_right (by decide) this
    have i : -1000000000000 < n ∧ n < 1000000000000 := i
    show n.natAbs < _
    omega
  | .read x, d, i, _ => by
    have : 40 * 2 ^ 0 ≤ 40 * 2 ^ d := Nat.mul_le_mul (Nat.le_refl _) (Nat.pow_le_pow_right (by decide) (Nat.zero_le d))
    have h1 : 2 ^ 40 ≤ 2 ^ (40 * 2 ^ d) := Nat.pow_le_pow_right (by decide) this
    have i := (lk_at h i).2
    show (lk kvs x).natAbs < _
    omega
  | .bin o a b, 0, i, p => absurd p (by show ¬ max a.deep b.deep + 1 ≤ 0; omega)
  | .bin o a b, d + 1, i, p => by
    have p : max a.deep b.deep + 1 ≤ d + 1 := p
    have q := app_bits (o := o) (n := 40 * 2 ^ d) (Nat.mul_pos (by decide) (Nat.pow_pos (by decide))) (val_bits h i.1 (by omega)) (val_bits h i.2 (by omega))
    have e : 40 * 2 ^ d + 40 * 2 ^ d = 40 * 2 ^ (d + 1) := by rw [Nat.pow_succ]; omega
    rw [e] at q
    exact q
theorem val_mul {xs : List Str} {kvs : List (Key × V)} (h : RowOk xs kvs) {a b : Num} {d : Nat} (ia : a.In xs) (ib : b.In xs) (pa : a.deep ≤ d) (pb : b.deep ≤ d) (hd : d ≤ 12) : CMulW (a.val kvs) (b.val kvs) := by
  have z : 0 < 40 * 2 ^ d := Nat.mul_pos (by decide) (Nat.pow_pos (by decide))
  have y : 40 * 2 ^ d ≤ 40 * 2 ^ 12 := Nat.mul_le_mul (Nat.le_refl _) (Nat.pow_le_pow_right (by decide) hd)
  exact wide_mul (val_bits h ia pa) (val_bits h ib pb) z z (by omega)
def spReck : Sp := fun vs H Q _ => ∃ (o : Op) (i j : Int), vs = [.str o.word, .int i, .int j] ∧ CMulW i j ∧ Q (.int (o.app i j)) H
/-- a number by a row: read, and nothing changed -/
def spVal (K : PySem.W.Frag) (n : Nat) : Sp := fun vs H Q _ => ∃ (v : V) (d : Addr) (t : Num) (xs : List Str) (kvs : List (Key × V)), vs = [v, .ref d] ∧ DN K H t v ∧ Rd H d (.dK kvs) ∧ RowOk xs kvs ∧ t.In xs ∧ t.deep < n ∧ t.deep ≤ 12 ∧
  ∀ H', Same H H' → Q (.int (t.val kvs)) H'
theorem use_val {K : PySem.W.Frag} {n : Nat} {v : V} {d : Addr} {t : Num} {xs : List Str} {kvs : List (Key × V)} {H : Hp} {Q : VK} {E : XK} (h1 : DN K H t v) (h2 : Rd H d (.dK kvs)) (h3 : RowOk xs kvs) (h4 : t.In xs) (h5 : t.deep < n) (h6 : t.deep ≤ 12)
    (q : ∀ H', Same H H' → Q (.int (t.val kvs)) H') : spVal K n ([v, .ref d] ++ []) H Q E := ⟨v, d, t, xs, kvs, rfl, h1, h2, h3, h4, h5, h6, q⟩
theorem none_val {P : Program} {w : World} {K : PySem.W.Frag} {mg : Str → Option Value} {base : Heap} {f : Addr} {fd : FuncData} {ps : List Str} : FnOk P w K mg base CX0 0 f fd ps (spVal K 0) := by
  have no : ∀ vs H Q E, ¬ spVal K 0 vs H Q E := fun vs H Q E h => by
    obtain ⟨v, d, t, xs, kvs, _, _, _, _, _, h5, _⟩ := h
    omega
  exact ⟨fun vs H Q E h => absurd h (no vs H Q E), fun A outer s H args us vs Q E _ _ _ _ h => absurd h (no vs H Q E)⟩
theorem op_ne1 (o : Op) : o.word ≠ "num" ∧ o.word ≠ "read" := by cases o <;> exact ⟨by decide, by decide⟩
theorem g_keyR {H : Hp} {a : Addr} {kvs : List (Key × V)} {k : Str} {w : V} {R : V → Prop} (hd : Rd H a (.dK kvs)) (hv : valV kvs (.inr k) = some w) (h : R w) :
    ∃ b v, V.ref a = .ref b ∧ DGet H b (.str k) (some v) ∧ R v := ⟨a, w, rfl, .inl ⟨kvs, .inr k, hd, rfl, hv.symm⟩, h⟩
section
variable {P : Program} {w : World} {K : PySem.W.Frag} {mg : Str → Option Value} {base : Heap}
abbrev s_reckoned : Stmt := topS 1
theorem sc_reckoned : FnScope ["word", "first", "second"] ["word", "first", "second"] (defScope s_reckoned) := ⟨rfl, rfl, rfl, by decide +kernel, rfl, by decide +kernel, by decide +kernel⟩
theorem h_reckoned {k : Nat} {f : Addr} {fd : FuncData} (O : Own K mg "reckoned" s_reckoned ["word", "first", "second"] f fd)  (m_min : mg "min" = none) (m_max : mg "max" = none) : Has P w K mg base "reckoned" ["word", "first", "second"] (k + 1) CX0 spReck f fd := by
  refine O.has (O.F.ok sc_reckoned (fun vs H Q E h => ?_) (fun cdv A outer s H vs Q E hr h => ?_))
  · obtain ⟨o, i, j, rfl, _⟩ := h
    rfl
  obtain ⟨o, i, j, rfl, hm, q⟩ := h
  refine ⟨_, (pss_cons (ps_if (pt_cmpR op_eq (pv 0) pe_str (nomark _)) (pss_one (ps_ret (pe_op op_add (pv 1) (pv 2)))) pss_nil) (pss_cons (ps_if (pt_cmpR op_eq (pv 0) pe_str (nomark _)) (pss_one (ps_ret (pe_op op_sub (pv 1) (pv 2)))) pss_nil) (pss_cons (ps_if (pt_cmpR op_eq (pv 0) pe_str (nomark _)) (pss_one (ps_ret (pe_op op_mulW (pv 1) (pv 2)))) pss_nil) (pss_cons (ps_if (pt_cmpR op_eq (pv 0) pe_str (nomark _)) (pss_one (ps_ret (pe_callB (call_max2 rfl) (by rfl) m_max (by decide +kernel) (pa_cons (pv 1) (pa_cons (pv 2) pa_nil))))) pss_nil) (pss_one (ps_ret (pe_callB (call_min2 rfl) (by rfl) m_min (by decide +kernel) (pa_cons (pv 1) (pa_cons (pv 2) pa_nil))))))))), ?_⟩
  cases o <;> (walk_at "go")
  · refine ifd (fun c => ?_) (fun c => absurd rfl c)
    walk_at "go"
    exact q
  · refine ifd (fun c => absurd c (by decide)) (fun c => ?_)
    walk_at "go"
    refine ifd (fun c => ?_) (fun c => absurd rfl c)
    walk_at "go"
    exact q
  · refine ifd (fun c => absurd c (by decide)) (fun c => ?_)
    walk_at "go"
    refine ifd (fun c => absurd c (by decide)) (fun c => ?_)
    walk_at "go"
    refine ifd (fun c => ?_) (fun c => absurd rfl c)
    walk_at "go"
    refine g_I hm ?_
    exact q
  · refine ifd (fun c => absurd c (by decide)) (fun c => ?_)
    walk_at "go"
    refine ifd (fun c => absurd c (by decide)) (fun c => ?_)
    walk_at "go"
    refine ifd (fun c => absurd c (by decide)) (fun c => ?_)
    walk_at "go"
    refine ifd (fun c => ?_) (fun c => absurd rfl c)
    walk_at "go"
    exact q
  · refine ifd (fun c => absurd c (by decide)) (fun c => ?_)
    walk_at "go"
    refine ifd (fun c => absurd c (by decide)) (fun c => ?_)
    walk_at "go"
    refine ifd (fun c => absurd c (by decide)) (fun c => ?_)
    walk_at "go"
    refine ifd (fun c => absurd c (by decide)) (fun c => ?_)
    walk_at "go"
    exact q
abbrev s_number_of : Stmt := topS 2
theorem sc_number_of : FnScope ["told", "row", "word"] ["told", "row"] (defScope s_number_of) := ⟨rfl, rfl, rfl, by decide +kernel, rfl, by decide +kernel, by decide +kernel⟩
theorem h_number_of {n : Nat} {k : Nat} {f : Addr} {fd : FuncData} (O : Own K mg "number_of" s_number_of ["told", "row"] f fd)  {f_reckoned : Addr} {fd_reckoned : FuncData} (D_reckoned : Has P w K mg base "reckoned" ["word", "first", "second"] k CX0 spReck f_reckoned fd_reckoned) {f_number_of : Addr} {fd_number_of : FuncData} (D_number_of : Has P w K mg base "number_of" ["told", "row"] k CX0 (spVal K n) f_number_of fd_number_of) : Has P w K mg base "number_of" ["told", "row"] (k + 1) CX0 (spVal K (n + 1)) f fd := by
  refine O.has (O.F.ok sc_number_of (fun vs H Q E h => ?_) (fun cdv A outer s H vs Q E hr h => ?_))
  · obtain ⟨v, d, t, xs, kvs, rfl, _⟩ := h
    rfl
  obtain ⟨v, d, t, xs, kvs, rfl, hv, hd, hr0, hi, h5, h6, q⟩ := h
  refine ⟨_, (pss_cons (ps_set (i := 2) sc_number_of.nd rfl (.inl rfl) (pe_ix ix_tup (pv 0) pe_int (fun _ _ => rfl))) (pss_cons (ps_if (pt_cmpR op_eq (pv 2) pe_str (nomark _)) (pss_one (ps_ret (pe_ix ix_tup (pv 0) pe_int (fun _ _ => rfl)))) pss_nil) (pss_cons (ps_if (pt_cmpR op_eq (pv 2) pe_str (nomark _)) (pss_one (ps_ret (pe_dget (hu_of hr) (pv 1) (pe_ix ix_tup (pv 0) pe_int (fun _ _ => rfl)) (fun _ _ => rfl)))) pss_nil) (pss_one (ps_ret (pe_call D_reckoned.G hr (by rfl) D_reckoned.g D_reckoned.k D_reckoned.b .nil pass0 (pa_cons (pv 2) (pa_cons (pe_call D_number_of.G hr (by rfl) D_number_of.g D_number_of.k D_number_of.b .nil pass0 (pa_cons (pe_ix ix_tup (pv 0) pe_int (fun _ _ => rfl)) (pa_cons (pv 1) pa_nil))) (pa_cons (pe_call D_number_of.G hr (by rfl) D_number_of.g D_number_of.k D_number_of.b .nil pass0 (pa_cons (pe_ix ix_tup (pv 0) pe_int (fun _ _ => rfl)) (pa_cons (pv 1) pa_nil))) pa_nil))))))))), ?_⟩
  cases t with
  | num m =>
    obtain ⟨a, rfl, ha⟩ := hv
    walk_at "go"
    refine ⟨_, _, _, _, rfl, rfl, ha, at_any (j := 0) rfl rfl, ?_⟩
    walk_at "go"
    refine ifd (fun c => ?_) (fun c => absurd rfl c)
    walk_at "go"
    refine ⟨_, _, _, _, rfl, rfl, ha, at_any (j := 1) rfl rfl, ?_⟩
    exact q H (Same.refl H)
  | read x =>
    obtain ⟨a, rfl, ha⟩ := hv
    walk_at "go"
    refine ⟨_, _, _, _, rfl, rfl, ha, at_any (j := 0) rfl rfl, ?_⟩
    walk_at "go"
    refine ifd (fun c => absurd c (by decide)) (fun c => ?_)
    walk_at "go"
    refine ifd (fun c => ?_) (fun c => absurd rfl c)
    walk_at "go"
    refine ⟨_, _, _, _, rfl, rfl, ha, at_any (j := 1) rfl rfl, ?_⟩
    refine g_keyR hd (lk_at hr0 hi).1 ?_
    exact q H (Same.refl H)
  | bin o t1 t2 =>
    obtain ⟨a, u, z, rfl, ha, hu, hz⟩ := hv
    have p5 : max t1.deep t2.deep + 1 < n + 1 := h5
    have p6 : max t1.deep t2.deep + 1 ≤ 12 := h6
    obtain ⟨hi1, hi2⟩ := hi
    walk_at "go"
    refine ⟨_, _, _, _, rfl, rfl, ha, at_any (j := 0) rfl rfl, ?_⟩
    walk_at "go"
    refine ifd (fun c => absurd c (op_ne1 o).1) (fun c => ?_)
    walk_at "go"
    refine ifd (fun c => absurd c (op_ne1 o).2) (fun c => ?_)
    walk_at "go"
    refine ⟨_, _, _, _, rfl, rfl, ha, at_any (j := 1) rfl rfl, ?_⟩
    walk_at "go"
    refine use_val hu hd hr0 hi1 (by omega) (by omega) fun H1 e1 => ?_
    walk_at "go"
    refine ⟨_, _, _, _, rfl, rfl, SqT.same e1 ha, at_any (j := 2) rfl rfl, ?_⟩
    walk_at "go"
    refine use_val (DN.tm (.of e1) hz) (Rd.same e1 hd) hr0 hi2 (by omega) (by omega) fun H2 e2 => ?_
    walk_at "go"
    exact ⟨o, _, _, rfl, val_mul (d := 11) hr0 hi1 hi2 (by omega) (by omega) (by decide), q H2 (e1.trans e2)⟩
abbrev s__law_value : Stmt := topS 10
theorem sc__law_value : FnScope ["_law_told_here", "_law_row", "_law_word_here", "_law_one", "_law_other"] ["_law_told_here", "_law_row"] (defScope s__law_value) := ⟨rfl, rfl, rfl, by decide +kernel, rfl, by decide +kernel, by decide +kernel⟩
theorem h__law_value {n : Nat} {k : Nat} {f : Addr} {fd : FuncData} (O : Own K mg "_law_value" s__law_value ["_law_told_here", "_law_row"] f fd)  {f__law_value : Addr} {fd__law_value : FuncData} (D__law_value : Has P w K mg base "_law_value" ["_law_told_here", "_law_row"] k CX0 (spVal K n) f__law_value fd__law_value) (m_max : mg "max" = none) (m_min : mg "min" = none) (m_int : mg "int" = none) : Has P w K mg base "_law_value" ["_law_told_here", "_law_row"] (k + 1) CX0 (spVal K (n + 1)) f fd := by
  refine O.has (O.F.ok sc__law_value (fun vs H Q E h => ?_) (fun cdv A outer s H vs Q E hr h => ?_))
  · obtain ⟨v, d, t, xs, kvs, rfl, _⟩ := h
    rfl
  obtain ⟨v, d, t, xs, kvs, rfl, hv, hd, hr0, hi, h5, h6, q⟩ := h
  refine ⟨_, (pss_cons (ps_set (i := 2) sc__law_value.nd rfl (.inl rfl) (pe_ix ix_tup (pv 0) pe_int (fun _ _ => rfl))) (pss_cons (ps_if (pt_cmpR op_eq (pv 2) pe_str (nomark _)) (pss_one (ps_ret (pe_ix ix_tup (pv 0) pe_int (fun _ _ => rfl)))) pss_nil) (pss_cons (ps_if (pt_cmpR op_eq (pv 2) pe_str (nomark _)) (pss_one (ps_ret (pe_dget (hu_of hr) (pv 1) (pe_ix ix_tup (pv 0) pe_int (fun _ _ => rfl)) (fun _ _ => rfl)))) pss_nil) (pss_cons (ps_set (i := 3) sc__law_value.nd rfl (.inl rfl) (pe_call D__law_value.G hr (by rfl) D__law_value.g D__law_value.k D__law_value.b .nil pass0 (pa_cons (pe_ix ix_tup (pv 0) pe_int (fun _ _ => rfl)) (pa_cons (pv 1) pa_nil)))) (pss_cons (ps_set (i := 4) sc__law_value.nd rfl (.inl rfl) (pe_call D__law_value.G hr (by rfl) D__law_value.g D__law_value.k D__law_value.b .nil pass0 (pa_cons (pe_ix ix_tup (pv 0) pe_int (fun _ _ => rfl)) (pa_cons (pv 1) pa_nil)))) (pss_cons (ps_if (pt_cmpR op_eq (pv 2) pe_str (nomark _)) (pss_one (ps_ret (pe_op op_add (pv 3) (pv 4)))) pss_nil) (pss_cons (ps_if (pt_cmpR op_eq (pv 2) pe_str (nomark _)) (pss_one (ps_ret (pe_op op_sub (pv 3) (pv 4)))) pss_nil) (pss_cons (ps_if (pt_cmpR op_eq (pv 2) pe_str (nomark _)) (pss_one (ps_ret (pe_op op_mulW (pv 3) (pv 4)))) pss_nil) (pss_one (ps_ret (pe_ix ix_list (pe_lst (pa_cons (pe_callB (call_min2 rfl) (by rfl) m_min (by decide +kernel) (pa_cons (pv 3) (pa_cons (pv 4) pa_nil))) (pa_cons (pe_callB (call_max2 rfl) (by rfl) m_max (by decide +kernel) (pa_cons (pv 3) (pa_cons (pv 4) pa_nil))) pa_nil))) (pe_callTy call_int1 (by rfl) m_int (by decide +kernel) (pa_cons (pe_cmpR op_eq (pv 2) pe_str (nomark _)) pa_nil)) (fun _ _ => rfl)))))))))))), ?_⟩
  cases t with
  | num m =>
    obtain ⟨a, rfl, ha⟩ := hv
    walk_at "go"
    refine ⟨_, _, _, _, rfl, rfl, ha, at_any (j := 0) rfl rfl, ?_⟩
    walk_at "go"
    refine ifd (fun c => ?_) (fun c => absurd rfl c)
    walk_at "go"
    refine ⟨_, _, _, _, rfl, rfl, ha, at_any (j := 1) rfl rfl, ?_⟩
    exact q H (Same.refl H)
  | read x =>
    obtain ⟨a, rfl, ha⟩ := hv
    walk_at "go"
    refine ⟨_, _, _, _, rfl, rfl, ha, at_any (j := 0) rfl rfl, ?_⟩
    walk_at "go"
    refine ifd (fun c => absurd c (by decide)) (fun c => ?_)
    walk_at "go"
    refine ifd (fun c => ?_) (fun c => absurd rfl c)
    walk_at "go"
    refine ⟨_, _, _, _, rfl, rfl, ha, at_any (j := 1) rfl rfl, ?_⟩
    refine g_keyR hd (lk_at hr0 hi).1 ?_
    exact q H (Same.refl H)
  | bin o t1 t2 =>
    obtain ⟨a, u, z, rfl, ha, hu, hz⟩ := hv
    have p5 : max t1.deep t2.deep + 1 < n + 1 := h5
    have p6 : max t1.deep t2.deep + 1 ≤ 12 := h6
    obtain ⟨hi1, hi2⟩ := hi
    have q0 : ∀ H', Same H H' → Q (.int (o.app (t1.val kvs) (t2.val kvs))) H' := q
    walk_at "go"
    refine ⟨_, _, _, _, rfl, rfl, ha, at_any (j := 0) rfl rfl, ?_⟩
    walk_at "go"
    refine ifd (fun c => absurd c (op_ne1 o).1) (fun c => ?_)
    walk_at "go"
    refine ifd (fun c => absurd c (op_ne1 o).2) (fun c => ?_)
    walk_at "go"
    refine ⟨_, _, _, _, rfl, rfl, ha, at_any (j := 1) rfl rfl, ?_⟩
    walk_at "go"
    refine use_val hu hd hr0 hi1 (by omega) (by omega) fun H1 e1 => ?_
    walk_at "go"
    refine ⟨_, _, _, _, rfl, rfl, SqT.same e1 ha, at_any (j := 2) rfl rfl, ?_⟩
    walk_at "go"
    refine use_val (DN.tm (.of e1) hz) (Rd.same e1 hd) hr0 hi2 (by omega) (by omega) fun H2 e2 => ?_
    have hm := val_mul (d := 11) hr0 hi1 hi2 (by omega) (by omega) (by decide)
    have e12 := e1.trans e2
    generalize t1.val kvs = x at hm q0 ⊢
    generalize t2.val kvs = y at hm q0 ⊢
    cases o <;> (walk_at "go")
    · refine ifd (fun c => ?_) (fun c => absurd rfl c)
      walk_at "go"
      exact q0 H2 e12
    · refine ifd (fun c => absurd c (by decide)) (fun c => ?_)
      walk_at "go"
      refine ifd (fun c => ?_) (fun c => absurd rfl c)
      walk_at "go"
      exact q0 H2 e12
    · refine ifd (fun c => absurd c (by decide)) (fun c => ?_)
      walk_at "go"
      refine ifd (fun c => absurd c (by decide)) (fun c => ?_)
      walk_at "go"
      refine ifd (fun c => ?_) (fun c => absurd rfl c)
      walk_at "go"
      refine g_I hm ?_
      exact q0 H2 e12
    · refine ifd (fun c => absurd c (by decide)) (fun c => ?_)
      walk_at "go"
      refine ifd (fun c => absurd c (by decide)) (fun c => ?_)
      walk_at "go"
      refine ifd (fun c => absurd c (by decide)) (fun c => ?_)
      walk_at "go"
      refine ⟨by show 2 ≤ sizeLine; decide, fun p np => ?_⟩
      walk_at "go"
      refine .inr ⟨_, rfl, ?_⟩
      refine ⟨_, _, _, _, rfl, rfl, sql upd_same, at_any (j := 1) rfl rfl, ?_⟩
      exact q0 _ (e12.trans (same_new np))
    · refine ifd (fun c => absurd c (by decide)) (fun c => ?_)
      walk_at "go"
      refine ifd (fun c => absurd c (by decide)) (fun c => ?_)
      walk_at "go"
      refine ifd (fun c => absurd c (by decide)) (fun c => ?_)
      walk_at "go"
      refine ⟨by show 2 ≤ sizeLine; decide, fun p np => ?_⟩
      walk_at "go"
      refine .inr ⟨_, rfl, ?_⟩
      refine ⟨_, _, _, _, rfl, rfl, sql upd_same, at_any (j := 0) rfl rfl, ?_⟩
      exact q0 _ (e12.trans (same_new np))
end

/-- the dict's names are set anew -/
theorem LS.names {K : PySem.W.Frag} {c : Cfg} {ns : List Int} {xs ys : List Str} {s na nm l : Addr} {H : Hp} {n re mx : Int} (L : LS K c ns xs s na nm H) (h0 : 0 ≤ n) (h1 : 0 ≤ re) (h2 : 0 ≤ mx) (h3 : mx < 2147483647) (hl : H l = some (.lst (ys.map V.str))) (hy : ys.length ≤ 8) :
    LS K c ns ys s na l (upd H s (.dK (sd c na l n re mx))) := by
  obtain ⟨⟨n', re', mx', h, r⟩, g1, g2, g3, g4, g5⟩ := L
  exact ⟨⟨n, re, mx, upd_same, h0, h1, h2, h3⟩, KB.seq KB.upd h g1, KB.seq KB.upd h (sql hl), g3, g4, hy⟩
/-- a list that was made while the drawing stood is changed -/
theorem LS.push {K : PySem.W.Frag} {c : Cfg} {ns : List Int} {xs : List Str} {s na nm D : Addr} {H2 H4 : Hp} {zs : List V} {o : HO} (L2 : LS K c ns xs s na nm H2) (nD : H2 D = none) (L4 : LS K c ns xs s na nm H4) (hD : H4 D = some (.lst zs)) :
    LS K c ns xs s na nm (upd H4 D o) := by
  obtain ⟨n, re, mx, hs, bd⟩ := L4.st
  have hDs : D ≠ s := ne_of hD hs (fun z => by cases z)
  have hlp : ∀ a u, a ≠ D → H4 a = some u → upd H4 D o a = some u := fun a u n h => by rw [upd_ne n]; exact h
  have ap : ∀ {b : Addr} {zs : List V}, SqL K H2 b zs → SqL K H4 b zs → SqL K (upd H4 D o) b zs := fun {b zs} y z => by
    have far : b ≠ D → SqL K (upd H4 D o) b zs := fun ne => by
      rcases z with (z | ⟨u, z⟩) | z
      · exact .inl (.inl (hlp _ _ ne z))
      · exact .inl (.inr ⟨u, hlp _ _ ne z⟩)
      · exact .inr z
    rcases y with (y | ⟨u, y⟩) | y
    · exact far (ne_of_none y nD)
    · exact far (ne_of_none y nD)
    · exact .inr y
  exact ⟨⟨n, re, mx, hlp _ _ hDs.symm hs, bd⟩, ap L2.num L4.num, ap L2.nms L4.nms, L4.ok, L4.len, L4.few⟩

def spAlikeI : Sp := fun vs H Q _ => ∃ i : Int, vs = [.int i, .int i] ∧ Q (.bl true) H
def spLaw (K : PySem.W.Frag) : Sp := fun vs H Q _ => ∃ (ns : List Int) (na : Addr), vs = [.ref na] ∧ SqL K H na (ns.map V.int) ∧ ns.length ≤ 63 ∧ ∀ H', Q (.bl true) H'
section
variable {P : Program} {w : World} {K : PySem.W.Frag} {mg : Str → Option Value} {base : Heap}
abbrev s__law_alike : Stmt := topS 11
theorem sc__law_alike : FnScope ["_law_found", "_law_due", "_law_k", "_law_name"] ["_law_found", "_law_due"] (defScope s__law_alike) := ⟨rfl, rfl, rfl, by decide +kernel, rfl, by decide +kernel, by decide +kernel⟩
theorem h__law_alike {k : Nat} {f : Addr} {fd : FuncData} (O : Own K mg "_law_alike" s__law_alike ["_law_found", "_law_due"] f fd)  (m_isinstance : mg "isinstance" = none) (m_int : mg "int" = none) (m_bool : mg "bool" = none) : Has P w K mg base "_law_alike" ["_law_found", "_law_due"] (k + 1) CX0 spAlikeI f fd := by
  refine O.has (O.F.ok sc__law_alike (fun vs H Q E h => ?_) (fun cdv A outer s H vs Q E hr h => ?_))
  · obtain ⟨i, rfl, _⟩ := h
    rfl
  obtain ⟨i, rfl, q⟩ := h
  refine ⟨_, (pss_cons (ps_if (pt_cmpR op_isN (pv 1) pe_non (nomark _)) (pss_one (ps_ret (pe_cmpR op_isN (pv 0) pe_non (nomark _)))) pss_nil) (pss_cons (ps_if (pt_val (pe_callB call_isi (by rfl) m_isinstance (by decide +kernel) (pa_cons (pv 1) (pa_cons (pe_bltn (v := .ty "bool") (by rfl) m_bool (by decide +kernel) rfl) pa_nil)))) (pss_one (ps_ret (pe_and (pe_callB call_isi (by rfl) m_isinstance (by decide +kernel) (pa_cons (pv 0) (pa_cons (pe_bltn (v := .ty "bool") (by rfl) m_bool (by decide +kernel) rfl) pa_nil))) (pe_one (pe_cmpR op_eq (pv 0) (pv 1) (nomark _)))))) pss_nil) (pss_cons (ps_if (pt_val (pe_callB call_isi (by rfl) m_isinstance (by decide +kernel) (pa_cons (pv 1) (pa_cons (pe_bltn (v := .ty "int") (by rfl) m_int (by decide +kernel) rfl) pa_nil)))) (pss_one (ps_ret (pe_and (pe_callB call_isi (by rfl) m_isinstance (by decide +kernel) (pa_cons (pv 0) (pa_cons (pe_bltn (v := .ty "int") (by rfl) m_int (by decide +kernel) rfl) pa_nil))) (pe_and (pe_not (pe_callB call_isi (by rfl) m_isinstance (by decide +kernel) (pa_cons (pv 0) (pa_cons (pe_bltn (v := .ty "bool") (by rfl) m_bool (by decide +kernel) rfl) pa_nil)))) (pe_one (pe_cmpR op_eq (pv 0) (pv 1) (nomark _))))))) pss_nil) (pss_cons ps_never (pss_cons ps_never (pss_cons ps_never (pss_cons ps_never (pss_one ps_never)))))))), ?_⟩
  walk_at "go"
  refine ifd (fun c => by cases c) (fun c => ?_)
  walk_at "go"
  refine ⟨_, _, _, _, false, rfl, .ty _, .base (.int _), kit_ty (by decide +kernel), ?_⟩
  walk_at "go"
  refine ⟨_, _, _, _, true, rfl, .ty _, .base (.int _), kit_ty (by decide +kernel), ?_⟩
  walk_at "go"
  refine ⟨_, _, _, _, true, rfl, .ty _, .base (.int _), kit_ty (by decide +kernel), ?_⟩
  walk_at "go"
  refine ⟨_, _, _, _, false, rfl, .ty _, .base (.int _), kit_ty (by decide +kernel), ?_⟩
  walk_at "go"
  rw [decide_eq_true rfl]
  exact q
abbrev s_law : Stmt := topS 12
theorem sc_law : FnScope ["_law_script", "_law_s", "_law_told_here", "_law_rows_here", "_law_row", "_law_handed", "_law_k"] ["_law_script"] (defScope s_law) := ⟨rfl, rfl, rfl, by decide +kernel, rfl, by decide +kernel, by decide +kernel⟩
theorem h_law {k : Nat} {f : Addr} {fd : FuncData} (O : Own K mg "law" s_law ["_law_script"] f fd)  {f__law_alike : Addr} {fd__law_alike : FuncData} (D__law_alike : Has P w K mg base "_law_alike" ["_law_found", "_law_due"] k CX0 spAlikeI f__law_alike fd__law_alike) {f__law_value : Addr} {fd__law_value : FuncData} (D__law_value : Has P w K mg base "_law_value" ["_law_told_here", "_law_row"] k CX0 (spVal K 4) f__law_value fd__law_value) {f_number_of : Addr} {fd_number_of : FuncData} (D_number_of : Has P w K mg base "number_of" ["told", "row"] k CX0 (spVal K 4) f_number_of fd_number_of) {f__law_rows : Addr} {fd__law_rows : FuncData} (D__law_rows : Has P w K mg base "_law_rows" ["_law_s", "_law_hours"] k CX0 (spRows K) f__law_rows fd__law_rows) {f__law_told : Addr} {fd__law_told : FuncData} (D__law_told : Has P w K mg base "_law_told" ["_law_s", "_law_deep"] k CX0 (spTold K 4) f__law_told fd__law_told) {f__law_taken : Addr} {fd__law_taken : FuncData} (D__law_taken : Has P w K mg base "_law_taken" ["_law_s", "_law_most"] k CX0 (spTaken K) f__law_taken fd__law_taken) {f__law_word : Addr} {fd__law_word : FuncData} (D__law_word : Has P w K mg base "_law_word" ["_law_s", "_law_k"] k CX0 (spWord K) f__law_word fd__law_word) {f__law_begun : Addr} {fd__law_begun : FuncData} (D__law_begun : Has P w K mg base "_law_begun" ["_law_script"] k CX0 (spBegun K) f__law_begun fd__law_begun) (m_dict : mg "dict" = none) (m_range : mg "range" = none) : Has P w K mg base "law" ["_law_script"] (k + 1) CX0 (spLaw K) f fd := by
  refine O.has (O.F.ok sc_law (fun vs H Q E h => ?_) (fun cdv A outer s H vs Q E hr h => ?_))
  · obtain ⟨ns, na, rfl, _⟩ := h
    rfl
  obtain ⟨ns, na, rfl, hS, h63, q⟩ := h
  refine ⟨_, (pss_cons (ps_set (i := 1) sc_law.nd rfl (.inr rfl) (pe_call D__law_begun.G hr (by rfl) D__law_begun.g D__law_begun.k D__law_begun.b .nil pass0 (pa_cons (pv 0) pa_nil))) (pss_cons (ps_dput (hu_of hr) (pv 1) pe_str (pe_lc (own := [("_law_k", 6)]) (g := gName 6) rfl sc_law.nd (pi_range1 (by rfl) m_range (pa_cons (pe_call D__law_taken.G hr (by rfl) D__law_taken.g D__law_taken.k D__law_taken.b .nil pass0 (pa_cons (pv 1) (pa_cons pe_int pa_nil))) pa_nil)) (blkOk_by (own := [("_law_k", 6)]) (N := ["_law_script", "_law_s", "_law_told_here", "_law_rows_here", "_law_row", "_law_handed", "_law_k"]) (sc := defScope s_law) (by decide +kernel)) (fun _ _ _ _ _ => pg_name (i := 6) sc_law.nd rfl (.inl rfl)) (fun _ _ _ _ _ => pts_nil) (fun _ _ _ _ _ => (pe_call D__law_word.G hr (by rfl) D__law_word.g D__law_word.k D__law_word.b .nil pass0 (pa_cons (pv 1) (pa_cons (pe_op op_add pe_int (pv 6)) pa_nil))))) (by rfl)) (pss_cons (ps_set (i := 2) sc_law.nd rfl (.inl rfl) (pe_call D__law_told.G hr (by rfl) D__law_told.g D__law_told.k D__law_told.b .nil pass0 (pa_cons (pv 1) (pa_cons pe_int pa_nil)))) (pss_cons (ps_set (i := 3) sc_law.nd rfl (.inl rfl) (pe_call D__law_rows.G hr (by rfl) D__law_rows.g D__law_rows.k D__law_rows.b .nil pass0 (pa_cons (pv 1) (pa_cons pe_int pa_nil)))) (pss_cons (ps_for PassesOwn.never rfl (pi_list (pe_op op_cat (pv 3) (pe_slice sl_list (pv 3) po_none (po_some pe_int)))) (pg_name (i := 4) sc_law.nd rfl (.inl rfl)) (pss_cons (ps_set (i := 5) sc_law.nd rfl (.inl rfl) (pe_callTy call_dictD (by rfl) m_dict (by decide +kernel) (pa_cons (pv 4) pa_nil))) (pss_one (ps_if (PW.pt (pw_or (pt_not (pt_val (pe_call D__law_alike.G hr (by rfl) D__law_alike.g D__law_alike.k D__law_alike.b .nil pass0 (pa_cons (pe_call D_number_of.G hr (by rfl) D_number_of.g D_number_of.k D_number_of.b .nil pass0 (pa_cons (pv 2) (pa_cons (pv 5) pa_nil))) (pa_cons (pe_call D__law_value.G hr (by rfl) D__law_value.g D__law_value.k D__law_value.b .nil pass0 (pa_cons (pv 2) (pa_cons (pv 4) pa_nil))) pa_nil))))) (pw_or1 (pt_cmpR (op_ne_dictA hr.units0) (pv 5) (pv 4) (nomark _))))) (pss_one (ps_ret pe_bl)) pss_nil)))) (pss_one (ps_ret pe_bl))))))), ?_⟩
  walk_at "go"
  refine use_begun hS h63 fun c s nm H1 e1 ns1 L1 => ?_
  walk_at "go"
  refine use_taken L1 (by decide) (by decide) fun m H2 m0 m1 e2 L2 => ?_
  walk_at "go"
  refine ⟨by omega, by omega, fun D nD => lc_range (lo := 0) (n := m.toNat) (fun i H3 => ∃ ys : List Str, H3 D = some (.lst (ys.map V.str)) ∧ ys.length = i ∧ LS K c ns [] s na nm H3) ⟨[], upd_same, rfl, L2.same (same_new nD)⟩ (fun i H3 hi hW => ?_) (fun H3 hW => ?_)⟩
  · obtain ⟨ys, hD, hlen, L3⟩ := hW
    walk_at "go"
    refine use_word L3 (by omega) (by omega) fun H4 e4 => ?_
    have hD4 := e4 _ _ hD
    refine ⟨_, hD4, by rw [List.length_map]; exact small1000 (by omega), ys ++ [wd c (8 + (0 + i))], ?_, by simp [hlen], L2.push nD (L3.same e4) hD4⟩
    rw [upd_same, List.map_append]
    rfl
  obtain ⟨ys, hD, hlen, L3⟩ := hW
  obtain ⟨n, re, mx, hs3, g0, g1, g2, g3⟩ := L3.st
  walk_at "go"
  refine g_put (kvs' := sd c na D n re mx) hs3 (by show 9 < sizeLine; decide) (by rfl) ?_
  have L4 := L3.names g0 g1 g2 g3 hD (by omega)
  generalize upd H3 s (.dK (sd c na D n re mx)) = H4 at L4 ⊢
  walk_at "go"
  refine use_told L4 (by decide) (by decide) fun tv t H5 e5 L5 d5 i5 p5 => ?_
  walk_at "go"
  refine use_rows L5 (d := 2) rfl (by decide) fun p rs H6 e6 L6 hp6 hl6 hr6 => ?_
  have d6 := DN.tm (L5.tm e6) d5
  walk_at "go"
  refine ⟨_, _, rfl, sql hp6, fun p1 np1 => ?_⟩
  have s7 := same_new (o := .lst (cutV (rs.map V.ref) none (some 1))) np1
  have hl1 : (cutV (rs.map V.ref) none (some 1)) = (rs.take 1).map V.ref := by
    match rs, hl6 with
    | [a, b], _ => rfl
  refine ⟨_, _, _, _, rfl, rfl, s7 _ _ hp6, upd_same, ?_, fun p2 np2 => ?_⟩
  · rw [hl1, List.length_map, List.length_map, List.length_take]
    exact sz (by omega)
  have s8 := s7.trans (same_new (o := .lst (rs.map V.ref ++ cutV (rs.map V.ref) none (some 1))) np2)
  have hp8 : (upd (upd H6 p1 (.lst (cutV (rs.map V.ref) none (some 1)))) p2 (.lst (rs.map V.ref ++ cutV (rs.map V.ref) none (some 1)))) p2 = some (.lst ((rs ++ rs.take 1).map V.ref)) := by
    rw [upd_same, hl1, List.map_append]
  have hr8 : ∀ r ∈ rs ++ rs.take 1, RowAt ys s H6 r := fun r hr => by
    rcases List.mem_append.mp hr with hr | hr
    · exact hr6 r hr
    · exact hr6 r (List.mem_of_mem_take hr)
  generalize upd (upd H6 p1 (.lst (cutV (rs.map V.ref) none (some 1)))) p2 (.lst (rs.map V.ref ++ cutV (rs.map V.ref) none (some 1))) = H8 at s8 hp8 ⊢
  generalize rs ++ rs.take 1 = rr at hp8 hr8 ⊢
  walk_at "go"
  refine ⟨⟨_, sql hp8⟩, for_list (xs := rr.map V.ref) (fun i σ H9 => ∃ y4 y5 y6, σ = [some (.ref na), some (.ref s), some tv, some (.ref p), y4, y5, y6] ∧ Same H8 H9)
    ⟨_, _, _, rfl, Same.refl H8⟩ (fun i σ H9 hi hW => ?_) (fun i x σ H9 hx hW => ?_) (fun σ H9 hW => ?_)⟩
  · obtain ⟨y4, y5, y6, rfl, e9⟩ := hW
    exact sql (e9 _ _ hp8)
  · obtain ⟨y4, y5, y6, rfl, e9⟩ := hW
    rw [List.getElem?_map] at hx
    obtain ⟨r, hr, rfl⟩ := Option.map_eq_some_iff.mp hx
    obtain ⟨_, kvs, hk, hok⟩ := hr8 r (List.mem_of_getElem? hr)
    have hk9 := (s8.trans e9) _ _ hk
    have d9 := DN.tm (.of (s8.trans e9)) d6
    walk_at "go"
    refine ⟨_, _, rfl, .inl hk9, fun hd nd => ?_⟩
    have s10 := same_new (o := .dK kvs) nd
    walk_at "go"
    refine use_val (DN.tm (.of s10) d9) (.inl upd_same) hok i5 (by omega) (by omega) fun H11 e11 => ?_
    walk_at "go"
    refine use_val (DN.tm (.of (s10.trans e11)) d9) (.inl ((s10.trans e11) _ _ hk9)) hok i5 (by omega) (by omega) fun H12 e12 => ?_
    refine ⟨_, rfl, ?_⟩
    walk_at "go"
    have e13 := (s10.trans e11).trans e12
    refine ⟨_, _, _, _, rfl, rfl, (e11.trans e12) _ _ upd_same, e13 _ _ hk9, rfl, fun z hz => ?_, ?_⟩
    · refine ⟨valV_of_mem hok.nd hz, ?_⟩
      obtain ⟨x, n, rfl, _⟩ := hok.all z hz
      rfl
    walk_at "go"
    exact ⟨_, _, _, rfl, e9.trans e13⟩
  · walk_at "go"
    exact q _
end

theorem all_mk {l : PySem.W.OpenLaw} {w : World} {K : PySem.W.Frag} {h : Heap} {mg : Str → Option Value} {fa : Addr} (X : K.In h) (G : h.Ns mainGlobals mg) (hfa : mg "law" = some (.ref fa))
    {f0 : Addr} {od0 an0 : Option Addr} {sl0 : Array (Option Value)} {oc0 kV0 dc0 pm0 cd0 ct0 : Value} (a0 : PySem.W.nsIn K mainGlobals "_law_taken" = some (some (.ref f0))) (l0 : K.lookup f0 = some ⟨oc0, od0, .func (PySem.W.fnOf "_law_taken" "_law_taken" (defArgs s__law_taken) (defBody s__law_taken) (defScope s__law_taken) .none kV0 dc0 pm0 an0 cd0 ct0), sl0⟩) (c0 : PySem.W.codeIn K cd0 "_law_taken" = true) (k0 : PySem.W.keepIn K (.ref f0) = true)
    {f1 : Addr} {od1 an1 : Option Addr} {sl1 : Array (Option Value)} {oc1 kV1 dc1 pm1 cd1 ct1 : Value} (a1 : PySem.W.nsIn K mainGlobals "_law_word" = some (some (.ref f1))) (l1 : K.lookup f1 = some ⟨oc1, od1, .func (PySem.W.fnOf "_law_word" "_law_word" (defArgs s__law_word) (defBody s__law_word) (defScope s__law_word) .none kV1 dc1 pm1 an1 cd1 ct1), sl1⟩) (c1 : PySem.W.codeIn K cd1 "_law_word" = true) (k1 : PySem.W.keepIn K (.ref f1) = true)
    {f2 : Addr} {od2 an2 : Option Addr} {sl2 : Array (Option Value)} {oc2 kV2 dc2 pm2 cd2 ct2 : Value} (a2 : PySem.W.nsIn K mainGlobals "_law_number" = some (some (.ref f2))) (l2 : K.lookup f2 = some ⟨oc2, od2, .func (PySem.W.fnOf "_law_number" "_law_number" (defArgs s__law_number) (defBody s__law_number) (defScope s__law_number) .none kV2 dc2 pm2 an2 cd2 ct2), sl2⟩) (c2 : PySem.W.codeIn K cd2 "_law_number" = true) (k2 : PySem.W.keepIn K (.ref f2) = true)
    {f3 : Addr} {od3 an3 : Option Addr} {sl3 : Array (Option Value)} {oc3 kV3 dc3 pm3 cd3 ct3 : Value} (a3 : PySem.W.nsIn K mainGlobals "_law_told" = some (some (.ref f3))) (l3 : K.lookup f3 = some ⟨oc3, od3, .func (PySem.W.fnOf "_law_told" "_law_told" (defArgs s__law_told) (defBody s__law_told) (defScope s__law_told) .none kV3 dc3 pm3 an3 cd3 ct3), sl3⟩) (c3 : PySem.W.codeIn K cd3 "_law_told" = true) (k3 : PySem.W.keepIn K (.ref f3) = true)
    {f4 : Addr} {od4 an4 : Option Addr} {sl4 : Array (Option Value)} {oc4 kV4 dc4 pm4 cd4 ct4 : Value} (a4 : PySem.W.nsIn K mainGlobals "_law_rows" = some (some (.ref f4))) (l4 : K.lookup f4 = some ⟨oc4, od4, .func (PySem.W.fnOf "_law_rows" "_law_rows" (defArgs s__law_rows) (defBody s__law_rows) (defScope s__law_rows) .none kV4 dc4 pm4 an4 cd4 ct4), sl4⟩) (c4 : PySem.W.codeIn K cd4 "_law_rows" = true) (k4 : PySem.W.keepIn K (.ref f4) = true)
    {f5 : Addr} {od5 an5 : Option Addr} {sl5 : Array (Option Value)} {oc5 kV5 dc5 pm5 cd5 ct5 : Value} (a5 : PySem.W.nsIn K mainGlobals "_law_begun" = some (some (.ref f5))) (l5 : K.lookup f5 = some ⟨oc5, od5, .func (PySem.W.fnOf "_law_begun" "_law_begun" (defArgs s__law_begun) (defBody s__law_begun) (defScope s__law_begun) .none kV5 dc5 pm5 an5 cd5 ct5), sl5⟩) (c5 : PySem.W.codeIn K cd5 "_law_begun" = true) (k5 : PySem.W.keepIn K (.ref f5) = true)
    {f6 : Addr} {od6 an6 : Option Addr} {sl6 : Array (Option Value)} {oc6 kV6 dc6 pm6 cd6 ct6 : Value} (a6 : PySem.W.nsIn K mainGlobals "reckoned" = some (some (.ref f6))) (l6 : K.lookup f6 = some ⟨oc6, od6, .func (PySem.W.fnOf "reckoned" "reckoned" (defArgs s_reckoned) (defBody s_reckoned) (defScope s_reckoned) .none kV6 dc6 pm6 an6 cd6 ct6), sl6⟩) (c6 : PySem.W.codeIn K cd6 "reckoned" = true) (k6 : PySem.W.keepIn K (.ref f6) = true)
    {f7 : Addr} {od7 an7 : Option Addr} {sl7 : Array (Option Value)} {oc7 kV7 dc7 pm7 cd7 ct7 : Value} (a7 : PySem.W.nsIn K mainGlobals "number_of" = some (some (.ref f7))) (l7 : K.lookup f7 = some ⟨oc7, od7, .func (PySem.W.fnOf "number_of" "number_of" (defArgs s_number_of) (defBody s_number_of) (defScope s_number_of) .none kV7 dc7 pm7 an7 cd7 ct7), sl7⟩) (c7 : PySem.W.codeIn K cd7 "number_of" = true) (k7 : PySem.W.keepIn K (.ref f7) = true)
    {f8 : Addr} {od8 an8 : Option Addr} {sl8 : Array (Option Value)} {oc8 kV8 dc8 pm8 cd8 ct8 : Value} (a8 : PySem.W.nsIn K mainGlobals "_law_value" = some (some (.ref f8))) (l8 : K.lookup f8 = some ⟨oc8, od8, .func (PySem.W.fnOf "_law_value" "_law_value" (defArgs s__law_value) (defBody s__law_value) (defScope s__law_value) .none kV8 dc8 pm8 an8 cd8 ct8), sl8⟩) (c8 : PySem.W.codeIn K cd8 "_law_value" = true) (k8 : PySem.W.keepIn K (.ref f8) = true)
    {f9 : Addr} {od9 an9 : Option Addr} {sl9 : Array (Option Value)} {oc9 kV9 dc9 pm9 cd9 ct9 : Value} (a9 : PySem.W.nsIn K mainGlobals "_law_alike" = some (some (.ref f9))) (l9 : K.lookup f9 = some ⟨oc9, od9, .func (PySem.W.fnOf "_law_alike" "_law_alike" (defArgs s__law_alike) (defBody s__law_alike) (defScope s__law_alike) .none kV9 dc9 pm9 an9 cd9 ct9), sl9⟩) (c9 : PySem.W.codeIn K cd9 "_law_alike" = true) (k9 : PySem.W.keepIn K (.ref f9) = true)
    {f10 : Addr} {od10 an10 : Option Addr} {sl10 : Array (Option Value)} {oc10 kV10 dc10 pm10 cd10 ct10 : Value} (a10 : PySem.W.nsIn K mainGlobals "law" = some (some (.ref f10))) (l10 : K.lookup f10 = some ⟨oc10, od10, .func (PySem.W.fnOf "law" "law" (defArgs s_law) (defBody s_law) (defScope s_law) .none kV10 dc10 pm10 an10 cd10 ct10), sl10⟩) (c10 : PySem.W.codeIn K cd10 "law" = true) (k10 : PySem.W.keepIn K (.ref f10) = true)
    (z_len : PySem.W.nsIn K mainGlobals "len" = some none) (z_int : PySem.W.nsIn K mainGlobals "int" = some none) (z_range : PySem.W.nsIn K mainGlobals "range" = some none) (z_min : PySem.W.nsIn K mainGlobals "min" = some none) (z_max : PySem.W.nsIn K mainGlobals "max" = some none) (z_isinstance : PySem.W.nsIn K mainGlobals "isinstance" = some none) (z_bool : PySem.W.nsIn K mainGlobals "bool" = some none) (z_dict : PySem.W.nsIn K mainGlobals "dict" = some none) :
    ∃ fd : FuncData, (∀ (s : Shared) (v : Value), BindsTo s fd ⟨[v], []⟩ [("_law_script", v)]) ∧ ∀ base : Heap, K.In base → base.Ns mainGlobals mg → FnOk l.prog w K mg base CX0 7 fa fd ["_law_script"] (spLaw K) := by
  have e := hfa.symm.trans (PySem.W.mg_of X G a10)
  cases e
  have m_len : mg "len" = none := PySem.W.mg_none_of X G z_len
  have m_int : mg "int" = none := PySem.W.mg_none_of X G z_int
  have m_range : mg "range" = none := PySem.W.mg_none_of X G z_range
  have m_min : mg "min" = none := PySem.W.mg_none_of X G z_min
  have m_max : mg "max" = none := PySem.W.mg_none_of X G z_max
  have m_isinstance : mg "isinstance" = none := PySem.W.mg_none_of X G z_isinstance
  have m_bool : mg "bool" = none := PySem.W.mg_none_of X G z_bool
  have m_dict : mg "dict" = none := PySem.W.mg_none_of X G z_dict
  have O0 : Own K mg "_law_taken" s__law_taken ["_law_s", "_law_most"] f0 _ := ⟨fun_mk (st := s__law_taken) l0 c0 k0, PySem.W.mg_of X G a0, (fun_mk (st := s__law_taken) l0 c0 k0).binds (ps := ["_law_s", "_law_most"]) fun _ _ _ _ _ _ us hl => match us, hl with | [_, _], _ => rfl⟩
  have O1 : Own K mg "_law_word" s__law_word ["_law_s", "_law_k"] f1 _ := ⟨fun_mk (st := s__law_word) l1 c1 k1, PySem.W.mg_of X G a1, (fun_mk (st := s__law_word) l1 c1 k1).binds (ps := ["_law_s", "_law_k"]) fun _ _ _ _ _ _ us hl => match us, hl with | [_, _], _ => rfl⟩
  have O2 : Own K mg "_law_number" s__law_number ["_law_s"] f2 _ := ⟨fun_mk (st := s__law_number) l2 c2 k2, PySem.W.mg_of X G a2, (fun_mk (st := s__law_number) l2 c2 k2).binds (ps := ["_law_s"]) fun _ _ _ _ _ _ us hl => match us, hl with | [_], _ => rfl⟩
  have O3 : Own K mg "_law_told" s__law_told ["_law_s", "_law_deep"] f3 _ := ⟨fun_mk (st := s__law_told) l3 c3 k3, PySem.W.mg_of X G a3, (fun_mk (st := s__law_told) l3 c3 k3).binds (ps := ["_law_s", "_law_deep"]) fun _ _ _ _ _ _ us hl => match us, hl with | [_, _], _ => rfl⟩
  have O4 : Own K mg "_law_rows" s__law_rows ["_law_s", "_law_hours"] f4 _ := ⟨fun_mk (st := s__law_rows) l4 c4 k4, PySem.W.mg_of X G a4, (fun_mk (st := s__law_rows) l4 c4 k4).binds (ps := ["_law_s", "_law_hours"]) fun _ _ _ _ _ _ us hl => match us, hl with | [_, _], _ => rfl⟩
  have O5 : Own K mg "_law_begun" s__law_begun ["_law_script"] f5 _ := ⟨fun_mk (st := s__law_begun) l5 c5 k5, PySem.W.mg_of X G a5, (fun_mk (st := s__law_begun) l5 c5 k5).binds (ps := ["_law_script"]) fun _ _ _ _ _ _ us hl => match us, hl with | [_], _ => rfl⟩
  have O6 : Own K mg "reckoned" s_reckoned ["word", "first", "second"] f6 _ := ⟨fun_mk (st := s_reckoned) l6 c6 k6, PySem.W.mg_of X G a6, (fun_mk (st := s_reckoned) l6 c6 k6).binds (ps := ["word", "first", "second"]) fun _ _ _ _ _ _ us hl => match us, hl with | [_, _, _], _ => rfl⟩
  have O7 : Own K mg "number_of" s_number_of ["told", "row"] f7 _ := ⟨fun_mk (st := s_number_of) l7 c7 k7, PySem.W.mg_of X G a7, (fun_mk (st := s_number_of) l7 c7 k7).binds (ps := ["told", "row"]) fun _ _ _ _ _ _ us hl => match us, hl with | [_, _], _ => rfl⟩
  have O8 : Own K mg "_law_value" s__law_value ["_law_told_here", "_law_row"] f8 _ := ⟨fun_mk (st := s__law_value) l8 c8 k8, PySem.W.mg_of X G a8, (fun_mk (st := s__law_value) l8 c8 k8).binds (ps := ["_law_told_here", "_law_row"]) fun _ _ _ _ _ _ us hl => match us, hl with | [_, _], _ => rfl⟩
  have O9 : Own K mg "_law_alike" s__law_alike ["_law_found", "_law_due"] f9 _ := ⟨fun_mk (st := s__law_alike) l9 c9 k9, PySem.W.mg_of X G a9, (fun_mk (st := s__law_alike) l9 c9 k9).binds (ps := ["_law_found", "_law_due"]) fun _ _ _ _ _ _ us hl => match us, hl with | [_, _], _ => rfl⟩
  have O10 : Own K mg "law" s_law ["_law_script"] fa _ := ⟨fun_mk (st := s_law) l10 c10 k10, PySem.W.mg_of X G a10, (fun_mk (st := s_law) l10 c10 k10).binds (ps := ["_law_script"]) fun _ _ _ _ _ _ us hl => match us, hl with | [_], _ => rfl⟩
  refine ⟨PySem.W.fnOf "law" "law" (defArgs s_law) (defBody s_law) (defScope s_law) .none kV10 dc10 pm10 an10 cd10 ct10, fun s v => .of_eq rfl, fun base _ _ => ?_⟩
  have H__law_taken := h__law_taken (P := l.prog) (w := w) (base := base) (k := 0) O0  m_len m_int
  have H__law_word := h__law_word (P := l.prog) (w := w) (base := base) (k := 0) O1  
  have H__law_number := h__law_number (P := l.prog) (w := w) (base := base) (k := 1) O2 (H__law_taken.mono (by omega)) 
  have R__law_told : ∀ n : Nat, Has l.prog w K mg base "_law_told" ["_law_s", "_law_deep"] (2 + n) CX0 (spTold K n) f3 (PySem.W.fnOf "_law_told" "_law_told" (defArgs s__law_told) (defBody s__law_told) (defScope s__law_told) .none kV3 dc3 pm3 an3 cd3 ct3) := fun n => by
    induction n with
    | zero => exact O3.has ((none_told (P := l.prog) (w := w) (base := base)).mono (Nat.zero_le _))
    | succ n ih => exact h__law_told (P := l.prog) (w := w) (base := base) (n := n) (k := 2 + n) O3 ih (H__law_number.mono (by omega)) (H__law_taken.mono (by omega)) m_len
  have H__law_told := R__law_told 4
  have H__law_rows := h__law_rows (P := l.prog) (w := w) (base := base) (k := 2) O4 (H__law_number.mono (by omega)) m_range
  have H__law_begun := h__law_begun (P := l.prog) (w := w) (base := base) (k := 1) O5 (H__law_taken.mono (by omega)) m_int m_len
  have H_reckoned := h_reckoned (P := l.prog) (w := w) (base := base) (k := 0) O6  m_min m_max
  have R_number_of : ∀ n : Nat, Has l.prog w K mg base "number_of" ["told", "row"] (1 + n) CX0 (spVal K n) f7 (PySem.W.fnOf "number_of" "number_of" (defArgs s_number_of) (defBody s_number_of) (defScope s_number_of) .none kV7 dc7 pm7 an7 cd7 ct7) := fun n => by
    induction n with
    | zero => exact O7.has ((none_val (P := l.prog) (w := w) (base := base)).mono (Nat.zero_le _))
    | succ n ih => exact h_number_of (P := l.prog) (w := w) (base := base) (n := n) (k := 1 + n) O7 (H_reckoned.mono (by omega)) ih 
  have H_number_of := R_number_of 4
  have R__law_value : ∀ n : Nat, Has l.prog w K mg base "_law_value" ["_law_told_here", "_law_row"] (0 + n) CX0 (spVal K n) f8 (PySem.W.fnOf "_law_value" "_law_value" (defArgs s__law_value) (defBody s__law_value) (defScope s__law_value) .none kV8 dc8 pm8 an8 cd8 ct8) := fun n => by
    induction n with
    | zero => exact O8.has ((none_val (P := l.prog) (w := w) (base := base)).mono (Nat.zero_le _))
    | succ n ih => exact h__law_value (P := l.prog) (w := w) (base := base) (n := n) (k := 0 + n) O8 ih m_max m_min m_int
  have H__law_value := R__law_value 4
  have H__law_alike := h__law_alike (P := l.prog) (w := w) (base := base) (k := 0) O9  m_isinstance m_int m_bool
  have H_law := h_law (P := l.prog) (w := w) (base := base) (k := 6) O10 (H__law_alike.mono (by omega)) (H__law_value.mono (by omega)) (H_number_of.mono (by omega)) (H__law_rows.mono (by omega)) (H__law_told.mono (by omega)) (H__law_taken.mono (by omega)) (H__law_word.mono (by omega)) (H__law_begun.mono (by omega)) m_dict m_range
  exact H_law.G
end Bk
open PySem PySem.W PyProof.Rows
set_option maxHeartbeats 0 in
theorem PySem.Challenge.cw_contractbook_k01_numbers_of_a_row_holds : PySem.Challenge.rw_contractbook_k01_numbers_of_a_row.Holds := by
  w_on; o_law; k_head; (case hw => w_witness2)
  k_fill
  refine L2.walk_of (l := PySem.Challenge.rw_contractbook_k01_numbers_of_a_row) (n := 63) (k := 7) (x := "_law_script") (CX := fun _ => L2.CX0) (sp := fun w => Bk.spLaw _) rfl (by decide) rfl ⟨rfl, by decide, by decide⟩ (fun w h Y => PySem.W.kIn_of Y) ?F (fun _ _ a ns hl _ hS => ⟨ns, a, rfl, hS, hl, fun _ => rfl⟩) (fun _ _ _ _ _ h => h)
  case F =>
    intro w mg fa h KX G hmg
    refine' Bk.all_mk KX G hmg ?a0 ?l0 ?c0 ?k0 ?a1 ?l1 ?c1 ?k1 ?a2 ?l2 ?c2 ?k2 ?a3 ?l3 ?c3 ?k3 ?a4 ?l4 ?c4 ?k4 ?a5 ?l5 ?c5 ?k5 ?a6 ?l6 ?c6 ?k6 ?a7 ?l7 ?c7 ?k7 ?a8 ?l8 ?c8 ?k8 ?a9 ?l9 ?c9 ?k9 ?a10 ?l10 ?c10 ?k10 ?z_len ?z_int ?z_range ?z_min ?z_max ?z_isinstance ?z_bool ?z_dict
    (case a0 => k_is)
    (case l0 => k_is)
    (case c0 => k_is)
    (case k0 => k_is)
    (case a1 => k_is)
    (case l1 => k_is)
    (case c1 => k_is)
    (case k1 => k_is)
    (case a2 => k_is)
    (case l2 => k_is)
    (case c2 => k_is)
    (case k2 => k_is)
    (case a3 => k_is)
    (case l3 => k_is)
    (case c3 => k_is)
    (case k3 => k_is)
    (case a4 => k_is)
    (case l4 => k_is)
    (case c4 => k_is)
    (case k4 => k_is)
    (case a5 => k_is)
    (case l5 => k_is)
    (case c5 => k_is)
    (case k5 => k_is)
    (case a6 => k_is)
    (case l6 => k_is)
    (case c6 => k_is)
    (case k6 => k_is)
    (case a7 => k_is)
    (case l7 => k_is)
    (case c7 => k_is)
    (case k7 => k_is)
    (case a8 => k_is)
    (case l8 => k_is)
    (case c8 => k_is)
    (case k8 => k_is)
    (case a9 => k_is)
    (case l9 => k_is)
    (case c9 => k_is)
    (case k9 => k_is)
    (case a10 => k_is)
    (case l10 => k_is)
    (case c10 => k_is)
    (case k10 => k_is)
    (case z_len => k_is)
    (case z_int => k_is)
    (case z_range => k_is)
    (case z_min => k_is)
    (case z_max => k_is)
    (case z_isinstance => k_is)
    (case z_bool => k_is)
    (case z_dict => k_is)
