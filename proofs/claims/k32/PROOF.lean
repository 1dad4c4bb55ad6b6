import PyProof.Rows.All
import Wide.All
import OpenK.AllK
import Wide.FinOn
import HandS.ForMost
import HandS.More
import HandS.DictComp
import HandS.IsInst
import HandS.Wide
import HandS.TupAny
import PyProof.StrOps2
import HandS.AnyAll
import HandS.Text
import HandS.ForExc
import HandS.FStr
import HandS.Small
import HandS.Zip
import HandS.ExcIs
import HandS.EndTab
import KE.KNest
import HandS.Walk
import HandS.Deep
import HandS.HeadHook3
import PySem.Challenge.RW_contractbook_k32_whole_contracts_that_ar
set_option Elab.async false
set_option linter.all false
set_option maxRecDepth 100000
namespace Bk
open PySem PySem.Spec PyProof.Rows L2

/-! ### steps of a reading -/
section steps
variable {D : Ends} {σ : L2.St} {H : Hp} {Q : VK} {v : V}
theorem g_seq {t u : TS} (h : t { D with nx := u D } σ H) : tSeq t u D σ H := h
theorem g_next (h : D.nx σ H) : tNext D σ H := h
theorem g_asg {te : TE} {g : TG} (h : te σ H fun x H1 => g x σ H1 D.nx) : tAsg te g D σ H := h
theorem g_name {i : Nat} {R : L2.St → Hp → Prop} (h : R (σ.set i (some v)) H) : gName i v σ H R := h
theorem g_ret {te : TE} (h : te σ H D.rt) : tRet te D σ H := h
theorem g_drop {te : TE} (h : te σ H fun _ H1 => D.nx σ H1) : tDrop te D σ H := h
theorem g_ifs {c : TT} {t u : TS} (h : c σ H fun b H1 => if b = true then t D σ H1 else u D σ H1) : tIfS c t u D σ H := h
theorem g_if {c : TT} {t u : TE} (h : c σ H fun b H1 => if b = true then t σ H1 Q else u σ H1 Q) : tIf c t u σ H Q := h
theorem g_c (h : Q v H) : tC v σ H Q := h
theorem g_op {r : R2} {ta tb : TE} (h : ta σ H fun x H1 => tb σ H1 fun y H2 => r x y H2 Q) : tOp r ta tb σ H Q := h
theorem g_un {r : V → Hp → VK → Prop} {ta : TE} (h : ta σ H fun x H1 => r x H1 Q) : tUn r ta σ H Q := h
theorem g_neg {g : Int → V} {i : Int} (h : Q (g i) H) : rU g (.int i) H Q := ⟨i, rfl, h⟩
theorem g_I0 {g : Int → Int → V} {i j : Int} (h : Q (g i j) H) : rI0 g (.int i) (.int j) H Q := ⟨i, j, rfl, rfl, h⟩
theorem g_I {C : Int → Int → Prop} {g : Int → Int → V} {i j : Int} (hc : C i j) (h : Q (g i j) H) : rI C g (.int i) (.int j) H Q := ⟨i, j, rfl, rfl, hc, h⟩
theorem dec_int {i j : Int} : decide (V.int i = V.int j) = decide (i = j) := by
  by_cases e : i = j
  · rw [e]; simp
  · rw [decide_eq_false e]
    exact decide_eq_false (fun z => e (V.int.inj z))
theorem dec_str {i j : Str} : decide (V.str i = V.str j) = decide (i = j) := by
  by_cases e : i = j
  · rw [e]; simp
  · rw [decide_eq_false e]
    exact decide_eq_false (fun z => e (V.str.inj z))
theorem dec_bl {i j : Bool} : decide (V.bl i = V.bl j) = decide (i = j) := by
  cases i <;> cases j <;> rfl
theorem g_eqI {i j : Int} (h : Q (.bl (decide (i = j))) H) : rEq (.int i) (.int j) H Q := ⟨rfl, by rw [dec_int]; exact h⟩
theorem g_eqS {i j : Str} (h : Q (.bl (decide (i = j))) H) : rEq (.str i) (.str j) H Q := ⟨rfl, by rw [dec_str]; exact h⟩
theorem g_eqB {i j : Bool} (h : Q (.bl (decide (i = j))) H) : rEq (.bl i) (.bl j) H Q := ⟨rfl, by rw [dec_bl]; exact h⟩
theorem g_neI {i j : Int} (h : Q (.bl (!decide (i = j))) H) : rNe (.int i) (.int j) H Q := ⟨rfl, by rw [dec_int]; exact h⟩
theorem g_neS {i j : Str} (h : Q (.bl (!decide (i = j))) H) : rNe (.str i) (.str j) H Q := ⟨rfl, by rw [dec_str]; exact h⟩
theorem g_neB {i j : Bool} (h : Q (.bl (!decide (i = j))) H) : rNe (.bl i) (.bl j) H Q := ⟨rfl, by rw [dec_bl]; exact h⟩
theorem g_test {te : TE} {R : Bool → Hp → Prop} (h : te σ H fun x H' => ∃ k, x = .bl k ∧ R k H') : tTest te σ H R := h
theorem g_b {te : TE} {R : Bool → Hp → Prop} (h : te σ H fun x H' => ∃ k, x = .bl k ∧ R k H') : tB te σ H R := h
theorem g_and {t u : TT} {R : Bool → Hp → Prop} (h : t σ H fun c H1 => if c = true then u σ H1 R else R false H1) : tAnd t u σ H R := h
theorem g_or {t u : TT} {R : Bool → Hp → Prop} (h : t σ H fun c H1 => if c = true then R true H1 else u σ H1 R) : tOr t u σ H R := h
theorem g_not {t : TT} {R : Bool → Hp → Prop} (h : t σ H fun c H1 => R (!c) H1) : tNot t σ H R := h
theorem g_andV {ta tb : TE} (h : ta σ H fun x H1 => ∃ c, x = .bl c ∧ if c = true then tb σ H1 Q else Q (.bl false) H1) : tAndV ta tb σ H Q := h
theorem g_orV {ta tb : TE} (h : ta σ H fun x H1 => ∃ c, x = .bl c ∧ if c = true then Q (.bl true) H1 else tb σ H1 Q) : tOrV ta tb σ H Q := h
theorem g_notV {ta : TE} (h : ta σ H fun x H1 => ∃ c, x = .bl c ∧ Q (.bl (!c)) H1) : tNotV ta σ H Q := h
theorem g_cons {ta : TE} {tr : TA} {R : List V → Hp → Prop} (h : ta σ H fun x H1 => tr σ H1 fun xs H2 => R (x :: xs) H2) : tCons ta tr σ H R := h
theorem g_chain {r r' : R2} {ta tb tc : TE} (h : ta σ H fun x H1 => tb σ H1 fun y H2 => r x y H2 fun z H3 => ∃ k, z = .bl k ∧ (if k = true then tc σ H3 fun z' H4 => r' y z' H4 Q else Q (.bl false) H3)) : tChain r r' ta tb tc σ H Q := h
theorem g_nil {R : List V → Hp → Prop} (h : R [] H) : tNil σ H R := h
theorem g_call {sp : Sp} {dvs : List V} {E : XK} {t : TA} (h : t σ H fun vs H1 => sp (vs ++ dvs) H1 Q E) : tCall sp dvs E t σ H Q := h
theorem g_cb {r : List V → Hp → VK → Prop} {t : TA} (h : t σ H fun vs H1 => r vs H1 Q) : tCB r t σ H Q := h
theorem g_dget {td ty : TE} (h : td σ H fun x H1 => ty σ H1 fun y H2 => ∃ a v, x = .ref a ∧ DGet H2 a y (some v) ∧ Q v H2) : tDGet td ty σ H Q := h
theorem g_dput {td ty tv : TE} (h : tv σ H fun v H1 => td σ H1 fun x H2 => ty σ H2 fun y H3 => ∃ a H4, x = .ref a ∧ DPut H3 a y v H4 ∧ D.nx σ H4) : sDPut td ty tv D σ H := h
theorem g_tup {t : TA} (h : t σ H fun xs H1 => xs.length ≤ sizeLine ∧ ∀ p, H1 p = none → Q (.ref p) (upd H1 p (.tup xs))) : tTup t σ H Q := h
theorem g_lst {t : TA} (h : t σ H fun xs H1 => xs.length ≤ sizeLine ∧ ∀ p, H1 p = none → Q (.ref p) (upd H1 p (.lst xs))) : tLst t σ H Q := h
theorem g_for {wi : TI} {g : TG} {tb : TS} (h : wi σ H fun J H1 => ∃ W : Nat → Nat → L2.St → Hp → Prop, (∃ m, W 0 m σ H1) ∧ ∀ i m σ H, W i m σ H →
  (J.stop i H ∧ D.nx σ H) ∨ (J.go i H ∧ ∃ N : L2.St → Hp → Prop, (∀ σ' H', N σ' H' → ∃ m', m' < m ∧ W (i + 1) m' σ' H') ∧ ∀ x H', J.yld i H x H' → g x σ H' fun σ2 H2 => tb { D with nx := N, ct := N, bk := D.nx } σ2 H2)) : tFor wi g tb D σ H := h
theorem g_rng1 {ta : TA} {R : It → Hp → Prop} (h : ta σ H fun vs H1 => ∃ j : Int, vs = [.int j] ∧ -(2 ^ 62) ≤ j ∧ j < 2 ^ 62 ∧ R (Itr 0 j.toNat) H1) : iRng1 ta σ H R := h
theorem g_rng2 {ta : TA} {R : It → Hp → Prop} (h : ta σ H fun vs H1 => ∃ i j : Int, vs = [.int i, .int j] ∧ (-(2 ^ 62) ≤ i ∧ i < 2 ^ 62 ∧ -(2 ^ 62) ≤ j ∧ j < 2 ^ 62) ∧ R (Itr i (j - i).toNat) H1) : iRng2 ta σ H R := h
theorem g_ilist {K : PySem.W.Frag} {tl : TE} {R : It → Hp → Prop} (h : tl σ H fun x H1 => ∃ a, x = .ref a ∧ (∃ xs, SqL K H1 a xs) ∧ R (Itl K a) H1) : iList K tl σ H R := h
theorem g_itup {K : PySem.W.Frag} {tl : TE} {R : It → Hp → Prop} (h : tl σ H fun x H1 => ∃ a, x = .ref a ∧ (∃ xs, SqT K H1 a xs) ∧ R (Itt K a) H1) : iTup K tl σ H R := h
theorem g_lc {wi : TI} {g : TG} {tt : TT} {te : TE} {vs : List Nat} (h : wi σ H fun J H1 => ∀ D, H1 D = none → ∃ W : Nat → Nat → Hp → Prop, (∃ m, W 0 m (upd H1 D (.lst []))) ∧ ∀ i m H, W i m H →
  (J.stop i H ∧ Q (.ref D) H) ∨ (J.go i H ∧ ∃ Nx : Hp → Prop, (∀ H', Nx H' → ∃ m', m' < m ∧ W (i + 1) m' H') ∧ ∀ x H', J.yld i H x H' → g x (wipe σ vs) H' fun σ2 H2 => wipe σ2 vs = wipe σ vs ∧ tt σ2 H2 fun b H3 =>
    if b = true then te σ2 H3 fun y H4 => ∃ acc, H4 D = some (.lst acc) ∧ acc.length < sizeLine ∧ Nx (upd H4 D (.lst (acc ++ [y]))) else Nx H3)) : tLc wi g tt te vs σ H Q := h
theorem g_yes {R : Bool → Hp → Prop} (h : R true H) : tYes σ H R := h
theorem g_sl {r : V → Option Int → Option Int → Hp → VK → Prop} {te : TE} {tl th : TO} (h : te σ H fun x H1 => tl σ H1 fun l H2 => th σ H2 fun u H3 => r x l u H3 Q) : tSl r te tl th σ H Q := h
theorem g_nopart {R : Option Int → Hp → Prop} (h : R none H) : tNoPart σ H R := h
theorem g_part {t : TE} {R : Option Int → Hp → Prop} (h : t σ H fun x H1 => ∃ i, x = .int i ∧ R (some i) H1) : tPart t σ H R := h
theorem g_disp {trs : List (TE × TE)} (h : ∀ p, H p = none → tPairs trs σ (upd H p (.dK [])) fun ps H2 => H2 p = some (.dK []) ∧ ∃ kvs : List (Key × V), ps = kvs.map (fun kv => (kV kv.1, kv.2)) ∧ kvs.length ≤ 15 ∧ Q (.ref p) (upd H2 p (.dK (mergeK [] kvs)))) : tDisp trs σ H Q := h
theorem g_pairs0 {R : List (V × V) → Hp → Prop} (h : R [] H) : tPairs [] σ H R := h
theorem g_pairs {tk tv : TE} {r : List (TE × TE)} {R : List (V × V) → Hp → Prop} (h : tk σ H fun x H1 => tv σ H1 fun y H2 => tPairs r σ H2 fun ps H3 => R ((x, y) :: ps) H3) : tPairs ((tk, tv) :: r) σ H R := h
theorem g_gtup {K : PySem.W.Frag} {n : Nat} {t : TGs} {a : Addr} {xs : List V} {R : L2.St → Hp → Prop} (h : SqT K H a xs) (hl : xs.length = n) (q : t xs σ H R) : gTup K n t (.ref a) σ H R := ⟨a, xs, rfl, h, hl, q⟩
theorem g_gcons {t : TG} {u : TGs} {x : V} {r : List V} {R : L2.St → Hp → Prop} (q : t x σ H fun σ' H' => u r σ' H' R) : gCons t u (x :: r) σ H R := ⟨x, r, rfl, q⟩
theorem g_gnil {R : L2.St → Hp → Prop} (q : R σ H) : gNil [] σ H R := ⟨rfl, q⟩
theorem g_isN {x : V} {R : Bool → Hp → Prop} (h : R (decide (x = .non)) H) : ∃ k, V.bl (decide (x = .non)) = .bl k ∧ R k H := ⟨_, rfl, h⟩
theorem g_bm {K : PySem.W.Frag} {T : String} {r : V → List V → Hp → VK → Prop} {to : TE} {t : TA} (h : to σ H fun x H1 => tyV K T x H1 ∧ t σ H1 fun xs H2 => r x xs H2 Q) : tBM K T r to t σ H Q := h
theorem g_bm0 {K : PySem.W.Frag} {T : String} {r : V → List V → Hp → VK → Prop} {to : TE} (h : to σ H fun x H1 => tyV K T x H1 ∧ r x [] H1 Q) : tBM0 K T r to σ H Q := h
theorem ifd {p A B : Prop} [Decidable p] (h1 : p → A) (h2 : ¬ p → B) : if decide p = true then A else B := by
  by_cases h : p
  · rw [if_pos (decide_eq_true h)]; exact h1 h
  · rw [if_neg (by simp [h])]; exact h2 h
theorem ifdn {p A B : Prop} [Decidable p] (h1 : p → B) (h2 : ¬ p → A) : if (!decide p) = true then A else B := by
  by_cases h : p
  · rw [if_neg (by simp [h])]; exact h1 h
  · rw [if_pos (by simp [h])]; exact h2 h
theorem ifn {b : Bool} {A B : Prop} (h1 : b = true → B) (h2 : b = false → A) : if (!b) = true then A else B := by
  cases b
  · exact h2 rfl
  · exact h1 rfl
theorem ifb {b : Bool} {A B : Prop} (h1 : b = true → A) (h2 : b = false → B) : if b = true then A else B := by
  cases b
  · exact h2 rfl
  · exact h1 rfl
theorem iteNF {A B : Prop} (h : A) : if (!false) = true then A else B := h
theorem iteNT {A B : Prop} (h : B) : if (!true) = true then A else B := h
/-- a and b, a or b: the way that two tests may take is read once -/
theorem and_cut {p U F : Prop} [Decidable p] (q : Prop) (hF : ¬ (p ∧ q) → F) (hU : p → (¬ q → F) → U) : if decide p = true then U else F :=
  ifd (fun c => hU c fun z => hF fun y => z y.2) (fun c => hF fun y => c y.1)
theorem or_cut {p U T : Prop} [Decidable p] (q : Prop) (hT : p ∨ q → T) (hU : ¬ p → (q → T) → U) : if decide p = true then T else U :=
  ifd (fun c => hT (.inl c)) (fun c => hU c fun z => hT (.inr z))
/-- a key of a dict that stands at a -/
theorem g_key {a : Addr} {kvs : List (Key × V)} {k : Str} {w : V} {R : V → Prop} (hd : H a = some (.dK kvs)) (hv : valV kvs (.inr k) = some w) (h : R w) :
    ∃ b v, V.ref a = .ref b ∧ DGet H b (.str k) (some v) ∧ R v := ⟨a, w, rfl, .inl ⟨kvs, .inr k, .inl hd, rfl, hv.symm⟩, h⟩
theorem g_put {a : Addr} {kvs kvs' : List (Key × V)} {k : Str} {w : V} {R : Hp → Prop} (hd : H a = some (.dK kvs)) (hl : kvs.length < sizeLine) (hv : putK kvs (.inr k) w = kvs') (h : R (upd H a (.dK kvs'))) :
    ∃ b H4, V.ref a = .ref b ∧ DPut H b (.str k) w H4 ∧ R H4 := ⟨a, _, rfl, .inl ⟨kvs, .inr k, hd, rfl, hl, rfl⟩, by rw [hv]; exact h⟩
end steps

/-! ### what a def of the text is known to keep -/
structure Own (K : PySem.W.Frag) (mg : Str → Option Value) (x : Str) (st : Stmt) (ps : List Str) (f : Addr) (fd : FuncData) : Prop where
  F : Fun K x x st f fd
  g : mg x = some (.ref f)
  b : Binds K fd ps []
structure Has (P : Program) (w : World) (K : PySem.W.Frag) (mg : Str → Option Value) (base : Heap) (x : Str) (ps : List Str) (lv : Nat) (CX : CXT) (sp : Sp) (f : Addr) (fd : FuncData) : Prop where
  G : FnOk P w K mg base CX lv f fd ps sp
  g : mg x = some (.ref f)
  k : PySem.W.keepIn K (.ref f) = true
  b : Binds K fd ps []
theorem Has.mono {P : Program} {w : World} {K : PySem.W.Frag} {mg : Str → Option Value} {base : Heap} {x : Str} {ps : List Str} {j i : Nat} {CX : CXT} {sp : Sp} {f : Addr} {fd : FuncData} (D : Has P w K mg base x ps j CX sp f fd) (h : j ≤ i) :
    Has P w K mg base x ps i CX sp f fd := ⟨D.G.mono h, D.g, D.k, D.b⟩
theorem Own.has {P : Program} {w : World} {K : PySem.W.Frag} {mg : Str → Option Value} {base : Heap} {x : Str} {st : Stmt} {ps : List Str} {f : Addr} {fd : FuncData} {lv : Nat} {CX : CXT} {sp : Sp} (O : Own K mg x st ps f fd)
    (G : FnOk P w K mg base CX lv f fd ps sp) : Has P w K mg base x ps lv CX sp f fd := ⟨G, O.g, O.F.kp, O.b⟩

/-! ### what stays -/
/-- all stays but what stands at s -/
def KB (s : Addr) (H H' : Hp) : Prop := ∀ a o, a ≠ s → H a = some o → H' a = some o
theorem KB.refl (s : Addr) (H : Hp) : KB s H H := fun _ _ _ h => h
theorem KB.trans {s : Addr} {H H1 H2 : Hp} (a : KB s H H1) (b : KB s H1 H2) : KB s H H2 := fun x o n h => b x o n (a x o n h)
theorem KB.of {s : Addr} {H H' : Hp} (e : Same H H') : KB s H H' := fun a o _ h => e a o h
theorem KB.upd {s : Addr} {H : Hp} {o : HO} : KB s H (upd H s o) := fun a u n h => by rw [upd_ne n]; exact h
theorem same_new {H : Hp} {p : Addr} {o : HO} (h : H p = none) : Same H (upd H p o) := fun b x e => by
  rw [upd_ne (ne_of_none e h)]
  exact e
theorem Rd.same {H H' : Hp} {a : Addr} {u : HO} (e : Same H H') (h : Rd H a u) : Rd H' a u := by
  rcases h with h | ⟨o, h⟩
  · exact .inl (e _ _ h)
  · exact .inr ⟨o, e _ _ h⟩
theorem SqT.same {K : PySem.W.Frag} {H H' : Hp} {a : Addr} {xs : List V} (e : Same H H') (h : SqT K H a xs) : SqT K H' a xs := by
  rcases h with h | h
  · exact .inl (Rd.same e h)
  · exact .inr h
theorem sqt {K : PySem.W.Frag} {H : Hp} {a : Addr} {xs : List V} (h : H a = some (.tup xs)) : SqT K H a xs := .inl (.inl h)
theorem sql {K : PySem.W.Frag} {H : Hp} {a : Addr} {xs : List V} (h : H a = some (.lst xs)) : SqL K H a xs := .inl (.inl h)
theorem KB.rd {s : Addr} {H H' : Hp} {a : Addr} {u : HO} {kvs : List (Key × V)} (e : KB s H H') (hs : H s = some (.dK kvs)) (hu : ∀ k, u ≠ .dK k) (h : Rd H a u) : Rd H' a u := by
  rcases h with h | ⟨o, h⟩
  · exact .inl (e _ _ (fun z => by rw [z, hs] at h; exact hu _ (Option.some.inj h).symm) h)
  · exact .inr ⟨o, e _ _ (fun z => by rw [z, hs] at h; cases h) h⟩
theorem KB.seq {K : PySem.W.Frag} {s : Addr} {H H' : Hp} {a : Addr} {xs : List V} {kvs : List (Key × V)} (e : KB s H H') (hs : H s = some (.dK kvs)) (h : SqL K H a xs) : SqL K H' a xs := by
  rcases h with h | h
  · exact .inl (e.rd hs (fun _ z => by cases z) h)
  · exact .inr h
theorem KB.tup {K : PySem.W.Frag} {s : Addr} {H H' : Hp} {a : Addr} {xs : List V} {kvs : List (Key × V)} (e : KB s H H') (hs : H s = some (.dK kvs)) (h : SqT K H a xs) : SqT K H' a xs := by
  rcases h with h | h
  · exact .inl (e.rd hs (fun _ z => by cases z) h)
  · exact .inr h
/-- tuples stay -/
def TM (K : PySem.W.Frag) (H H' : Hp) : Prop := ∀ a xs, SqT K H a xs → SqT K H' a xs
theorem TM.refl {K : PySem.W.Frag} (H : Hp) : TM K H H := fun _ _ h => h
theorem TM.trans {K : PySem.W.Frag} {H H1 H2 : Hp} (a : TM K H H1) (b : TM K H1 H2) : TM K H H2 := fun x y h => b x y (a x y h)
theorem TM.of {K : PySem.W.Frag} {H H' : Hp} (e : Same H H') : TM K H H' := fun _ _ h => SqT.same e h
theorem KB.tm {K : PySem.W.Frag} {s : Addr} {H H' : Hp} {kvs : List (Key × V)} (e : KB s H H') (hs : H s = some (.dK kvs)) : TM K H H' := fun _ _ h => e.tup hs h
theorem sz {n : Nat} (h : n ≤ 1000) : n ≤ sizeLine := Nat.le_of_lt (small1000 h)

theorem at_any {α : Type} {xs : List α} {z : Int} {j : Nat} {v : α} (e : z = (j : Int)) (h : xs[j]? = some v) : atI xs z = some v := by
  rw [e]
  exact atI_nat h

/-! ### a text told n times -/
/-- one sign, n times -/
def rp (c : Nat) (n : Int) : Str := ⟨(List.replicate n.toNat c).toArray⟩
theorem rp_fold (c : Nat) : ∀ (k : Nat) (a : Array Nat), (List.replicate k (#[c] : Array Nat)).foldl (· ++ ·) a = a ++ (List.replicate k c).toArray
  | 0, a => by simp
  | k + 1, a => by
    rw [List.replicate_succ, List.foldl_cons, rp_fold c k, List.replicate_succ]
    apply Array.ext'
    simp
theorem rp_len {c : Nat} {n : Int} : (rp c n).length = n.toNat := by
  show ((List.replicate n.toNat c).toArray).size = n.toNat
  simp
def rRepS : R2 := fun x y H Q => ∃ (c : Nat) (n : Int), x = .str ⟨#[c]⟩ ∧ y = .int n ∧ 0 ≤ n ∧ n ≤ 1000 ∧ Q (.str (rp c n)) H
theorem op_rep_str {X : Cx} : OpR X (binaryOp .Mult) rRepS := by
  intro pins s σ H x y v u Q I rx ry h
  obtain ⟨c, n, rfl, rfl, h0, h1, q⟩ := h
  obtain ⟨t, rfl⟩ := rx
  obtain ⟨t', rfl⟩ := ry
  have hz : (1000 : Nat) ≤ sizeLine := by decide
  refine PySem.P.mul_str (by simp; omega) (fun h2 h3 => ?_) (fun h2 h3 => ?_) ?_
  · have : (1 : Int) ≤ (2 ^ 63 - 1) / n := by
      apply (Int.le_ediv_iff_mul_le (by omega)).mpr
      omega
    show ¬ ((1 : Nat) : Int) > _
    omega
  · show decide _ = false
    refine decide_eq_false ?_
    show ¬ (1 * n.toNat > _)
    have : n.toNat ≤ 1000 := by omega
    omega
  · by_cases h2 : n < 1
    · rw [if_pos h2]
      have e : rp c n = Str.empty := by
        unfold rp
        rw [show n.toNat = 0 by omega]
        rfl
      rw [e] at q
      exact ⟨by decide, ⟨.str Str.empty, H, I.tok _, ⟨_, rfl⟩, q⟩⟩
    · rw [if_neg h2]
      by_cases h3 : n = 1
      · subst h3
        rw [if_pos (by rfl)]
        have e : rp c 1 = ⟨#[c]⟩ := rfl
        rw [e] at q
        exact ⟨.str ⟨#[c]⟩, H, I, ⟨_, rfl⟩, q⟩
      · rw [if_neg (by simp [h3]; intro z; cases z)]
        have e : (⟨(List.replicate n.toNat (#[c] : Array Nat)).foldl (· ++ ·) #[]⟩ : Str) = rp c n := by
          rw [rp_fold]
          simp [rp]
        rw [e]
        refine ⟨?_, ⟨.str (rp c n), H, I.tok _, ⟨_, rfl⟩, q⟩⟩
        rw [rp_len]
        omega
end Bk

set_option Elab.async false
set_option linter.all false
set_option maxRecDepth 100000
set_option maxHeartbeats 2000000
namespace Bk
open PySem PySem.Spec PyProof.Rows L2 GxR
/-! ### all(.. for x in text) where the element reads the module's names -/
/-- an element, with the module's names at hand -/
def Elm (prog : Program) (w : World) (mg : Str → Option Value) (sc : Scope) (x : Str) (elt : Expr) (pb : Nat → Bool) : Prop :=
  ∀ (en : Env) (B : Around) (Er : Value → Shared → Prop) (c : Nat) (t : Tok) (u : Shared) (m : Str → Option Value), en.scope = sc → en.globals = mainGlobals →
    u.heap.Ns mainGlobals mg → u.heap.Ns en.locals m → m x = some (.str ⟨#[c]⟩ t) → wpAny (model prog w) B (eval elt en) (fun y u' => y = .bool (pb c) ∧ Keeps u u') Er u
/-- x in NAME, a text of the module -/
theorem elm_in {prog : Program} {w : World} {mg : Str → Option Value} {sc : Scope} {x n : Str} {z : Str} {tz : Tok} {p1 p2 p3 : Pos} (hk : sc.kind = .function) (hl : sc.names.lookup x = some .local) (hn : sc.names.lookup n = some .globalImplicit)
    (hz : mg n = some (.str z tz)) (dx : (x == ("__debug__" : Str)) = false := by decide) (dn : (n == ("__debug__" : Str)) = false := by decide) :
    Elm prog w mg sc x (.Compare (.Name x p1) [.In] [.Name n p2] p3) (fun c => decide (c ∈ z.cps.toList)) := by
  intro en B Er c t u m es eg hg hloc hm
  refine wpAny_Compare1 (wpAny_Name (wpAny_loadName_local (by rw [es]; exact hk) (show en.scope.names.lookup x = some .local by rw [es]; exact hl) hloc hm ?_) dx)
  refine Calls.Name_function_global (by rw [es]; exact hk) (show en.scope.names.lookup n = some .globalImplicit by rw [es]; exact hn) (Calls.loadGlobal_global (by rw [eg]; exact hg) hz ?_) dn
  exact PyProof.Rows.in_str ⟨congrArg Value.bool (PySem.StrLaws.found_one z c), keeps_tok _ _⟩
/-- the code of a generator expression is found or made: the def's table may grow -/
theorem code_any {prog : Program} {w : World} {A : Around} {Er : Value → Shared → Prop} {env : Env} {c P : Addr} {u : Shared} {ps : Array Value} {sc : Scope} {q : Str} {gpos : Pos} {Q : Value → Shared → Prop}
    (hc : env.code = .ref c) (cd : PySem.W.CodeHd u.heap c P) (hP : u.heap.get? P = some { cls := .none, data := .fields ps }) (ht : TriplesOk ps.toList)
    (h : ∀ (code : Value) (g : Heap) (tk : Nat) (more : Array Value), Heap.ExtBut P u.heap g → u.heap.objs.size ≤ g.objs.size → g.get? P = some { cls := .none, data := .fields (ps ++ more) } → TriplesOk (ps ++ more).toList → Q code { u with heap := g, toks := tk }) :
    wpAny (model prog w) A (genexprCode env gpos q sc) Q Er u := by
  cases hf : codeAmong gpos ps.toList with
  | some cv => exact wpAny_genexprCode_hit hc (cd.code hP ht) hf (h cv u.heap u.toks #[] (Heap.ExtBut.refl _ _) (Nat.le_refl _) (by simpa using hP) (by simpa using ht))
  | none =>
    refine wpAny_genexprCodeX hc (cd.code hP ht) (cd.tab hP) hf fun c' g tk gx gge glt gco _ gtab _ => ?_
    obtain ⟨_, _, _, _, _, _, _, _, _, _, _, _, _, _, _, _, _, _, _, tr, _⟩ := gco
    exact h _ g tk _ gx (Nat.le_trans gge (Nat.le_of_lt glt)) gtab.2 tr
section
variable {X : Cx} {pins : List (Addr × Obj)} {σ : L2.St} {H : Hp} {s : Shared}
theorem gen_text {c P : Addr} {elt iter : Expr} {x : Str} {px gpos : Pos} {sc : Scope} {pb : Nat → Bool} {te : TE} {k : Nat} {W : Value → Shared → Prop} {R : Str → Hp → Prop}
    (hr : Room k X.A) (tb : TabB X.base X.mg c P) (hc : X.env.code = .ref c) (S : GenS X.env sc x) (hi : PE X iter te) (hel : Elm X.prog X.w X.mg sc x elt pb)
    (hs : ∀ v, genFold iter X.env v = pure v) (I : Inv X pins σ H s) (h : te σ H fun v H1 => ∃ a : Str, v = .str a ∧ TabG H1 P ∧ R a H1)
    (hW : ∀ (a : Str) (H1 : Hp) (g : Addr) (u : Shared), R a H1 → Ready X pins σ H1 P a pb g u → W (.ref g) u) :
    wpAny (model X.prog X.w) X.A (eval (.GeneratorExp elt [⟨.Name x px, iter, [], 0⟩] sc gpos) X.env) W X.xe s := by
  refine wpAny_GeneratorExp_walksQ hr.hd S.co (closure_ok S.free) S.cell S.dot S.loc S.kind (by have := hr.dp; omega) (thn (hi.run pins s σ H _ I h) ?_) hs
  rintro xv u ⟨v, H1, I1, r1, a, rfl, ⟨ps, hP, ht⟩, hR⟩
  obtain ⟨t, rfl⟩ := _root_.id r1
  refine wpAny_pyIter_str fun o St Wk st0 => ?_
  have atP : u.heap.get? P = some { cls := .none, data := .fields ps } := I1.hok P _ hP
  have atP2 := Heap.get?_push_of_some o atP
  have free := I1.nolimit
  have free2 := free.push o
  have old : ∀ b v, X.base.get? b = some v → (u.heap.push o).get? b = some v := fun b v e => Heap.get?_push_of_some _ (I1.bk b v e)
  refine ⟨free2, code_any hc (tb.code.keeps old) atP2 ht fun code g tk more gx gge gP gt => ?_⟩
  have hsz : (u.heap.push o).objs.size = u.heap.objs.size + 1 := Heap.size_push ..
  have hg : u.heap.objs.size < g.objs.size := by
    have gge : (u.heap.push o).objs.size ≤ g.objs.size := gge
    omega
  have ltP : P < u.heap.objs.size := Heap.lt_size atP
  have stat : cStatics ≠ P ∧ cStatics < u.heap.objs.size := by
    obtain ⟨_, ns, _⟩ := free
    refine ⟨fun e => ?_, ns.lt⟩
    obtain ⟨ob, es, ep, ho, hd, _⟩ := ns
    rw [e, atP] at ho
    cases ho
    cases hd
  obtain ⟨bm, ob, b1, b2, b3, b4, b5, b6, b7, b8⟩ := tb.bm
  have toG : ∀ b v, b ≠ P → u.heap.get? b = some v → g.get? b = some v := fun b v n e => gx b v n (Heap.get?_push_of_some _ e)
  have names : g.Ns mainGlobals X.mg := ((I1.mod.glob.keeps I1.bk).push o).extBut gx tb.gP
  have notW : ∀ b v, u.heap.get? b = some v → b ≠ u.heap.objs.size := fun b v e => Nat.ne_of_lt (Heap.lt_size e)
  refine wpAny_builtinsFor (m := X.mg) (by rw [I1.ok.glob]; exact names) b1 b2 (toG _ _ b4 (I1.bk _ _ b5)) b6 b7 b8 ?_
  refine ⟨u.heap.objs.size, [u.heap.objs.size], [u.heap.objs.size], a.cps.size, SignAt a, St, fun _ => true, fun i y => ∃ z, a.cps[i]? = some z ∧ y = .bool (pb z), rfl, Wk,
    (Wk X.A hr.hd).frame _ _ _ st0 fun b hb v e => gx b v (fun q => ?_) e, fun b hb => ?_, free2.extBut gx stat.1, fun q => ?_, fun hf hhf => ⟨?_, ?_⟩, ?_⟩
  · rw [List.mem_singleton.mp hb] at q
    exact Nat.ne_of_lt ltP q.symm
  · rw [List.mem_singleton.mp hb]
    exact hg
  · exact Nat.ne_of_lt stat.2 (List.mem_singleton.mp q)
  · intro A' E' i v s2 m2 _ _ _ _ _
    simp only [List.forIn_nil]
    exact wpAny_pure ⟨rfl, keeps_refl _⟩
  · intro A' E' i v s2 m2 _ hv _ hloc hm hk
    obtain ⟨z, tz, hz, rfl⟩ := hv
    have names2 : s2.heap.Ns mainGlobals X.mg := by
      obtain ⟨og, es, ep, e0, rr⟩ := names
      refine ⟨og, es, ep, hk mainGlobals (List.mem_range.mpr (Heap.lt_size e0)) (fun q => ?_) og (hhf _ _ e0), rr⟩
      obtain ⟨o3, _, _, e3, _⟩ := I1.mod.glob
      exact notW _ _ (I1.bk _ _ e3) (List.mem_singleton.mp q)
    refine wpAny_mono (hel _ A' E' z tz s2 m2 rfl I1.ok.glob names2 hloc hm) (fun y s3 r => ⟨⟨z, hz, r.1⟩, r.2⟩) fun _ _ e => e
  · intro q h5 tk5 gs bare ltq sz5 to5 W5 st5
    simp only [GxR.passing_true, List.length_range] at W5
    refine hW a H1 q _ hR ⟨_, _, _, _, _, W5.in4_1, st5, ?_, fun s' hm => ?_⟩
    · intro j y sj Qj Ej hy hQj
      obtain ⟨i, hi, z, hz, rfl⟩ := hy
      obtain ⟨hj, ej⟩ := List.getElem?_eq_some_iff.mp hi
      rw [List.getElem_range] at ej
      subst ej
      have ez : a.cps.toList[j]? = some z := by rw [Array.getElem?_toList]; exact hz
      have q2 : Qj (trF pb a.cps.toList j) sj := hQj
      rw [trF_some ez] at q2
      exact wpAny_truthy_bool q2
    · have out : ∀ b v, u.heap.get? b = some v → b ∉ g.objs.size :: [u.heap.objs.size] := fun b v e hb => by
        have hl := Heap.lt_size e
        rcases List.mem_cons.mp hb with z | z
        · rw [z] at hl
          exact absurd hl (Nat.not_lt.mpr (Nat.le_of_lt hg))
        · exact notW b v e (List.mem_singleton.mp z)
      have J := inv_tab (more := more) (h' := s'.heap) (g' := s'.gens) (d' := s'.drawn) (t' := s'.toks) I1 hP (fun b v n e => hm.heap b v (out b v e) (to5 b v (toG b v n e))) (hm.heap P _ (out P _ atP) (to5 P _ gP)) (AllBare.movedS (I1.bare.push bare) hm)
      rw [sh_eta u s' hm.os] at J
      exact ⟨_, ⟨⟨_, upd_same, gt⟩, fun b n => upd_ne n⟩, J⟩
/-- all(element for x in text) -/
theorem pe_allG {c P : Addr} {elt iter : Expr} {x : Str} {px p pos gpos : Pos} {sc : Scope} {pb : Nat → Bool} {te : TE} {k : Nat}
    (hr : Room k X.A) (gl : Gl X "all") (hm : X.mg "all" = none) (hb : bootBuiltins "all" = some (.builtin "all")) (tb : TabB X.base X.mg c P) (hc : X.env.code = .ref c) (S : GenS X.env sc x) (hi : PE X iter te) (hel : Elm X.prog X.w X.mg sc x elt pb)
    (hs : ∀ v, genFold iter X.env v = pure v)
    (he : starEach [.GeneratorExp elt [⟨.Name x px, iter, [], 0⟩] sc gpos] X.env = (false, eval (.GeneratorExp elt [⟨.Name x px, iter, [], 0⟩] sc gpos) X.env) :: starEach [] X.env := by rfl) :
    PE X (.Call (.Name "all" p) [.GeneratorExp elt [⟨.Name x px, iter, [], 0⟩] sc gpos] [] pos) (tAllS P pb te) := by
  refine ⟨fun pins s σ H Q I h => wpAny_Call_Name_kw (ld_blt (u := .builtin "all") I gl hm hb (PyProof.Rows.callWith_builtin1 ?_ he (by rfl)))⟩
  rw [he]
  refine Calls.spliced_cons (gen_text (R := fun a H1 => ∀ H2, Tabbed P H1 H2 → Q (.bl (a.cps.toList.all pb)) H2) hr tb hc S hi hel hs I h fun a H1 g u hR ⟨fp, wr, G, F, Sw, W, st, tr, hI⟩ => Calls.spliced_nil ?_)
  refine call_all_walkS (W.self 0 _ _ _ st ⟨g, fp, wr, G, _, F, Sw, _, rfl, W, st, tr, fun s' mv => ?_⟩)
  obtain ⟨H2, hT, J⟩ := hI s' mv
  exact ⟨.bl _, H2, J, rfl, by rw [all_signs a pb]; exact hR H2 hT⟩
end
end Bk

set_option Elab.async false
set_option linter.all false
set_option maxRecDepth 100000
set_option maxHeartbeats 2000000
namespace Bk
open PySem PySem.Spec PyProof.Rows L2
/-! ### NAME.get(key): a dict of the module whose keys are texts -/
def tKGet (K : PySem.W.Frag) (d : Addr) (ty : TE) : TE := fun σ H Q => ty σ H fun y H1 => ∃ (z : Str) (r : Option Value) (v : V), y = .str z ∧ PySem.W.nsIn K d z = some r ∧ RelV v (r.getD .none) ∧ Q v H1
theorem pe_kget {X : Cx} {n : Str} {p apos cpos : Pos} {e : Expr} {ty : TE} {d : Addr} {es : Array DictEntry} {c : Nat} (D : KDict X.K X.w d es c) (hg : Gl X n) (hm : X.mg n = some (.ref d)) (he : PE X e ty) (m : M1 X (.Name n p) "get" apos e cpos)
    (dn : (n == ("__debug__" : Str)) = false := by decide) : PE X (.Call (.Attribute (.Name n p) "get" apos) [e] [] cpos) (tKGet X.K d ty) := by
  refine ⟨fun pn u τ G W I h => wpAny_Call_method m.base m.few m.line PySem.F.plainAttrs_dict PySem.F.slot_dict_get PySem.F.type_dict_get (ld_glob I hg hm ?_ dn)⟩
  have M0 := PySem.W.mapOf_K (prog := X.prog) (w := X.w) I.kIn D.at_ D.lit
  refine ⟨M0.typeIs, M0.noDict, ?_⟩
  rw [m.trees]
  refine Calls.callWith_builtin rfl (Calls.evalArgs_plain (Calls.spliced_cons (thn (he.run pn u τ G _ I h) fun uv u1 hh => Calls.spliced_nil ?_)))
  obtain ⟨y, G1, I1, ry, z, r, v, ey, en, rv, q⟩ := hh
  subst ey
  obtain ⟨t, rfl⟩ := ry
  have M1 := PySem.W.mapOf_K (prog := X.prog) (w := X.w) I1.kIn D.at_ D.lit
  refine call_meetsIn PySem.F.slot_dict_get M1.typeIs PySem.F.entry_dict_get (PySem.F.args_dict_get_2 _ _) (meets_dict_get (strKind X.prog X.w) d (PySem.strKind_is X.prog X.w z t) D.low) ⟨_, M1, ?_⟩
  rw [PySem.W.find_K D.at_ en]
  exact ⟨v, G1, I1.tok _, rv, q⟩

/-! ### handed-in data -/
/-- what is told by tuples and lists stays -/
structure DM (K : PySem.W.Frag) (H H' : Hp) : Prop where
  t : ∀ a xs, SqT K H a xs → SqT K H' a xs
  l : ∀ a xs, SqL K H a xs → SqL K H' a xs
theorem DM.refl {K : PySem.W.Frag} (H : Hp) : DM K H H := ⟨fun _ _ h => h, fun _ _ h => h⟩
theorem DM.trans {K : PySem.W.Frag} {H H1 H2 : Hp} (a : DM K H H1) (b : DM K H1 H2) : DM K H H2 := ⟨fun x y h => b.t x y (a.t x y h), fun x y h => b.l x y (a.l x y h)⟩
theorem DM.of {K : PySem.W.Frag} {H H' : Hp} (e : Same H H') : DM K H H' := ⟨fun _ _ h => SqT.same e h, fun _ _ h => e.seq h⟩
theorem DM.tm {K : PySem.W.Frag} {H H' : Hp} (d : DM K H H') : TM K H H' := d.t
theorem KB.dm {K : PySem.W.Frag} {s : Addr} {H H' : Hp} {kvs : List (Key × V)} (e : KB s H H') (hs : H s = some (.dK kvs)) : DM K H H' := ⟨fun _ _ h => e.tup hs h, fun _ _ h => e.seq hs h⟩
mutual
theorem Dp.dm {K : PySem.W.Frag} {H H' : Hp} (m : DM K H H') : ∀ {d : PyData} {v : V}, Dp K H v d → Dp K H' v d
  | .none, _, .non => .non
  | .bool _, _, .bl b => .bl b
  | .int _, _, .int i => .int i
  | .str _, _, .str x => .str x
  | .list _, _, .lst h r => .lst (m.l _ _ h) (DpAll.dm m r)
  | .tuple _, _, .tup h r => .tup (m.t _ _ h) (DpAll.dm m r)
theorem DpAll.dm {K : PySem.W.Frag} {H H' : Hp} (m : DM K H H') : ∀ {ds : List PyData} {vs : List V}, DpAll K H vs ds → DpAll K H' vs ds
  | [], _, .nil => .nil
  | _ :: _, _, .cons h r => .cons (Dp.dm m h) (DpAll.dm m r)
end
theorem DpAll.len {K : PySem.W.Frag} {H : Hp} : ∀ {ds : List PyData} {vs : List V}, DpAll K H vs ds → vs.length = ds.length
  | [], _, .nil => rfl
  | _ :: _, _, .cons _ r => by rw [List.length_cons, List.length_cons, DpAll.len r]
theorem DpAll.at {K : PySem.W.Frag} {H : Hp} : ∀ {ds : List PyData} {vs : List V} {i : Nat} {d : PyData}, DpAll K H vs ds → ds[i]? = some d → ∃ v, vs[i]? = some v ∧ Dp K H v d
  | [], _, i, d, .nil, h => by simp at h
  | e :: ds, v :: vs, 0, d, .cons a r, h => by
    simp only [List.getElem?_cons_zero, Option.some.injEq] at h
    subst h
    exact ⟨v, rfl, a⟩
  | e :: ds, v :: vs, i + 1, d, .cons a r, h => by
    simp only [List.getElem?_cons_succ] at h
    obtain ⟨u, h1, h2⟩ := DpAll.at r h
    exact ⟨u, by simpa using h1, h2⟩
theorem DpAll.app {K : PySem.W.Frag} {H : Hp} : ∀ {ds es : List PyData} {vs us : List V}, DpAll K H vs ds → DpAll K H us es → DpAll K H (vs ++ us) (ds ++ es)
  | [], _, _, _, .nil, s => s
  | _ :: _, _, _, _, .cons a r, s => .cons a (DpAll.app r s)
theorem DpAll.drop {K : PySem.W.Frag} {H : Hp} : ∀ (n : Nat) {ds : List PyData} {vs : List V}, DpAll K H vs ds → DpAll K H (vs.drop n) (ds.drop n)
  | 0, _, _, r => r
  | _ + 1, [], _, .nil => .nil
  | n + 1, _ :: _, _, .cons _ r => DpAll.drop n r
theorem DpAll.take {K : PySem.W.Frag} {H : Hp} : ∀ (n : Nat) {ds : List PyData} {vs : List V}, DpAll K H vs ds → DpAll K H (vs.take n) (ds.take n)
  | 0, _, _, _ => .nil
  | _ + 1, [], _, .nil => .nil
  | n + 1, _ :: _, _, .cons a r => .cons a (DpAll.take n r)
/-- the built-in type's name -/
def tyn : PyData → String
  | .none => "NoneType"
  | .bool _ => "bool"
  | .int _ => "int"
  | .str _ => "str"
  | .list _ => "list"
  | .tuple _ => "tuple"
  | .dict _ => "dict"
theorem ty_of {K : PySem.W.Frag} {H : Hp} {v : V} {d : PyData} (h : Dp K H v d) : TyX K H v (.type (tyn d)) := by
  cases h with
  | non => exact .base .non
  | bl b => exact .base (.bl b)
  | int i => exact .base (.int i)
  | str x => exact .base (.str x)
  | lst a r =>
    rcases a with (a | ⟨o, a⟩) | ⟨o, its, n, a, c, _⟩
    · exact .base (.lst a)
    · exact .base (.frz a)
    · exact .kList a c
  | tup a r =>
    rcases a with (a | ⟨o, a⟩) | ⟨o, its, n, a, c, _⟩
    · exact .base (.tup a)
    · exact .fTuple a
    · exact .kTuple a c
def isStr : PyData → Bool
  | .str _ => true
  | _ => false
def isTup : PyData → Bool
  | .tuple _ => true
  | _ => false
def isLst : PyData → Bool
  | .list _ => true
  | _ => false
def isInt : PyData → Bool
  | .int _ => true
  | .bool _ => true
  | _ => false
def isBool : PyData → Bool
  | .bool _ => true
  | _ => false
section
variable {K : PySem.W.Frag} {H : Hp} {v : V} {d : PyData} {Q : VK}
theorem use_isStr (h : Dp K H v d) (q : Q (.bl (isStr d)) H) : rIsi K [v, .ty "str"] H Q := ⟨v, .ty "str", _, _, isStr d, rfl, .ty _, ty_of h, kit_ty (by cases h with | non => exact (by decide +kernel : kitB "NoneType" "str" = some false) | bl _ => exact (by decide +kernel : kitB "bool" "str" = some false) | int _ => exact (by decide +kernel : kitB "int" "str" = some false) | str _ => exact (by decide +kernel : kitB "str" "str" = some true) | lst _ _ => exact (by decide +kernel : kitB "list" "str" = some false) | tup _ _ => exact (by decide +kernel : kitB "tuple" "str" = some false)), q⟩
theorem use_isTup (h : Dp K H v d) (q : Q (.bl (isTup d)) H) : rIsi K [v, .ty "tuple"] H Q := ⟨v, .ty "tuple", _, _, isTup d, rfl, .ty _, ty_of h, kit_ty (by cases h with | non => exact (by decide +kernel : kitB "NoneType" "tuple" = some false) | bl _ => exact (by decide +kernel : kitB "bool" "tuple" = some false) | int _ => exact (by decide +kernel : kitB "int" "tuple" = some false) | str _ => exact (by decide +kernel : kitB "str" "tuple" = some false) | lst _ _ => exact (by decide +kernel : kitB "list" "tuple" = some false) | tup _ _ => exact (by decide +kernel : kitB "tuple" "tuple" = some true)), q⟩
theorem use_isLst (h : Dp K H v d) (q : Q (.bl (isLst d)) H) : rIsi K [v, .ty "list"] H Q := ⟨v, .ty "list", _, _, isLst d, rfl, .ty _, ty_of h, kit_ty (by cases h with | non => exact (by decide +kernel : kitB "NoneType" "list" = some false) | bl _ => exact (by decide +kernel : kitB "bool" "list" = some false) | int _ => exact (by decide +kernel : kitB "int" "list" = some false) | str _ => exact (by decide +kernel : kitB "str" "list" = some false) | lst _ _ => exact (by decide +kernel : kitB "list" "list" = some true) | tup _ _ => exact (by decide +kernel : kitB "tuple" "list" = some false)), q⟩
theorem use_isInt (h : Dp K H v d) (q : Q (.bl (isInt d)) H) : rIsi K [v, .ty "int"] H Q := ⟨v, .ty "int", _, _, isInt d, rfl, .ty _, ty_of h, kit_ty (by cases h with | non => exact (by decide +kernel : kitB "NoneType" "int" = some false) | bl _ => exact (by decide +kernel : kitB "bool" "int" = some true) | int _ => exact (by decide +kernel : kitB "int" "int" = some true) | str _ => exact (by decide +kernel : kitB "str" "int" = some false) | lst _ _ => exact (by decide +kernel : kitB "list" "int" = some false) | tup _ _ => exact (by decide +kernel : kitB "tuple" "int" = some false)), q⟩
theorem use_isBool (h : Dp K H v d) (q : Q (.bl (isBool d)) H) : rIsi K [v, .ty "bool"] H Q := ⟨v, .ty "bool", _, _, isBool d, rfl, .ty _, ty_of h, kit_ty (by cases h with | non => exact (by decide +kernel : kitB "NoneType" "bool" = some false) | bl _ => exact (by decide +kernel : kitB "bool" "bool" = some true) | int _ => exact (by decide +kernel : kitB "int" "bool" = some false) | str _ => exact (by decide +kernel : kitB "str" "bool" = some false) | lst _ _ => exact (by decide +kernel : kitB "list" "bool" = some false) | tup _ _ => exact (by decide +kernel : kitB "tuple" "bool" = some false)), q⟩
end
/-- all stays but a def's table at P, which may grow -/
structure Tb (P : Addr) (H H' : Hp) : Prop where
  g : GxR.TabG H' P
  k : ∀ a o, a ≠ P → H a = some o → H' a = some o
theorem Tb.refl {P : Addr} {H : Hp} (g : GxR.TabG H P) : Tb P H H := ⟨g, fun _ _ _ h => h⟩
theorem Tb.trans {P : Addr} {H H1 H2 : Hp} (a : Tb P H H1) (b : Tb P H1 H2) : Tb P H H2 := ⟨b.g, fun x o n h => b.k x o n (a.k x o n h)⟩
theorem tab_same {P : Addr} {H H' : Hp} (g : GxR.TabG H P) (e : Same H H') : GxR.TabG H' P := by
  obtain ⟨ps, h, t⟩ := g
  exact ⟨ps, e _ _ h, t⟩
theorem Tb.of {P : Addr} {H H' : Hp} (g : GxR.TabG H P) (e : Same H H') : Tb P H H' := ⟨tab_same g e, fun _ _ _ h => e _ _ h⟩
theorem Tb.grown {P : Addr} {H H' : Hp} (t : GxR.Tabbed P H H') : Tb P H H' := ⟨t.1, fun a o n h => by rw [t.2 a n]; exact h⟩
theorem Tb.rd {P : Addr} {H H' : Hp} {a : Addr} {u : HO} (g : GxR.TabG H P) (t : Tb P H H') (hu : ∀ ps, u ≠ .tbl ps) (h : Rd H a u) : Rd H' a u := by
  obtain ⟨ps, e, _⟩ := g
  rcases h with h | ⟨o, h⟩
  · exact .inl (t.k _ _ (fun z => by rw [z, e] at h; exact hu _ (Option.some.inj h).symm) h)
  · exact .inr ⟨o, t.k _ _ (fun z => by rw [z, e] at h; cases h) h⟩
theorem Tb.dm {K : PySem.W.Frag} {P : Addr} {H H' : Hp} (g : GxR.TabG H P) (t : Tb P H H') : DM K H H' := by
  refine ⟨fun a xs h => ?_, fun a xs h => ?_⟩
  · rcases h with h | h
    · exact .inl (t.rd g (fun _ z => by cases z) h)
    · exact .inr h
  · rcases h with h | h
    · exact .inl (t.rd g (fun _ z => by cases z) h)
    · exact .inr h
theorem tab_kb {P s : Addr} {H H' : Hp} {kvs : List (Key × V)} (g : GxR.TabG H P) (e : KB s H H') (hs : H s = some (.dK kvs)) : GxR.TabG H' P := by
  obtain ⟨ps, h, t⟩ := g
  exact ⟨ps, e _ _ (fun z => by rw [z, hs] at h; cases h) h, t⟩
/-! ### sizes -/
mutual
def szOk : PyData → Bool
  | .str x => decide (x.length ≤ 1000)
  | .list xs => szAll xs
  | .tuple xs => szAll xs
  | _ => true
def szAll : List PyData → Bool
  | [] => true
  | d :: ds => szOk d && szAll ds
end
theorem szAll_at : ∀ {ds : List PyData} {i : Nat} {d : PyData}, szAll ds = true → ds[i]? = some d → szOk d = true
  | [], i, d, _, h => by simp at h
  | e :: ds, 0, d, h, q => by
    simp only [List.getElem?_cons_zero, Option.some.injEq] at q
    subst q
    unfold szAll at h
    exact (Bool.and_eq_true_iff.mp h).1
  | e :: ds, i + 1, d, h, q => by
    simp only [List.getElem?_cons_succ] at q
    unfold szAll at h
    exact szAll_at (Bool.and_eq_true_iff.mp h).2 q
end Bk

set_option Elab.async false
set_option linter.all false
set_option maxRecDepth 100000
set_option maxHeartbeats 2000000
namespace Bk
open PySem PySem.Spec PyProof.Rows L2
/-! ### the forms -/
abbrev Forms := List (Str × List Str)
def numForms : Forms := [("num", ["amount"]), ("read", ["name"]), ("plus", ["number", "number"]), ("minus", ["number", "number"]), ("times", ["number", "number"]), ("most", ["number", "number"]), ("least", ["number", "number"])]
def condForms : Forms := [("below", ["number", "number"]), ("not", ["condition"]), ("all", ["condition", "condition"]), ("any", ["condition", "condition"])]
def ctrForms : Forms := [("none", []), ("give", ["side", "side", "good", "number"]), ("both", ["contract", "contract"]), ("turned", ["side", "side", "contract"]), ("later", ["wait", "contract"]), ("often", ["times", "gap", "contract"]),
  ("if", ["condition", "contract", "contract"]), ("when", ["condition", "contract"]), ("until", ["condition", "contract"])]
def strsAre : List Value → List Str → Bool
  | [], [] => true
  | .str x _ :: r, y :: s => decide (x = y) && strsAre r s
  | _, _ => false
theorem strsAre_vals : ∀ {us : List Value} {ks : List Str}, strsAre us ks = true → Vals (ks.map V.str) us
  | [], [], _ => .nil
  | .str x t :: r, y :: s, h => by
    have h' : (decide (x = y) && strsAre r s) = true := h
    rw [Bool.and_eq_true] at h'
    have e := of_decide_eq_true h'.1
    subst e
    exact .cons ⟨t, rfl⟩ (strsAre_vals h'.2)
def tupOk (K : PySem.W.Frag) (a : Addr) (ks : List Str) : Bool := match K.lookup a with
  | some ⟨.type c, _, .seq its _, _⟩ => decide (c = "tuple") && (decide (its.size ≤ 100) && strsAre its.toList ks)
  | _ => false
theorem tupOk_sq {K : PySem.W.Frag} {a : Addr} {ks : List Str} (h : tupOk K a ks = true) (H : Hp) : SqT K H a (ks.map V.str) := by
  unfold tupOk at h
  split at h
  · rename_i c dd its n sl e
    simp only [Bool.and_eq_true, decide_eq_true_eq] at h
    obtain ⟨h1, h2, h3⟩ := h
    subst h1
    exact .inr ⟨_, its, n, e, rfl, rfl, Nat.le_trans h2 (by decide), strsAre_vals h3⟩
  · cases h
def rowOk (K : PySem.W.Frag) (e : DictEntry) (p : Str × List Str) : Bool := match e.key, e.val with
  | .str x _, .ref a => decide (x = p.1) && tupOk K a p.2
  | _, _ => false
def rowsOk (K : PySem.W.Frag) : List DictEntry → Forms → Bool
  | [], [] => true
  | e :: r, p :: s => rowOk K e p && rowsOk K r s
  | _, _ => false
def formOf (L : Forms) (z : Str) : Option (List Str) := match L with
  | [] => none
  | p :: s => if p.1 = z then some p.2 else formOf s z
theorem rowsOk_find {K : PySem.W.Frag} {z : Str} : ∀ {es : List DictEntry} {L : Forms}, rowsOk K es L = true →
    match formOf L z with
    | none => es.find? (fun e => e.key.isStr z) = none
    | some ks => ∃ e a, es.find? (fun e => e.key.isStr z) = some e ∧ e.val = .ref a ∧ tupOk K a ks = true
  | [], [], _ => rfl
  | e :: r, p :: s, h => by
    have h' : (rowOk K e p && rowsOk K r s) = true := h
    rw [Bool.and_eq_true] at h'
    obtain ⟨h1, h2⟩ := h'
    have ih := rowsOk_find (z := z) h2
    unfold rowOk at h1
    split at h1
    · rename_i x t a ek ev
      rw [Bool.and_eq_true, decide_eq_true_eq] at h1
      obtain ⟨e1, e2⟩ := h1
      by_cases c : p.1 = z
      · have e3 : e.key.isStr z = true := by rw [ek, PySem.W.isStr_of, e1, c]; simp [Value.isStrOf]
        unfold formOf
        rw [if_pos c]
        exact ⟨e, a, by rw [List.find?_cons, e3], ev, e2⟩
      · have e3 : e.key.isStr z = false := by
          rw [ek, PySem.W.isStr_of, e1]
          simp only [Value.isStrOf]
          simpa using c
        unfold formOf
        rw [if_neg c, List.find?_cons, e3]
        exact ih
    · cases h1
def tabOk (K : PySem.W.Frag) (d : Addr) (L : Forms) : Bool := match K.lookup d with
  | some ⟨_, _, .dict es _, _⟩ => !(es.toList.any (·.refKey)) && rowsOk K es.toList L
  | _ => false
theorem tabOk_ns {K : PySem.W.Frag} {d : Addr} {L : Forms} (h : tabOk K d L = true) (z : Str) :
    match formOf L z with
    | none => PySem.W.nsIn K d z = some none
    | some ks => ∃ a, PySem.W.nsIn K d z = some (some (.ref a)) ∧ ∀ H, SqT K H a (ks.map V.str) := by
  unfold tabOk at h
  split at h
  · rename_i c dd es n sl e
    rw [Bool.and_eq_true] at h
    have q := rowsOk_find (z := z) h.2
    have r : es.toList.any (·.refKey) = false := by simpa using h.1
    unfold PySem.W.nsIn
    rw [e]
    cases hf : formOf L z with
    | none =>
      rw [hf] at q
      dsimp only at q ⊢
      rw [q, r]
      rfl
    | some ks =>
      rw [hf] at q
      obtain ⟨en, a, q1, q2, q3⟩ := q
      dsimp only
      rw [q1]
      dsimp only
      exact ⟨a, by rw [q2], tupOk_sq q3⟩
  · cases h
/-- a dict of the module that tells the forms of a kind -/
structure FTab (K : PySem.W.Frag) (w : World) (mg : Str → Option Value) (n : Str) (L : Forms) (d : Addr) : Prop where
  g : mg n = some (.ref d)
  kd : ∃ es c, KDict K w d es c
  ok : tabOk K d L = true
/-! ### what a contract is -/
def kindsOf (kind w : Str) : Option (List Str) := if kind = "contract" then formOf ctrForms w else if kind = "condition" then formOf condForms w else formOf numForms w
def isDeep (k : Str) : Bool := decide (k = "contract") || (decide (k = "condition") || decide (k = "number"))
def isW' : PyData → Bool
  | .str x => decide (1 ≤ x.length) && (decide (x.length ≤ 8) && x.cps.toList.all fun c => decide (97 ≤ c) && decide (c ≤ 122))
  | _ => false
def inB (lo hi : Int) : PyData → Bool
  | .int i => decide (lo ≤ i) && decide (i ≤ hi)
  | _ => false
def plainOk (k : Str) (d : PyData) : Bool :=
  if k = "amount" then inB (-999999999999) 999999999999 d else if k = "wait" then inB 0 99 d else if k = "times" then inB 1 9 d else if k = "gap" then inB 1 99 d else isW' d
def sameSides : List PyData → Bool
  | .str a :: .str b :: _ => decide (a = b)
  | _ => false
def twoSides (ks : List Str) : Bool := decide (ks.take 2 = [("side" : Str), ("side" : Str)])
/-- a contract, condition or number (by its kind) of at most so many levels -/
def wf : Nat → Str → PyData → Bool
  | 0, _, _ => false
  | n + 1, kind, .tuple (.str w :: ds) => match kindsOf kind w with
    | none => false
    | some ks => decide (ks.length = ds.length) && ((List.zip ks ds).all (fun p => if isDeep p.1 = true then wf n p.1 p.2 else plainOk p.1 p.2) && !(twoSides ks && sameSides ds))
  | _ + 1, _, _ => false
theorem wf_tup {n : Nat} {kind w : Str} {ds : List PyData} : wf (n + 1) kind (.tuple (.str w :: ds)) = match kindsOf kind w with
    | none => false
    | some ks => decide (ks.length = ds.length) && ((List.zip ks ds).all (fun p => if isDeep p.1 = true then wf n p.1 p.2 else plainOk p.1 p.2) && !(twoSides ks && sameSides ds)) := rfl
theorem wf_not {n : Nat} {kind : Str} {d : PyData} (h : ∀ w ds, d ≠ .tuple (.str w :: ds)) : wf n kind d = false := by
  cases n with
  | zero => rfl
  | succ n =>
    cases d with
    | tuple ds =>
      cases ds with
      | nil => rfl
      | cons x r =>
        cases x with
        | str w => exact absurd rfl (h w r)
        | _ => rfl
    | _ => rfl
end Bk

set_option Elab.async false
set_option linter.all false
set_option maxRecDepth 100000
set_option maxHeartbeats 2000000
namespace Bk
open PySem PySem.Spec PyProof.Rows L2
/-! ### a def whose code object is known -/
structure FunC (c : Addr) (K : PySem.W.Frag) (x : Str) (st : Stmt) (f : Addr) (fd : FuncData) : Prop where
  ex : ∃ (oc : Value) (od : Option Addr) (kV doc pm : Value) (an : Option Addr) (ct : Value) (osl : Array (Option Value)),
    fd = PySem.W.fnOf x x (defArgs st) (defBody st) (defScope st) .none kV doc pm an (.ref c) ct ∧ K.lookup f = some ⟨oc, od, .func fd, osl⟩ ∧ PySem.W.codeIn K (.ref c) x = true
  kp : PySem.W.keepIn K (.ref f) = true
theorem FunC.ok {c : Addr} {P : Program} {w : World} {K : PySem.W.Frag} {mg : Str → Option Value} {base : Heap} {x : Str} {st : Stmt} {f : Addr} {fd : FuncData} {N ps : List Str} {k : Nat} {sp : Sp} (F : FunC c K x st f fd) (S : FnScope N ps (defScope st))
    (len : ∀ vs H Q E, sp vs H Q E → vs.length = ps.length)
    (hb : ∀ (A : Around) (outer : List Env) (s : Shared) (H : Hp) (vs : List V) (Q : VK) (E : XK), Room k (A.deeper (envOfC x (defScope st) s.heap.objs.size f (.ref c))) → sp vs H Q E →
      ∃ t, PSs (cxOf CX0 P w K mg base N x (defScope st) f (.ref c) A outer s H E).nox (defBody st) t ∧ t { nx := fun _ H' => Q .non H', rt := Q } (start N vs) H) : FnOk P w K mg base CX0 (k + 1) f fd ps sp := by
  obtain ⟨oc, od, kV, doc, pm, an, ct, osl, rfl, lk, hcd⟩ := F.ex
  refine fn_of lk hcd S len fun A outer s H vs Q E hr hsp => ?_
  obtain ⟨t, h, q⟩ := hb A outer s H vs Q E hr hsp
  exact ⟨t, h.nox, q⟩
structure OwnC (c : Addr) (K : PySem.W.Frag) (mg : Str → Option Value) (x : Str) (st : Stmt) (ps : List Str) (f : Addr) (fd : FuncData) : Prop where
  F : FunC c K x st f fd
  g : mg x = some (.ref f)
  b : Binds K fd ps []
theorem OwnC.has {c : Addr} {P : Program} {w : World} {K : PySem.W.Frag} {mg : Str → Option Value} {base : Heap} {x : Str} {st : Stmt} {ps : List Str} {f : Addr} {fd : FuncData} {lv : Nat} {CX : CXT} {sp : Sp} (O : OwnC c K mg x st ps f fd)
    (G : FnOk P w K mg base CX lv f fd ps sp) : Has P w K mg base x ps lv CX sp f fd := ⟨G, O.g, O.F.kp, O.b⟩
theorem OwnC.mk' {c : Addr} {K : PySem.W.Frag} {mg : Str → Option Value} {x : Str} {st : Stmt} {ps : List Str} {f : Addr} {oc : Value} {od an : Option Addr} {osl : Array (Option Value)} {kV doc pm ct : Value}
    (l : K.lookup f = some ⟨oc, od, .func (PySem.W.fnOf x x (defArgs st) (defBody st) (defScope st) .none kV doc pm an (.ref c) ct), osl⟩) (hc : PySem.W.codeIn K (.ref c) x = true) (kp : PySem.W.keepIn K (.ref f) = true) (g : mg x = some (.ref f))
    (b : Binds K (PySem.W.fnOf x x (defArgs st) (defBody st) (defScope st) .none kV doc pm an (.ref c) ct) ps []) : OwnC c K mg x st ps f (PySem.W.fnOf x x (defArgs st) (defBody st) (defScope st) .none kV doc pm an (.ref c) ct) :=
  ⟨⟨⟨oc, od, kV, doc, pm, an, ct, osl, rfl, l, hc⟩, kp⟩, g, b⟩
/-! ### the package's errors -/
structure ExcT (K : PySem.W.Frag) (mg : Str → Option Value) (x : Str) (C : Addr) : Prop where
  g : mg x = some (.ref C)
  x : PySem.W.excIn K C [.type "ValueError", .type "Exception", .type "BaseException", .type "object"] "ValueError.__new__" = true
  k : PySem.W.keepIn K (.ref C) = true
  s : PySem.W.subIn K (.ref C) (.type "BaseException") = some true
  t : PySem.W.typeIn K (.ref C) = some (.type "type")
/-- isinstance(e, c) in a suite: the reading asks of what class e is -/
def rIsX (K : PySem.W.Frag) (a : Addr) (cls : Value) (d : Option Addr) : List V → Hp → VK → Prop := fun xs H Q => ∃ D, cls = .ref D ∧ d = none ∧ ExcC K D ∧ rIsE K D a xs H Q
theorem call_isX {X : Cx} {a : Addr} {cls : Value} {d : Option Addr} {oe : Obj} {pn : List (Addr × Obj)} (hz : Zc cls d oe) (hf : ∃ vs, oe.data = .fields vs) : CallR (X.suite a ((a, oe) :: pn)) (.builtin "isinstance") (rIsX X.K a cls d) := by
  intro pins s τ G xs us W I r h
  obtain ⟨D, rfl, rfl, C, h⟩ := h
  exact call_isE C hz hf pins s τ G xs us W I r h
/-! ### a raised text -/
theorem str_app_len (a b : Str) : (a ++ b).length = a.length + b.length := by
  show (a.cps ++ b.cps).size = a.cps.size + b.cps.size
  simp
theorem five_k : (5000 : Nat) ≤ sizeLine := by decide
section
variable {σ : L2.St} {H : Hp} {R : List V → Hp → Prop} {a b x : Str} {i : Nat}
theorem fs3 (hx : σ[i]? = some (some (.str x))) (lx : x.length ≤ 1000) (la : a.length ≤ 1000) (lb : b.length ≤ 1000) (h : ∀ z, R [.str z] H) :
    tCons (fun σ H Q => tJs [tC (.str a), tFmt (tVar i), tC (.str b)] Str.empty σ H fun out H1 => Q (.str out) H1) tNil σ H R := by
  have e0 : (Str.empty : Str).length = 0 := rfl
  have z := five_k
  refine ⟨a, rfl, by rw [str_app_len]; omega, _, hx, .inl ⟨x, rfl, by omega, x, rfl, by rw [str_app_len, str_app_len]; omega, b, rfl, by rw [str_app_len, str_app_len, str_app_len]; omega, h _⟩⟩
theorem fs2 (hx : σ[i]? = some (some (.str x))) (lx : x.length ≤ 1000) (la : a.length ≤ 1000) (h : ∀ z, R [.str z] H) :
    tCons (fun σ H Q => tJs [tC (.str a), tFmt (tVar i)] Str.empty σ H fun out H1 => Q (.str out) H1) tNil σ H R := by
  have e0 : (Str.empty : Str).length = 0 := rfl
  have z := five_k
  refine ⟨a, rfl, by rw [str_app_len]; omega, _, hx, .inl ⟨x, rfl, by omega, x, rfl, by rw [str_app_len, str_app_len]; omega, h _⟩⟩
end
theorem inDeep (k : Str) : inV (.str k) [.str "contract", .str "condition", .str "number"] = isDeep k := by
  have e : ∀ a b : Str, (a == b) = decide (b = a) := fun a b => by
    by_cases c : a = b
    · subst c; simp
    · rw [decide_eq_false (fun z => c z.symm)]
      simpa using c
  simp only [inV, List.any_cons, List.any_nil, eqV, isDeep, e, Bool.or_false]
theorem cut1 (x : V) (xs : List V) : cutV (x :: xs) (some 1) none = xs := by
  have e : HT.sIx (xs.length + 1) 0 (some 1) = 1 := by
    have q := HT.sIx_nat (xs.length + 1) 0 1
    refine q.trans ?_
    omega
  unfold cutV
  rw [List.length_cons, HT.sIx_none, e]
  simp
theorem not_whole1 (x : V) (xs : List V) : ¬ (HT.sIx (x :: xs).length 0 (some 1) = 0 ∧ HT.sIx (x :: xs).length (x :: xs).length none = (x :: xs).length) := by
  rintro ⟨h, _⟩
  have e : HT.sIx (xs.length + 1) 0 (some 1) = 1 := by
    have q := HT.sIx_nat (xs.length + 1) 0 1
    refine q.trans ?_
    omega
  rw [List.length_cons, e] at h
  cases h
theorem formOf_mem {z : Str} {ks : List Str} : ∀ {L : Forms}, formOf L z = some ks → ∃ p ∈ L, p.2 = ks
  | [], h => by cases h
  | p :: s, h => by
    unfold formOf at h
    split at h
    · exact ⟨p, List.mem_cons_self, Option.some.inj h⟩
    · obtain ⟨q, hq, e⟩ := formOf_mem h
      exact ⟨q, List.mem_cons_of_mem _ hq, e⟩
def allKinds : List (List Str) := (ctrForms ++ condForms ++ numForms).map (·.2)
theorem kinds_mem {kind z : Str} {ks : List Str} (h : kindsOf kind z = some ks) : ks ∈ allKinds := by
  unfold kindsOf at h
  unfold allKinds
  rw [List.mem_map]
  split at h
  · obtain ⟨p, hp, e⟩ := formOf_mem h
    exact ⟨p, List.mem_append_left _ (List.mem_append_left _ hp), e⟩
  · split at h
    · obtain ⟨p, hp, e⟩ := formOf_mem h
      exact ⟨p, List.mem_append_left _ (List.mem_append_right _ hp), e⟩
    · obtain ⟨p, hp, e⟩ := formOf_mem h
      exact ⟨p, List.mem_append_right _ hp, e⟩
theorem kinds_short : ∀ ks ∈ allKinds, ∀ k ∈ ks, k.length ≤ 100 := by decide +kernel
theorem kinds_two : ∀ ks ∈ allKinds, twoSides ks = true → ∃ s, ks = ("side" : Str) :: ("side" : Str) :: s := by
  intro ks h e
  unfold twoSides at e
  have e := of_decide_eq_true e
  cases ks with
  | nil => cases e
  | cons x r =>
    cases r with
    | nil => cases e
    | cons y s =>
      injection e with e1 e2
      injection e2 with e2 e3
      exact ⟨s, by rw [e1, e2]⟩
/-- the parts, so far -/
def partOk (n : Nat) (p : Str × PyData) : Bool := if isDeep p.1 = true then wf n p.1 p.2 else plainOk p.1 p.2
theorem zip_at {ks : List Str} {ds : List PyData} {i : Nat} {k : Str} {d : PyData} (h1 : ks[i]? = some k) (h2 : ds[i]? = some d) : (List.zip ks ds)[i]? = some (k, d) := by
  rw [List.getElem?_zip_eq_some]
  exact ⟨h1, h2⟩
theorem all_not {α : Type} {f : α → Bool} {l : List α} {i : Nat} {x : α} (h : l[i]? = some x) (e : f x = false) : l.all f = false := by
  rw [Bool.eq_false_iff]
  intro z
  have := List.all_eq_true.mp z x (List.mem_of_getElem? h)
  rw [e] at this
  cases this
theorem take_all {α : Type} {f : α → Bool} {l : List α} {i : Nat} {x : α} (h : l[i]? = some x) (e : f x = true) (q : (l.take i).all f = true) : (l.take (i + 1)).all f = true := by
  have hi : i < l.length := (List.getElem?_eq_some_iff.mp h).1
  have hx : l[i] = x := (List.getElem?_eq_some_iff.mp h).2
  rw [List.take_succ_eq_append_getElem hi, List.all_append, q, hx]
  simp [e]
theorem g_zipA {K : PySem.W.Frag} {ta : TA} {σ : L2.St} {H : Hp} {R : It → Hp → Prop} (h : ta σ H fun vs H1 => ∃ a b xs ys, vs = [.ref a, .ref b] ∧ ((SqL K H1 a xs ∧ SqL K H1 b ys ∧ R (Itz K a b) H1) ∨ (SqT K H1 a xs ∧ SqT K H1 b ys ∧ R (RZ.ItzT K a b) H1))) : RZ.iZipA K ta σ H R := h
theorem wf_tup' {n : Nat} {kind w : Str} {ds : List PyData} : wf (n + 1) kind (.tuple (.str w :: ds)) = match kindsOf kind w with
    | none => false
    | some ks => decide (ks.length = ds.length) && ((List.zip ks ds).all (partOk n) && !(twoSides ks && sameSides ds)) := rfl
theorem two_shaped : ∀ ks ∈ allKinds, SeqAt.shaped (.tuple ((ks.take 2).map PyData.str)) = true := by decide +kernel
theorem two_eqv : ∀ ks ∈ allKinds, PyData.eqv (.tuple ((ks.take 2).map PyData.str)) (.tuple [.str "side", .str "side"]) = twoSides ks := by decide +kernel
theorem dpStrs {K : PySem.W.Frag} {H : Hp} : ∀ ks : List Str, DpAll K H (ks.map V.str) (ks.map PyData.str)
  | [] => .nil
  | k :: ks => .cons (.str k) (dpStrs ks)
theorem word_str {m : Nat} {d : PyData} (h : partOk m ("side", d) = true) : ∃ x, d = .str x := by
  have e : partOk m ("side", d) = isW' d := by
    have e1 : isDeep "side" = false := by decide +kernel
    unfold partOk
    rw [if_neg (by rw [e1]; exact Bool.false_ne_true)]
    show plainOk "side" d = isW' d
    have e1 : ¬ ("side" : Str) = "amount" := by decide +kernel
    have e2 : ¬ ("side" : Str) = "wait" := by decide +kernel
    have e3 : ¬ ("side" : Str) = "times" := by decide +kernel
    have e4 : ¬ ("side" : Str) = "gap" := by decide +kernel
    unfold plainOk
    rw [if_neg e1, if_neg e2, if_neg e3, if_neg e4]
  rw [e] at h
  cases d with
  | str x => exact ⟨x, rfl⟩
  | _ => cases h
end Bk

set_option Elab.async false
set_option linter.all false
set_option maxRecDepth 100000
set_option maxHeartbeats 2000000
namespace Bk
open PySem PySem.Spec PyProof.Rows L2
/-! ### what displays evaluate to -/
abbrev Env4 := Nat → Option PyData
def SlotsOk (K : PySem.W.Frag) (Γ : Env4) (σ : L2.St) (H : Hp) : Prop := ∀ i d, Γ i = some d → ∃ v, σ[i]? = some (some v) ∧ Dp K H v d
theorem SlotsOk.same {K : PySem.W.Frag} {Γ : Env4} {σ : L2.St} {H H' : Hp} (s : SlotsOk K Γ σ H) (e : Same H H') : SlotsOk K Γ σ H' := fun i d h => by
  obtain ⟨v, h1, h2⟩ := s i d h
  exact ⟨v, h1, Dp.dm (.of e) h2⟩
def EvD (K : PySem.W.Frag) (Γ : Env4) (t : TE) (d : PyData) : Prop := ∀ (σ : L2.St) (H : Hp) (Q : VK), SlotsOk K Γ σ H → (∀ v H', Same H H' → Dp K H' v d → Q v H') → t σ H Q
def EvA (K : PySem.W.Frag) (Γ : Env4) (t : TA) (ds : List PyData) : Prop := ∀ (σ : L2.St) (H : Hp) (Q : List V → Hp → Prop), SlotsOk K Γ σ H → (∀ vs H', Same H H' → DpAll K H' vs ds → Q vs H') → t σ H Q
section
variable {K : PySem.W.Frag} {Γ : Env4}
theorem evd_str (x : Str) : EvD K Γ (tC (.str x)) (.str x) := fun σ H Q _ q => q _ _ (Same.refl H) (.str x)
theorem evd_int (x : Int) : EvD K Γ (tC (.int x)) (.int x) := fun σ H Q _ q => q _ _ (Same.refl H) (.int x)
theorem evd_bl (x : Bool) : EvD K Γ (tC (.bl x)) (.bool x) := fun σ H Q _ q => q _ _ (Same.refl H) (.bl x)
theorem evd_non : EvD K Γ (tC .non) .none := fun σ H Q _ q => q _ _ (Same.refl H) .non
theorem evd_var {i : Nat} {d : PyData} (h : Γ i = some d) : EvD K Γ (tVar i) d := fun σ H Q s q => by
  obtain ⟨v, h1, h2⟩ := s i d h
  exact ⟨v, h1, q _ _ (Same.refl H) h2⟩
theorem eva_nil : EvA K Γ tNil [] := fun σ H Q _ q => q _ _ (Same.refl H) .nil
theorem eva_cons {t : TE} {r : TA} {d : PyData} {ds : List PyData} (h : EvD K Γ t d) (hr : EvA K Γ r ds) : EvA K Γ (tCons t r) (d :: ds) := fun σ H Q s q =>
  h σ H _ s fun v H1 e1 d1 => hr σ H1 _ (s.same e1) fun vs H2 e2 d2 => q _ _ (e1.trans e2) (.cons (Dp.dm (.of e2) d1) d2)
theorem evd_tup {t : TA} {ds : List PyData} (h : EvA K Γ t ds) (hl : ds.length ≤ 1000) : EvD K Γ (tTup t) (.tuple ds) := fun σ H Q s q =>
  h σ H _ s fun vs H1 e1 d1 => ⟨sz (by rw [DpAll.len d1]; exact hl), fun p np => q _ _ (e1.trans (same_new np)) (.tup (sqt upd_same) (DpAll.dm (.of (same_new np)) d1))⟩
theorem evd_lst {t : TA} {ds : List PyData} (h : EvA K Γ t ds) (hl : ds.length ≤ 1000) : EvD K Γ (tLst t) (.list ds) := fun σ H Q s q =>
  h σ H _ s fun vs H1 e1 d1 => ⟨sz (by rw [DpAll.len d1]; exact hl), fun p np => q _ _ (e1.trans (same_new np)) (.lst (sql upd_same) (DpAll.dm (.of (same_new np)) d1))⟩
theorem evd_I0 {f : Int → Int → Int} {ta tb : TE} {i j : Int} (ha : EvD K Γ ta (.int i)) (hb : EvD K Γ tb (.int j)) : EvD K Γ (tOp (rI0 fun i j => .int (f i j)) ta tb) (.int (f i j)) := fun σ H Q s q =>
  ha σ H _ s fun v H1 e1 d1 => hb σ H1 _ (s.same e1) fun u H2 e2 d2 => by
    cases d1
    cases d2
    exact ⟨i, j, rfl, rfl, q _ _ (e1.trans e2) (.int _)⟩
theorem evd_I {C : Int → Int → Prop} {f : Int → Int → Int} {ta tb : TE} {i j : Int} (ha : EvD K Γ ta (.int i)) (hb : EvD K Γ tb (.int j)) (hc : C i j) : EvD K Γ (tOp (rI C fun i j => .int (f i j)) ta tb) (.int (f i j)) := fun σ H Q s q =>
  ha σ H _ s fun v H1 e1 d1 => hb σ H1 _ (s.same e1) fun u H2 e2 d2 => by
    cases d1
    cases d2
    exact ⟨i, j, rfl, rfl, hc, q _ _ (e1.trans e2) (.int _)⟩
theorem evd_neg {f : Int → Int} {ta : TE} {i : Int} (ha : EvD K Γ ta (.int i)) : EvD K Γ (tUn (rU fun i => .int (f i)) ta) (.int (f i)) := fun σ H Q s q =>
  ha σ H _ s fun v H1 e1 d1 => by
    cases d1
    exact ⟨i, rfl, q _ _ e1 (.int _)⟩
/-- a list that is laid anew -/
theorem ev_lst {t : TA} {ds : List PyData} {σ : L2.St} {H : Hp} {Q : VK} (h : EvA K Γ t ds) (hl : ds.length ≤ 1000) (s : SlotsOk K Γ σ H) (q : ∀ p xs H1, Same H H1 → H1 p = none → DpAll K H1 xs ds → Q (.ref p) (upd H1 p (.lst xs))) : tLst t σ H Q :=
  h σ H _ s fun vs H1 e1 d1 => ⟨sz (by rw [DpAll.len d1]; exact hl), fun p np => q p vs H1 e1 np d1⟩
end
/-! ### fewer levels tell no more -/
theorem wf_more : ∀ {n m : Nat} {kind : Str} {d : PyData}, n ≤ m → wf n kind d = true → wf m kind d = true
  | 0, _, _, _, _, h => by cases h
  | n + 1, 0, _, _, hl, _ => by omega
  | n + 1, m + 1, kind, d, hl, h => by
    have hl : n ≤ m := by omega
    cases d with
    | tuple ds =>
      cases ds with
      | nil => cases h
      | cons x r =>
        cases x with
        | str w =>
          rw [wf_tup'] at h ⊢
          split at h
          · cases h
          · rename_i ks hk
            rw [Bool.and_eq_true, Bool.and_eq_true] at h ⊢
            refine ⟨h.1, ?_, h.2.2⟩
            rw [List.all_eq_true] at *
            intro p hp
            have z := h.2.1 p hp
            unfold partOk at z ⊢
            split
            · rename_i c
              rw [if_pos c] at z
              exact wf_more hl z
            · rename_i c
              rw [if_neg c] at z
              exact z
        | _ => cases h
    | _ => cases h
theorem wf_fewer {n m : Nat} {kind : Str} {d : PyData} (hl : n ≤ m) (h : wf m kind d = false) : wf n kind d = false := by
  cases e : wf n kind d with
  | false => rfl
  | true =>
    rw [wf_more hl e] at h
    cases h
theorem g_callS {sp : Sp} {E : L2.St → XK} {t : TA} {σ : L2.St} {H : Hp} {Q : VK} (h : t σ H fun vs H1 => sp vs H1 Q (E σ)) : tCallS sp E t σ H Q := h
/-- what the classes of the errors are to one another, C being raised -/
structure Errs (K : PySem.W.Frag) (B C M X T : Addr) : Prop where
  exm : PySem.W.exmOne K (.ref C) (.ref B) = some true
  ec : ExcC K C
  iM : PySem.W.kitOne K (.ref C) (.ref M) = some false
  iX : PySem.W.kitOne K (.ref C) (.ref X) = some false
  iT : PySem.W.kitOne K (.ref C) (.ref T) = some false
  iC : PySem.W.kitOne K (.ref C) (.ref C) = some true
  iV : PySem.W.kitOne K (.ref C) (.type "ValueError") = some true
theorem use_isX {K : PySem.W.Frag} {a D : Addr} {c : V} {cv : Value} {b : Bool} {H : Hp} {Q : VK} (ec : ExcC K D) (hc : ∀ u, RelV c u → u = cv) (h : PySem.W.kitOne K (.ref D) cv = some b) (q : Q (.bl b) H) : rIsX K a (.ref D) none [.ref a, c] H Q :=
  ⟨D, rfl, rfl, ec, c, cv, b, rfl, hc, h, q⟩
end Bk

set_option Elab.async false
set_option linter.all false
set_option maxRecDepth 100000
set_option maxHeartbeats 2000000
namespace Bk
open PySem PySem.Spec PyProof.Rows L2
/-! ### the end: a law over a package with tables of code objects -/
/-- what the top tells of a def's table -/
def TabsOf (q : Program) (K : PySem.W.Frag) (h : Heap) : Prop := ∀ (x : Str) (c P : Addr), ((recsOf q).find? (fun e => e.name == x)).isSome = true → PySem.W.tabIn K x = some (c, P) → PySem.W.CodeHd h c P ∧ h.get? P = some (PySem.W.tabObj #[])
theorem walk_tabs {l : PySem.W.OpenLaw} {n k : Nat} {q : Program} {loose : List Str} {XP : (Str → Option Value) → Heap → Prop} {YP : World → Heap → Prop} {d : DefRec} {K : Params → PySem.W.Frag} {CX : World → CXT} {x : Str}
    (hn : l.most = some n) (hn2 : n ≤ sizeLine) (hdf : d.params.defaults = []) (hr : Room k callerA) (hY : ∀ (w : World) (h : Heap), YP w h → (K w.params).In h)
    (F : ∀ (w : World) (mg : Str → Option Value) (fa : Addr) (h : Heap), (K w.params).In h → h.Ns mainGlobals mg → mg d.name = some (.ref fa) → TabsOf q (K w.params) h → LamX.LawAtS l w (K w.params) (CX w) k n x mg fa h)
    (hCX : ∀ (w : World) (H : Hp) (s : Shared) (e : Value) (s' : Shared), CX w [] H s (fun _ _ _ => False) e s' → False) :
    PySem.W.WalkO q loose XP YP l.row.toRowW d [] (fun f vs => PySem.call f vs) :=
  Att.attach_callB hn hdf fun w u u1 mg mb fa ob pm cd doc a vs ns gr yp hob hda hco hmg hls hin hlen hbits hge => by
    have kin := hY w _ yp
    obtain ⟨fd, cs, sp, c1, c2, c3, c4, c5, c6⟩ := F w mg fa _ kin gr.T.g hmg fun z c P hs ht => by
      obtain ⟨e, he⟩ := Option.isSome_iff_exists.mp hs
      exact PySem.W.tab_of gr.T kin he ht
    exact LamX.law_callTs kin gr.T.g gr.T.b gr.T.builtins gr.T.nolimit hge c1 c2 c3 gr.T.bmain hls hin (Nat.le_trans hlen hn2) hr c6 c4 (fun G g1 g2 => c5 G a ns hlen hbits g1 g2) fun G e u2 => hCX w G u1 e u2
theorem tabIn_of {K : PySem.W.Frag} {x : Str} {f c P : Addr} {oc oc2 : Value} {od od2 : Option Addr} {sl sl2 : Array (Option Value)} {fd : FuncData} {vs : Array Value} (a : PySem.W.nsIn K mainGlobals x = some (some (.ref f))) (l : K.lookup f = some ⟨oc, od, .func fd, sl⟩)
    (hc : fd.code = .ref c) (cc : K.lookup c = some ⟨oc2, od2, .fields vs, sl2⟩) (v : (vs[11]? : Option Value) = some (.ref P)) : PySem.W.tabIn K x = some (c, P) := by
  unfold PySem.W.tabIn
  rw [a]
  dsimp only
  rw [l]
  dsimp only
  rw [hc]
  dsimp only
  rw [cc]
  dsimp only
  rw [v]
theorem FTab.of {K : PySem.W.Frag} {w : World} {mg : Str → Option Value} {n : Str} {L : Forms} {d : Addr} (g : mg n = some (.ref d)) (k : He.dicW K d = some (He.keysIn w.params (L.map (·.1)))) (ok : tabOk K d L = true) : FTab K w mg n L d := ⟨g, He.dicW_ok k, ok⟩
end Bk

set_option maxHeartbeats 4000000
namespace Bk
open PySem PySem.Spec PyProof.Rows L2
local macro_rules
  | `(tactic| walk_at "go") => `(tactic| repeat (first
      | with_reducible refine g_seq ?_
      | with_reducible refine g_next ?_
      | with_reducible refine g_asg ?_
      | with_reducible refine g_name ?_
      | with_reducible refine g_ret ?_
      | with_reducible refine g_drop ?_
      | with_reducible refine g_ifs ?_
      | with_reducible refine g_if ?_
      | with_reducible refine g_c ?_
      | ((with_reducible refine (?_ : tVar _ _ _ _)); refine ⟨_, rfl, ?_⟩)
      | with_reducible refine g_op ?_
      | with_reducible refine g_un ?_
      | with_reducible refine g_I0 ?_
      | with_reducible refine g_neg ?_
      | with_reducible refine g_eqI ?_
      | with_reducible refine g_eqS ?_
      | with_reducible refine g_neI ?_
      | with_reducible refine g_neS ?_
      | with_reducible refine g_eqB ?_
      | with_reducible refine g_neB ?_
      | with_reducible refine g_test ?_
      | with_reducible refine g_b ?_
      | with_reducible refine g_and ?_
      | with_reducible refine g_or ?_
      | with_reducible refine g_not ?_
      | with_reducible refine g_andV ?_
      | with_reducible refine g_orV ?_
      | with_reducible refine g_notV ?_
      | with_reducible refine iteT ?_
      | with_reducible refine iteF ?_
      | with_reducible refine iteNF ?_
      | with_reducible refine iteNT ?_
      | with_reducible refine ⟨_, rfl, ?_⟩
      | with_reducible refine ⟨rfl, ?_⟩
      | with_reducible refine ⟨_, _, rfl, rfl, ?_⟩
      | with_reducible refine ⟨_, _, rfl, ?_⟩
      | with_reducible refine g_call ?_
      | with_reducible refine g_cb ?_
      | with_reducible refine g_cons ?_
      | with_reducible refine g_nil ?_
      | with_reducible refine g_chain ?_
      | with_reducible refine g_dget ?_
      | with_reducible refine g_dput ?_
      | with_reducible refine g_tup ?_
      | with_reducible refine g_lst ?_
      | with_reducible refine g_bm ?_
      | with_reducible refine g_disp ?_
      | with_reducible refine g_pairs0 ?_
      | with_reducible refine g_pairs ?_
      | with_reducible refine g_for ?_
      | with_reducible refine g_gcons ?_
      | with_reducible refine g_gnil ?_
      | with_reducible refine g_rng1 ?_
      | with_reducible refine g_rng2 ?_
      | with_reducible refine g_ilist ?_
      | with_reducible refine g_itup ?_
      | with_reducible refine g_lc ?_
      | with_reducible refine g_yes ?_
      | with_reducible refine g_sl ?_
      | with_reducible refine g_nopart ?_
      | with_reducible refine g_part ?_
      | with_reducible refine g_bm0 ?_
      ))

local macro_rules
  | `(tactic| walk_at "ev") => `(tactic| repeat' (first
      | exact eva_nil
      | apply eva_cons
      | exact evd_str _
      | exact evd_int _
      | exact evd_bl _
      | exact evd_non
      | exact evd_var rfl
      | apply evd_tup
      | apply evd_lst
      | apply evd_I0
      | apply evd_I
      | apply evd_neg
      | exact Nat.le_of_ble_eq_true rfl
      | decide
      | exact ⟨by decide, by decide, by decide⟩))
def topS (i : Nat) : Stmt := PySem.Challenge.pw_contractbook_k32_whole_contracts_that_ar.main.body.getD i (.Pass ⟨0, 0, 0, 0⟩)
/-! ### the law's own drawing: what stands in the dict of the script -/
structure Cfg where
  sz : Int
  pl : Int
  tu : Int
  ta : Int
  od : Option Int
structure Cfg.Ok (c : Cfg) : Prop where
  sz1 : 1 ≤ c.sz
  sz8 : c.sz ≤ 8
  pl0 : 0 ≤ c.pl
  plz : c.pl < c.sz
  tu0 : 0 ≤ c.tu
  tuz : c.tu < 26
  ta : c.ta = 0 ∨ c.ta = 1
  od : ∀ o, c.od = some o → 0 ≤ o ∧ o ≤ 1000
def oddL : Option Int → List (Key × V)
  | none => []
  | some o => [(.inr "odd", .int o)]
def sd (c : Cfg) (na nm : Addr) (n re mx : Int) : List (Key × V) :=
  (.inr "numbers", .ref na) :: (.inr "at", .int n) :: (.inr "size", .int c.sz) :: (.inr "place", .int c.pl) :: (.inr "turn", .int c.tu) :: (.inr "talk", .int c.ta) :: (.inr "rest", .int re) :: (.inr "names", .ref nm) :: (.inr "mixed", .int mx) :: oddL c.od
theorem sd_lt {c : Cfg} {na nm : Addr} {n re mx : Int} : (sd c na nm n re mx).length < sizeLine := by
  have h : (oddL c.od).length ≤ 1 := by
    cases c.od with
    | none => decide
    | some o => exact Nat.le_refl 1
  have e : (sd c na nm n re mx).length = (oddL c.od).length + 9 := rfl
  have z : (10 : Nat) < sizeLine := by decide
  omega
theorem put_at {c : Cfg} {na nm : Addr} {n re mx z : Int} : putK (sd c na nm n re mx) (.inr "at") (.int z) = sd c na nm z re mx := by
  obtain ⟨a, b, d, e, od⟩ := c
  cases od <;> rfl
theorem put_rest {c : Cfg} {na nm : Addr} {n re mx z : Int} : putK (sd c na nm n re mx) (.inr "rest") (.int z) = sd c na nm n z mx := by
  obtain ⟨a, b, d, e, od⟩ := c
  cases od <;> rfl
theorem put_mixed {c : Cfg} {na nm : Addr} {n re mx z : Int} : putK (sd c na nm n re mx) (.inr "mixed") (.int z) = sd c na nm n re z := by
  obtain ⟨a, b, d, e, od⟩ := c
  cases od <;> rfl
theorem put_names {c : Cfg} {na nm nn : Addr} {n re mx : Int} : putK (sd c na nm n re mx) (.inr "names") (.ref nn) = sd c na nn n re mx := by
  obtain ⟨a, b, d, e, od⟩ := c
  cases od <;> rfl
theorem put_talk {c : Cfg} {na nm : Addr} {n re mx z : Int} : putK (sd c na nm n re mx) (.inr "talk") (.int z) = sd { c with ta := z } na nm n re mx := by
  obtain ⟨a, b, d, e, od⟩ := c
  cases od <;> rfl
theorem put_odd {c : Cfg} {na nm : Addr} {n re mx z : Int} (h : c.od = none) : putK (sd c na nm n re mx) (.inr "odd") (.int z) = sd { c with od := some z } na nm n re mx := by
  obtain ⟨a, b, d, e, od⟩ := c
  cases h
  rfl
structure LS (K : PySem.W.Frag) (c : Cfg) (ns : List Int) (xs : List Str) (s na nm : Addr) (H : Hp) : Prop where
  st : ∃ n re mx : Int, H s = some (.dK (sd c na nm n re mx)) ∧ 0 ≤ n ∧ 0 ≤ re ∧ 0 ≤ mx ∧ mx < 2147483647
  num : SqL K H na (ns.map V.int)
  nms : SqL K H nm (xs.map V.str)
  ok : c.Ok
  len : ns.length ≤ 63
  few : xs.length ≤ 8
theorem LS.same {K : PySem.W.Frag} {c : Cfg} {ns : List Int} {xs : List Str} {s na nm : Addr} {H H' : Hp} (L : LS K c ns xs s na nm H) (e : Same H H') : LS K c ns xs s na nm H' := by
  obtain ⟨⟨n, re, mx, h, r⟩, h1, h2, h3, h4, h5⟩ := L
  exact ⟨⟨n, re, mx, e _ _ h, r⟩, e.seq h1, e.seq h2, h3, h4, h5⟩
theorem LS.put {K : PySem.W.Frag} {c : Cfg} {ns : List Int} {xs : List Str} {s na nm : Addr} {H : Hp} (L : LS K c ns xs s na nm H) {n re mx : Int} (h0 : 0 ≤ n) (h1 : 0 ≤ re) (h2 : 0 ≤ mx) (h3 : mx < 2147483647) :
    LS K c ns xs s na nm (upd H s (.dK (sd c na nm n re mx))) := by
  obtain ⟨⟨n', re', mx', h, r⟩, g1, g2, g3, g4, g5⟩ := L
  exact ⟨⟨n, re, mx, upd_same, h0, h1, h2, h3⟩, KB.seq KB.upd h g1, KB.seq KB.upd h g2, g3, g4, g5⟩
theorem LS.tm {K : PySem.W.Frag} {c : Cfg} {ns : List Int} {xs : List Str} {s na nm : Addr} {H H' : Hp} (L : LS K c ns xs s na nm H) (e : KB s H H') : TM K H H' := by
  obtain ⟨⟨n, re, mx, h, r⟩, _⟩ := L
  exact e.tm h
/-- a number is taken: 0 up to m -/
def spTaken (K : PySem.W.Frag) : Sp := fun vs H Q _ => ∃ (c : Cfg) (ns : List Int) (xs : List Str) (s na nm : Addr) (m : Int), vs = [.ref s, .int m] ∧ LS K c ns xs s na nm H ∧ 0 < m ∧ m ≤ 10000000000000 ∧
  ∀ (r : Int) (H' : Hp), 0 ≤ r → r < m → KB s H H' → LS K c ns xs s na nm H' → Q (.int r) H'
theorem use_taken {K : PySem.W.Frag} {c : Cfg} {ns : List Int} {xs : List Str} {s na nm : Addr} {m : Int} {H : Hp} {Q : VK} {E : XK} (L : LS K c ns xs s na nm H) (h0 : 0 < m) (h1 : m ≤ 10000000000000)
    (q : ∀ (r : Int) (H' : Hp), 0 ≤ r → r < m → KB s H H' → LS K c ns xs s na nm H' → Q (.int r) H') : spTaken K ([.ref s, .int m] ++ []) H Q E := ⟨c, ns, xs, s, na, nm, m, rfl, L, h0, h1, q⟩
theorem log_small {i m : Int} (h0 : 0 < m) (h1 : m ≤ 10000000000000) : CDivW i m := wide_div (b := 64) h0 (by omega) (by decide) (by decide)
section
variable {P : Program} {w : World} {K : PySem.W.Frag} {mg : Str → Option Value} {base : Heap}
abbrev s__law_taken : Stmt := topS 25
theorem sc__law_taken : FnScope ["_law_s", "_law_most", "_law_found", "_law_number_here"] ["_law_s", "_law_most"] (defScope s__law_taken) := ⟨rfl, rfl, rfl, by decide +kernel, rfl, by decide +kernel, by decide +kernel⟩
theorem h__law_taken {k : Nat} {f : Addr} {fd : FuncData} (O : Own K mg "_law_taken" s__law_taken ["_law_s", "_law_most"] f fd)  (m_len : mg "len" = none) (m_int : mg "int" = none) : Has P w K mg base "_law_taken" ["_law_s", "_law_most"] (k + 1) CX0 (spTaken K) f fd := by
  refine O.has (O.F.ok sc__law_taken (fun vs H Q E h => ?_) (fun cdv A outer s H vs Q E hr h => ?_))
  · obtain ⟨c, ns, xs, s, na, nm, m, rfl, _⟩ := h
    rfl
  obtain ⟨c, ns, xs, s, na, nm, m, rfl, L, h0, h1, q⟩ := h
  obtain ⟨n, re, mx, hs, g0, g1, g2, g3⟩ := L.st
  refine ⟨_, (pss_cons (ps_if (pt_cmpR op_gt (pe_dget (hu_of hr) (pv 0) pe_str (fun _ _ => rfl)) pe_int (nomark _)) (pss_cons (ps_set (i := 2) sc__law_taken.nd rfl (.inl rfl) (pe_op op_mod (pe_dget (hu_of hr) (pv 0) pe_str (fun _ _ => rfl)) (pv 1))) (pss_cons (ps_dput (hu_of hr) (pv 0) pe_str (pe_op op_fdivW (pe_dget (hu_of hr) (pv 0) pe_str (fun _ _ => rfl)) (pv 1)) (by rfl)) (pss_one (ps_ret (pv 2))))) pss_nil) (pss_cons (ps_dput (hu_of hr) (pv 0) pe_str (pe_op op_add (pe_dget (hu_of hr) (pv 0) pe_str (fun _ _ => rfl)) pe_int) (by rfl)) (pss_cons (ps_if (pt_cmpR op_le (pe_dget (hu_of hr) (pv 0) pe_str (fun _ _ => rfl)) (pe_callB call_len_seq (by rfl) m_len (by decide +kernel) (pa_cons (pe_dget (hu_of hr) (pv 0) pe_str (fun _ _ => rfl)) pa_nil)) (nomark _)) (pss_cons (ps_set (i := 3) sc__law_taken.nd rfl (.inl rfl) (pe_ix ix_list (pe_dget (hu_of hr) (pv 0) pe_str (fun _ _ => rfl)) (pe_op op_sub (pe_dget (hu_of hr) (pv 0) pe_str (fun _ _ => rfl)) pe_int) (fun _ _ => rfl))) (pss_cons (ps_dput (hu_of hr) (pv 0) pe_str (pe_op op_mul (pe_op op_fdivW (pv 3) (pv 1)) (pe_callTy call_int1 (by rfl) m_int (by decide +kernel) (pa_cons (pe_cmpR op_ge (pv 3) (pe_op op_pow pe_int pe_int) (nomark _)) pa_nil))) (by rfl)) (pss_one (ps_ret (pe_op op_mod (pv 3) (pv 1)))))) pss_nil) (pss_cons (ps_dput (hu_of hr) (pv 0) pe_str (pe_op op_mod (pe_op op_mul (pe_dget (hu_of hr) (pv 0) pe_str (fun _ _ => rfl)) pe_int) pe_int) (by rfl)) (pss_one (ps_ret (pe_ifExp (pt_cmpR op_gt (pv 1) (pe_op op_pow pe_int pe_int) (nomark _)) (pe_op op_mod (pe_op op_pow (pe_op op_fdivW (pe_dget (hu_of hr) (pv 0) pe_str (fun _ _ => rfl)) pe_int) pe_int) (pv 1)) (pe_op op_mod (pe_op op_fdivW (pe_dget (hu_of hr) (pv 0) pe_str (fun _ _ => rfl)) pe_int) (pv 1))))))))), ?_⟩
  walk_at "go"
  refine g_key hs (by rfl) ?_
  walk_at "go"
  refine ifd (fun c1 => ?_) (fun c1 => ?_)
  · walk_at "go"
    refine g_key hs (by rfl) ?_
    walk_at "go"
    refine g_I h0 ?_
    walk_at "go"
    refine g_key hs (by rfl) ?_
    walk_at "go"
    refine g_I (log_small h0 h1) ?_
    walk_at "go"
    refine g_put hs sd_lt put_rest ?_
    walk_at "go"
    exact q _ _ (Int.emod_nonneg _ (by omega)) (Int.emod_lt_of_pos _ h0) KB.upd (L.put g0 (Int.ediv_nonneg g1 (by omega)) g2 g3)
  walk_at "go"
  refine g_key hs (by rfl) ?_
  walk_at "go"
  refine g_put hs sd_lt put_at ?_
  have L2 := L.put (n := n + 1) (re := re) (mx := mx) (by omega) g1 g2 g3
  have hs2 : (upd H s (.dK (sd c na nm (n + 1) re mx))) s = some (.dK (sd c na nm (n + 1) re mx)) := upd_same
  walk_at "go"
  refine g_key hs2 (by rfl) ?_
  walk_at "go"
  refine g_key hs2 (by rfl) ?_
  walk_at "go"
  refine ⟨_, _, rfl, .inl L2.num, ?_⟩
  walk_at "go"
  refine ifd (fun c2 => ?_) (fun c2 => ?_)
  · walk_at "go"
    refine g_key hs2 (by rfl) ?_
    walk_at "go"
    refine g_key hs2 (by rfl) ?_
    walk_at "go"
    rw [List.length_map] at c2
    have hk : n.toNat < ns.length := by omega
    refine ⟨_, _, _, .int ns[n.toNat], rfl, rfl, L2.num, at_of (j := n.toNat) (by omega) (by rw [List.getElem?_map, List.getElem?_eq_getElem hk]; rfl), ?_⟩
    generalize ns[n.toNat] = z
    walk_at "go"
    refine g_I (log_small h0 h1) ?_
    walk_at "go"
    refine g_I ⟨by decide, by decide, by decide⟩ ?_
    walk_at "go"
    refine .inr ⟨_, rfl, ?_⟩
    refine g_I (.inr (by split <;> decide)) ?_
    walk_at "go"
    refine g_put hs2 sd_lt put_rest ?_
    walk_at "go"
    refine g_I h0 ?_
    rw [upd_upd]
    refine q _ _ (Int.emod_nonneg _ (by omega)) (Int.emod_lt_of_pos _ h0) KB.upd (L.put (by omega) ?_ g2 g3)
    by_cases hz : (10 : Int) ^ (18 : Int).toNat ≤ z
    · rw [decide_eq_true hz]
      have : 0 ≤ z := Int.le_trans (by decide) hz
      exact Int.mul_nonneg (Int.ediv_nonneg this (by omega)) (by decide)
    · rw [decide_eq_false hz]
      simp
  walk_at "go"
  refine g_key hs2 (by rfl) ?_
  walk_at "go"
  refine g_I (.inl (by omega)) ?_
  walk_at "go"
  refine g_I (by decide) ?_
  walk_at "go"
  refine g_put hs2 sd_lt put_mixed ?_
  rw [upd_upd]
  have b0 : 0 ≤ mx * 48271 % 2147483647 := Int.emod_nonneg _ (by decide)
  have b1 : mx * 48271 % 2147483647 < 2147483647 := Int.emod_lt_of_pos _ (by decide)
  generalize mx * 48271 % 2147483647 = my at b0 b1 ⊢
  have L3 := L.put (n := n + 1) (re := re) (mx := my) (by omega) g1 b0 b1
  have hs3 : (upd H s (.dK (sd c na nm (n + 1) re my))) s = some (.dK (sd c na nm (n + 1) re my)) := upd_same
  walk_at "go"
  refine g_I ⟨by decide, by decide, by decide⟩ ?_
  walk_at "go"
  refine ifd (fun c3 => ?_) (fun c3 => ?_)
  · walk_at "go"
    refine g_key hs3 (by rfl) ?_
    walk_at "go"
    refine g_I ⟨by decide, by decide⟩ ?_
    walk_at "go"
    refine g_I ⟨by decide, by decide, by omega⟩ ?_
    walk_at "go"
    refine g_I h0 ?_
    exact q _ _ (Int.emod_nonneg _ (by omega)) (Int.emod_lt_of_pos _ h0) KB.upd L3
  · walk_at "go"
    refine g_key hs3 (by rfl) ?_
    walk_at "go"
    refine g_I ⟨by decide, by decide⟩ ?_
    walk_at "go"
    refine g_I h0 ?_
    exact q _ _ (Int.emod_nonneg _ (by omega)) (Int.emod_lt_of_pos _ h0) KB.upd L3
end

/-! ### words, numbers -/
def wordsL : List Str := ["none", "give", "both", "turned", "later", "often", "if", "num", "read", "plus", "below", "all"]
def wd (c : Cfg) (k : Int) : Str := if c.ta = 1 ∧ k < 12 then wordsL.getD k.toNat "none" else rp 113 c.pl ++ ⟨#[97 + ((k + c.tu) % 26).toNat]⟩ ++ rp 113 (c.sz - c.pl - 1)
theorem letters_at : ∀ j : Fin 26, (Str.ofString "abcdefghijklmnopqrstuvwxyz").cps.toList[j.val]? = some (97 + j.val) := by decide +kernel
theorem app_len (a b : Str) : (a ++ b).length = a.length + b.length := by
  show (a.cps ++ b.cps).size = a.cps.size + b.cps.size
  simp
def spWord (K : PySem.W.Frag) : Sp := fun vs H Q _ => ∃ (c : Cfg) (ns : List Int) (xs : List Str) (s na nm : Addr) (k : Int), vs = [.ref s, .int k] ∧ LS K c ns xs s na nm H ∧ 0 ≤ k ∧ k ≤ 1000 ∧ ∀ H', Same H H' → Q (.str (wd c k)) H'
theorem use_word {K : PySem.W.Frag} {c : Cfg} {ns : List Int} {xs : List Str} {s na nm : Addr} {k : Int} {H : Hp} {Q : VK} {E : XK} (L : LS K c ns xs s na nm H) (h0 : 0 ≤ k) (h1 : k ≤ 1000) (q : ∀ H', Same H H' → Q (.str (wd c k)) H') :
    spWord K ([.ref s, .int k] ++ []) H Q E := ⟨c, ns, xs, s, na, nm, k, rfl, L, h0, h1, q⟩
def spNumber (K : PySem.W.Frag) : Sp := fun vs H Q _ => ∃ (c : Cfg) (ns : List Int) (xs : List Str) (s na nm : Addr), vs = [.ref s] ∧ LS K c ns xs s na nm H ∧
  ∀ (r : Int) (H' : Hp), -1000000000000 < r → r < 1000000000000 → KB s H H' → LS K c ns xs s na nm H' → Q (.int r) H'
theorem use_number {K : PySem.W.Frag} {c : Cfg} {ns : List Int} {xs : List Str} {s na nm : Addr} {H : Hp} {Q : VK} {E : XK} (L : LS K c ns xs s na nm H)
    (q : ∀ (r : Int) (H' : Hp), -1000000000000 < r → r < 1000000000000 → KB s H H' → LS K c ns xs s na nm H' → Q (.int r) H') : spNumber K ([.ref s] ++ []) H Q E := ⟨c, ns, xs, s, na, nm, rfl, L, q⟩
section
variable {P : Program} {w : World} {K : PySem.W.Frag} {mg : Str → Option Value} {base : Heap}
abbrev s__law_word : Stmt := topS 26
theorem sc__law_word : FnScope ["_law_s", "_law_k", "_law_words", "_law_sign"] ["_law_s", "_law_k"] (defScope s__law_word) := ⟨rfl, rfl, rfl, by decide +kernel, rfl, by decide +kernel, by decide +kernel⟩
theorem h__law_word {k : Nat} {f : Addr} {fd : FuncData} (O : Own K mg "_law_word" s__law_word ["_law_s", "_law_k"] f fd)  : Has P w K mg base "_law_word" ["_law_s", "_law_k"] (k + 1) CX0 (spWord K) f fd := by
  refine O.has (O.F.ok sc__law_word (fun vs H Q E h => ?_) (fun cdv A outer s H vs Q E hr h => ?_))
  · obtain ⟨c, ns, xs, s, na, nm, k, rfl, _⟩ := h
    rfl
  obtain ⟨c, ns, xs, s, na, nm, k, rfl, L, h0, h1, q⟩ := h
  obtain ⟨n, re, mx, hs, g0, g1, g2, g3⟩ := L.st
  have c0 := L.ok
  refine ⟨_, (pss_cons (ps_if (PW.pt (pw_and (pt_cmpR op_eq (pe_dget (hu_of hr) (pv 0) pe_str (fun _ _ => rfl)) pe_int (nomark _)) (pw_and1 (pt_cmpR op_lt (pv 1) pe_int (nomark _))))) (pss_cons (ps_set (i := 2) sc__law_word.nd rfl (.inl rfl) (pe_lst (pa_cons pe_str (pa_cons pe_str (pa_cons pe_str (pa_cons pe_str (pa_cons pe_str (pa_cons pe_str (pa_cons pe_str (pa_cons pe_str (pa_cons pe_str (pa_cons pe_str (pa_cons pe_str (pa_cons pe_str pa_nil)))))))))))))) (pss_one (ps_ret (pe_ix ix_list (pv 2) (pv 1) (fun _ _ => rfl))))) pss_nil) (pss_cons (ps_set (i := 3) sc__law_word.nd rfl (.inl rfl) (pe_ix ix_str pe_str (pe_op op_mod (pe_op op_add (pv 1) (pe_dget (hu_of hr) (pv 0) pe_str (fun _ _ => rfl))) pe_int) (fun _ _ => rfl))) (pss_one (ps_ret (pe_op op_add_str (pe_op op_add_str (pe_op op_rep_str pe_str (pe_dget (hu_of hr) (pv 0) pe_str (fun _ _ => rfl))) (pv 3)) (pe_op op_rep_str pe_str (pe_op op_sub (pe_op op_sub (pe_dget (hu_of hr) (pv 0) pe_str (fun _ _ => rfl)) (pe_dget (hu_of hr) (pv 0) pe_str (fun _ _ => rfl))) pe_int))))))), ?_⟩
  have tail : ∀ (H1 : Hp), Same H H1 → ¬ (c.ta = 1 ∧ k < 12) → Q (.str (rp 113 c.pl ++ ⟨#[97 + ((k + c.tu) % 26).toNat]⟩ ++ rp 113 (c.sz - c.pl - 1))) H1 := fun H1 e hc => by
    have z := q H1 e
    unfold wd at z
    rw [if_neg hc] at z
    exact z
  walk_at "go"
  refine g_key hs (by rfl) ?_
  walk_at "go"
  refine and_cut (k < 12) (fun hc => ?_) (fun c1 back => ?_)
  · walk_at "go"
    refine g_key hs (by rfl) ?_
    walk_at "go"
    refine g_I (by decide) ?_
    have b0 : 0 ≤ (k + c.tu) % 26 := Int.emod_nonneg _ (by decide)
    have b1 : (k + c.tu) % 26 < 26 := Int.emod_lt_of_pos _ (by decide)
    have bn : ((k + c.tu) % 26).toNat < 26 := by omega
    refine ⟨_, (k + c.tu) % 26, 97 + ((k + c.tu) % 26).toNat, rfl, rfl, by decide +kernel, at_any (j := ((k + c.tu) % 26).toNat) (by omega) (letters_at ⟨((k + c.tu) % 26).toNat, bn⟩), ?_⟩
    walk_at "go"
    refine g_key hs (by rfl) ?_
    have p0 := c0.pl0
    have p1 := c0.plz
    have p2 := c0.sz8
    refine ⟨113, c.pl, rfl, rfl, p0, by omega, ?_⟩
    walk_at "go"
    have e1 : (rp 113 c.pl).length ≤ 8 := by rw [rp_len]; omega
    have e2 : (⟨#[97 + ((k + c.tu) % 26).toNat]⟩ : Str).length = 1 := rfl
    have hz : (1000 : Nat) ≤ sizeLine := by decide
    refine ⟨by omega, ?_⟩
    walk_at "go"
    refine g_key hs (by rfl) ?_
    walk_at "go"
    refine g_key hs (by rfl) ?_
    walk_at "go"
    refine ⟨113, c.sz - c.pl - 1, rfl, rfl, by omega, by omega, ?_⟩
    have e3 : (rp 113 (c.sz - c.pl - 1)).length ≤ 8 := by rw [rp_len]; omega
    walk_at "go"
    refine ⟨?_, ?_⟩
    · rw [app_len]; omega
    · exact tail H (Same.refl H) hc
  · walk_at "go"
    refine ifd (fun c2 => ?_) back
    walk_at "go"
    refine ⟨by show 12 ≤ sizeLine; decide, fun p hp => ?_⟩
    walk_at "go"
    have hk : k.toNat < wordsL.length := by show k.toNat < 12; omega
    have hi : (wordsL.map V.str)[k.toNat]? = some (.str (wordsL.getD k.toNat "none")) := by
      rw [List.getElem?_map, List.getD, List.getElem?_eq_getElem hk]
      rfl
    refine ⟨_, wordsL.map V.str, _, _, rfl, rfl, sql upd_same, at_of (j := k.toNat) (by omega) hi, ?_⟩
    have z := q _ (same_new (o := .lst (wordsL.map V.str)) hp)
    unfold wd at z
    rw [if_pos ⟨c1, c2⟩] at z
    exact z
abbrev s__law_number : Stmt := topS 27
theorem sc__law_number : FnScope ["_law_s"] ["_law_s"] (defScope s__law_number) := ⟨rfl, rfl, rfl, by decide +kernel, rfl, by decide +kernel, by decide +kernel⟩
theorem h__law_number {k : Nat} {f : Addr} {fd : FuncData} (O : Own K mg "_law_number" s__law_number ["_law_s"] f fd)  {f__law_taken : Addr} {fd__law_taken : FuncData} (D__law_taken : Has P w K mg base "_law_taken" ["_law_s", "_law_most"] k CX0 (spTaken K) f__law_taken fd__law_taken) : Has P w K mg base "_law_number" ["_law_s"] (k + 1) CX0 (spNumber K) f fd := by
  refine O.has (O.F.ok sc__law_number (fun vs H Q E h => ?_) (fun cdv A outer s H vs Q E hr h => ?_))
  · obtain ⟨c, ns, xs, s, na, nm, rfl, _⟩ := h
    rfl
  obtain ⟨c, ns, xs, s, na, nm, rfl, L, q⟩ := h
  refine ⟨_, (pss_cons (ps_if (pt_cmpR op_eq (pe_call D__law_taken.G hr (by rfl) D__law_taken.g D__law_taken.k D__law_taken.b .nil pass0 (pa_cons (pv 0) (pa_cons pe_int pa_nil))) pe_int (nomark _)) (pss_one (ps_ret (pe_op op_add (pe_op op_sub (pe_call D__law_taken.G hr (by rfl) D__law_taken.g D__law_taken.k D__law_taken.b .nil pass0 (pa_cons (pv 0) (pa_cons (pe_op op_sub (pe_op op_mul pe_int (pe_op op_pow pe_int pe_int)) pe_int) pa_nil))) (pe_op op_pow pe_int pe_int)) pe_int))) pss_nil) (pss_one (ps_ret (pe_op op_sub (pe_call D__law_taken.G hr (by rfl) D__law_taken.g D__law_taken.k D__law_taken.b .nil pass0 (pa_cons (pv 0) (pa_cons pe_int pa_nil))) pe_int)))), ?_⟩
  walk_at "go"
  refine use_taken L (by decide) (by decide) fun r H1 a0 a1 e1 L1 => ?_
  walk_at "go"
  refine ifd (fun c1 => ?_) (fun c1 => ?_)
  · walk_at "go"
    refine g_I ⟨by decide, by decide, by decide⟩ ?_
    walk_at "go"
    refine g_I (.inl ⟨by decide, by decide⟩) ?_
    walk_at "go"
    refine use_taken L1 (by decide) (by decide) fun r2 H2 b0 b1 e2 L2 => ?_
    walk_at "go"
    refine g_I ⟨by decide, by decide, by decide⟩ ?_
    walk_at "go"
    have e : (10 : Int) ^ (12 : Int).toNat = 1000000000000 := by decide
    rw [e] at b1 ⊢
    exact q _ _ (by omega) (by omega) (e1.trans e2) L2
  · walk_at "go"
    refine use_taken L1 (by decide) (by decide) fun r2 H2 b0 b1 e2 L2 => ?_
    walk_at "go"
    exact q _ _ (by omega) (by omega) (e1.trans e2) L2
end

/-! ### words are words, and differ -/
def isW (x : Str) : Bool := decide (1 ≤ x.length) && (decide (x.length ≤ 8) && x.cps.toList.all fun c => decide (97 ≤ c) && decide (c ≤ 122))
theorem wd_codes {c : Cfg} {k : Int} (h : ¬ (c.ta = 1 ∧ k < 12)) : (wd c k).cps.toList = List.replicate c.pl.toNat 113 ++ (97 + ((k + c.tu) % 26).toNat) :: List.replicate (c.sz - c.pl - 1).toNat 113 := by
  unfold wd
  rw [if_neg h]
  show ((rp 113 c.pl).cps ++ #[97 + ((k + c.tu) % 26).toNat] ++ (rp 113 (c.sz - c.pl - 1)).cps).toList = _
  simp [rp]
theorem talk_words : ∀ i : Fin 12, isW (wordsL.getD i.val "none") = true := by decide +kernel
theorem talk_ne : ∀ i j : Fin 12, wordsL.getD i.val "none" = wordsL.getD j.val "none" → i = j := by decide +kernel
theorem wd_word {c : Cfg} (ok : c.Ok) {k : Int} (h0 : 0 ≤ k) : isW (wd c k) = true := by
  by_cases h : c.ta = 1 ∧ k < 12
  · unfold wd
    rw [if_pos h]
    exact talk_words ⟨k.toNat, by omega⟩
  · have e := wd_codes h
    have h1 := ok.pl0
    have h2 := ok.plz
    have h3 := ok.sz8
    have l : (wd c k).length = c.pl.toNat + (1 + (c.sz - c.pl - 1).toNat) := by
      show (wd c k).cps.size = _
      rw [← Array.length_toList, e]
      simp
      omega
    unfold isW
    rw [l, e]
    have b0 : 0 ≤ (k + c.tu) % 26 := Int.emod_nonneg _ (by decide)
    have b1 : (k + c.tu) % 26 < 26 := Int.emod_lt_of_pos _ (by decide)
    simp only [Bool.and_eq_true, decide_eq_true_eq, List.all_eq_true, List.mem_append, List.mem_cons, List.mem_replicate]
    refine ⟨by omega, by omega, fun x hx => ?_⟩
    rcases hx with hx | hx | hx <;> omega
theorem wd_ne {c : Cfg} (ok : c.Ok) {i j : Int} (h0 : 0 ≤ i) (h1 : i < 12) (h2 : 0 ≤ j) (h3 : j < 12) (h : i ≠ j) : wd c i ≠ wd c j := fun e => by
  by_cases ht : c.ta = 1
  · have e1 : wd c i = wordsL.getD i.toNat "none" := by unfold wd; rw [if_pos ⟨ht, h1⟩]
    have e2 : wd c j = wordsL.getD j.toNat "none" := by unfold wd; rw [if_pos ⟨ht, h3⟩]
    rw [e1, e2] at e
    have := talk_ne ⟨i.toNat, by omega⟩ ⟨j.toNat, by omega⟩ e
    have := congrArg Fin.val this
    simp at this
    omega
  · have q := congrArg (fun z : Str => z.cps.toList) e
    simp only [wd_codes (fun z => ht z.1)] at q
    have q2 := List.append_cancel_left q
    have q3 := (List.cons.inj q2).1
    omega
theorem isW_short {x : Str} (h : isW x = true) : szOk (.str x) = true := by
  unfold isW at h
  simp only [Bool.and_eq_true, decide_eq_true_eq] at h
  show decide (x.length ≤ 1000) = true
  exact decide_eq_true (by omega)

/-! ### told numbers -/
inductive Op where
  | plus | minus | times | most | least
def Op.word : Op → Str
  | .plus => "plus"
  | .minus => "minus"
  | .times => "times"
  | .most => "most"
  | .least => "least"
def Op.app : Op → Int → Int → Int
  | .plus, a, b => a + b
  | .minus, a, b => a - b
  | .times, a, b => a * b
  | .most, a, b => if b > a then b else a
  | .least, a, b => if b < a then b else a
def opWords : List V := [.str "plus", .str "minus", .str "times", .str "most", .str "least"]
theorem op_at {i : Int} (h0 : 0 ≤ i) (h1 : i < 5) : ∃ o : Op, atI opWords i = some (.str o.word) := by
  have : i = 0 ∨ i = 1 ∨ i = 2 ∨ i = 3 ∨ i = 4 := by omega
  rcases this with rfl | rfl | rfl | rfl | rfl
  · exact ⟨.plus, at_any (j := 0) rfl rfl⟩
  · exact ⟨.minus, at_any (j := 1) rfl rfl⟩
  · exact ⟨.times, at_any (j := 2) rfl rfl⟩
  · exact ⟨.most, at_any (j := 3) rfl rfl⟩
  · exact ⟨.least, at_any (j := 4) rfl rfl⟩

/-! ### the drawing's beginning -/
def spBegun (K : PySem.W.Frag) : Sp := fun vs H Q _ => ∃ (ns : List Int) (na : Addr), vs = [.ref na] ∧ SqL K H na (ns.map V.int) ∧ ns.length ≤ 63 ∧
  ∀ (c : Cfg) (s nm : Addr) (H' : Hp), c.od = none → Same H H' → H s = none → LS K c ns [] s na nm H' → Q (.ref s) H'
theorem use_begun {K : PySem.W.Frag} {ns : List Int} {na : Addr} {H : Hp} {Q : VK} {E : XK} (h : SqL K H na (ns.map V.int)) (hl : ns.length ≤ 63)
    (q : ∀ (c : Cfg) (s nm : Addr) (H' : Hp), c.od = none → Same H H' → H s = none → LS K c ns [] s na nm H' → Q (.ref s) H') : spBegun K ([.ref na] ++ []) H Q E := ⟨ns, na, rfl, h, hl, q⟩
def sd0 (na : Addr) : List (Key × V) :=
  [(.inr "numbers", .ref na), (.inr "at", .int 0), (.inr "size", .int 1), (.inr "place", .int 0), (.inr "turn", .int 0), (.inr "talk", .int 0), (.inr "rest", .int 0)]
def cfg0 : Cfg := ⟨1, 0, 0, 0, none⟩
theorem cfg0_ok : cfg0.Ok := ⟨by decide, by decide, by decide, by decide, by decide, by decide, .inl rfl, fun _ h => by cases h⟩
/-- a number of the dict is set anew -/
theorem LS.cfg {K : PySem.W.Frag} {c c' : Cfg} {ns : List Int} {xs : List Str} {s na nm : Addr} {H : Hp} {n re mx : Int} (L : LS K c ns xs s na nm H) (h0 : 0 ≤ n) (h1 : 0 ≤ re) (h2 : 0 ≤ mx) (h3 : mx < 2147483647) (ok : c'.Ok) :
    LS K c' ns xs s na nm (upd H s (.dK (sd c' na nm n re mx))) := by
  obtain ⟨⟨n', re', mx', h, r⟩, g1, g2, g3, g4, g5⟩ := L
  exact ⟨⟨n, re, mx, upd_same, h0, h1, h2, h3⟩, KB.seq KB.upd h g1, KB.seq KB.upd h g2, ok, g4, g5⟩
theorem same_kb {s : Addr} {H H1 H2 : Hp} (a : Same H H1) (n : H s = none) (b : KB s H1 H2) : Same H H2 := fun x o h => b x o (ne_of_none h n) (a x o h)
section
variable {P : Program} {w : World} {K : PySem.W.Frag} {mg : Str → Option Value} {base : Heap}
abbrev s__law_begun : Stmt := topS 24
theorem sc__law_begun : FnScope ["_law_script", "_law_mixed", "_law_cell", "_law_s"] ["_law_script"] (defScope s__law_begun) := ⟨rfl, rfl, rfl, by decide +kernel, rfl, by decide +kernel, by decide +kernel⟩
theorem h__law_begun {k : Nat} {f : Addr} {fd : FuncData} (O : Own K mg "_law_begun" s__law_begun ["_law_script"] f fd)  {f__law_taken : Addr} {fd__law_taken : FuncData} (D__law_taken : Has P w K mg base "_law_taken" ["_law_s", "_law_most"] k CX0 (spTaken K) f__law_taken fd__law_taken) (m_int : mg "int" = none) (m_len : mg "len" = none) : Has P w K mg base "_law_begun" ["_law_script"] (k + 1) CX0 (spBegun K) f fd := by
  refine O.has (O.F.ok sc__law_begun (fun vs H Q E h => ?_) (fun cdv A outer s H vs Q E hr h => ?_))
  · obtain ⟨ns, na, rfl, _⟩ := h
    rfl
  obtain ⟨ns, na, rfl, hS, h63, q⟩ := h
  refine ⟨_, (pss_cons (ps_set (i := 1) sc__law_begun.nd rfl (.inl rfl) pe_int) (pss_cons (ps_for PassesOwn.never rfl (pi_list (pv 0)) (pg_name (i := 2) sc__law_begun.nd rfl (.inl rfl)) (pss_one (ps_set (i := 1) sc__law_begun.nd rfl (.inl rfl) (pe_op op_mod (pe_op op_add (pe_op op_add (pe_op op_mul (pv 1) pe_int) (pe_op op_mul (pv 2) pe_int)) pe_int) pe_int)))) (pss_cons (ps_set (i := 3) sc__law_begun.nd rfl (.inl rfl) (pe_disp (pps_cons pe_str (pv 0) (pps_cons pe_str pe_int (pps_cons pe_str pe_int (pps_cons pe_str pe_int (pps_cons pe_str pe_int (pps_cons pe_str pe_int (pps_cons pe_str pe_int pps_nil))))))) (by rfl) (by rfl) (fun z => by cases z) (by decide))) (pss_cons (ps_dput (hu_of hr) (pv 3) pe_str (pe_lst pa_nil) (by rfl)) (pss_cons (ps_dput (hu_of hr) (pv 3) pe_str (pe_op op_mul (pv 1) (pe_callTy call_int1 (by rfl) m_int (by decide +kernel) (pa_cons (pe_cmpR op_gt (pe_callB call_len_seq (by rfl) m_len (by decide +kernel) (pa_cons (pv 0) pa_nil)) pe_int (nomark _)) pa_nil))) (by rfl)) (pss_cons (ps_dput (hu_of hr) (pv 3) pe_str (pe_op op_add pe_int (pe_call D__law_taken.G hr (by rfl) D__law_taken.g D__law_taken.k D__law_taken.b .nil pass0 (pa_cons (pv 3) (pa_cons pe_int pa_nil)))) (by rfl)) (pss_cons (ps_dput (hu_of hr) (pv 3) pe_str (pe_call D__law_taken.G hr (by rfl) D__law_taken.g D__law_taken.k D__law_taken.b .nil pass0 (pa_cons (pv 3) (pa_cons (pe_dget (hu_of hr) (pv 3) pe_str (fun _ _ => rfl)) pa_nil))) (by rfl)) (pss_cons (ps_dput (hu_of hr) (pv 3) pe_str (pe_call D__law_taken.G hr (by rfl) D__law_taken.g D__law_taken.k D__law_taken.b .nil pass0 (pa_cons (pv 3) (pa_cons pe_int pa_nil))) (by rfl)) (pss_cons (ps_dput (hu_of hr) (pv 3) pe_str (pe_callTy call_int1 (by rfl) m_int (by decide +kernel) (pa_cons (pe_cmpR op_eq (pe_call D__law_taken.G hr (by rfl) D__law_taken.g D__law_taken.k D__law_taken.b .nil pass0 (pa_cons (pv 3) (pa_cons pe_int pa_nil))) pe_int (nomark _)) pa_nil)) (by rfl)) (pss_one (ps_ret (pv 3)))))))))))), ?_⟩
  walk_at "go"
  refine ⟨⟨_, hS⟩, for_list (xs := ns.map V.int) (fun i σ H3 => H3 = H ∧ ∃ (m : Int) (y : Option V), σ = [some (.ref na), some (.int m), y, none] ∧ 0 ≤ m ∧ m < 2147483647)
    ⟨rfl, 0, none, rfl, by decide, by decide⟩ (fun i σ H3 hi hW => ?_) (fun i x σ H3 hx hW => ?_) (fun σ H3 hW => ?_)⟩
  · obtain ⟨rfl, _⟩ := hW
    exact hS
  · obtain ⟨rfl, m, y, rfl, m0, m1⟩ := hW
    rw [List.getElem?_map] at hx
    obtain ⟨z, hz, rfl⟩ := Option.map_eq_some_iff.mp hx
    walk_at "go"
    refine g_I (.inl (by omega)) ?_
    walk_at "go"
    refine g_I (.inr (by decide)) ?_
    walk_at "go"
    refine g_I (by decide) ?_
    walk_at "go"
    exact ⟨Int.emod_nonneg _ (by decide), Int.emod_lt_of_pos _ (by decide)⟩
  obtain ⟨rfl, m, y, rfl, m0, m1⟩ := hW
  walk_at "go"
  intro s nsn
  walk_at "go"
  refine ⟨upd_same, sd0 na, rfl, by show 7 ≤ 15; decide, ?_⟩
  rw [upd_upd]
  have s1 := same_new (o := .dK (sd0 na)) nsn
  have hs1 : (upd H3 s (.dK (sd0 na))) s = some (.dK (sd0 na)) := upd_same
  show _
  walk_at "go"
  refine ⟨by show 0 ≤ sizeLine; decide, fun nm nn => ?_⟩
  walk_at "go"
  have s2 := same_new (o := .lst []) nn
  have hsn : s ≠ nm := ne_of_none hs1 nn
  refine g_put (s2 _ _ hs1) (by show 7 < sizeLine; decide) (by rfl) ?_
  walk_at "go"
  refine ⟨_, _, rfl, .inl (KB.seq KB.upd (s2 _ _ hs1) ((s1.trans s2).seq hS)), ?_⟩
  walk_at "go"
  refine .inr ⟨_, rfl, ?_⟩
  refine g_I (.inl (by omega)) ?_
  walk_at "go"
  refine g_put upd_same (by show 8 < sizeLine; decide) (by rfl) ?_
  rw [upd_upd]
  have hmx : 0 ≤ m * (if decide (2 < (((ns.map V.int).length : Nat) : Int)) = true then 1 else 0) ∧ m * (if decide (2 < (((ns.map V.int).length : Nat) : Int)) = true then 1 else 0) < 2147483647 := by
    split <;> omega
  generalize m * (if decide (2 < (((ns.map V.int).length : Nat) : Int)) = true then 1 else 0) = mx at hmx ⊢
  have L1 : LS K cfg0 ns [] s na nm (upd (upd (upd H3 s (.dK (sd0 na))) nm (.lst [])) s (.dK (sd cfg0 na nm 0 0 mx))) :=
    ⟨⟨0, 0, mx, upd_same, by decide, by decide, hmx.1, hmx.2⟩, KB.seq KB.upd (s2 _ _ hs1) ((s1.trans s2).seq hS), sql (by rw [upd_ne hsn.symm]; exact upd_same), cfg0_ok, h63, by decide⟩
  have e1 : Same H3 (upd (upd (upd H3 s (.dK (sd0 na))) nm (.lst [])) s (.dK (sd cfg0 na nm 0 0 mx))) := same_kb (s1.trans s2) nsn KB.upd
  show tSeq _ _ _ _ (upd (upd (upd H3 s (.dK (sd0 na))) nm (.lst [])) s (.dK (sd cfg0 na nm 0 0 mx)))
  generalize upd (upd (upd H3 s (.dK (sd0 na))) nm (.lst [])) s (.dK (sd cfg0 na nm 0 0 mx)) = H4 at L1 e1 ⊢
  -- size
  walk_at "go"
  refine use_taken L1 (by decide) (by decide) fun a H5 a0 a1 e5 L5 => ?_
  walk_at "go"
  obtain ⟨n5, re5, mx5, hs5, g0, g1, g2, g3⟩ := L5.st
  refine g_put hs5 sd_lt (by rfl) ?_
  have L6 := L5.cfg (c' := ⟨1 + a, 0, 0, 0, none⟩) g0 g1 g2 g3 ⟨by show 1 ≤ 1 + a; omega, by show 1 + a ≤ 8; omega, Int.le_refl 0, by show 0 < 1 + a; omega, Int.le_refl 0, (by decide : (0 : Int) < 26), .inl rfl, fun _ h => by cases h⟩
  have hs6 : upd H5 s (.dK (sd ⟨1 + a, 0, 0, 0, none⟩ na nm n5 re5 mx5)) s = some (.dK (sd ⟨1 + a, 0, 0, 0, none⟩ na nm n5 re5 mx5)) := upd_same
  have e6 : KB s H4 (upd H5 s (.dK (sd ⟨1 + a, 0, 0, 0, none⟩ na nm n5 re5 mx5))) := e5.trans KB.upd
  -- place
  walk_at "go"
  refine g_key hs6 (by rfl) ?_
  walk_at "go"
  refine use_taken L6 (by show 0 < 1 + a; omega) (by show 1 + a ≤ 10000000000000; omega) fun b H7 b0 b1 e7 L7 => ?_
  walk_at "go"
  obtain ⟨n7, re7, mx7, hs7, i0, i1, i2, i3⟩ := L7.st
  refine g_put hs7 sd_lt (by rfl) ?_
  have L8 := L7.cfg (c' := ⟨1 + a, b, 0, 0, none⟩) i0 i1 i2 i3 ⟨by show 1 ≤ 1 + a; omega, by show 1 + a ≤ 8; omega, b0, b1, Int.le_refl 0, (by decide : (0 : Int) < 26), .inl rfl, fun _ h => by cases h⟩
  -- turn
  walk_at "go"
  refine use_taken L8 (by decide) (by decide) fun t H9 t0 t1 e9 L9 => ?_
  walk_at "go"
  obtain ⟨n9, re9, mx9, hs9, j0, j1, j2, j3⟩ := L9.st
  refine g_put hs9 sd_lt (by rfl) ?_
  have L10 := L9.cfg (c' := ⟨1 + a, b, t, 0, none⟩) j0 j1 j2 j3 ⟨by show 1 ≤ 1 + a; omega, by show 1 + a ≤ 8; omega, b0, b1, t0, t1, .inl rfl, fun _ h => by cases h⟩
  -- talk
  walk_at "go"
  refine use_taken L10 (by decide) (by decide) fun u H11 u0 u1 e11 L11 => ?_
  walk_at "go"
  refine .inr ⟨_, rfl, ?_⟩
  walk_at "go"
  obtain ⟨n11, re11, mx11, hs11, k0, k1, k2, k3⟩ := L11.st
  refine g_put hs11 sd_lt (by rfl) ?_
  have L12 := L11.cfg (c' := ⟨1 + a, b, t, if decide (u = 8) = true then 1 else 0, none⟩) k0 k1 k2 k3 ⟨by show 1 ≤ 1 + a; omega, by show 1 + a ≤ 8; omega, b0, b1, t0, t1, by
    show (if decide (u = 8) = true then (1 : Int) else 0) = 0 ∨ (if decide (u = 8) = true then (1 : Int) else 0) = 1
    split
    · exact .inr rfl
    · exact .inl rfl, fun _ h => by cases h⟩
  walk_at "go"
  refine q _ s nm _ rfl (same_kb e1 nsn ?_) nsn L12
  exact ((((((e6.trans e7).trans KB.upd).trans e9).trans KB.upd).trans e11).trans KB.upd)
end

/-! ### loose drawing -/
def flatD : PyData → Bool
  | .none => true
  | .bool _ => true
  | .int _ => true
  | .str _ => true
  | _ => false
def headD : List PyData → Bool
  | [] => true
  | x :: _ => flatD x
mutual
def hOk : PyData → Bool
  | .list xs => hAll xs
  | .tuple xs => headD xs && hAll xs
  | .str x => PyData.strOk x
  | _ => true
def hAll : List PyData → Bool
  | [] => true
  | d :: ds => hOk d && hAll ds
end
def dOk (d : PyData) : Bool := szOk d && hOk d
theorem dok_sz {d : PyData} (h : dOk d = true) : szOk d = true := (Bool.and_eq_true_iff.mp h).1
theorem dok_h {d : PyData} (h : dOk d = true) : hOk d = true := (Bool.and_eq_true_iff.mp h).2
theorem all_dok : ∀ {ds : List PyData}, ds.all dOk = true → szAll ds = true ∧ hAll ds = true
  | [], _ => ⟨rfl, rfl⟩
  | d :: ds, h => by
    rw [List.all_cons, Bool.and_eq_true] at h
    obtain ⟨h1, h2⟩ := all_dok h.2
    have h3 := Bool.and_eq_true_iff.mp h.1
    unfold szAll hAll
    rw [h3.1, h3.2, h1, h2]
    exact ⟨rfl, rfl⟩
theorem dok_all : ∀ {ds : List PyData}, szAll ds = true → hAll ds = true → ds.all dOk = true
  | [], _, _ => rfl
  | d :: ds, h1, h2 => by
    unfold szAll at h1
    unfold hAll at h2
    have h1 := Bool.and_eq_true_iff.mp h1
    have h2 := Bool.and_eq_true_iff.mp h2
    rw [List.all_cons, dok_all h1.2 h2.2]
    unfold dOk
    rw [h1.1, h2.1]
    rfl
theorem dok_tup {w : Str} {ds : List PyData} (hw : dOk (.str w) = true) (h : ds.all dOk = true) : dOk (.tuple (.str w :: ds)) = true := by
  obtain ⟨h1, h2⟩ := all_dok h
  have e : dOk (.tuple (.str w :: ds)) = ((szOk (.str w) && szAll ds) && (true && (hOk (.str w) && hAll ds))) := by
    unfold dOk
    simp only [szOk, hOk, szAll, hAll, headD, flatD]
  rw [e, dok_sz hw, dok_h hw, h1, h2]
  rfl
theorem dok_word {x : Str} (h : isW x = true) : dOk (.str x) = true := by
  have h1 := isW_short h
  unfold isW at h
  simp only [Bool.and_eq_true] at h
  have h2 := h.2.2
  have h3 : PyData.strOk x = true := by
    unfold PyData.strOk
    rw [← Array.all_toList]
    rw [List.all_eq_true] at h2 ⊢
    intro c hc
    have z := h2 c hc
    simp only [Bool.and_eq_true, decide_eq_true_eq] at z
    exact decide_eq_true (by omega)
  unfold dOk hOk
  rw [h1, h3]
  rfl
theorem dok_parts {ds : List PyData} (h : dOk (.tuple ds) = true) : ds.all dOk = true ∧ (∀ x r, ds = x :: r → flatD x = true) := by
  have h1 : szAll ds = true := dok_sz h
  have h2 : (headD ds && hAll ds) = true := by
    have z := dok_h h
    unfold hOk at z
    exact z
  have h2 := Bool.and_eq_true_iff.mp h2
  refine ⟨dok_all h1 h2.2, fun x r e => ?_⟩
  subst e
  exact h2.1
/-- one of some things -/
theorem pick_any {K : PySem.W.Frag} {H : Hp} {xs : List V} {ds : List PyData} (hx : DpAll K H xs ds) (ha : ds.all dOk = true) {i : Int} (i0 : 0 ≤ i) (i1 : i < ds.length) : ∃ v d, atI xs i = some v ∧ Dp K H v d ∧ dOk d = true := by
  have hi : i.toNat < ds.length := by omega
  have hd := List.getElem?_eq_getElem hi
  obtain ⟨v, hv, h⟩ := DpAll.at hx hd
  exact ⟨v, _, at_any (j := i.toNat) (by omega) hv, h, List.all_eq_true.mp ha _ (List.getElem_mem hi)⟩
theorem evd_rep {K : PySem.W.Frag} {Γ : Env4} {c : Nat} {n : Int} {ta tb : TE} (h0 : 0 ≤ n) (h1 : n ≤ 1000) (ha : EvD K Γ ta (.str ⟨#[c]⟩)) (hb : EvD K Γ tb (.int n)) : EvD K Γ (tOp rRepS ta tb) (.str (rp c n)) := fun σ H Q s q =>
  ha σ H _ s fun v H1 e1 d1 => hb σ H1 _ (s.same e1) fun u H2 e2 d2 => by
    cases d1
    cases d2
    exact ⟨c, n, rfl, rfl, h0, h1, q _ _ (e1.trans e2) (.str _)⟩
theorem ev_cat {K : PySem.W.Frag} {Γ : Env4} {σ : L2.St} {i : Nat} {p : Addr} {xs : List V} {H : Hp} {ts : TA} {d0 ds : List PyData} {Q : VK} (hσ : σ[i]? = some (some (.ref p))) (hp : H p = some (.lst xs)) (hx : DpAll K H xs d0) (e : EvA K Γ ts ds) (s : SlotsOk K Γ σ H) (h0 : d0.length ≤ 400) (hl : ds.length ≤ 400)
    (k : ∀ p' xs' H', Same H H' → H' p' = some (.lst xs') → DpAll K H' xs' (d0 ++ ds) → Q (.ref p') H') : tOp rCat (tVar i) (tLst ts) σ H Q := by
  refine ⟨_, hσ, ev_lst e (by omega) s fun q ys H1 e1 n1 d1 => ?_⟩
  have e2 : Same H (upd H1 q (.lst ys)) := e1.trans (same_new n1)
  have l1 := DpAll.len hx
  have l2 := DpAll.len d1
  refine ⟨p, q, xs, ys, rfl, rfl, e2 _ _ hp, upd_same, sz (by omega), fun r nr => ?_⟩
  have e3 : Same H (upd (upd H1 q (.lst ys)) r (.lst (xs ++ ys))) := e2.trans (same_new nr)
  have e4 : Same H1 (upd (upd H1 q (.lst ys)) r (.lst (xs ++ ys))) := (same_new n1).trans (same_new nr)
  exact k r (xs ++ ys) _ e3 upd_same (DpAll.app (DpAll.dm (.of e3) hx) (DpAll.dm (.of e4) d1))
theorem LS.dm {K : PySem.W.Frag} {c : Cfg} {ns : List Int} {xs : List Str} {s na nm : Addr} {H H' : Hp} (L : LS K c ns xs s na nm H) (e : KB s H H') : DM K H H' := by
  obtain ⟨⟨n, re, mx, h, r⟩, _⟩ := L
  exact KB.dm e h
/-- a list that was laid ahead of a drawing stands behind it -/
theorem LS.keepl {K : PySem.W.Frag} {c : Cfg} {ns : List Int} {xs : List Str} {s na nm p : Addr} {H H' : Hp} {zs : List V} (L : LS K c ns xs s na nm H) (e : KB s H H') (h : H p = some (.lst zs)) : H' p = some (.lst zs) := by
  obtain ⟨⟨n, re, mx, hs, r⟩, _⟩ := L
  exact e _ _ (ne_of h hs (fun z => by cases z)) h
/-- some data is handed back -/
def KA (K : PySem.W.Frag) (c : Cfg) (ns : List Int) (xs : List Str) (s na nm : Addr) (H : Hp) (Q : VK) : Prop := ∀ (v : V) (d : PyData) (H' : Hp), KB s H H' → LS K c ns xs s na nm H' → Dp K H' v d → dOk d = true → Q v H'
def spAmiss (K : PySem.W.Frag) : Sp := fun vs H Q _ => ∃ (c : Cfg) (ns : List Int) (xs : List Str) (s na nm : Addr) (o : Int), vs = [.ref s] ∧ LS K c ns xs s na nm H ∧ c.od = some o ∧ ∀ (b : Bool) (H' : Hp), KB s H H' → LS K c ns xs s na nm H' → Q (.bl b) H'
theorem use_amiss {K : PySem.W.Frag} {c : Cfg} {ns : List Int} {xs : List Str} {s na nm : Addr} {o : Int} {H : Hp} {Q : VK} {E : XK} (L : LS K c ns xs s na nm H) (ho : c.od = some o) (q : ∀ (b : Bool) (H' : Hp), KB s H H' → LS K c ns xs s na nm H' → Q (.bl b) H') : spAmiss K ([.ref s] ++ []) H Q E := ⟨c, ns, xs, s, na, nm, o, rfl, L, ho, q⟩
def spLWord (K : PySem.W.Frag) : Sp := fun vs H Q _ => ∃ (c : Cfg) (ns : List Int) (xs : List Str) (s na nm : Addr) (o k : Int), vs = [.ref s, .int k] ∧ LS K c ns xs s na nm H ∧ c.od = some o ∧ 0 ≤ k ∧ k ≤ 1000 ∧ KA K c ns xs s na nm H Q
theorem use_lword {K : PySem.W.Frag} {c : Cfg} {ns : List Int} {xs : List Str} {s na nm : Addr} {o k : Int} {H : Hp} {Q : VK} {E : XK} (L : LS K c ns xs s na nm H) (ho : c.od = some o) (h0 : 0 ≤ k) (h1 : k ≤ 1000) (q : KA K c ns xs s na nm H Q) : spLWord K ([.ref s, .int k] ++ []) H Q E := ⟨c, ns, xs, s, na, nm, o, k, rfl, L, ho, h0, h1, q⟩
def spLCount (K : PySem.W.Frag) : Sp := fun vs H Q _ => ∃ (c : Cfg) (ns : List Int) (xs : List Str) (s na nm : Addr) (o lo hi : Int), vs = [.ref s, .int lo, .int hi] ∧ LS K c ns xs s na nm H ∧ c.od = some o ∧ lo ≤ hi ∧ 0 ≤ lo ∧ hi ≤ 1000 ∧ KA K c ns xs s na nm H Q
theorem use_lcount {K : PySem.W.Frag} {c : Cfg} {ns : List Int} {xs : List Str} {s na nm : Addr} {o lo hi : Int} {H : Hp} {Q : VK} {E : XK} (L : LS K c ns xs s na nm H) (ho : c.od = some o) (h0 : lo ≤ hi) (h1 : 0 ≤ lo) (h2 : hi ≤ 1000) (q : KA K c ns xs s na nm H Q) : spLCount K ([.ref s, .int lo, .int hi] ++ []) H Q E := ⟨c, ns, xs, s, na, nm, o, lo, hi, rfl, L, ho, h0, h1, h2, q⟩
def spLTold (K : PySem.W.Frag) (n : Nat) : Sp := fun vs H Q _ => ∃ (c : Cfg) (ns : List Int) (xs : List Str) (s na nm : Addr) (o d : Int), vs = [.ref s, .int d] ∧ LS K c ns xs s na nm H ∧ c.od = some o ∧ 0 ≤ d ∧ d < n ∧ KA K c ns xs s na nm H Q
theorem use_ltold {K : PySem.W.Frag} {n : Nat} {c : Cfg} {ns : List Int} {xs : List Str} {s na nm : Addr} {o d : Int} {H : Hp} {Q : VK} {E : XK} (L : LS K c ns xs s na nm H) (ho : c.od = some o) (h0 : 0 ≤ d) (h1 : d < n) (q : KA K c ns xs s na nm H Q) : spLTold K n ([.ref s, .int d] ++ []) H Q E := ⟨c, ns, xs, s, na, nm, o, d, rfl, L, ho, h0, h1, q⟩
theorem none_ltold {P : Program} {w : World} {K : PySem.W.Frag} {mg : Str → Option Value} {base : Heap} {f : Addr} {fd : FuncData} {ps : List Str} : FnOk P w K mg base CX0 0 f fd ps (spLTold K 0) := by
  have no : ∀ vs H Q E, ¬ spLTold K 0 vs H Q E := fun vs H Q E h => by
    obtain ⟨c, ns, xs, s, na, nm, o, d, _, _, _, h0, h1, _⟩ := h
    omega
  exact ⟨fun vs H Q E h => absurd h (no vs H Q E), fun A outer s H args us vs Q E _ _ _ _ h => absurd h (no vs H Q E)⟩
def looseWords : List PyData := [.str "A", .str "", .str (rp 113 9), .int 5, .none, .str "a b", .str "a1"]
section
variable {P : Program} {w : World} {K : PySem.W.Frag} {mg : Str → Option Value} {base : Heap}
abbrev s__law_amiss : Stmt := topS 28
theorem sc__law_amiss : FnScope ["_law_s"] ["_law_s"] (defScope s__law_amiss) := ⟨rfl, rfl, rfl, by decide +kernel, rfl, by decide +kernel, by decide +kernel⟩
theorem h__law_amiss {k : Nat} {f : Addr} {fd : FuncData} (O : Own K mg "_law_amiss" s__law_amiss ["_law_s"] f fd)  {f__law_taken : Addr} {fd__law_taken : FuncData} (D__law_taken : Has P w K mg base "_law_taken" ["_law_s", "_law_most"] k CX0 (spTaken K) f__law_taken fd__law_taken) : Has P w K mg base "_law_amiss" ["_law_s"] (k + 1) CX0 (spAmiss K) f fd := by
  refine O.has (O.F.ok sc__law_amiss (fun vs H Q E h => ?_) (fun cdv A outer s H vs Q E hr h => ?_))
  · obtain ⟨c, ns, xs, s, na, nm, o, rfl, _⟩ := h
    rfl
  obtain ⟨c, ns, xs, s, na, nm, o, rfl, L, ho, q⟩ := h
  refine ⟨_, (pss_one (ps_ret (pe_and (pe_cmpR op_gt (pe_dget (hu_of hr) (pv 0) pe_str (fun _ _ => rfl)) pe_int (nomark _)) (pe_one (pe_cmpR op_eq (pe_call D__law_taken.G hr (by rfl) D__law_taken.g D__law_taken.k D__law_taken.b .nil pass0 (pa_cons (pv 0) (pa_cons (pe_dget (hu_of hr) (pv 0) pe_str (fun _ _ => rfl)) pa_nil))) pe_int (nomark _)))))), ?_⟩
  obtain ⟨n, re, mx, hs, g0, g1, g2, g3⟩ := L.st
  have bo := L.ok.od o ho
  have hv : ∀ {n re mx : Int}, valV (sd c na nm n re mx) (.inr "odd") = some (.int o) := by
    intro n re mx
    obtain ⟨a, b, d, e, od⟩ := c
    cases ho
    rfl
  walk_at "go"
  refine g_key hs hv ?_
  walk_at "go"
  refine ifd (fun c1 => ?_) (fun c1 => ?_)
  · walk_at "go"
    refine g_key hs hv ?_
    walk_at "go"
    refine use_taken L (by omega) (by omega) fun r H1 r0 r1 e1 L1 => ?_
    walk_at "go"
    exact q _ _ e1 L1
  · exact q _ _ (KB.refl _ _) L
abbrev s__law_loose_word : Stmt := topS 29
theorem sc__law_loose_word : FnScope ["_law_s", "_law_k"] ["_law_s", "_law_k"] (defScope s__law_loose_word) := ⟨rfl, rfl, rfl, by decide +kernel, rfl, by decide +kernel, by decide +kernel⟩
theorem h__law_loose_word {k : Nat} {f : Addr} {fd : FuncData} (O : Own K mg "_law_loose_word" s__law_loose_word ["_law_s", "_law_k"] f fd)  {f__law_amiss : Addr} {fd__law_amiss : FuncData} (D__law_amiss : Has P w K mg base "_law_amiss" ["_law_s"] k CX0 (spAmiss K) f__law_amiss fd__law_amiss) {f__law_taken : Addr} {fd__law_taken : FuncData} (D__law_taken : Has P w K mg base "_law_taken" ["_law_s", "_law_most"] k CX0 (spTaken K) f__law_taken fd__law_taken) {f__law_word : Addr} {fd__law_word : FuncData} (D__law_word : Has P w K mg base "_law_word" ["_law_s", "_law_k"] k CX0 (spWord K) f__law_word fd__law_word) : Has P w K mg base "_law_loose_word" ["_law_s", "_law_k"] (k + 1) CX0 (spLWord K) f fd := by
  refine O.has (O.F.ok sc__law_loose_word (fun vs H Q E h => ?_) (fun cdv A outer s H vs Q E hr h => ?_))
  · obtain ⟨c, ns, xs, s, na, nm, o, k, rfl, _⟩ := h
    rfl
  obtain ⟨c, ns, xs, s, na, nm, o, k, rfl, L, ho, h0, h1, q⟩ := h
  refine ⟨_, (pss_one (ps_ret (pe_ifExp (pt_val (pe_call D__law_amiss.G hr (by rfl) D__law_amiss.g D__law_amiss.k D__law_amiss.b .nil pass0 (pa_cons (pv 0) pa_nil))) (pe_ix ix_list (pe_lst (pa_cons pe_str (pa_cons pe_str (pa_cons (pe_op op_rep_str pe_str pe_int) (pa_cons pe_int (pa_cons pe_non (pa_cons pe_str (pa_cons pe_str pa_nil)))))))) (pe_call D__law_taken.G hr (by rfl) D__law_taken.g D__law_taken.k D__law_taken.b .nil pass0 (pa_cons (pv 0) (pa_cons pe_int pa_nil))) (fun _ _ => rfl)) (pe_call D__law_word.G hr (by rfl) D__law_word.g D__law_word.k D__law_word.b .nil pass0 (pa_cons (pv 0) (pa_cons (pv 1) pa_nil)))))), ?_⟩
  walk_at "go"
  refine use_amiss L ho fun b H1 e1 L1 => ?_
  refine ⟨_, rfl, ifb (fun _ => ?_) (fun _ => ?_)⟩
  · with_reducible refine g_op ?_
    have ev : EvA K (fun _ => none) (tCons (tC (.str "A")) (tCons (tC (.str "")) (tCons (tOp rRepS (tC (.str "q")) (tC (.int 9))) (tCons (tC (.int 5)) (tCons (tC .non) (tCons (tC (.str "a b")) (tCons (tC (.str "a1")) tNil))))))) looseWords :=
      eva_cons (evd_str _) (eva_cons (evd_str _) (eva_cons (evd_rep (c := 113) (by decide) (by decide) (evd_str _) (evd_int _)) (eva_cons (evd_int _) (eva_cons evd_non (eva_cons (evd_str _) (eva_cons (evd_str _) eva_nil))))))
    refine ev_lst ev (by decide) (fun _ _ h => by cases h) fun p zs H2 e2 n2 d2 => ?_
    have L2 := L1.same (e2.trans (same_new (o := .lst zs) n2))
    walk_at "go"
    refine use_taken L2 (by decide) (by decide) fun r H3 r0 r1 e3 L3 => ?_
    have d3 := DpAll.dm ((DM.of (same_new (o := .lst zs) n2)).trans (L2.dm e3)) d2
    obtain ⟨v, d, hv, hd, hz⟩ := pick_any d3 (by decide +kernel) r0 r1
    exact ⟨_, _, _, _, rfl, rfl, sql (L2.keepl e3 upd_same), hv, q v d _ ((e1.trans (.of (e2.trans (same_new (o := .lst zs) n2)))).trans e3) L3 hd hz⟩
  · walk_at "go"
    refine use_word L1 h0 h1 fun H2 e2 => ?_
    refine q _ (.str (wd c k)) _ (e1.trans (.of e2)) (L1.same e2) (.str _) (dok_word (wd_word L.ok h0))
end

/-- an item of a list that was laid ahead, one that is drawn -/
theorem pick_end {K : PySem.W.Frag} {c : Cfg} {ns : List Int} {xs : List Str} {s na nm p : Addr} {H0 H1 H2 : Hp} {zs : List V} {ds : List PyData} {Q : VK} {r : Int} (hp : H1 p = some (.lst zs)) (hd : DpAll K H1 zs ds) (ha : ds.all dOk = true) (L1 : LS K c ns xs s na nm H1) (e0 : KB s H0 H1) (e : KB s H1 H2) (L2 : LS K c ns xs s na nm H2)
    (r0 : 0 ≤ r) (r1 : r < ds.length) (q : KA K c ns xs s na nm H0 Q) : rIxL K (.ref p) (.int r) H2 Q := by
  obtain ⟨v, d, hv, hdv, hz⟩ := pick_any (DpAll.dm (L1.dm e) hd) ha r0 r1
  exact ⟨_, _, _, _, rfl, rfl, sql (L1.keepl e hp), hv, q v d _ (e0.trans e) L2 hdv hz⟩
def G12 (a b : PyData) : Env4
  | 1 => some a
  | 2 => some b
  | _ => none
theorem G12.ok {K : PySem.W.Frag} {a b : PyData} {x y : V} {z : Option V} {r : L2.St} {H : Hp} (ha : Dp K H x a) (hb : Dp K H y b) : SlotsOk K (G12 a b) (z :: some x :: some y :: r) H := by
  intro i d h
  match i, h with
  | 1, h => cases h; exact ⟨_, rfl, ha⟩
  | 2, h => cases h; exact ⟨_, rfl, hb⟩
def lOne : PyData := .tuple [.str "num", .int 1]
def G2 (a : PyData) : Env4
  | 2 => some a
  | _ => none
theorem G2.ok {K : PySem.W.Frag} {a : PyData} {x : V} {y z : Option V} {r : L2.St} {H : Hp} (ha : Dp K H x a) : SlotsOk K (G2 a) (y :: z :: some x :: r) H := by
  intro i d h
  match i, h with
  | 2, h => cases h; exact ⟨_, rfl, ha⟩
theorem dok2 {w : Str} {d : PyData} (hw : dOk (.str w) = true) (h : dOk d = true) : dOk (.tuple [.str w, d]) = true := dok_tup hw (by simp [h])
theorem dok3 {w : Str} {d e : PyData} (hw : dOk (.str w) = true) (h : dOk d = true) (h2 : dOk e = true) : dOk (.tuple [.str w, d, e]) = true := dok_tup hw (by simp [h, h2])
theorem dok4 {w : Str} {d e f : PyData} (hw : dOk (.str w) = true) (h : dOk d = true) (h2 : dOk e = true) (h3 : dOk f = true) : dOk (.tuple [.str w, d, e, f]) = true := dok_tup hw (by simp [h, h2, h3])
theorem dok_int (i : Int) : dOk (.int i) = true := by unfold dOk szOk hOk; rfl
section
variable {P : Program} {w : World} {K : PySem.W.Frag} {mg : Str → Option Value} {base : Heap}
abbrev s__law_loose_count : Stmt := topS 30
theorem sc__law_loose_count : FnScope ["_law_s", "_law_least", "_law_most"] ["_law_s", "_law_least", "_law_most"] (defScope s__law_loose_count) := ⟨rfl, rfl, rfl, by decide +kernel, rfl, by decide +kernel, by decide +kernel⟩
theorem h__law_loose_count {k : Nat} {f : Addr} {fd : FuncData} (O : Own K mg "_law_loose_count" s__law_loose_count ["_law_s", "_law_least", "_law_most"] f fd)  {f__law_taken : Addr} {fd__law_taken : FuncData} (D__law_taken : Has P w K mg base "_law_taken" ["_law_s", "_law_most"] k CX0 (spTaken K) f__law_taken fd__law_taken) {f__law_amiss : Addr} {fd__law_amiss : FuncData} (D__law_amiss : Has P w K mg base "_law_amiss" ["_law_s"] k CX0 (spAmiss K) f__law_amiss fd__law_amiss) : Has P w K mg base "_law_loose_count" ["_law_s", "_law_least", "_law_most"] (k + 1) CX0 (spLCount K) f fd := by
  refine O.has (O.F.ok sc__law_loose_count (fun vs H Q E h => ?_) (fun cdv A outer s H vs Q E hr h => ?_))
  · obtain ⟨c, ns, xs, s, na, nm, o, lo, hi, rfl, _⟩ := h
    rfl
  obtain ⟨c, ns, xs, s, na, nm, o, lo, hi, rfl, L, ho, h0, h1, h2, q⟩ := h
  refine ⟨_, (pss_cons (ps_if (pt_val (pe_call D__law_amiss.G hr (by rfl) D__law_amiss.g D__law_amiss.k D__law_amiss.b .nil pass0 (pa_cons (pv 0) pa_nil))) (pss_one (ps_ret (pe_ix ix_list (pe_lst (pa_cons (pe_op op_sub (pv 1) pe_int) (pa_cons (pe_op op_add (pv 2) pe_int) (pa_cons pe_bl (pa_cons pe_non (pa_cons pe_str (pa_cons (pe_op op_add (pv 2) pe_int) pa_nil))))))) (pe_call D__law_taken.G hr (by rfl) D__law_taken.g D__law_taken.k D__law_taken.b .nil pass0 (pa_cons (pv 0) (pa_cons pe_int pa_nil))) (fun _ _ => rfl)))) pss_nil) (pss_one (ps_ret (pe_ix ix_list (pe_lst (pa_cons (pv 1) (pa_cons (pv 2) (pa_cons (pe_op op_add (pv 1) (pe_call D__law_taken.G hr (by rfl) D__law_taken.g D__law_taken.k D__law_taken.b .nil pass0 (pa_cons (pv 0) (pa_cons (pe_op op_add (pe_op op_sub (pv 2) (pv 1)) pe_int) pa_nil)))) pa_nil)))) (pe_call D__law_taken.G hr (by rfl) D__law_taken.g D__law_taken.k D__law_taken.b .nil pass0 (pa_cons (pv 0) (pa_cons pe_int pa_nil))) (fun _ _ => rfl))))), ?_⟩
  walk_at "go"
  refine use_amiss L ho fun b H1 e1 L1 => ?_
  refine ⟨_, rfl, ifb (fun _ => ?_) (fun _ => ?_)⟩
  · with_reducible refine g_ret ?_
    with_reducible refine g_op ?_
    refine ev_lst (K := K) (Γ := G12 (.int lo) (.int hi)) (ds := [.int (lo - 1), .int (hi + 1), .bool true, .none, .str "1", .int (hi + 900)]) (by walk_at "ev") (Nat.le_of_ble_eq_true rfl) (G12.ok (.int _) (.int _)) fun p zs H2 e2 n2 d2 => ?_
    have sn := e2.trans (same_new (o := .lst zs) n2)
    have L2 := L1.same sn
    walk_at "go"
    refine use_taken L2 (by decide) (by decide) fun r H3 r0 r1 e3 L3 => ?_
    exact pick_end upd_same (DpAll.dm (.of (same_new n2)) d2) (by simp [dOk, szOk, hOk]; decide +kernel) L2 (e1.trans (.of sn)) e3 L3 r0 r1 q
  · walk_at "go"
    refine use_taken L1 (by omega) (by omega) fun r H2 r0 r1 e2 L2 => ?_
    walk_at "go"
    refine ⟨by show 3 ≤ sizeLine; decide, fun p np => ?_⟩
    have sn := same_new (o := .lst [.int lo, .int hi, .int (lo + r)]) np
    have L3 := L2.same sn
    walk_at "go"
    refine use_taken L3 (by decide) (by decide) fun j H4 j0 j1 e4 L4 => ?_
    exact pick_end (ds := [.int lo, .int hi, .int (lo + r)]) upd_same (.cons (.int _) (.cons (.int _) (.cons (.int _) .nil))) (by simp [dOk, szOk, hOk]) L3 ((e1.trans e2).trans (.of sn)) e4 L4 j0 j1 q
abbrev s__law_loose_told : Stmt := topS 31
theorem sc__law_loose_told : FnScope ["_law_s", "_law_deep", "_law_one", "_law_some", "_law_way"] ["_law_s", "_law_deep"] (defScope s__law_loose_told) := ⟨rfl, rfl, rfl, by decide +kernel, rfl, by decide +kernel, by decide +kernel⟩
theorem h__law_loose_told {n : Nat} {k : Nat} {f : Addr} {fd : FuncData} (O : Own K mg "_law_loose_told" s__law_loose_told ["_law_s", "_law_deep"] f fd)  {f__law_loose_told : Addr} {fd__law_loose_told : FuncData} (D__law_loose_told : Has P w K mg base "_law_loose_told" ["_law_s", "_law_deep"] k CX0 (spLTold K n) f__law_loose_told fd__law_loose_told) {f__law_taken : Addr} {fd__law_taken : FuncData} (D__law_taken : Has P w K mg base "_law_taken" ["_law_s", "_law_most"] k CX0 (spTaken K) f__law_taken fd__law_taken) {f__law_number : Addr} {fd__law_number : FuncData} (D__law_number : Has P w K mg base "_law_number" ["_law_s"] k CX0 (spNumber K) f__law_number fd__law_number) {f__law_loose_word : Addr} {fd__law_loose_word : FuncData} (D__law_loose_word : Has P w K mg base "_law_loose_word" ["_law_s", "_law_k"] k CX0 (spLWord K) f__law_loose_word fd__law_loose_word) {f__law_amiss : Addr} {fd__law_amiss : FuncData} (D__law_amiss : Has P w K mg base "_law_amiss" ["_law_s"] k CX0 (spAmiss K) f__law_amiss fd__law_amiss) : Has P w K mg base "_law_loose_told" ["_law_s", "_law_deep"] (k + 1) CX0 (spLTold K (n + 1)) f fd := by
  refine O.has (O.F.ok sc__law_loose_told (fun vs H Q E h => ?_) (fun cdv A outer s H vs Q E hr h => ?_))
  · obtain ⟨c, ns, xs, s, na, nm, o, d, rfl, _⟩ := h
    rfl
  obtain ⟨c, ns, xs, s, na, nm, o, d, rfl, L, ho, h0, h1, q⟩ := h
  refine ⟨_, (pss_cons (ps_set (i := 2) sc__law_loose_told.nd rfl (.inl rfl) (pe_tup (pa_cons pe_str (pa_cons pe_int pa_nil)))) (pss_cons (ps_if (pt_val (pe_call D__law_amiss.G hr (by rfl) D__law_amiss.g D__law_amiss.k D__law_amiss.b .nil pass0 (pa_cons (pv 0) pa_nil))) (pss_cons (ps_set (i := 3) sc__law_loose_told.nd rfl (.inl rfl) (pe_lst (pa_cons (pe_tup (pa_cons pe_str (pa_cons pe_bl pa_nil))) (pa_cons (pe_tup (pa_cons pe_str (pa_cons pe_str pa_nil))) (pa_cons (pe_tup (pa_cons pe_str pa_nil)) (pa_cons (pe_tup (pa_cons pe_str (pa_cons pe_int (pa_cons pe_int pa_nil)))) (pa_cons (pe_tup (pa_cons pe_str pa_nil)) (pa_cons (pe_tup (pa_cons pe_str (pa_cons (pv 2) pa_nil))) (pa_cons (pe_tup (pa_cons pe_str (pa_cons (pv 2) (pa_cons (pv 2) pa_nil)))) pa_nil))))))))) (pss_cons (ps_set (i := 3) sc__law_loose_told.nd rfl (.inl rfl) (pe_op op_cat (pv 3) (pe_lst (pa_cons (pe_tup (pa_cons pe_str (pa_cons (pe_op op_pow pe_int pe_int) pa_nil))) (pa_cons (pe_tup (pa_cons pe_str (pa_cons (pe_op op_sub pe_int (pe_op op_pow pe_int pe_int)) pa_nil))) (pa_cons (pe_lst (pa_cons pe_str (pa_cons pe_int pa_nil))) (pa_cons pe_int (pa_cons (pe_tup pa_nil) (pa_cons pe_non (pa_cons (pe_tup (pa_cons pe_str (pa_cons (pv 2) (pa_cons (pv 2) (pa_cons (pv 2) pa_nil))))) pa_nil)))))))))) (pss_one (ps_ret (pe_ix ix_list (pv 3) (pe_call D__law_taken.G hr (by rfl) D__law_taken.g D__law_taken.k D__law_taken.b .nil pass0 (pa_cons (pv 0) (pa_cons pe_int pa_nil))) (fun _ _ => rfl)))))) pss_nil) (pss_cons (ps_set (i := 4) sc__law_loose_told.nd rfl (.inl rfl) (pe_call D__law_taken.G hr (by rfl) D__law_taken.g D__law_taken.k D__law_taken.b .nil pass0 (pa_cons (pv 0) (pa_cons pe_int pa_nil)))) (pss_cons (ps_if (PW.pt (pw_or (pt_cmpR op_lt (pv 4) pe_int (nomark _)) (pw_or1 (pt_cmpR op_eq (pv 1) pe_int (nomark _))))) (pss_cons (ps_if (pt_cmpR op_eq (pv 4) pe_int (nomark _)) (pss_one (ps_ret (pe_tup (pa_cons pe_str (pa_cons (pe_call D__law_loose_word.G hr (by rfl) D__law_loose_word.g D__law_loose_word.k D__law_loose_word.b .nil pass0 (pa_cons (pv 0) (pa_cons pe_int pa_nil))) pa_nil))))) pss_nil) (pss_one (ps_ret (pe_tup (pa_cons pe_str (pa_cons (pe_ix ix_list (pe_lst (pa_cons (pe_op op_sub (pe_op op_pow pe_int pe_int) pe_int) (pa_cons (pe_op op_sub pe_int (pe_op op_pow pe_int pe_int)) (pa_cons pe_int (pa_cons (pe_call D__law_number.G hr (by rfl) D__law_number.g D__law_number.k D__law_number.b .nil pass0 (pa_cons (pv 0) pa_nil)) pa_nil))))) (pe_op op_mod (pv 4) pe_int) (fun _ _ => rfl)) pa_nil)))))) pss_nil) (pss_cons (ps_set (i := 2) sc__law_loose_told.nd rfl (.inl rfl) (pe_call D__law_loose_told.G hr (by rfl) D__law_loose_told.g D__law_loose_told.k D__law_loose_told.b .nil pass0 (pa_cons (pv 0) (pa_cons (pe_op op_sub (pv 1) pe_int) pa_nil)))) (pss_one (ps_ret (pe_tup (pa_cons (pe_ix ix_list (pe_lst (pa_cons pe_str (pa_cons pe_str (pa_cons pe_str (pa_cons pe_str (pa_cons pe_str pa_nil)))))) (pe_call D__law_taken.G hr (by rfl) D__law_taken.g D__law_taken.k D__law_taken.b .nil pass0 (pa_cons (pv 0) (pa_cons pe_int pa_nil))) (fun _ _ => rfl)) (pa_cons (pv 2) (pa_cons (pe_call D__law_loose_told.G hr (by rfl) D__law_loose_told.g D__law_loose_told.k D__law_loose_told.b .nil pass0 (pa_cons (pv 0) (pa_cons (pe_op op_sub (pv 1) pe_int) pa_nil))) pa_nil))))))))))), ?_⟩
  walk_at "go"
  refine ⟨by show 2 ≤ sizeLine; decide, fun p1 n1 => ?_⟩
  have s1 := same_new (o := .tup [.str "num", .int 1]) n1
  have d1 : Dp K (upd H p1 (.tup [.str "num", .int 1])) (.ref p1) lOne := .tup (sqt upd_same) (.cons (.str _) (.cons (.int _) .nil))
  replace L := L.same s1
  have e0 := KB.of (s := s) s1
  generalize upd H p1 (.tup [.str "num", .int 1]) = H0 at s1 d1 L e0 ⊢
  walk_at "go"
  refine use_amiss L ho fun b H1 e1 L1 => ?_
  replace d1 := Dp.dm (L.dm e1) d1
  replace e1 := e0.trans e1
  refine ⟨_, rfl, ifb (fun _ => ?_) (fun _ => ?_)⟩
  · with_reducible refine g_seq ?_
    with_reducible refine g_asg ?_
    apply ev_lst (K := K) (Γ := G2 lOne)
    · walk_at "ev"
    · exact Nat.le_of_ble_eq_true rfl
    · exact G2.ok d1
    intro p zs H2 e2 n2 d2
    have sn := e2.trans (same_new (o := .lst zs) n2)
    have hp : (upd H2 p (.lst zs)) p = some (.lst zs) := upd_same
    replace d2 := DpAll.dm (.of (same_new (o := .lst zs) n2)) d2
    replace d1 := Dp.dm (.of sn) d1
    replace L1 := L1.same sn
    replace e1 := e1.trans (.of sn)
    generalize upd H2 p (.lst zs) = H3 at hp d2 d1 L1 e1 ⊢
    with_reducible refine g_name ?_
    with_reducible refine g_seq ?_
    with_reducible refine g_asg ?_
    apply ev_cat (K := K) (Γ := G2 lOne) rfl hp d2
    · walk_at "ev"
    · exact G2.ok d1
    · exact Nat.le_of_ble_eq_true rfl
    · exact Nat.le_of_ble_eq_true rfl
    intro p' zs' H4 e4 hp4 d4
    replace L1 := L1.same e4
    walk_at "go"
    refine use_taken L1 (by decide) (by decide) fun r H5 r0 r1 e5 L5 => ?_
    exact pick_end hp4 d4 (by decide +kernel) L1 (e1.trans (.of e4)) e5 L5 r0 r1 q
  · walk_at "go"
    refine use_taken L1 (by decide) (by decide) fun wy H2 w0 w1 e2 L2 => ?_
    walk_at "go"
    refine or_cut (d = 0) (fun hc => ?_) (fun c1 back => ?_)
    · walk_at "go"
      refine ifd (fun c2 => ?_) (fun c2 => ?_)
      · walk_at "go"
        refine use_lword L2 ho (by decide) (by decide) fun v6 d6 H6 e6 L6 hd6 hz6 => ?_
        walk_at "go"
        refine ⟨by show 2 ≤ sizeLine; decide, fun p np => ?_⟩
        have sn := same_new (o := .tup [.str "read", v6]) np
        exact q _ (.tuple [.str "read", d6]) _ (((e1.trans e2).trans e6).trans (.of sn)) (L6.same sn) (.tup (sqt upd_same) (.cons (.str _) (.cons (Dp.dm (.of sn) hd6) .nil))) (dok2 (by decide +kernel) hz6)
      · walk_at "go"
        refine g_I ⟨by decide, by decide, by decide⟩ ?_
        walk_at "go"
        refine g_I ⟨by decide, by decide, by decide⟩ ?_
        walk_at "go"
        refine use_number L2 fun m H3 m0 m1 e3 L3 => ?_
        walk_at "go"
        refine ⟨by show 4 ≤ sizeLine; decide, fun p np => ?_⟩
        have sn := same_new (o := .lst [.int (10 ^ (12 : Int).toNat - 1), .int (1 - 10 ^ (12 : Int).toNat), .int 0, .int m]) np
        have hp : (upd H3 p (.lst [.int (10 ^ (12 : Int).toNat - 1), .int (1 - 10 ^ (12 : Int).toNat), .int 0, .int m])) p = some (.lst [.int (10 ^ (12 : Int).toNat - 1), .int (1 - 10 ^ (12 : Int).toNat), .int 0, .int m]) := upd_same
        replace L3 := L3.same sn
        replace e3 := e3.trans (.of sn)
        show tOp _ _ _ _ (upd H3 p (.lst [.int (10 ^ (12 : Int).toNat - 1), .int (1 - 10 ^ (12 : Int).toNat), .int 0, .int m])) _
        generalize upd H3 p (.lst [.int (10 ^ (12 : Int).toNat - 1), .int (1 - 10 ^ (12 : Int).toNat), .int 0, .int m]) = H4 at hp L3 e3 ⊢
        walk_at "go"
        refine g_I (by decide) ?_
        have y0 : 0 ≤ wy % 4 := Int.emod_nonneg _ (by decide)
        have y1 : wy % 4 < 4 := Int.emod_lt_of_pos _ (by decide)
        have hit : ∃ z : Int, atI [V.int (10 ^ (12 : Int).toNat - 1), .int (1 - 10 ^ (12 : Int).toNat), .int 0, .int m] (wy % 4) = some (.int z) := by
          generalize wy % 4 = y at y0 y1
          have : y = 0 ∨ y = 1 ∨ y = 2 ∨ y = 3 := by omega
          rcases this with rfl | rfl | rfl | rfl
          · exact ⟨_, at_any (j := 0) rfl rfl⟩
          · exact ⟨_, at_any (j := 1) rfl rfl⟩
          · exact ⟨_, at_any (j := 2) rfl rfl⟩
          · exact ⟨_, at_any (j := 3) rfl rfl⟩
        obtain ⟨z, hz⟩ := hit
        refine ⟨_, _, _, _, rfl, rfl, sql hp, hz, ?_⟩
        walk_at "go"
        refine ⟨by show 2 ≤ sizeLine; decide, fun p5 np5 => ?_⟩
        have s5 := same_new (o := .tup [.str "num", .int z]) np5
        exact q _ (.tuple [.str "num", .int z]) _ (((e1.trans e2).trans e3).trans (.of s5)) (L3.same s5) (.tup (sqt upd_same) (.cons (.str _) (.cons (.int _) .nil))) (dok2 (by decide +kernel) (dok_int z))
    · walk_at "go"
      refine ifd back (fun c2 => ?_)
      walk_at "go"
      refine use_ltold L2 ho (by omega) (by omega) fun v6 d6 H6 e6 L6 hd6 hz6 => ?_
      walk_at "go"
      refine ⟨by show 5 ≤ sizeLine; decide, fun p np => ?_⟩
      have sn := same_new (o := .lst opWords) np
      have hp : (upd H6 p (.lst opWords)) p = some (.lst opWords) := upd_same
      replace L6 := L6.same sn
      replace hd6 := Dp.dm (.of sn) hd6
      replace e6 := e6.trans (.of sn)
      show tCall _ _ _ _ _ (upd H6 p (.lst opWords)) _
      generalize upd H6 p (.lst opWords) = H7 at hp L6 hd6 e6 ⊢
      walk_at "go"
      refine use_taken L6 (by decide) (by decide) fun r H8 r0 r1 e8 L8 => ?_
      obtain ⟨op, hop⟩ := op_at r0 r1
      refine ⟨_, opWords, _, _, rfl, rfl, sql (L6.keepl e8 hp), hop, ?_⟩
      walk_at "go"
      refine use_ltold L8 ho (by omega) (by omega) fun v9 d9 H9 e9 L9 hd9 hz9 => ?_
      walk_at "go"
      refine ⟨by show 3 ≤ sizeLine; decide, fun px npx => ?_⟩
      have sx := same_new (o := .tup [.str op.word, v6, v9]) npx
      exact q _ (.tuple [.str op.word, d6, d9]) _ (((((e1.trans e2).trans e6).trans e8).trans e9).trans (.of sx)) (L9.same sx) (.tup (sqt upd_same) (.cons (.str _) (.cons (Dp.dm (((L6.dm e8).trans (L8.dm e9)).trans (.of sx)) hd6) (.cons (Dp.dm (.of sx) hd9) .nil)))) (dok3 (by cases op <;> decide +kernel) hz6 hz9)
end
def spLAsked (K : PySem.W.Frag) (n : Nat) : Sp := fun vs H Q _ => ∃ (c : Cfg) (ns : List Int) (xs : List Str) (s na nm : Addr) (o d : Int), vs = [.ref s, .int d] ∧ LS K c ns xs s na nm H ∧ c.od = some o ∧ 0 ≤ d ∧ d < n ∧ d ≤ 2 ∧ KA K c ns xs s na nm H Q
theorem use_lasked {K : PySem.W.Frag} {n : Nat} {c : Cfg} {ns : List Int} {xs : List Str} {s na nm : Addr} {o d : Int} {H : Hp} {Q : VK} {E : XK} (L : LS K c ns xs s na nm H) (ho : c.od = some o) (h0 : 0 ≤ d) (h1 : d < n) (h2 : d ≤ 2) (q : KA K c ns xs s na nm H Q) : spLAsked K n ([.ref s, .int d] ++ []) H Q E := ⟨c, ns, xs, s, na, nm, o, d, rfl, L, ho, h0, h1, h2, q⟩
theorem none_lasked {P : Program} {w : World} {K : PySem.W.Frag} {mg : Str → Option Value} {base : Heap} {f : Addr} {fd : FuncData} {ps : List Str} : FnOk P w K mg base CX0 0 f fd ps (spLAsked K 0) := by
  have no : ∀ vs H Q E, ¬ spLAsked K 0 vs H Q E := fun vs H Q E h => by
    obtain ⟨c, ns, xs, s, na, nm, o, d, _, _, _, h0, h1, _⟩ := h
    omega
  exact ⟨fun vs H Q E h => absurd h (no vs H Q E), fun A outer s H args us vs Q E _ _ _ _ h => absurd h (no vs H Q E)⟩
def lGood : PyData := .tuple [.str "below", .tuple [.str "num", .int 1], .tuple [.str "num", .int 2]]
section
variable {P : Program} {w : World} {K : PySem.W.Frag} {mg : Str → Option Value} {base : Heap}
abbrev s__law_loose_asked : Stmt := topS 32
theorem sc__law_loose_asked : FnScope ["_law_s", "_law_deep", "_law_good", "_law_some", "_law_way", "_law_one"] ["_law_s", "_law_deep"] (defScope s__law_loose_asked) := ⟨rfl, rfl, rfl, by decide +kernel, rfl, by decide +kernel, by decide +kernel⟩
theorem h__law_loose_asked {n : Nat} {k : Nat} {f : Addr} {fd : FuncData} (O : Own K mg "_law_loose_asked" s__law_loose_asked ["_law_s", "_law_deep"] f fd)  {f__law_loose_asked : Addr} {fd__law_loose_asked : FuncData} (D__law_loose_asked : Has P w K mg base "_law_loose_asked" ["_law_s", "_law_deep"] k CX0 (spLAsked K n) f__law_loose_asked fd__law_loose_asked) {f__law_loose_told : Addr} {fd__law_loose_told : FuncData} (D__law_loose_told : Has P w K mg base "_law_loose_told" ["_law_s", "_law_deep"] k CX0 (spLTold K 3) f__law_loose_told fd__law_loose_told) {f__law_taken : Addr} {fd__law_taken : FuncData} (D__law_taken : Has P w K mg base "_law_taken" ["_law_s", "_law_most"] k CX0 (spTaken K) f__law_taken fd__law_taken) {f__law_amiss : Addr} {fd__law_amiss : FuncData} (D__law_amiss : Has P w K mg base "_law_amiss" ["_law_s"] k CX0 (spAmiss K) f__law_amiss fd__law_amiss) : Has P w K mg base "_law_loose_asked" ["_law_s", "_law_deep"] (k + 1) CX0 (spLAsked K (n + 1)) f fd := by
  refine O.has (O.F.ok sc__law_loose_asked (fun vs H Q E h => ?_) (fun cdv A outer s H vs Q E hr h => ?_))
  · obtain ⟨c, ns, xs, s, na, nm, o, d, rfl, _⟩ := h
    rfl
  obtain ⟨c, ns, xs, s, na, nm, o, d, rfl, L, ho, h0, h1, h2, q⟩ := h
  refine ⟨_, (pss_cons (ps_set (i := 2) sc__law_loose_asked.nd rfl (.inl rfl) (pe_tup (pa_cons pe_str (pa_cons (pe_tup (pa_cons pe_str (pa_cons pe_int pa_nil))) (pa_cons (pe_tup (pa_cons pe_str (pa_cons pe_int pa_nil))) pa_nil))))) (pss_cons (ps_if (pt_val (pe_call D__law_amiss.G hr (by rfl) D__law_amiss.g D__law_amiss.k D__law_amiss.b .nil pass0 (pa_cons (pv 0) pa_nil))) (pss_cons (ps_set (i := 3) sc__law_loose_asked.nd rfl (.inl rfl) (pe_lst (pa_cons (pe_tup (pa_cons pe_str (pa_cons (pe_tup (pa_cons pe_str (pa_cons pe_int pa_nil))) pa_nil))) (pa_cons (pe_tup (pa_cons pe_str (pa_cons (pe_tup (pa_cons pe_str (pa_cons pe_int pa_nil))) (pa_cons (pe_tup (pa_cons pe_str (pa_cons pe_int pa_nil))) pa_nil)))) (pa_cons (pe_tup (pa_cons pe_str pa_nil)) (pa_cons (pe_tup (pa_cons pe_str (pa_cons (pv 2) (pa_cons (pv 2) pa_nil)))) (pa_cons (pe_tup (pa_cons pe_str (pa_cons (pv 2) pa_nil))) pa_nil))))))) (pss_one (ps_ret (pe_ix ix_list (pe_op op_cat (pv 3) (pe_lst (pa_cons (pe_tup (pa_cons pe_str (pa_cons (pv 2) (pa_cons (pv 2) (pa_cons (pv 2) pa_nil))))) (pa_cons (pe_lst (pa_cons pe_str (pa_cons (pv 2) pa_nil))) (pa_cons pe_non (pa_cons pe_str (pa_cons (pe_tup (pa_cons pe_str (pa_cons pe_int pa_nil))) pa_nil))))))) (pe_call D__law_taken.G hr (by rfl) D__law_taken.g D__law_taken.k D__law_taken.b .nil pass0 (pa_cons (pv 0) (pa_cons pe_int pa_nil))) (fun _ _ => rfl))))) pss_nil) (pss_cons (ps_set (i := 4) sc__law_loose_asked.nd rfl (.inl rfl) (pe_call D__law_taken.G hr (by rfl) D__law_taken.g D__law_taken.k D__law_taken.b .nil pass0 (pa_cons (pv 0) (pa_cons pe_int pa_nil)))) (pss_cons (ps_if (PW.pt (pw_or (pt_cmpR op_lt (pv 4) pe_int (nomark _)) (pw_or1 (pt_cmpR op_eq (pv 1) pe_int (nomark _))))) (pss_cons (ps_set (i := 5) sc__law_loose_asked.nd rfl (.inl rfl) (pe_call D__law_loose_told.G hr (by rfl) D__law_loose_told.g D__law_loose_told.k D__law_loose_told.b .nil pass0 (pa_cons (pv 0) (pa_cons (pv 1) pa_nil)))) (pss_one (ps_ret (pe_tup (pa_cons pe_str (pa_cons (pv 5) (pa_cons (pe_call D__law_loose_told.G hr (by rfl) D__law_loose_told.g D__law_loose_told.k D__law_loose_told.b .nil pass0 (pa_cons (pv 0) (pa_cons pe_int pa_nil))) pa_nil))))))) pss_nil) (pss_cons (ps_set (i := 5) sc__law_loose_asked.nd rfl (.inl rfl) (pe_call D__law_loose_asked.G hr (by rfl) D__law_loose_asked.g D__law_loose_asked.k D__law_loose_asked.b .nil pass0 (pa_cons (pv 0) (pa_cons (pe_op op_sub (pv 1) pe_int) pa_nil)))) (pss_one (ps_ret (pe_ifExp (pt_cmpR op_eq (pv 4) pe_int (nomark _)) (pe_tup (pa_cons pe_str (pa_cons (pv 5) pa_nil))) (pe_tup (pa_cons (pe_ix ix_list (pe_lst (pa_cons pe_str (pa_cons pe_str pa_nil))) (pe_op op_sub (pv 4) pe_int) (fun _ _ => rfl)) (pa_cons (pv 5) (pa_cons (pe_call D__law_loose_asked.G hr (by rfl) D__law_loose_asked.g D__law_loose_asked.k D__law_loose_asked.b .nil pass0 (pa_cons (pv 0) (pa_cons (pe_op op_sub (pv 1) pe_int) pa_nil))) pa_nil)))))))))))), ?_⟩
  with_reducible refine g_seq ?_
  with_reducible refine g_asg ?_
  refine (evd_tup (Γ := fun _ => none) (K := K) (ds := [.str "below", .tuple [.str "num", .int 1], .tuple [.str "num", .int 2]]) (by walk_at "ev") (by decide)) _ _ _ (fun _ _ h => by cases h) fun v1 H0 s1 d1 => ?_
  replace L := L.same s1
  have e0 := KB.of (s := s) s1
  have d1 : Dp K H0 v1 lGood := d1
  walk_at "go"
  refine use_amiss L ho fun b H1 e1 L1 => ?_
  replace d1 := Dp.dm (L.dm e1) d1
  replace e1 := e0.trans e1
  refine ⟨_, rfl, ifb (fun _ => ?_) (fun _ => ?_)⟩
  · with_reducible refine g_seq ?_
    with_reducible refine g_asg ?_
    apply ev_lst (K := K) (Γ := G2 lGood)
    · walk_at "ev"
    · exact Nat.le_of_ble_eq_true rfl
    · exact G2.ok d1
    intro p zs H2 e2 n2 d2
    have sn := e2.trans (same_new (o := .lst zs) n2)
    have hp : (upd H2 p (.lst zs)) p = some (.lst zs) := upd_same
    replace d2 := DpAll.dm (.of (same_new (o := .lst zs) n2)) d2
    replace d1 := Dp.dm (.of sn) d1
    replace L1 := L1.same sn
    replace e1 := e1.trans (.of sn)
    generalize upd H2 p (.lst zs) = H3 at hp d2 d1 L1 e1 ⊢
    with_reducible refine g_name ?_
    with_reducible refine g_ret ?_
    with_reducible refine g_op ?_
    apply ev_cat (K := K) (Γ := G2 lGood) rfl hp d2
    · walk_at "ev"
    · exact G2.ok d1
    · exact Nat.le_of_ble_eq_true rfl
    · exact Nat.le_of_ble_eq_true rfl
    intro p' zs' H4 e4 hp4 d4
    replace L1 := L1.same e4
    walk_at "go"
    refine use_taken L1 (by decide) (by decide) fun r H5 r0 r1 e5 L5 => ?_
    exact pick_end hp4 d4 (by decide +kernel) L1 (e1.trans (.of e4)) e5 L5 r0 r1 q
  · walk_at "go"
    refine use_taken L1 (by decide) (by decide) fun wy H2 w0 w1 e2 L2 => ?_
    walk_at "go"
    refine or_cut (d = 0) (fun hc => ?_) (fun c1 back => ?_)
    · walk_at "go"
      refine use_ltold L2 ho h0 (by omega) fun v6 d6 H6 e6 L6 hd6 hz6 => ?_
      walk_at "go"
      refine use_ltold L6 ho (by decide) (by decide) fun v7 d7 H7 e7 L7 hd7 hz7 => ?_
      walk_at "go"
      refine ⟨by show 3 ≤ sizeLine; decide, fun p np => ?_⟩
      have sn := same_new (o := .tup [.str "below", v6, v7]) np
      exact q _ (.tuple [.str "below", d6, d7]) _ ((((e1.trans e2).trans e6).trans e7).trans (.of sn)) (L7.same sn) (.tup (sqt upd_same) (.cons (.str _) (.cons (Dp.dm ((L6.dm e7).trans (.of sn)) hd6) (.cons (Dp.dm (.of sn) hd7) .nil)))) (dok3 (by decide +kernel) hz6 hz7)
    · walk_at "go"
      refine ifd back (fun c2 => ?_)
      walk_at "go"
      refine use_lasked L2 ho (by omega) (by omega) (by omega) fun v6 d6 H6 e6 L6 hd6 hz6 => ?_
      walk_at "go"
      refine ifd (fun c3 => ?_) (fun c3 => ?_)
      · walk_at "go"
        refine ⟨by show 2 ≤ sizeLine; decide, fun p np => ?_⟩
        have sn := same_new (o := .tup [.str "not", v6]) np
        exact q _ (.tuple [.str "not", d6]) _ (((e1.trans e2).trans e6).trans (.of sn)) (L6.same sn) (.tup (sqt upd_same) (.cons (.str _) (.cons (Dp.dm (.of sn) hd6) .nil))) (dok2 (by decide +kernel) hz6)
      · walk_at "go"
        refine ⟨by show 2 ≤ sizeLine; decide, fun p np => ?_⟩
        have sn := same_new (o := .lst [.str "all", .str "any"]) np
        have hp : (upd H6 p (.lst [.str "all", .str "any"])) p = some (.lst [.str "all", .str "any"]) := upd_same
        replace L6 := L6.same sn
        replace hd6 := Dp.dm (.of sn) hd6
        replace e6 := e6.trans (.of sn)
        walk_at "go"
        have hw : ∃ x : Str, dOk (.str x) = true ∧ atI [V.str "all", V.str "any"] (wy - 4) = some (.str x) := by
          have : wy - 4 = 0 ∨ wy - 4 = 1 := by omega
          rcases this with e | e
          · rw [e]; exact ⟨"all", by decide +kernel, at_any (j := 0) rfl rfl⟩
          · rw [e]; exact ⟨"any", by decide +kernel, at_any (j := 1) rfl rfl⟩
        obtain ⟨x, hx, hw⟩ := hw
        refine ⟨_, _, _, _, rfl, rfl, sql hp, hw, ?_⟩
        generalize upd H6 p (.lst [.str "all", .str "any"]) = H7 at hp L6 hd6 e6 ⊢
        walk_at "go"
        refine use_lasked L6 ho (by omega) (by omega) (by omega) fun v9 d9 H9 e9 L9 hd9 hz9 => ?_
        walk_at "go"
        refine ⟨by show 3 ≤ sizeLine; decide, fun px npx => ?_⟩
        have sx := same_new (o := .tup [.str x, v6, v9]) npx
        exact q _ (.tuple [.str x, d6, d9]) _ ((((e1.trans e2).trans e6).trans e9).trans (.of sx)) (L9.same sx) (.tup (sqt upd_same) (.cons (.str _) (.cons (Dp.dm ((L6.dm e9).trans (.of sx)) hd6) (.cons (Dp.dm (.of sx) hd9) .nil)))) (dok3 hx hz6 hz9)
end

theorem pick2i {i : Int} (x y : V) (h0 : 0 ≤ i) (h1 : i < 2) : atI [x, y] i = some x ∨ atI [x, y] i = some y := by
  have : i = 0 ∨ i = 1 := by omega
  rcases this with rfl | rfl
  · exact .inl (at_any (j := 0) rfl rfl)
  · exact .inr (at_any (j := 1) rfl rfl)
/-- a tuple told by two tuples put together -/
theorem cat2 {K : PySem.W.Frag} {H : Hp} {Q : VK} {a b : Addr} {xs ys : List V} (h1 : SqT K H a xs) (h2 : SqT K H b ys) (n1 : xs ≠ []) (n2 : ys ≠ []) (hl : xs.length + ys.length ≤ 1000) (q : ∀ p, H p = none → Q (.ref p) (upd H p (.tup (xs ++ ys)))) :
    rCatA K (.ref a) (.ref b) H Q := ⟨a, b, xs, ys, rfl, rfl, h1, h2, sz hl, fun z => absurd z n1, fun _ z => absurd z n2, fun _ _ => q⟩

def spLoose (K : PySem.W.Frag) (n : Nat) : Sp := fun vs H Q _ => ∃ (c : Cfg) (ns : List Int) (xs : List Str) (s na nm : Addr) (o d : Int), vs = [.ref s, .int d] ∧ LS K c ns xs s na nm H ∧ c.od = some o ∧ 0 ≤ d ∧ d < n ∧ KA K c ns xs s na nm H Q
theorem use_loose {K : PySem.W.Frag} {n : Nat} {c : Cfg} {ns : List Int} {xs : List Str} {s na nm : Addr} {o d : Int} {H : Hp} {Q : VK} {E : XK} (L : LS K c ns xs s na nm H) (ho : c.od = some o) (h0 : 0 ≤ d) (h1 : d < n) (q : KA K c ns xs s na nm H Q) : spLoose K n ([.ref s, .int d] ++ []) H Q E := ⟨c, ns, xs, s, na, nm, o, d, rfl, L, ho, h0, h1, q⟩
theorem none_loose {P : Program} {w : World} {K : PySem.W.Frag} {mg : Str → Option Value} {base : Heap} {f : Addr} {fd : FuncData} {ps : List Str} : FnOk P w K mg base CX0 0 f fd ps (spLoose K 0) := by
  have no : ∀ vs H Q E, ¬ spLoose K 0 vs H Q E := fun vs H Q E h => by
    obtain ⟨c, ns, xs, s, na, nm, o, d, _, _, _, h0, h1, _⟩ := h
    omega
  exact ⟨fun vs H Q E h => absurd h (no vs H Q E), fun A outer s H args us vs Q E _ _ _ _ h => absurd h (no vs H Q E)⟩
def spRound (K : PySem.W.Frag) (n : Nat) : Sp := fun vs H Q _ => ∃ (c : Cfg) (ns : List Int) (xs : List Str) (s na nm : Addr) (o way d : Int) (v : V) (t : PyData), vs = [.ref s, .int way, v, .int d] ∧ LS K c ns xs s na nm H ∧ c.od = some o ∧ 2 ≤ way ∧ way ≤ 9 ∧ 0 ≤ d ∧ d ≤ n ∧ 1 ≤ n ∧ Dp K H v t ∧ dOk t = true ∧ KA K c ns xs s na nm H Q
theorem use_round {K : PySem.W.Frag} {n : Nat} {c : Cfg} {ns : List Int} {xs : List Str} {s na nm : Addr} {o way d : Int} {v : V} {t : PyData} {H : Hp} {Q : VK} {E : XK} (L : LS K c ns xs s na nm H) (ho : c.od = some o) (w0 : 2 ≤ way) (w1 : way ≤ 9) (h0 : 0 ≤ d) (h1 : d ≤ n) (h2 : 1 ≤ n) (hd : Dp K H v t) (hz : dOk t = true) (q : KA K c ns xs s na nm H Q) :
    spRound K n ([.ref s, .int way, v, .int d] ++ []) H Q E := ⟨c, ns, xs, s, na, nm, o, way, d, v, t, rfl, L, ho, w0, w1, h0, h1, h2, hd, hz, q⟩
theorem g_par {i j : Nat} {ta : TA} {D : Ends} {σ : L2.St} {H : Hp} (h : ta σ H fun vs H1 => ∃ v u, vs = [v, u] ∧ D.nx ((σ.set i (some v)).set j (some u)) H1) : tPar i j ta D σ H := h
def lNone : PyData := .tuple [.str "none"]
/-- a tuple that is laid -/
theorem KA.tup {K : PySem.W.Frag} {c : Cfg} {ns : List Int} {xs : List Str} {s na nm p : Addr} {H H1 : Hp} {vs : List V} {ds : List PyData} {Q : VK} (q : KA K c ns xs s na nm H Q) (e : KB s H H1) (L : LS K c ns xs s na nm H1) (np : H1 p = none) (hd : DpAll K H1 vs ds) (hz : dOk (.tuple ds) = true) : Q (.ref p) (upd H1 p (.tup vs)) :=
  q _ (.tuple ds) _ (e.trans (.of (same_new np))) (L.same (same_new np)) (.tup (sqt upd_same) (DpAll.dm (.of (same_new np)) hd)) hz
section
variable {P : Program} {w : World} {K : PySem.W.Frag} {mg : Str → Option Value} {base : Heap}
abbrev s__law_loose_round : Stmt := topS 34
theorem sc__law_loose_round : FnScope ["_law_s", "_law_way", "_law_inner", "_law_deep", "_law_other", "_law_pair", "_law_one", "_law_many"] ["_law_s", "_law_way", "_law_inner", "_law_deep"] (defScope s__law_loose_round) := ⟨rfl, rfl, rfl, by decide +kernel, rfl, by decide +kernel, by decide +kernel⟩
theorem h__law_loose_round {n : Nat} {k : Nat} {f : Addr} {fd : FuncData} (O : Own K mg "_law_loose_round" s__law_loose_round ["_law_s", "_law_way", "_law_inner", "_law_deep"] f fd)  {f__law_loose_asked : Addr} {fd__law_loose_asked : FuncData} (D__law_loose_asked : Has P w K mg base "_law_loose_asked" ["_law_s", "_law_deep"] k CX0 (spLAsked K 3) f__law_loose_asked fd__law_loose_asked) {f__law_loose_count : Addr} {fd__law_loose_count : FuncData} (D__law_loose_count : Has P w K mg base "_law_loose_count" ["_law_s", "_law_least", "_law_most"] k CX0 (spLCount K) f__law_loose_count fd__law_loose_count) {f__law_amiss : Addr} {fd__law_amiss : FuncData} (D__law_amiss : Has P w K mg base "_law_amiss" ["_law_s"] k CX0 (spAmiss K) f__law_amiss fd__law_amiss) {f__law_loose_word : Addr} {fd__law_loose_word : FuncData} (D__law_loose_word : Has P w K mg base "_law_loose_word" ["_law_s", "_law_k"] k CX0 (spLWord K) f__law_loose_word fd__law_loose_word) {f__law_taken : Addr} {fd__law_taken : FuncData} (D__law_taken : Has P w K mg base "_law_taken" ["_law_s", "_law_most"] k CX0 (spTaken K) f__law_taken fd__law_taken) {f__law_loose : Addr} {fd__law_loose : FuncData} (D__law_loose : Has P w K mg base "_law_loose" ["_law_s", "_law_deep"] k CX0 (spLoose K n) f__law_loose fd__law_loose) (m_max : mg "max" = none) : Has P w K mg base "_law_loose_round" ["_law_s", "_law_way", "_law_inner", "_law_deep"] (k + 1) CX0 (spRound K n) f fd := by
  refine O.has (O.F.ok sc__law_loose_round (fun vs H Q E h => ?_) (fun cdv A outer s H vs Q E hr h => ?_))
  · obtain ⟨c, ns, xs, s, na, nm, o, way, d, v, t, rfl, _⟩ := h
    rfl
  obtain ⟨c, ns, xs, s, na, nm, o, way, d, v, t, rfl, L, ho, w0, w1, h0, h1, h2, hd, hz, q⟩ := h
  refine ⟨_, (pss_cons (ps_if (pt_cmpR op_eq (pv 1) pe_int (nomark _)) (pss_one (ps_ret (pe_tup (pa_cons pe_str pa_nil)))) pss_nil) (pss_cons (ps_if (PW.pt (pw_or (pt_cmpR op_eq (pv 1) pe_int (nomark _)) (pw_or1 (pt_cmpR op_eq (pv 1) pe_int (nomark _))))) (pss_cons (ps_set (i := 4) sc__law_loose_round.nd rfl (.inl rfl) (pe_call D__law_loose.G hr (by rfl) D__law_loose.g D__law_loose.k D__law_loose.b .nil pass0 (pa_cons (pv 0) (pa_cons (pe_callB (call_max2 rfl) (by rfl) m_max (by decide +kernel) (pa_cons pe_int (pa_cons (pe_op op_sub (pv 3) pe_int) pa_nil))) pa_nil)))) (pss_cons (ps_set (i := 5) sc__law_loose_round.nd rfl (.inl rfl) (pe_ix ix_list (pe_lst (pa_cons (pe_tup (pa_cons (pv 2) (pa_cons (pv 4) pa_nil))) (pa_cons (pe_tup (pa_cons (pv 4) (pa_cons (pv 2) pa_nil))) pa_nil))) (pe_call D__law_taken.G hr (by rfl) D__law_taken.g D__law_taken.k D__law_taken.b .nil pass0 (pa_cons (pv 0) (pa_cons pe_int pa_nil))) (fun _ _ => rfl))) (pss_one (ps_ret (pe_ifExp (pt_cmpR op_eq (pv 1) pe_int (nomark _)) (pe_op op_catA (pe_tup (pa_cons pe_str pa_nil)) (pv 5)) (pe_op op_catA (pe_tup (pa_cons pe_str (pa_cons (pe_call D__law_loose_asked.G hr (by rfl) D__law_loose_asked.g D__law_loose_asked.k D__law_loose_asked.b .nil pass0 (pa_cons (pv 0) (pa_cons pe_int pa_nil))) pa_nil))) (pv 5))))))) pss_nil) (pss_cons (ps_if (pt_cmpR op_eq (pv 1) pe_int (nomark _)) (pss_cons (ps_set (i := 6) sc__law_loose_round.nd rfl (.inl rfl) (pe_call D__law_loose_word.G hr (by rfl) D__law_loose_word.g D__law_loose_word.k D__law_loose_word.b .nil pass0 (pa_cons (pv 0) (pa_cons pe_int pa_nil)))) (pss_one (ps_ret (pe_tup (pa_cons pe_str (pa_cons (pv 6) (pa_cons (pe_ifExp (pt_val (pe_call D__law_amiss.G hr (by rfl) D__law_amiss.g D__law_amiss.k D__law_amiss.b .nil pass0 (pa_cons (pv 0) pa_nil))) (pv 6) (pe_call D__law_loose_word.G hr (by rfl) D__law_loose_word.g D__law_loose_word.k D__law_loose_word.b .nil pass0 (pa_cons (pv 0) (pa_cons pe_int pa_nil)))) (pa_cons (pv 2) pa_nil)))))))) pss_nil) (pss_cons (ps_if (pt_cmpR op_eq (pv 1) pe_int (nomark _)) (pss_one (ps_ret (pe_tup (pa_cons pe_str (pa_cons (pe_call D__law_loose_count.G hr (by rfl) D__law_loose_count.g D__law_loose_count.k D__law_loose_count.b .nil pass0 (pa_cons (pv 0) (pa_cons pe_int (pa_cons pe_int pa_nil)))) (pa_cons (pv 2) pa_nil)))))) pss_nil) (pss_cons (ps_if (pt_cmpR op_eq (pv 1) pe_int (nomark _)) (pss_cons (ps_set (i := 7) sc__law_loose_round.nd rfl (.inl rfl) (pe_call D__law_loose_count.G hr (by rfl) D__law_loose_count.g D__law_loose_count.k D__law_loose_count.b .nil pass0 (pa_cons (pv 0) (pa_cons pe_int (pa_cons pe_int pa_nil))))) (pss_one (ps_ret (pe_tup (pa_cons pe_str (pa_cons (pv 7) (pa_cons (pe_call D__law_loose_count.G hr (by rfl) D__law_loose_count.g D__law_loose_count.k D__law_loose_count.b .nil pass0 (pa_cons (pv 0) (pa_cons pe_int (pa_cons pe_int pa_nil)))) (pa_cons (pv 2) pa_nil)))))))) pss_nil) (pss_one (ps_ret (pe_tup (pa_cons (pe_ix ix_list (pe_lst (pa_cons pe_str (pa_cons pe_str pa_nil))) (pe_op op_sub (pv 1) pe_int) (fun _ _ => rfl)) (pa_cons (pe_call D__law_loose_asked.G hr (by rfl) D__law_loose_asked.g D__law_loose_asked.k D__law_loose_asked.b .nil pass0 (pa_cons (pv 0) (pa_cons pe_int pa_nil))) (pa_cons (pv 2) pa_nil))))))))))), ?_⟩
  walk_at "go"
  refine ifd (fun c1 => ?_) (fun c1 => ?_)
  · walk_at "go"
    refine ⟨by show 1 ≤ sizeLine; decide, fun p np => ?_⟩
    exact q.tup (KB.refl _ _) L np (ds := [.str "none"]) (.cons (.str _) .nil) (by decide +kernel)
  walk_at "go"
  refine or_cut (way = 4) (fun hc => ?_) (fun c2 back => ?_)
  · walk_at "go"
    refine use_loose L ho (by split <;> omega) (by split <;> omega) fun v1 d1 H1 e1 L1 hd1 hz1 => ?_
    have hdx := Dp.dm (L.dm e1) hd
    walk_at "go"
    refine ⟨by show 2 ≤ sizeLine; decide, fun pa na' => ?_⟩
    have sa := same_new (o := .tup [v, v1]) na'
    have qa : SqT K (upd H1 pa (.tup [v, v1])) pa [v, v1] := sqt upd_same
    replace L1 := L1.same sa
    replace hdx := Dp.dm (.of sa) hdx
    replace hd1 := Dp.dm (.of sa) hd1
    replace e1 := e1.trans (.of sa)
    generalize upd H1 pa (.tup [v, v1]) = Ha at qa L1 hdx hd1 e1 ⊢
    walk_at "go"
    refine ⟨by show 2 ≤ sizeLine; decide, fun pb nb => ?_⟩
    have sb := same_new (o := .tup [v1, v]) nb
    have qb : SqT K (upd Ha pb (.tup [v1, v])) pb [v1, v] := sqt upd_same
    replace qa := SqT.same sb qa
    replace L1 := L1.same sb
    replace hdx := Dp.dm (.of sb) hdx
    replace hd1 := Dp.dm (.of sb) hd1
    replace e1 := e1.trans (.of sb)
    show tNil _ _ _
    generalize upd Ha pb (.tup [v1, v]) = Hb at qa qb L1 hdx hd1 e1 ⊢
    walk_at "go"
    refine ⟨by show 2 ≤ sizeLine; decide, fun pl nl => ?_⟩
    have sl := same_new (o := .lst [.ref pa, .ref pb]) nl
    have hl : (upd Hb pl (.lst [.ref pa, .ref pb])) pl = some (.lst [.ref pa, .ref pb]) := upd_same
    replace qa := SqT.same sl qa
    replace qb := SqT.same sl qb
    replace L1 := L1.same sl
    replace hdx := Dp.dm (.of sl) hdx
    replace hd1 := Dp.dm (.of sl) hd1
    replace e1 := e1.trans (.of sl)
    show tCall _ _ _ _ _ (upd Hb pl (.lst [.ref pa, .ref pb])) _
    generalize upd Hb pl (.lst [.ref pa, .ref pb]) = Hl at hl qa qb L1 hdx hd1 e1 ⊢
    walk_at "go"
    refine use_taken L1 (by decide) (by decide) fun r H2 r0 r1 e2 L2 => ?_
    have m2 := L1.dm e2
    have pick : ∃ (pp : Addr) (u1 u2 : V) (t1 t2 : PyData), atI [V.ref pa, V.ref pb] r = some (.ref pp) ∧ SqT K H2 pp [u1, u2] ∧ Dp K H2 u1 t1 ∧ Dp K H2 u2 t2 ∧ dOk t1 = true ∧ dOk t2 = true := by
      rcases pick2i (.ref pa) (.ref pb) r0 r1 with e | e
      · exact ⟨pa, v, v1, t, d1, e, m2.t _ _ qa, Dp.dm m2 hdx, Dp.dm m2 hd1, hz, hz1⟩
      · exact ⟨pb, v1, v, d1, t, e, m2.t _ _ qb, Dp.dm m2 hd1, Dp.dm m2 hdx, hz1, hz⟩
    obtain ⟨pp, u1, u2, t1, t2, hpk, hpp, hu1, hu2, hz1', hz2'⟩ := pick
    refine ⟨_, _, _, _, rfl, rfl, sql (L1.keepl e2 hl), hpk, ?_⟩
    replace e1 := e1.trans e2
    walk_at "go"
    refine ifd (fun c3 => ?_) (fun c3 => ?_)
    · walk_at "go"
      refine ⟨by show 1 ≤ sizeLine; decide, fun p4 n4 => ?_⟩
      have s4 := same_new (o := .tup [.str "both"]) n4
      walk_at "go"
      refine cat2 (sqt upd_same) (SqT.same s4 hpp) (by simp) (by simp) (by simp) fun p5 n5 => ?_
      exact q.tup (e1.trans (.of s4)) (L2.same s4) n5 (ds := [.str "both", t1, t2]) (.cons (.str _) (.cons (Dp.dm (.of s4) hu1) (.cons (Dp.dm (.of s4) hu2) .nil))) (dok3 (by decide +kernel) hz1' hz2')
    · walk_at "go"
      refine use_lasked L2 ho (by decide) (by decide) (by decide) fun v6 d6 H6 e6 L6 hd6 hz6 => ?_
      have m6 := L2.dm e6
      walk_at "go"
      refine ⟨by show 2 ≤ sizeLine; decide, fun p4 n4 => ?_⟩
      have s4 := same_new (o := .tup [.str "if", v6]) n4
      walk_at "go"
      refine cat2 (sqt upd_same) (SqT.same s4 (m6.t _ _ hpp)) (by simp) (by simp) (by simp) fun p5 n5 => ?_
      exact q.tup ((e1.trans e6).trans (.of s4)) (L6.same s4) n5 (ds := [.str "if", d6, t1, t2]) (.cons (.str _) (.cons (Dp.dm (.of s4) hd6) (.cons (Dp.dm (m6.trans (.of s4)) hu1) (.cons (Dp.dm (m6.trans (.of s4)) hu2) .nil)))) (dok4 (by decide +kernel) hz6 hz1' hz2')
  walk_at "go"
  refine ifd back (fun c3 => ?_)
  walk_at "go"
  refine ifd (fun c4 => ?_) (fun c4 => ?_)
  · walk_at "go"
    refine use_lword L ho (by decide) (by decide) fun v1 d1 H1 e1 L1 hd1 hz1 => ?_
    have hdx := Dp.dm (L.dm e1) hd
    walk_at "go"
    refine use_amiss L1 ho fun b H2 e2 L2 => ?_
    have m2 := L1.dm e2
    have fin : ∀ v3 d3 H3, KB s H2 H3 → LS K c ns xs s na nm H3 → Dp K H3 v3 d3 → dOk d3 = true → ∀ p, H3 p = none → Q (.ref p) (upd H3 p (.tup [.str "turned", v1, v3, v])) := fun v3 d3 H3 e3 L3 hd3 hz3 p np =>
      q.tup ((e1.trans e2).trans e3) L3 np (ds := [.str "turned", d1, d3, t]) (.cons (.str _) (.cons (Dp.dm (m2.trans (L2.dm e3)) hd1) (.cons hd3 (.cons (Dp.dm (m2.trans (L2.dm e3)) hdx) .nil)))) (dok4 (by decide +kernel) hz1 hz3 hz)
    refine ⟨_, rfl, ifb (fun _ => ?_) (fun _ => ?_)⟩
    · walk_at "go"
      exact ⟨by show 4 ≤ sizeLine; decide, fun p np => fin v1 d1 H2 (KB.refl _ _) L2 (Dp.dm m2 hd1) hz1 p np⟩
    · walk_at "go"
      refine use_lword L2 ho (by decide) (by decide) fun v3 d3 H3 e3 L3 hd3 hz3 => ?_
      walk_at "go"
      exact ⟨by show 4 ≤ sizeLine; decide, fun p np => fin v3 d3 H3 e3 L3 hd3 hz3 p np⟩
  walk_at "go"
  refine ifd (fun c5 => ?_) (fun c5 => ?_)
  · walk_at "go"
    refine use_lcount L ho (by decide) (by decide) (by decide) fun v1 d1 H1 e1 L1 hd1 hz1 => ?_
    walk_at "go"
    refine ⟨by show 3 ≤ sizeLine; decide, fun p np => ?_⟩
    exact q.tup e1 L1 np (ds := [.str "later", d1, t]) (.cons (.str _) (.cons hd1 (.cons (Dp.dm (L.dm e1) hd) .nil))) (dok3 (by decide +kernel) hz1 hz)
  walk_at "go"
  refine ifd (fun c6 => ?_) (fun c6 => ?_)
  · walk_at "go"
    refine use_lcount L ho (by decide) (by decide) (by decide) fun v1 d1 H1 e1 L1 hd1 hz1 => ?_
    walk_at "go"
    refine use_lcount L1 ho (by decide) (by decide) (by decide) fun v2 d2 H2 e2 L2 hd2 hz2 => ?_
    walk_at "go"
    refine ⟨by show 4 ≤ sizeLine; decide, fun p np => ?_⟩
    have m2 := L1.dm e2
    exact q.tup (e1.trans e2) L2 np (ds := [.str "often", d1, d2, t]) (.cons (.str _) (.cons (Dp.dm m2 hd1) (.cons hd2 (.cons (Dp.dm ((L.dm e1).trans m2) hd) .nil)))) (dok4 (by decide +kernel) hz1 hz2 hz)
  walk_at "go"
  refine ⟨by show 2 ≤ sizeLine; decide, fun p np => ?_⟩
  have sn := same_new (o := .lst [.str "when", .str "until"]) np
  walk_at "go"
  have hw : ∃ x : Str, dOk (.str x) = true ∧ atI [V.str "when", V.str "until"] (way - 8) = some (.str x) := by
    have : way - 8 = 0 ∨ way - 8 = 1 := by omega
    rcases this with e | e
    · rw [e]; exact ⟨"when", by decide +kernel, at_any (j := 0) rfl rfl⟩
    · rw [e]; exact ⟨"until", by decide +kernel, at_any (j := 1) rfl rfl⟩
  obtain ⟨x, hx, hw⟩ := hw
  refine ⟨_, _, _, _, rfl, rfl, sql upd_same, hw, ?_⟩
  have L1 := L.same sn
  walk_at "go"
  refine use_lasked L1 ho (by decide) (by decide) (by decide) fun v6 d6 H6 e6 L6 hd6 hz6 => ?_
  walk_at "go"
  refine ⟨by show 3 ≤ sizeLine; decide, fun p7 n7 => ?_⟩
  exact q.tup ((KB.of sn).trans e6) L6 n7 (ds := [.str x, d6, t]) (.cons (.str _) (.cons hd6 (.cons (Dp.dm ((DM.of sn).trans (L1.dm e6)) hd) .nil))) (dok3 hx hz6 hz)
abbrev s__law_loose : Stmt := topS 33
theorem sc__law_loose : FnScope ["_law_s", "_law_deep", "_law_none", "_law_some", "_law_way", "_law_one", "_law_other"] ["_law_s", "_law_deep"] (defScope s__law_loose) := ⟨rfl, rfl, rfl, by decide +kernel, rfl, by decide +kernel, by decide +kernel⟩
theorem h__law_loose {n : Nat} {k : Nat} {f : Addr} {fd : FuncData} (O : Own K mg "_law_loose" s__law_loose ["_law_s", "_law_deep"] f fd)  {f__law_loose_round : Addr} {fd__law_loose_round : FuncData} (D__law_loose_round : Has P w K mg base "_law_loose_round" ["_law_s", "_law_way", "_law_inner", "_law_deep"] k CX0 (spRound K n) f__law_loose_round fd__law_loose_round) {f__law_loose : Addr} {fd__law_loose : FuncData} (D__law_loose : Has P w K mg base "_law_loose" ["_law_s", "_law_deep"] k CX0 (spLoose K n) f__law_loose fd__law_loose) {f__law_loose_told : Addr} {fd__law_loose_told : FuncData} (D__law_loose_told : Has P w K mg base "_law_loose_told" ["_law_s", "_law_deep"] k CX0 (spLTold K 3) f__law_loose_told fd__law_loose_told) {f__law_loose_word : Addr} {fd__law_loose_word : FuncData} (D__law_loose_word : Has P w K mg base "_law_loose_word" ["_law_s", "_law_k"] k CX0 (spLWord K) f__law_loose_word fd__law_loose_word) {f__law_taken : Addr} {fd__law_taken : FuncData} (D__law_taken : Has P w K mg base "_law_taken" ["_law_s", "_law_most"] k CX0 (spTaken K) f__law_taken fd__law_taken) {f__law_amiss : Addr} {fd__law_amiss : FuncData} (D__law_amiss : Has P w K mg base "_law_amiss" ["_law_s"] k CX0 (spAmiss K) f__law_amiss fd__law_amiss) : Has P w K mg base "_law_loose" ["_law_s", "_law_deep"] (k + 1) CX0 (spLoose K (n + 1)) f fd := by
  refine O.has (O.F.ok sc__law_loose (fun vs H Q E h => ?_) (fun cdv A outer s H vs Q E hr h => ?_))
  · obtain ⟨c, ns, xs, s, na, nm, o, d, rfl, _⟩ := h
    rfl
  obtain ⟨c, ns, xs, s, na, nm, o, d, rfl, L, ho, h0, h1, q⟩ := h
  refine ⟨_, (pss_cons (ps_if (pt_val (pe_call D__law_amiss.G hr (by rfl) D__law_amiss.g D__law_amiss.k D__law_amiss.b .nil pass0 (pa_cons (pv 0) pa_nil))) (pss_cons (ps_set (i := 2) sc__law_loose.nd rfl (.inl rfl) (pe_tup (pa_cons pe_str pa_nil))) (pss_cons (ps_set (i := 3) sc__law_loose.nd rfl (.inl rfl) (pe_lst (pa_cons pe_non (pa_cons pe_str (pa_cons (pe_tup pa_nil) (pa_cons (pe_tup (pa_cons pe_str pa_nil)) (pa_cons (pe_lst (pa_cons pe_str pa_nil)) (pa_cons (pe_tup (pa_cons pe_str (pa_cons pe_int pa_nil))) (pa_cons (pe_tup (pa_cons pe_str (pa_cons (pv 2) pa_nil))) (pa_cons (pe_tup (pa_cons pe_str (pa_cons (pv 2) (pa_cons (pv 2) (pa_cons (pv 2) pa_nil))))) pa_nil)))))))))) (pss_cons (ps_set (i := 3) sc__law_loose.nd rfl (.inl rfl) (pe_op op_cat (pv 3) (pe_lst (pa_cons (pe_tup (pa_cons pe_str (pa_cons pe_str (pa_cons pe_str (pa_cons pe_str pa_nil))))) (pa_cons (pe_tup (pa_cons pe_str (pa_cons pe_int pa_nil))) (pa_cons (pe_tup (pa_cons pe_str (pa_cons pe_str (pa_cons pe_str pa_nil)))) (pa_cons (pe_tup (pa_cons pe_str (pa_cons pe_int (pa_cons (pv 2) pa_nil)))) (pa_cons (pe_tup (pa_cons pe_str (pa_cons (pv 2) pa_nil))) pa_nil)))))))) (pss_one (ps_ret (pe_ix ix_list (pe_op op_cat (pv 3) (pe_lst (pa_cons (pe_tup (pa_cons pe_str (pa_cons (pv 2) pa_nil))) (pa_cons (pe_tup (pa_cons pe_str (pa_cons (pv 2) (pa_cons (pv 2) pa_nil)))) (pa_cons (pe_tup (pa_cons pe_int (pa_cons (pv 2) pa_nil))) (pa_cons (pe_tup (pa_cons pe_str (pa_cons pe_int pa_nil))) pa_nil)))))) (pe_call D__law_taken.G hr (by rfl) D__law_taken.g D__law_taken.k D__law_taken.b .nil pass0 (pa_cons (pv 0) (pa_cons pe_int pa_nil))) (fun _ _ => rfl))))))) pss_nil) (pss_cons (ps_set (i := 4) sc__law_loose.nd rfl (.inl rfl) (pe_call D__law_taken.G hr (by rfl) D__law_taken.g D__law_taken.k D__law_taken.b .nil pass0 (pa_cons (pv 0) (pa_cons pe_int pa_nil)))) (pss_cons (ps_if (PW.pt (pw_or (pt_cmpR op_eq (pv 1) pe_int (nomark _)) (pw_or1 (pt_cmpR op_lt (pv 4) pe_int (nomark _))))) (pss_cons (ps_par (i := 5) (j := 6) (by rfl) sc__law_loose.nd rfl rfl (by decide) rfl rfl (pa_cons (pe_call D__law_loose_word.G hr (by rfl) D__law_loose_word.g D__law_loose_word.k D__law_loose_word.b .nil pass0 (pa_cons (pv 0) (pa_cons pe_int pa_nil))) (pa_cons (pe_call D__law_loose_word.G hr (by rfl) D__law_loose_word.g D__law_loose_word.k D__law_loose_word.b .nil pass0 (pa_cons (pv 0) (pa_cons pe_int pa_nil))) pa_nil)) (by rfl)) (pss_cons (ps_set (i := 6) sc__law_loose.nd rfl (.inl rfl) (pe_ifExp (pt_val (pe_call D__law_amiss.G hr (by rfl) D__law_amiss.g D__law_amiss.k D__law_amiss.b .nil pass0 (pa_cons (pv 0) pa_nil))) (pv 5) (pv 6))) (pss_one (ps_ret (pe_tup (pa_cons pe_str (pa_cons (pv 5) (pa_cons (pv 6) (pa_cons (pe_call D__law_loose_word.G hr (by rfl) D__law_loose_word.g D__law_loose_word.k D__law_loose_word.b .nil pass0 (pa_cons (pv 0) (pa_cons (pe_ix ix_list (pe_lst (pa_cons pe_int (pa_cons pe_int pa_nil))) (pe_call D__law_taken.G hr (by rfl) D__law_taken.g D__law_taken.k D__law_taken.b .nil pass0 (pa_cons (pv 0) (pa_cons pe_int pa_nil))) (fun _ _ => rfl)) pa_nil))) (pa_cons (pe_call D__law_loose_told.G hr (by rfl) D__law_loose_told.g D__law_loose_told.k D__law_loose_told.b .nil pass0 (pa_cons (pv 0) (pa_cons pe_int pa_nil))) pa_nil)))))))))) pss_nil) (pss_one (ps_ret (pe_call D__law_loose_round.G hr (by rfl) D__law_loose_round.g D__law_loose_round.k D__law_loose_round.b .nil pass0 (pa_cons (pv 0) (pa_cons (pv 4) (pa_cons (pe_call D__law_loose.G hr (by rfl) D__law_loose.g D__law_loose.k D__law_loose.b .nil pass0 (pa_cons (pv 0) (pa_cons (pe_op op_sub (pv 1) pe_int) pa_nil))) (pa_cons (pe_op op_sub (pv 1) pe_int) pa_nil)))))))))), ?_⟩
  walk_at "go"
  refine use_amiss L ho fun b H1 e1 L1 => ?_
  refine ⟨_, rfl, ifb (fun _ => ?_) (fun _ => ?_)⟩
  · with_reducible refine g_seq ?_
    with_reducible refine g_asg ?_
    refine (evd_tup (Γ := fun _ => none) (K := K) (ds := [.str "none"]) (by walk_at "ev") (by decide)) _ _ _ (fun _ _ h => by cases h) fun v1 H0 s1 d1 => ?_
    have d1 : Dp K H0 v1 lNone := d1
    replace L1 := L1.same s1
    replace e1 := e1.trans (.of s1)
    with_reducible refine g_name ?_
    with_reducible refine g_seq ?_
    with_reducible refine g_asg ?_
    apply ev_lst (K := K) (Γ := G2 lNone)
    · walk_at "ev"
    · exact Nat.le_of_ble_eq_true rfl
    · exact G2.ok d1
    intro p zs H2 e2 n2 d2
    have sn := e2.trans (same_new (o := .lst zs) n2)
    have hp : (upd H2 p (.lst zs)) p = some (.lst zs) := upd_same
    replace d2 := DpAll.dm (.of (same_new (o := .lst zs) n2)) d2
    replace d1 := Dp.dm (.of sn) d1
    replace L1 := L1.same sn
    replace e1 := e1.trans (.of sn)
    generalize upd H2 p (.lst zs) = H3 at hp d2 d1 L1 e1 ⊢
    with_reducible refine g_name ?_
    with_reducible refine g_seq ?_
    with_reducible refine g_asg ?_
    apply ev_cat (K := K) (Γ := G2 lNone) rfl hp d2
    · walk_at "ev"
    · exact G2.ok d1
    · exact Nat.le_of_ble_eq_true rfl
    · exact Nat.le_of_ble_eq_true rfl
    intro p' zs' H4 e4 hp4 d4
    replace L1 := L1.same e4
    replace d1 := Dp.dm (.of e4) d1
    replace e1 := e1.trans (.of e4)
    with_reducible refine g_name ?_
    with_reducible refine g_ret ?_
    with_reducible refine g_op ?_
    apply ev_cat (K := K) (Γ := G2 lNone) rfl hp4 d4
    · walk_at "ev"
    · exact G2.ok d1
    · exact Nat.le_of_ble_eq_true rfl
    · exact Nat.le_of_ble_eq_true rfl
    intro p5 zs5 H5 e5 hp5 d5
    replace L1 := L1.same e5
    replace e1 := e1.trans (.of e5)
    walk_at "go"
    refine use_taken L1 (by decide) (by decide) fun r H6 r0 r1 e6 L6 => ?_
    exact pick_end hp5 d5 (by decide +kernel) L1 e1 e6 L6 r0 r1 q
  · walk_at "go"
    refine use_taken L1 (by decide) (by decide) fun wy H2 w0 w1 e2 L2 => ?_
    walk_at "go"
    refine or_cut (wy < 2) (fun hc => ?_) (fun c1 back => ?_)
    · walk_at "go"
      refine g_par ?_
      walk_at "go"
      refine use_lword L2 ho (by decide) (by decide) fun v3 d3 H3 e3 L3 hd3 hz3 => ?_
      walk_at "go"
      refine use_lword L3 ho (by decide) (by decide) fun v4 d4 H4 e4 L4 hd4 hz4 => ?_
      replace hd3 := Dp.dm (L3.dm e4) hd3
      have e14 := ((e1.trans e2).trans e3).trans e4
      walk_at "go"
      refine use_amiss L4 ho fun b H5 e5 L5 => ?_
      have e15 := e14.trans e5
      have m5 := L4.dm e5
      replace hd3 := Dp.dm m5 hd3
      refine ⟨_, rfl, ifb (fun _ => ?_) (fun _ => ?_)⟩
      · have hdo := hd3
        walk_at "go"
        refine ⟨by show 2 ≤ sizeLine; decide, fun p np => ?_⟩
        have sn := same_new (o := .lst [.int 0, .int 4]) np
        have hp : (upd H5 p (.lst [.int 0, .int 4])) p = some (.lst [.int 0, .int 4]) := upd_same
        replace L5 := L5.same sn
        replace hd3 := Dp.dm (.of sn) hd3
        replace hdo := Dp.dm (.of sn) hdo
        replace e15 := e15.trans (.of sn)
        show tCall _ _ _ _ _ (upd H5 p (.lst [.int 0, .int 4])) _
        generalize upd H5 p (.lst [.int 0, .int 4]) = H6 at hp L5 hd3 hdo e15 ⊢
        walk_at "go"
        refine use_taken L5 (by decide) (by decide) fun r H7 r0 r1 e7 L7 => ?_
        have hit : ∃ z : Int, 0 ≤ z ∧ z ≤ 1000 ∧ atI [V.int 0, V.int 4] r = some (.int z) := by
          rcases pick2i (.int 0) (.int 4) r0 r1 with e | e
          · exact ⟨0, by decide, by decide, e⟩
          · exact ⟨4, by decide, by decide, e⟩
        obtain ⟨z, z0, z1, hz⟩ := hit
        refine ⟨_, _, _, _, rfl, rfl, sql (L5.keepl e7 hp), hz, ?_⟩
        walk_at "go"
        refine use_lword L7 ho z0 z1 fun v8 d8 H8 e8 L8 hd8 hz8 => ?_
        walk_at "go"
        refine use_ltold L8 ho (by decide) (by decide) fun v9 d9 H9 e9 L9 hd9 hz9 => ?_
        walk_at "go"
        refine ⟨by show 5 ≤ sizeLine; decide, fun px npx => ?_⟩
        have m89 := L8.dm e9
        have m79 := (L7.dm e8).trans m89
        have m59 := (L5.dm e7).trans m79
        exact q.tup (((e15.trans e7).trans e8).trans e9) L9 npx (ds := [.str "give", d3, d3, d8, d9]) (.cons (.str _) (.cons (Dp.dm m59 hd3) (.cons (Dp.dm m59 hdo) (.cons (Dp.dm m89 hd8) (.cons hd9 .nil))))) (dok_tup (by decide +kernel) (by simp [hz3, hz8, hz9]))
      · have hdo := Dp.dm m5 hd4
        walk_at "go"
        refine ⟨by show 2 ≤ sizeLine; decide, fun p np => ?_⟩
        have sn := same_new (o := .lst [.int 0, .int 4]) np
        have hp : (upd H5 p (.lst [.int 0, .int 4])) p = some (.lst [.int 0, .int 4]) := upd_same
        replace L5 := L5.same sn
        replace hd3 := Dp.dm (.of sn) hd3
        replace hdo := Dp.dm (.of sn) hdo
        replace e15 := e15.trans (.of sn)
        show tCall _ _ _ _ _ (upd H5 p (.lst [.int 0, .int 4])) _
        generalize upd H5 p (.lst [.int 0, .int 4]) = H6 at hp L5 hd3 hdo e15 ⊢
        walk_at "go"
        refine use_taken L5 (by decide) (by decide) fun r H7 r0 r1 e7 L7 => ?_
        have hit : ∃ z : Int, 0 ≤ z ∧ z ≤ 1000 ∧ atI [V.int 0, V.int 4] r = some (.int z) := by
          rcases pick2i (.int 0) (.int 4) r0 r1 with e | e
          · exact ⟨0, by decide, by decide, e⟩
          · exact ⟨4, by decide, by decide, e⟩
        obtain ⟨z, z0, z1, hz⟩ := hit
        refine ⟨_, _, _, _, rfl, rfl, sql (L5.keepl e7 hp), hz, ?_⟩
        walk_at "go"
        refine use_lword L7 ho z0 z1 fun v8 d8 H8 e8 L8 hd8 hz8 => ?_
        walk_at "go"
        refine use_ltold L8 ho (by decide) (by decide) fun v9 d9 H9 e9 L9 hd9 hz9 => ?_
        walk_at "go"
        refine ⟨by show 5 ≤ sizeLine; decide, fun px npx => ?_⟩
        have m89 := L8.dm e9
        have m79 := (L7.dm e8).trans m89
        have m59 := (L5.dm e7).trans m79
        exact q.tup (((e15.trans e7).trans e8).trans e9) L9 npx (ds := [.str "give", d3, d4, d8, d9]) (.cons (.str _) (.cons (Dp.dm m59 hd3) (.cons (Dp.dm m59 hdo) (.cons (Dp.dm m89 hd8) (.cons hd9 .nil))))) (dok_tup (by decide +kernel) (by simp [hz3, hz4, hz8, hz9]))
    · walk_at "go"
      refine ifd back (fun c2 => ?_)
      walk_at "go"
      refine use_loose L2 ho (by omega) (by omega) fun v3 d3 H3 e3 L3 hd3 hz3 => ?_
      walk_at "go"
      refine use_round L3 ho (by omega) (by omega) (by omega) (by omega) (by omega) hd3 hz3 fun v4 d4 H4 e4 L4 hd4 hz4 => ?_
      exact q v4 d4 H4 (((e1.trans e2).trans e3).trans e4) L4 hd4 hz4
end

theorem LS.tb {K : PySem.W.Frag} {PT : Addr} {c : Cfg} {ns : List Int} {xs : List Str} {s na nm : Addr} {H H' : Hp} (L : LS K c ns xs s na nm H) (g : GxR.TabG H PT) (t : Tb PT H H') : LS K c ns xs s na nm H' := by
  obtain ⟨⟨n, re, mx, h, r⟩, h1, h2, h3, h4, h5⟩ := L
  have m := t.dm (K := K) g
  obtain ⟨ps, hP, _⟩ := g
  exact ⟨⟨n, re, mx, t.k _ _ (fun z => by rw [z, hP] at h; cases h) h, r⟩, m.l _ _ h1, m.l _ _ h2, h3, h4, h5⟩
theorem LS.tab {K : PySem.W.Frag} {PT : Addr} {c : Cfg} {ns : List Int} {xs : List Str} {s na nm : Addr} {H H' : Hp} (L : LS K c ns xs s na nm H) (g : GxR.TabG H PT) (e : KB s H H') : GxR.TabG H' PT := by
  obtain ⟨⟨n, re, mx, h, r⟩, _⟩ := L
  exact tab_kb g e h

/-! ### words and whole numbers -/
def isWh : PyData → Bool
  | .int _ => true
  | _ => false
def spIsWord (K : PySem.W.Frag) (PT : Addr) : Sp := fun vs H Q _ => ∃ (v : V) (d : PyData), vs = [v] ∧ Dp K H v d ∧ szOk d = true ∧ GxR.TabG H PT ∧ ∀ H', Tb PT H H' → Q (.bl (isW' d)) H'
def spWhole (K : PySem.W.Frag) : Sp := fun vs H Q _ => ∃ (v : V) (d : PyData), vs = [v] ∧ Dp K H v d ∧ Q (.bl (isWh d)) H
def spBetween (K : PySem.W.Frag) : Sp := fun vs H Q _ => ∃ (v : V) (d : PyData) (lo hi : Int), vs = [v, .int lo, .int hi] ∧ Dp K H v d ∧ Q (.bl (inB lo hi d)) H
def spAmount (K : PySem.W.Frag) : Sp := fun vs H Q _ => ∃ (v : V) (d : PyData), vs = [v] ∧ Dp K H v d ∧ Q (.bl (inB (-999999999999) 999999999999 d)) H
theorem in_letters (c : Nat) : decide (c ∈ (Str.ofString "abcdefghijklmnopqrstuvwxyz").cps.toList) = (decide (97 ≤ c) && decide (c ≤ 122)) := by
  have e : (Str.ofString "abcdefghijklmnopqrstuvwxyz").cps.toList = (List.range 26).map (97 + ·) := by decide +kernel
  rw [e, Bool.eq_iff_iff]
  simp only [decide_eq_true_eq, List.mem_map, List.mem_range, Bool.and_eq_true]
  constructor
  · rintro ⟨i, h, rfl⟩
    omega
  · intro h
    exact ⟨c - 97, by omega, by omega⟩
theorem use_whole {K : PySem.W.Frag} {H : Hp} {v : V} {d : PyData} {Q : VK} {E : XK} (h : Dp K H v d) (q : Q (.bl (isWh d)) H) : spWhole K ([v] ++ []) H Q E := ⟨v, d, rfl, h, q⟩
theorem use_isWord {K : PySem.W.Frag} {PT : Addr} {H : Hp} {v : V} {d : PyData} {Q : VK} {E : XK} (h : Dp K H v d) (z : szOk d = true) (t : GxR.TabG H PT) (q : ∀ H', Tb PT H H' → Q (.bl (isW' d)) H') : spIsWord K PT ([v] ++ []) H Q E := ⟨v, d, rfl, h, z, t, q⟩
theorem use_between {K : PySem.W.Frag} {H : Hp} {v : V} {d : PyData} {lo hi : Int} {Q : VK} {E : XK} (h : Dp K H v d) (q : Q (.bl (inB lo hi d)) H) : spBetween K ([v, .int lo, .int hi] ++ []) H Q E := ⟨v, d, lo, hi, rfl, h, q⟩
theorem use_amount {K : PySem.W.Frag} {H : Hp} {v : V} {d : PyData} {Q : VK} {E : XK} (h : Dp K H v d) (q : Q (.bl (inB (-999999999999) 999999999999 d)) H) : spAmount K ([v] ++ []) H Q E := ⟨v, d, rfl, h, q⟩
theorem thousand : (1000 : Nat) ≤ sizeLine := by decide
section
variable {P : Program} {w : World} {K : PySem.W.Frag} {mg : Str → Option Value} {base : Heap}
abbrev s_is_word : Stmt := topS 10
theorem sc_is_word : FnScope ["told"] ["told"] (defScope s_is_word) := ⟨rfl, rfl, rfl, by decide +kernel, rfl, by decide +kernel, by decide +kernel⟩
theorem h_is_word {cT PT : Addr} (tb : GxR.TabB base mg cT PT) {k : Nat} {f : Addr} {fd : FuncData} (O : OwnC cT K mg "is_word" s_is_word ["told"] f fd)  (m_all : mg "all" = none) {t_LETTERS : Tok} (m_LETTERS : mg "LETTERS" = some (.str "abcdefghijklmnopqrstuvwxyz" t_LETTERS)) (m_len : mg "len" = none) {t_LONGEST_WORD : Tok} (m_LONGEST_WORD : mg "LONGEST_WORD" = some (.int 8 t_LONGEST_WORD)) (m_isinstance : mg "isinstance" = none) (m_str : mg "str" = none) : Has P w K mg base "is_word" ["told"] (k + 1) CX0 (spIsWord K PT) f fd := by
  refine O.has (O.F.ok sc_is_word (fun vs H Q E h => ?_) (fun A outer s H vs Q E hr h => ?_))
  · obtain ⟨v, d, rfl, _⟩ := h
    rfl
  obtain ⟨v, d, rfl, hd, hz, ht, q⟩ := h
  refine ⟨_, (pss_cons (ps_if (PW.pt (pw_or (pt_not (pt_val (pe_callB call_isi (by rfl) m_isinstance (by decide +kernel) (pa_cons (pv 0) (pa_cons (pe_bltn (v := .ty "str") (by rfl) m_str (by decide +kernel) rfl) pa_nil))))) (pw_or1 (pt_not (pt_chain op_le op_le pe_int (pe_callB call_len_str (by rfl) m_len (by decide +kernel) (pa_cons (pv 0) pa_nil)) (pe_glob (v := .int (8)) (by rfl) m_LONGEST_WORD ⟨_, rfl⟩)))))) (pss_one (ps_ret pe_bl)) pss_nil) (pss_one (ps_ret (pe_allG hr rfl m_all (by decide +kernel) tb rfl ⟨rfl, rfl, by decide +kernel, rfl, rfl, fun y hy hf => absurd hf ((by decide +kernel : ∀ z ∈ _, z.2 ≠ NameKind.free) y hy)⟩ (pv 0) (elm_in rfl rfl rfl m_LETTERS) (fun _ => rfl))))), ?_⟩
  walk_at "go"
  refine use_isStr hd ?_
  cases hd with
  | str x =>
    have e : ∀ H', Tb PT H H' → isW' (.str x) = false → Q (.bl false) H' := fun H' t e => by
      have z := q H' t
      rw [e] at z
      exact z
    have hz : x.length ≤ 1000 := of_decide_eq_true hz
    dsimp only [isStr]
    walk_at "go"
    refine ⟨Nat.le_trans hz thousand, ?_⟩
    walk_at "go"
    refine ifd (fun c => ?_) (fun c => ?_)
    · walk_at "go"
      refine ifdn (fun c2 => ?_) (fun c2 => ?_)
      · walk_at "go"
        refine ⟨_, rfl, x, rfl, ht, fun H2 t => ?_⟩
        have z := q H2 (.grown t)
        have e : (fun c => decide (c ∈ (Str.ofString "abcdefghijklmnopqrstuvwxyz").cps.toList)) = fun c => decide (97 ≤ c) && decide (c ≤ 122) := funext in_letters
        rw [e]
        have e1 : isW' (.str x) = (x.cps.toList.all fun c => decide (97 ≤ c) && decide (c ≤ 122)) := by
          dsimp only [isW']
          rw [decide_eq_true (show 1 ≤ x.length by omega), decide_eq_true (show x.length ≤ 8 by omega)]
          rfl
        rw [e1] at z
        exact z
      · walk_at "go"
        refine e _ (.refl ht) ?_
        dsimp only [isW']
        rw [decide_eq_false (show ¬ x.length ≤ 8 by omega)]
        simp
    · walk_at "go"
      refine e _ (.refl ht) ?_
      dsimp only [isW']
      rw [decide_eq_false (show ¬ 1 ≤ x.length by omega)]
      rfl
  | _ =>
    dsimp only [isStr]
    walk_at "go"
    exact q _ (.refl ht)
abbrev s_is_whole : Stmt := topS 11
theorem sc_is_whole : FnScope ["told"] ["told"] (defScope s_is_whole) := ⟨rfl, rfl, rfl, by decide +kernel, rfl, by decide +kernel, by decide +kernel⟩
theorem h_is_whole {k : Nat} {f : Addr} {fd : FuncData} (O : Own K mg "is_whole" s_is_whole ["told"] f fd)  (m_isinstance : mg "isinstance" = none) (m_bool : mg "bool" = none) (m_int : mg "int" = none) : Has P w K mg base "is_whole" ["told"] (k + 1) CX0 (spWhole K) f fd := by
  refine O.has (O.F.ok sc_is_whole (fun vs H Q E h => ?_) (fun cdv A outer s H vs Q E hr h => ?_))
  · obtain ⟨v, d, rfl, _⟩ := h
    rfl
  obtain ⟨v, d, rfl, hd, q⟩ := h
  refine ⟨_, (pss_one (ps_ret (pe_and (pe_callB call_isi (by rfl) m_isinstance (by decide +kernel) (pa_cons (pv 0) (pa_cons (pe_bltn (v := .ty "int") (by rfl) m_int (by decide +kernel) rfl) pa_nil))) (pe_one (pe_not (pe_callB call_isi (by rfl) m_isinstance (by decide +kernel) (pa_cons (pv 0) (pa_cons (pe_bltn (v := .ty "bool") (by rfl) m_bool (by decide +kernel) rfl) pa_nil)))))))), ?_⟩
  walk_at "go"
  refine use_isInt hd ?_
  refine ⟨_, rfl, ?_⟩
  cases hd with
  | int i =>
    dsimp only [isInt]
    refine iteT ?_
    walk_at "go"
    refine use_isBool (.int i) ?_
    walk_at "go"
    exact q
  | bl i =>
    dsimp only [isInt]
    refine iteT ?_
    walk_at "go"
    refine use_isBool (.bl i) ?_
    walk_at "go"
    exact q
  | _ =>
    dsimp only [isInt]
    walk_at "go"
    exact q
abbrev s_is_between : Stmt := topS 12
theorem sc_is_between : FnScope ["told", "low", "high"] ["told", "low", "high"] (defScope s_is_between) := ⟨rfl, rfl, rfl, by decide +kernel, rfl, by decide +kernel, by decide +kernel⟩
theorem h_is_between {k : Nat} {f : Addr} {fd : FuncData} (O : Own K mg "is_between" s_is_between ["told", "low", "high"] f fd)  {f_is_whole : Addr} {fd_is_whole : FuncData} (D_is_whole : Has P w K mg base "is_whole" ["told"] k CX0 (spWhole K) f_is_whole fd_is_whole) : Has P w K mg base "is_between" ["told", "low", "high"] (k + 1) CX0 (spBetween K) f fd := by
  refine O.has (O.F.ok sc_is_between (fun vs H Q E h => ?_) (fun cdv A outer s H vs Q E hr h => ?_))
  · obtain ⟨v, d, lo, hi, rfl, _⟩ := h
    rfl
  obtain ⟨v, d, lo, hi, rfl, hd, q⟩ := h
  refine ⟨_, (pss_one (ps_ret (pe_and (pe_call D_is_whole.G hr (by rfl) D_is_whole.g D_is_whole.k D_is_whole.b .nil pass0 (pa_cons (pv 0) pa_nil)) (pe_one (pe_chain op_le op_le (pv 1) (pv 0) (pv 2)))))), ?_⟩
  walk_at "go"
  refine use_whole hd ?_
  refine ⟨_, rfl, ?_⟩
  cases hd with
  | int i =>
    have e : inB lo hi (.int i) = (decide (lo ≤ i) && decide (i ≤ hi)) := rfl
    rw [e] at q
    dsimp only [isWh]
    refine iteT ?_
    walk_at "go"
    refine ifd (fun c => ?_) (fun c => ?_)
    · rw [decide_eq_true c] at q
      walk_at "go"
      exact q
    · rw [decide_eq_false c] at q
      exact q
  | _ =>
    dsimp only [isWh]
    refine iteF ?_
    exact q
abbrev s_is_amount : Stmt := topS 13
theorem sc_is_amount : FnScope ["told"] ["told"] (defScope s_is_amount) := ⟨rfl, rfl, rfl, by decide +kernel, rfl, by decide +kernel, by decide +kernel⟩
theorem h_is_amount {k : Nat} {f : Addr} {fd : FuncData} (O : Own K mg "is_amount" s_is_amount ["told"] f fd)  {f_is_whole : Addr} {fd_is_whole : FuncData} (D_is_whole : Has P w K mg base "is_whole" ["told"] k CX0 (spWhole K) f_is_whole fd_is_whole) {t_TOO_LARGE : Tok} (m_TOO_LARGE : mg "TOO_LARGE" = some (.int 1000000000000 t_TOO_LARGE)) : Has P w K mg base "is_amount" ["told"] (k + 1) CX0 (spAmount K) f fd := by
  refine O.has (O.F.ok sc_is_amount (fun vs H Q E h => ?_) (fun cdv A outer s H vs Q E hr h => ?_))
  · obtain ⟨v, d, rfl, _⟩ := h
    rfl
  obtain ⟨v, d, rfl, hd, q⟩ := h
  refine ⟨_, (pss_one (ps_ret (pe_and (pe_call D_is_whole.G hr (by rfl) D_is_whole.g D_is_whole.k D_is_whole.b .nil pass0 (pa_cons (pv 0) pa_nil)) (pe_one (pe_chain op_lt op_lt (pe_un un_neg (pe_glob (v := .int (1000000000000)) (by rfl) m_TOO_LARGE ⟨_, rfl⟩)) (pv 0) (pe_glob (v := .int (1000000000000)) (by rfl) m_TOO_LARGE ⟨_, rfl⟩)))))), ?_⟩
  walk_at "go"
  refine use_whole hd ?_
  refine ⟨_, rfl, ?_⟩
  cases hd with
  | int i =>
    have e : inB (-999999999999) 999999999999 (.int i) = (decide (-1000000000000 < i) && decide (i < 1000000000000)) := by
      unfold inB
      rw [Bool.eq_iff_iff]
      simp only [Bool.and_eq_true, decide_eq_true_eq]
      omega
    rw [e] at q
    dsimp only [isWh]
    refine iteT ?_
    walk_at "go"
    refine ifd (fun c => ?_) (fun c => ?_)
    · have c : -1000000000000 < i := c
      rw [decide_eq_true c] at q
      walk_at "go"
      exact q
    · have c : ¬ -1000000000000 < i := c
      rw [decide_eq_false c] at q
      exact q
  | _ =>
    dsimp only [isWh]
    refine iteF ?_
    exact q
end

/-! ### need_contract -/
def spKinds (K : PySem.W.Frag) : Sp := fun vs H Q _ => ∃ (w kind : Str), vs = [.str w, .str kind] ∧ (kindsOf kind w = none → Q .non H) ∧ ∀ ks, kindsOf kind w = some ks → ∀ a, (∀ H', SqT K H' a (ks.map V.str)) → Q (.ref a) H
def spPlain (K : PySem.W.Frag) (PT : Addr) : Sp := fun vs H Q _ => ∃ (v : V) (d : PyData) (k : Str), vs = [v, .str k] ∧ Dp K H v d ∧ szOk d = true ∧ GxR.TabG H PT ∧ ∀ H', Tb PT H H' → Q (.bl (plainOk k d)) H'
def spForm (K : PySem.W.Frag) (C PT : Addr) (n : Nat) : Sp := fun vs H Q E => ∃ (v : V) (d : PyData) (kind : Str) (dp : Int), vs = [v, .str kind, .int dp] ∧ dp + n = 14 ∧ dp ≤ 13 ∧ kind.length ≤ 100 ∧ Dp K H v d ∧ szOk d = true ∧ GxR.TabG H PT ∧
  (wf (n - 1) kind d = true → ∀ H', Tb PT H H' → Q .non H') ∧ (wf (n - 1) kind d = false → ∀ H', Tb PT H H' → E (.ref C) none H')
def spNeed (K : PySem.W.Frag) (C PT : Addr) : Sp := fun vs H Q E => ∃ (v : V) (d : PyData), vs = [v] ∧ Dp K H v d ∧ szOk d = true ∧ GxR.TabG H PT ∧
  (wf 12 "contract" d = true → ∀ H', Tb PT H H' → Q .non H') ∧ (wf 12 "contract" d = false → ∀ H', Tb PT H H' → E (.ref C) none H')
theorem use_kinds {K : PySem.W.Frag} {w kind : Str} {H : Hp} {Q : VK} {E : XK} (q0 : kindsOf kind w = none → Q .non H) (q1 : ∀ ks, kindsOf kind w = some ks → ∀ a, (∀ H', SqT K H' a (ks.map V.str)) → Q (.ref a) H) : spKinds K ([.str w, .str kind] ++ []) H Q E := ⟨w, kind, rfl, q0, q1⟩
theorem use_plain {K : PySem.W.Frag} {PT : Addr} {v : V} {d : PyData} {k : Str} {H : Hp} {Q : VK} {E : XK} (h : Dp K H v d) (z : szOk d = true) (t : GxR.TabG H PT) (q : ∀ H', Tb PT H H' → Q (.bl (plainOk k d)) H') : spPlain K PT ([v, .str k] ++ []) H Q E := ⟨v, d, k, rfl, h, z, t, q⟩
theorem use_form {K : PySem.W.Frag} {C PT : Addr} {n : Nat} {v : V} {d : PyData} {kind : Str} {dp : Int} {H : Hp} {Q : VK} {E : XK} (h0 : dp + n = 14) (h1 : dp ≤ 13) (hk : kind.length ≤ 100) (h : Dp K H v d) (z : szOk d = true) (t : GxR.TabG H PT)
    (q0 : wf (n - 1) kind d = true → ∀ H', Tb PT H H' → Q .non H') (q1 : wf (n - 1) kind d = false → ∀ H', Tb PT H H' → E (.ref C) none H') : spForm K C PT n ([v, .str kind, .int dp] ++ []) H Q E := ⟨v, d, kind, dp, rfl, h0, h1, hk, h, z, t, q0, q1⟩
section
variable {P : Program} {w : World} {K : PySem.W.Frag} {mg : Str → Option Value} {base : Heap}
abbrev s_kinds_behind : Stmt := topS 20
theorem sc_kinds_behind : FnScope ["word", "kind"] ["word", "kind"] (defScope s_kinds_behind) := ⟨rfl, rfl, rfl, by decide +kernel, rfl, by decide +kernel, by decide +kernel⟩
theorem h_kinds_behind {k : Nat} {f : Addr} {fd : FuncData} (O : Own K mg "kinds_behind" s_kinds_behind ["word", "kind"] f fd)  {d_NUMBERS : Addr} (F_NUMBERS : FTab K w mg "NUMBERS" numForms d_NUMBERS) {d_CONDITIONS : Addr} (F_CONDITIONS : FTab K w mg "CONDITIONS" condForms d_CONDITIONS) {d_CONTRACTS : Addr} (F_CONTRACTS : FTab K w mg "CONTRACTS" ctrForms d_CONTRACTS) : Has P w K mg base "kinds_behind" ["word", "kind"] (k + 1) CX0 (spKinds K) f fd := by
  refine O.has (O.F.ok sc_kinds_behind (fun vs H Q E h => ?_) (fun cdv A outer s H vs Q E hr h => ?_))
  · obtain ⟨u, kind, rfl, _⟩ := h
    rfl
  obtain ⟨u, kind, rfl, q0, q1⟩ := h
  obtain ⟨e1, c1, kd_CONTRACTS⟩ := F_CONTRACTS.kd
  obtain ⟨e2, c2, kd_CONDITIONS⟩ := F_CONDITIONS.kd
  obtain ⟨e3, c3, kd_NUMBERS⟩ := F_NUMBERS.kd
  have m_CONTRACTS := F_CONTRACTS.g
  have m_CONDITIONS := F_CONDITIONS.g
  have m_NUMBERS := F_NUMBERS.g
  refine ⟨_, (pss_cons (ps_if (pt_cmpR op_eq (pv 1) pe_str (nomark _)) (pss_one (ps_ret (pe_kget kd_CONTRACTS (by rfl) m_CONTRACTS (pv 0) ⟨rfl, rfl, rfl, rfl⟩))) pss_nil) (pss_cons (ps_if (pt_cmpR op_eq (pv 1) pe_str (nomark _)) (pss_one (ps_ret (pe_kget kd_CONDITIONS (by rfl) m_CONDITIONS (pv 0) ⟨rfl, rfl, rfl, rfl⟩))) pss_nil) (pss_one (ps_ret (pe_kget kd_NUMBERS (by rfl) m_NUMBERS (pv 0) ⟨rfl, rfl, rfl, rfl⟩))))), ?_⟩
  have fin : ∀ (d : Addr) (L : Forms), tabOk K d L = true → kindsOf kind u = formOf L u → ∃ (z : Str) (r : Option Value) (v : V), V.str u = .str z ∧ PySem.W.nsIn K d z = some r ∧ RelV v (r.getD .none) ∧ Q v H := fun d L ok e => by
    have z := tabOk_ns ok u
    cases hf : formOf L u with
    | none =>
      rw [hf] at z e
      exact ⟨u, none, .non, rfl, z, rfl, q0 e⟩
    | some ks =>
      rw [hf] at z e
      obtain ⟨a, za, zs⟩ := z
      exact ⟨u, _, .ref a, rfl, za, rfl, q1 ks e a zs⟩
  walk_at "go"
  refine ifd (fun c => ?_) (fun c => ?_)
  · walk_at "go"
    refine ⟨_, rfl, ?_⟩
    exact fin _ _ F_CONTRACTS.ok (by unfold kindsOf; rw [if_pos c])
  walk_at "go"
  refine ifd (fun c' => ?_) (fun c' => ?_)
  · walk_at "go"
    refine ⟨_, rfl, ?_⟩
    exact fin _ _ F_CONDITIONS.ok (by unfold kindsOf; rw [if_neg c, if_pos c'])
  · walk_at "go"
    refine ⟨_, rfl, ?_⟩
    exact fin _ _ F_NUMBERS.ok (by unfold kindsOf; rw [if_neg c, if_neg c'])
abbrev s__is_plain : Stmt := topS 22
theorem sc__is_plain : FnScope ["told", "kind"] ["told", "kind"] (defScope s__is_plain) := ⟨rfl, rfl, rfl, by decide +kernel, rfl, by decide +kernel, by decide +kernel⟩
theorem h__is_plain {PT : Addr} {k : Nat} {f : Addr} {fd : FuncData} (O : Own K mg "_is_plain" s__is_plain ["told", "kind"] f fd)  {f_is_word : Addr} {fd_is_word : FuncData} (D_is_word : Has P w K mg base "is_word" ["told"] k CX0 (spIsWord K PT) f_is_word fd_is_word) {f_is_between : Addr} {fd_is_between : FuncData} (D_is_between : Has P w K mg base "is_between" ["told", "low", "high"] k CX0 (spBetween K) f_is_between fd_is_between) {f_is_amount : Addr} {fd_is_amount : FuncData} (D_is_amount : Has P w K mg base "is_amount" ["told"] k CX0 (spAmount K) f_is_amount fd_is_amount) : Has P w K mg base "_is_plain" ["told", "kind"] (k + 1) CX0 (spPlain K PT) f fd := by
  refine O.has (O.F.ok sc__is_plain (fun vs H Q E h => ?_) (fun cdv A outer s H vs Q E hr h => ?_))
  · obtain ⟨v, d, x, rfl, _⟩ := h
    rfl
  obtain ⟨v, d, x, rfl, hd, hz, ht, q⟩ := h
  refine ⟨_, (pss_cons (ps_if (pt_cmpR op_eq (pv 1) pe_str (nomark _)) (pss_one (ps_ret (pe_call D_is_amount.G hr (by rfl) D_is_amount.g D_is_amount.k D_is_amount.b .nil pass0 (pa_cons (pv 0) pa_nil)))) pss_nil) (pss_cons (ps_if (pt_cmpR op_eq (pv 1) pe_str (nomark _)) (pss_one (ps_ret (pe_call D_is_between.G hr (by rfl) D_is_between.g D_is_between.k D_is_between.b .nil pass0 (pa_cons (pv 0) (pa_cons pe_int (pa_cons pe_int pa_nil)))))) pss_nil) (pss_cons (ps_if (pt_cmpR op_eq (pv 1) pe_str (nomark _)) (pss_one (ps_ret (pe_call D_is_between.G hr (by rfl) D_is_between.g D_is_between.k D_is_between.b .nil pass0 (pa_cons (pv 0) (pa_cons pe_int (pa_cons pe_int pa_nil)))))) pss_nil) (pss_cons (ps_if (pt_cmpR op_eq (pv 1) pe_str (nomark _)) (pss_one (ps_ret (pe_call D_is_between.G hr (by rfl) D_is_between.g D_is_between.k D_is_between.b .nil pass0 (pa_cons (pv 0) (pa_cons pe_int (pa_cons pe_int pa_nil)))))) pss_nil) (pss_one (ps_ret (pe_call D_is_word.G hr (by rfl) D_is_word.g D_is_word.k D_is_word.b .nil pass0 (pa_cons (pv 0) pa_nil)))))))), ?_⟩
  unfold plainOk at q
  walk_at "go"
  refine ifd (fun c => ?_) (fun c => ?_)
  · rw [if_pos c] at q
    walk_at "go"
    exact use_amount hd (q _ (.refl ht))
  rw [if_neg c] at q
  walk_at "go"
  refine ifd (fun c => ?_) (fun c => ?_)
  · rw [if_pos c] at q
    walk_at "go"
    exact use_between hd (q _ (.refl ht))
  rw [if_neg c] at q
  walk_at "go"
  refine ifd (fun c => ?_) (fun c => ?_)
  · rw [if_pos c] at q
    walk_at "go"
    exact use_between hd (q _ (.refl ht))
  rw [if_neg c] at q
  walk_at "go"
  refine ifd (fun c => ?_) (fun c => ?_)
  · rw [if_pos c] at q
    walk_at "go"
    exact use_between hd (q _ (.refl ht))
  rw [if_neg c] at q
  walk_at "go"
  exact use_isWord hd hz ht q
abbrev s__need_form : Stmt := topS 21
theorem sc__need_form : FnScope ["told", "kind", "depth", "kinds", "inner", "part"] ["told", "kind", "depth"] (defScope s__need_form) := ⟨rfl, rfl, rfl, by decide +kernel, rfl, by decide +kernel, by decide +kernel⟩
theorem h__need_form {n : Nat} {PT : Addr} {k : Nat} {f : Addr} {fd : FuncData} (O : Own K mg "_need_form" s__need_form ["told", "kind", "depth"] f fd) {C_BadContract : Addr} (X_BadContract : ExcT K mg "BadContract" C_BadContract)  {f__need_form : Addr} {fd__need_form : FuncData} (D__need_form : Has P w K mg base "_need_form" ["told", "kind", "depth"] k (L2.CX P w) (spForm K C_BadContract PT n) f__need_form fd__need_form) {f__is_plain : Addr} {fd__is_plain : FuncData} (D__is_plain : Has P w K mg base "_is_plain" ["told", "kind"] k CX0 (spPlain K PT) f__is_plain fd__is_plain) {f_kinds_behind : Addr} {fd_kinds_behind : FuncData} (D_kinds_behind : Has P w K mg base "kinds_behind" ["word", "kind"] k CX0 (spKinds K) f_kinds_behind fd_kinds_behind) (m_zip : mg "zip" = none) (m_len : mg "len" = none) (m_isinstance : mg "isinstance" = none) (m_str : mg "str" = none) (m_tuple : mg "tuple" = none) {t_DEEPEST : Tok} (m_DEEPEST : mg "DEEPEST" = some (.int 12 t_DEEPEST)) : Has P w K mg base "_need_form" ["told", "kind", "depth"] (k + 1) (L2.CX P w) (spForm K C_BadContract PT (n + 1)) f fd := by
  refine O.has (O.F.okX sc__need_form (fun vs H Q E h => ?_) (fun cdv A outer s H vs Q E hr h => ?_))
  · obtain ⟨v, d, kind, dp, rfl, _⟩ := h
    rfl
  obtain ⟨v, d, kind, dp, rfl, h0, h1, hk, hd, hz, ht, q0, q1⟩ := h
  refine ⟨_, (pss_cons (ps_if (pt_cmpR op_gt (pv 2) (pe_glob (v := .int (12)) (by rfl) m_DEEPEST ⟨_, rfl⟩) (nomark _)) (pss_one (ps_raise rfl (takes_of rfl rfl rfl rfl) (pmk_own PySem.F.excBase_ValueError X_BadContract.x X_BadContract.g X_BadContract.k (raises_own X_BadContract.s X_BadContract.t) rfl))) pss_nil) (pss_cons (ps_if (PW.pt (pw_or (pt_not (pt_val (pe_callB call_isi (by rfl) m_isinstance (by decide +kernel) (pa_cons (pv 0) (pa_cons (pe_bltn (v := .ty "tuple") (by rfl) m_tuple (by decide +kernel) rfl) pa_nil))))) (pw_or (pt_cmpR op_eq (pe_callB call_len_seq (by rfl) m_len (by decide +kernel) (pa_cons (pv 0) pa_nil)) pe_int (nomark _)) (pw_or1 (pt_not (pt_val (pe_callB call_isi (by rfl) m_isinstance (by decide +kernel) (pa_cons (pe_ix ix_tup (pv 0) pe_int (fun _ _ => rfl)) (pa_cons (pe_bltn (v := .ty "str") (by rfl) m_str (by decide +kernel) rfl) pa_nil))))))))) (pss_one (ps_raise rfl (takes_of rfl rfl rfl rfl) (pmk_ownA PySem.F.excBase_ValueError X_BadContract.x X_BadContract.g X_BadContract.k (raises_own X_BadContract.s X_BadContract.t) rfl (pa_cons (pe_joined (.cons pe_str (.cons (pe_fmt (pv 1)) (.cons pe_str .nil)))) pa_nil)))) pss_nil) (pss_cons (ps_set (i := 3) sc__need_form.nd rfl (.inl rfl) (pe_call D_kinds_behind.G hr (by rfl) D_kinds_behind.g D_kinds_behind.k D_kinds_behind.b .nil pass0 (pa_cons (pe_ix ix_tup (pv 0) pe_int (fun _ _ => rfl)) (pa_cons (pv 1) pa_nil)))) (pss_cons (ps_if (pt_cmpR op_isN (pv 3) pe_non (nomark _)) (pss_one (ps_raise rfl (takes_of rfl rfl rfl rfl) (pmk_ownA PySem.F.excBase_ValueError X_BadContract.x X_BadContract.g X_BadContract.k (raises_own X_BadContract.s X_BadContract.t) rfl (pa_cons (pe_joined (.cons pe_str (.cons (pe_fmt (pv 1)) (.cons pe_str .nil)))) pa_nil)))) pss_nil) (pss_cons (ps_if (pt_cmpR op_ne (pe_callB call_len_seq (by rfl) m_len (by decide +kernel) (pa_cons (pv 0) pa_nil)) (pe_op op_add (pe_callB call_len_seq (by rfl) m_len (by decide +kernel) (pa_cons (pv 3) pa_nil)) pe_int) (nomark _)) (pss_one (ps_raise rfl (takes_of rfl rfl rfl rfl) (pmk_ownA PySem.F.excBase_ValueError X_BadContract.x X_BadContract.g X_BadContract.k (raises_own X_BadContract.s X_BadContract.t) rfl (pa_cons (pe_joined (.cons pe_str (.cons (pe_fmt (pv 1)) (.cons pe_str .nil)))) pa_nil)))) pss_nil) (pss_cons (ps_for (passes_of rfl) rfl (RZ.pi_zipA (by rfl) m_zip (pa_cons (pv 3) (pa_cons (pe_slice sl_tup (pv 0) (po_some pe_int) po_none) pa_nil))) (pg_tup rfl (pgs_cons (pg_name (i := 4) sc__need_form.nd rfl (.inl rfl)) (pgs_cons (pg_name (i := 5) sc__need_form.nd rfl (.inl rfl)) pgs_nil))) (pss_one (ps_if (pt_cmpR op_in_seq (pv 4) (pe_tup (pa_cons pe_str (pa_cons pe_str (pa_cons pe_str pa_nil)))) (by rfl)) (pss_one (ps_expr (pe_call D__need_form.G hr (by rfl) D__need_form.g D__need_form.k D__need_form.b .nil (passes_call (takes_of rfl rfl rfl rfl) (fun _ _ _ _ h => h)) (pa_cons (pv 5) (pa_cons (pv 4) (pa_cons (pe_op op_add (pv 2) pe_int) pa_nil)))))) (pss_one (ps_if (pt_not (pt_val (pe_call D__is_plain.G hr (by rfl) D__is_plain.g D__is_plain.k D__is_plain.b .nil pass0 (pa_cons (pv 5) (pa_cons (pv 4) pa_nil))))) (pss_one (ps_raise rfl (takes_of rfl rfl rfl rfl) (pmk_ownA PySem.F.excBase_ValueError X_BadContract.x X_BadContract.g X_BadContract.k (raises_own X_BadContract.s X_BadContract.t) rfl (pa_cons (pe_joined (.cons pe_str (.cons (pe_fmt (pv 4)) .nil))) pa_nil)))) pss_nil))))) (pss_one (ps_if (PW.pt (pw_and (pt_cmpR (op_eqD hr.units) (pe_slice sl_tupA (pv 3) po_none (po_some pe_int)) (pe_tup (pa_cons pe_str (pa_cons pe_str pa_nil))) (nomark _)) (pw_and1 (pt_cmpR op_eq (pe_ix ix_tup (pv 0) pe_int (fun _ _ => rfl)) (pe_ix ix_tup (pv 0) pe_int (fun _ _ => rfl)) (nomark _))))) (pss_one (ps_raise rfl (takes_of rfl rfl rfl rfl) (pmk_own PySem.F.excBase_ValueError X_BadContract.x X_BadContract.g X_BadContract.k (raises_own X_BadContract.s X_BadContract.t) rfl))) pss_nil)))))))), ?_⟩
  have bad : ∀ {H'}, wf n kind d = false → Tb PT H H' → E (.ref C_BadContract) none H' := fun e t => q1 e _ t
  have lk : kind.length ≤ 1000 := by omega
  have one : ∀ z : Str, [V.str z].length ≤ sizeLine := fun z => by show 1 ≤ sizeLine; decide
  walk_at "go"
  refine ifd (fun c => ?_) (fun c => ?_)
  · have e : n = 0 := by omega
    subst e
    exact bad rfl (.refl ht)
  obtain ⟨m, rfl⟩ : ∃ m, n = m + 1 := ⟨n - 1, by omega⟩
  walk_at "go"
  refine use_isTup hd ?_
  cases hd with
  | @tup a vs ds ha hall =>
    dsimp only [isTup]
    refine ⟨_, rfl, iteNT ?_⟩
    cases hall with
    | nil =>
      walk_at "go"
      refine ⟨_, _, rfl, .inr ha, ?_⟩
      walk_at "go"
      refine ifd (fun c => iteT ?_) (fun c => absurd rfl c)
      exact fs3 (i := 1) rfl lk (by decide) (by decide) fun z => ⟨one z, bad rfl (.refl ht)⟩
    | @cons v0 vr d0 dr hd0 hr0 =>
      walk_at "go"
      refine ⟨_, _, rfl, .inr ha, ?_⟩
      walk_at "go"
      refine ifd (fun c => by rw [List.length_cons] at c; omega) (fun c => ?_)
      walk_at "go"
      refine ⟨_, _, _, _, rfl, rfl, ha, at_any (j := 0) rfl rfl, ?_⟩
      walk_at "go"
      refine use_isStr hd0 ?_
      cases hd0 with
      | str u =>
        dsimp only [isStr]
        refine ⟨_, rfl, iteNT ?_⟩
        have wfe := wf_tup' (n := m) (kind := kind) (w := u) (ds := dr)
        walk_at "go"
        refine ⟨_, _, _, _, rfl, rfl, ha, at_any (j := 0) rfl rfl, ?_⟩
        walk_at "go"
        refine use_kinds (fun e => ?_) (fun ks e aK sK => ?_)
        · rw [e] at wfe
          walk_at "go"
          refine ifd (fun c => ?_) (fun c => absurd rfl c)
          exact fs3 (i := 1) rfl lk (by decide) (by decide) fun z => ⟨one z, bad wfe (.refl ht)⟩
        rw [e] at wfe
        dsimp only at wfe
        have km := kinds_mem e
        walk_at "go"
        refine ifd (fun c => by cases c) (fun c => ?_)
        walk_at "go"
        refine ⟨_, _, rfl, .inr ha, ?_⟩
        walk_at "go"
        refine ⟨_, _, rfl, .inr (sK _), ?_⟩
        walk_at "go"
        have hlen := DpAll.len hr0
        refine ifdn (fun c2 => ?_) (fun c2 => ?_)
        · rw [List.length_cons, List.length_map] at c2
          have hl : ks.length = dr.length := by omega
          rw [decide_eq_true hl, Bool.true_and] at wfe
          walk_at "go"
          refine g_zipA ?_
          walk_at "go"
          refine ⟨_, _, rfl, ha, not_whole1 _ _, fun p np => ?_⟩
          rw [cut1]
          walk_at "go"
          have s1 := same_new (o := .tup vr) np
          have hq : SqT K (upd H p (.tup vr)) p vr := sqt upd_same
          have t1 : Tb PT H (upd H p (.tup vr)) := .of ht s1
          generalize upd H p (.tup vr) = H1 at hq t1 ⊢
          refine ⟨_, _, ks.map V.str, vr, rfl, .inr ⟨sK _, hq, ?_⟩⟩
          have szr : szAll dr = true := by
            have z : (szOk (.str u) && szAll dr) = true := hz
            exact (Bool.and_eq_true_iff.mp z).2
          have hkv : (ks.map V.str).length = vr.length := by rw [List.length_map, hl, hlen]
          refine RZ.for_zipT hkv (fun i σ H2 => ∃ y4 y5, σ = [some (.ref a), some (.str kind), some (.int dp), some (.ref aK), y4, y5] ∧ Tb PT H1 H2 ∧ ((List.zip ks dr).take i).all (partOk m) = true)
            ⟨_, _, rfl, .refl t1.g, rfl⟩ (fun i σ H2 hW => ?_) (fun i x y T σ H2 hx hy hW nT => ?_) (fun σ H2 hW => ?_)
          · obtain ⟨y4, y5, rfl, t2, _⟩ := hW
            exact ⟨sK _, (t2.dm t1.g).t _ _ hq⟩
          · obtain ⟨y4, y5, rfl, t2, hall⟩ := hW
            rw [List.getElem?_map] at hx
            obtain ⟨kx, hkx, rfl⟩ := Option.map_eq_some_iff.mp hx
            have hi : i < dr.length := by have := (List.getElem?_eq_some_iff.mp hkx).1; omega
            have hdi : dr[i]? = some dr[i] := List.getElem?_eq_getElem hi
            obtain ⟨y', hy', hDy⟩ := DpAll.at hr0 hdi
            have ey : y' = y := Option.some.inj (hy'.symm.trans hy)
            subst ey
            have zi := zip_at hkx hdi
            have hzi := szAll_at szr hdi
            generalize dr[i] = di at hDy zi hzi
            have kl := kinds_short ks km kx (List.mem_of_getElem? hkx)
            have s3 := same_new (o := .tup [.str kx, y']) nT
            have t3 : Tb PT H1 (upd H2 T (.tup [.str kx, y'])) := t2.trans (.of t2.g s3)
            have sT : SqT K (upd H2 T (.tup [.str kx, y'])) T [.str kx, y'] := sqt upd_same
            generalize upd H2 T (.tup [.str kx, y']) = H3 at t3 sT ⊢
            have dy3 : Dp K H3 y' di := Dp.dm ((t1.dm ht).trans (t3.dm t1.g)) hDy
            refine g_gtup sT rfl ?_
            walk_at "go"
            refine ⟨by show 3 ≤ sizeLine; decide, fun p4 np4 => ?_⟩
            have s4 := same_new (o := .tup [.str "contract", .str "condition", .str "number"]) np4
            refine ⟨p4, _, rfl, .inr (sqt upd_same), rfl, rfl, ?_⟩
            have t4 := t3.trans (.of t3.g s4)
            generalize upd H3 p4 (.tup [.str "contract", .str "condition", .str "number"]) = H4 at t4 s4 ⊢
            have dy4 := Dp.dm (DM.of s4) dy3
            rw [if_neg Bool.false_ne_true, inDeep]
            have nok : partOk m (kx, di) = false → wf (m + 1) kind (.tuple (.str u :: dr)) = false := fun z => by
              rw [wfe, all_not zi z]
              rfl
            refine ⟨_, rfl, ifb (fun c3 => ?_) (fun c3 => ?_)⟩
            · have pe : partOk m (kx, di) = wf m kx di := by unfold partOk; rw [if_pos c3]
              walk_at "go"
              refine use_form (n := m + 1) (by omega) (by omega) kl dy4 hzi t4.g (fun e H5 t5 => ?_) (fun e H5 t5 => ?_)
              · exact ⟨_, _, rfl, t4.trans t5, take_all zi (pe.trans e) hall⟩
              · exact bad (nok (pe.trans e)) (t1.trans (t4.trans t5))
            · have pe : partOk m (kx, di) = plainOk kx di := by unfold partOk; rw [if_neg (by rw [c3]; exact Bool.false_ne_true)]
              walk_at "go"
              refine use_plain dy4 hzi t4.g fun H5 t5 => ?_
              refine ⟨_, rfl, ifn (fun e => ?_) (fun e => ?_)⟩
              · walk_at "go"
                exact ⟨t4.trans t5, take_all zi (pe.trans e) hall⟩
              · exact fs2 (i := 4) rfl (by omega) (by decide) fun z => ⟨one z, bad (nok (pe.trans e)) (t1.trans (t4.trans t5))⟩
          · obtain ⟨y4, y5, rfl, t2, hall⟩ := hW
            have hz2 : (List.zip ks dr).take (ks.map V.str).length = List.zip ks dr := by
              rw [List.length_map]
              exact List.take_of_length_le (by rw [List.length_zip]; omega)
            rw [hz2] at hall
            have wfe2 : wf (m + 1) kind (.tuple (.str u :: dr)) = !(twoSides ks && sameSides dr) := by
              rw [wfe]
              rw [hall]
              rfl
            have t6 := t1.trans t2
            walk_at "go"
            refine ⟨_, _, rfl, sK _, fun c => ?_, fun c p7 np7 => ?_⟩
            · have two := HT.sIx_nat ks.length ks.length 2
              have hz7 : SqT K H2 aK ((ks.take 2).map V.str) := by
                have e : ks.take 2 = ks := List.take_of_length_le (by have c := c.2; rw [List.length_map] at c; have q := HT.sIx_nat ks.length ks.length 2; have q2 : HT.sIx ks.length ks.length (some 2) = min 2 ks.length := q; omega)
                rw [e]
                exact sK _
              have t7 : Tb PT H H2 := t6
              walk_at "go"
              refine ⟨by show 2 ≤ sizeLine; decide, fun p8 np8 => ?_⟩
              have s8 := same_new (o := .tup [.str "side", .str "side"]) np8
              refine ⟨.tuple ((ks.take 2).map PyData.str), .tuple [.str "side", .str "side"], .tup (SqT.same s8 hz7) (dpStrs _), .tup (sqt upd_same) (.cons (.str _) (.cons (.str _) .nil)), two_shaped ks km, by decide +kernel, ?_⟩
              have t8 := t7.trans (.of t7.g s8)
              generalize upd H2 p8 (.tup [.str "side", .str "side"]) = H8 at t8 ⊢
              rw [two_eqv ks km]
              have ha8 := (t8.dm ht).t _ _ ha
              refine ⟨_, rfl, ifb (fun c5 => ?_) (fun c5 => ?_)⟩
              · obtain ⟨s, rfl⟩ := kinds_two ks km c5
                cases hr0 with
                | nil => cases hl
                | @cons v1 vr1 d1 dr1 hd1 hr1 =>
                  cases hr1 with
                  | nil => cases hl
                  | @cons v2 vr2 d2 dr2 hd2 hr2 =>
                    have a1 := List.all_eq_true.mp hall ("side", d1) List.mem_cons_self
                    have a2 := List.all_eq_true.mp hall ("side", d2) (List.mem_cons_of_mem _ List.mem_cons_self)
                    obtain ⟨x1, rfl⟩ := word_str a1
                    obtain ⟨x2, rfl⟩ := word_str a2
                    cases hd1
                    cases hd2
                    rw [c5, Bool.true_and] at wfe2
                    have wfe3 : wf (m + 1) kind (.tuple (.str u :: .str x1 :: .str x2 :: dr2)) = !decide (x1 = x2) := wfe2
                    walk_at "go"
                    refine ⟨_, _, _, _, rfl, rfl, ha8, at_any (j := 1) rfl rfl, ?_⟩
                    walk_at "go"
                    refine ⟨_, _, _, _, rfl, rfl, ha8, at_any (j := 2) rfl rfl, ?_⟩
                    walk_at "go"
                    refine ifd (fun e => ?_) (fun e => ?_)
                    · exact bad (by rw [wfe3, decide_eq_true e]; rfl) t8
                    · walk_at "go"
                      exact q0 (by show wf (m + 1) kind _ = true; rw [wfe3, decide_eq_false e]; rfl) _ t8
              · walk_at "go"
                exact q0 (by show wf (m + 1) kind _ = true; rw [wfe2, c5]; rfl) _ t8
            · have ec : cutV (ks.map V.str) none (some 2) = (ks.take 2).map V.str := by
                have q := HT.sIx_nat (ks.map V.str).length (ks.map V.str).length 2
                have q2 : HT.sIx (ks.map V.str).length (ks.map V.str).length (some 2) = min 2 (ks.map V.str).length := q
                unfold cutV
                rw [HT.sIx_none, q2, List.map_take]
                simp only [List.drop_zero, Nat.sub_zero]
                rw [List.take_eq_take_iff]
                omega
              rw [ec]
              have s7 := same_new (o := .tup ((ks.take 2).map V.str)) np7
              have hz7 : SqT K (upd H2 p7 (.tup ((ks.take 2).map V.str))) p7 ((ks.take 2).map V.str) := sqt upd_same
              have t67 := t6.trans (.of t6.g s7)
              generalize upd H2 p7 (.tup ((ks.take 2).map V.str)) = H7 at s7 hz7 t67 ⊢
              have hz7 : SqT K H7 p7 ((ks.take 2).map V.str) := hz7
              have t7 : Tb PT H H7 := t6.trans (.of t6.g s7)
              walk_at "go"
              refine ⟨by show 2 ≤ sizeLine; decide, fun p8 np8 => ?_⟩
              have s8 := same_new (o := .tup [.str "side", .str "side"]) np8
              refine ⟨.tuple ((ks.take 2).map PyData.str), .tuple [.str "side", .str "side"], .tup (SqT.same s8 hz7) (dpStrs _), .tup (sqt upd_same) (.cons (.str _) (.cons (.str _) .nil)), two_shaped ks km, by decide +kernel, ?_⟩
              have t8 := t7.trans (.of t7.g s8)
              generalize upd H7 p8 (.tup [.str "side", .str "side"]) = H8 at t8 ⊢
              rw [two_eqv ks km]
              have ha8 := (t8.dm ht).t _ _ ha
              refine ⟨_, rfl, ifb (fun c5 => ?_) (fun c5 => ?_)⟩
              · obtain ⟨s, rfl⟩ := kinds_two ks km c5
                cases hr0 with
                | nil => cases hl
                | @cons v1 vr1 d1 dr1 hd1 hr1 =>
                  cases hr1 with
                  | nil => cases hl
                  | @cons v2 vr2 d2 dr2 hd2 hr2 =>
                    have a1 := List.all_eq_true.mp hall ("side", d1) List.mem_cons_self
                    have a2 := List.all_eq_true.mp hall ("side", d2) (List.mem_cons_of_mem _ List.mem_cons_self)
                    obtain ⟨x1, rfl⟩ := word_str a1
                    obtain ⟨x2, rfl⟩ := word_str a2
                    cases hd1
                    cases hd2
                    rw [c5, Bool.true_and] at wfe2
                    have wfe3 : wf (m + 1) kind (.tuple (.str u :: .str x1 :: .str x2 :: dr2)) = !decide (x1 = x2) := wfe2
                    walk_at "go"
                    refine ⟨_, _, _, _, rfl, rfl, ha8, at_any (j := 1) rfl rfl, ?_⟩
                    walk_at "go"
                    refine ⟨_, _, _, _, rfl, rfl, ha8, at_any (j := 2) rfl rfl, ?_⟩
                    walk_at "go"
                    refine ifd (fun e => ?_) (fun e => ?_)
                    · exact bad (by rw [wfe3, decide_eq_true e]; rfl) t8
                    · walk_at "go"
                      exact q0 (by show wf (m + 1) kind _ = true; rw [wfe3, decide_eq_false e]; rfl) _ t8
              · walk_at "go"
                exact q0 (by show wf (m + 1) kind _ = true; rw [wfe2, c5]; rfl) _ t8
        · rw [List.length_cons, List.length_map] at c2
          have hl : ¬ ks.length = dr.length := fun e => c2 (by omega)
          rw [decide_eq_false hl, Bool.false_and] at wfe
          exact fs3 (i := 1) rfl lk (by decide) (by decide) fun z => ⟨one z, bad wfe (.refl ht)⟩
      | _ =>
        dsimp only [isStr]
        refine ⟨_, rfl, iteNF ?_⟩
        exact fs3 (i := 1) rfl lk (by decide) (by decide) fun z => ⟨one z, bad (wf_not fun _ _ e => by cases e) (.refl ht)⟩
  | _ =>
    dsimp only [isTup]
    refine ⟨_, rfl, iteNF (iteT ?_)⟩
    exact fs3 (i := 1) rfl lk (by decide) (by decide) fun z => ⟨one z, bad (wf_not fun _ _ e => by cases e) (.refl ht)⟩
end

theorem none_form {P : Program} {w : World} {K : PySem.W.Frag} {mg : Str → Option Value} {base : Heap} {C PT : Addr} {CX : CXT} {f : Addr} {fd : FuncData} {ps : List Str} : FnOk P w K mg base CX 0 f fd ps (spForm K C PT 0) := by
  have no : ∀ vs H Q E, ¬ spForm K C PT 0 vs H Q E := fun vs H Q E h => by
    obtain ⟨v, d, kind, dp, _, h0, h1, _⟩ := h
    omega
  exact ⟨fun vs H Q E h => absurd h (no vs H Q E), fun A outer s H args us vs Q E _ _ _ _ h => absurd h (no vs H Q E)⟩
theorem use_need {K : PySem.W.Frag} {C PT : Addr} {v : V} {d : PyData} {H : Hp} {Q : VK} {E : XK} (h : Dp K H v d) (z : szOk d = true) (t : GxR.TabG H PT)
    (q0 : wf 12 "contract" d = true → ∀ H', Tb PT H H' → Q .non H') (q1 : wf 12 "contract" d = false → ∀ H', Tb PT H H' → E (.ref C) none H') : spNeed K C PT ([v] ++ []) H Q E := ⟨v, d, rfl, h, z, t, q0, q1⟩
section
variable {P : Program} {w : World} {K : PySem.W.Frag} {mg : Str → Option Value} {base : Heap}
abbrev s_need_contract : Stmt := topS 19
theorem sc_need_contract : FnScope ["contract"] ["contract"] (defScope s_need_contract) := ⟨rfl, rfl, rfl, by decide +kernel, rfl, by decide +kernel, by decide +kernel⟩
theorem h_need_contract {PT : Addr} {k : Nat} {f : Addr} {fd : FuncData} (O : Own K mg "need_contract" s_need_contract ["contract"] f fd) {C_BadContract : Addr} (X_BadContract : ExcT K mg "BadContract" C_BadContract)  {f__need_form : Addr} {fd__need_form : FuncData} (D__need_form : Has P w K mg base "_need_form" ["told", "kind", "depth"] k (L2.CX P w) (spForm K C_BadContract PT 13) f__need_form fd__need_form) : Has P w K mg base "need_contract" ["contract"] (k + 1) (L2.CX P w) (spNeed K C_BadContract PT) f fd := by
  refine O.has (O.F.okX sc_need_contract (fun vs H Q E h => ?_) (fun cdv A outer s H vs Q E hr h => ?_))
  · obtain ⟨v, d, rfl, _⟩ := h
    rfl
  obtain ⟨v, d, rfl, hd, hz, ht, q0, q1⟩ := h
  refine ⟨_, (pss_one (ps_expr (pe_call D__need_form.G hr (by rfl) D__need_form.g D__need_form.k D__need_form.b .nil (passes_call (takes_of rfl rfl rfl rfl) (fun _ _ _ _ h => h)) (pa_cons (pv 0) (pa_cons pe_str (pa_cons pe_int pa_nil)))))), ?_⟩
  walk_at "go"
  refine use_form (n := 13) (by decide) (by decide) (by decide +kernel) hd hz ht (fun e H5 t5 => ?_) (fun e H5 t5 => ?_)
  · exact q0 e _ t5
  · exact q1 e _ t5
end

/-! ### the law's own reading of what is right -/
theorem g_istr {te : TE} {σ : L2.St} {H : Hp} {R : It → Hp → Prop} (h : te σ H fun v H1 => ∃ x, v = .str x ∧ R (Its x) H1) : iStr te σ H R := h
def small (c : Nat) : Bool := decide (97 ≤ c) && decide (c ≤ 122)
def spCWord (K : PySem.W.Frag) : Sp := fun vs H Q _ => ∃ (v : V) (d : PyData), vs = [v] ∧ Dp K H v d ∧ dOk d = true ∧ ∀ H', Same H H' → Q (.bl (isW' d)) H'
theorem use_cword {K : PySem.W.Frag} {v : V} {d : PyData} {H : Hp} {Q : VK} {E : XK} (h : Dp K H v d) (z : dOk d = true) (q : ∀ H', Same H H' → Q (.bl (isW' d)) H') : spCWord K ([v] ++ []) H Q E := ⟨v, d, rfl, h, z, q⟩
def spCCount (K : PySem.W.Frag) : Sp := fun vs H Q _ => ∃ (v : V) (d : PyData) (lo hi : Int), vs = [v, .int lo, .int hi] ∧ Dp K H v d ∧ Q (.bl (inB lo hi d)) H
theorem use_ccount {K : PySem.W.Frag} {v : V} {d : PyData} {lo hi : Int} {H : Hp} {Q : VK} {E : XK} (h : Dp K H v d) (q : Q (.bl (inB lo hi d)) H) : spCCount K ([v, .int lo, .int hi] ++ []) H Q E := ⟨v, d, lo, hi, rfl, h, q⟩
section
variable {P : Program} {w : World} {K : PySem.W.Frag} {mg : Str → Option Value} {base : Heap}
abbrev s__law_is_word : Stmt := topS 35
theorem sc__law_is_word : FnScope ["_law_word_here", "_law_sign"] ["_law_word_here"] (defScope s__law_is_word) := ⟨rfl, rfl, rfl, by decide +kernel, rfl, by decide +kernel, by decide +kernel⟩
theorem h__law_is_word {k : Nat} {f : Addr} {fd : FuncData} (O : Own K mg "_law_is_word" s__law_is_word ["_law_word_here"] f fd)  (m_all : mg "all" = none) (m_len : mg "len" = none) (m_isinstance : mg "isinstance" = none) (m_str : mg "str" = none) : Has P w K mg base "_law_is_word" ["_law_word_here"] (k + 1) CX0 (spCWord K) f fd := by
  refine O.has (O.F.ok sc__law_is_word (fun vs H Q E h => ?_) (fun cdv A outer s H vs Q E hr h => ?_))
  · obtain ⟨v, d, rfl, _⟩ := h
    rfl
  obtain ⟨v, d, rfl, hd, hz, q⟩ := h
  refine ⟨_, (pss_cons (ps_if (PW.pt (pw_or (pt_not (pt_val (pe_callB call_isi (by rfl) m_isinstance (by decide +kernel) (pa_cons (pv 0) (pa_cons (pe_bltn (v := .ty "str") (by rfl) m_str (by decide +kernel) rfl) pa_nil))))) (pw_or1 (pt_not (pt_chain op_le op_le pe_int (pe_callB call_len_str (by rfl) m_len (by decide +kernel) (pa_cons (pv 0) pa_nil)) pe_int))))) (pss_one (ps_ret pe_bl)) pss_nil) (pss_one (ps_ret (pe_callB (cr_all rfl) (by rfl) m_all (by decide +kernel) (pa_cons (pe_lc (own := [("_law_sign", 1)]) (g := gName 1) rfl sc__law_is_word.nd (pi_str (pv 0)) (blkOk_by (own := [("_law_sign", 1)]) (N := ["_law_word_here", "_law_sign"]) (sc := defScope s__law_is_word) (by decide +kernel)) (fun _ _ _ _ _ => pg_name (i := 1) sc__law_is_word.nd rfl (.inl rfl)) (fun _ _ _ _ _ => pts_nil) (fun _ _ _ _ _ => (pe_cmpR op_in_sign (pv 1) pe_str (by rfl)))) pa_nil))))), ?_⟩
  walk_at "go"
  refine use_isStr hd ?_
  cases hd with
  | str x =>
    have e : isW' (.str x) = false → Q (.bl false) H := fun e => by
      have z := q H (Same.refl H)
      rw [e] at z
      exact z
    have hz : x.length ≤ 1000 := of_decide_eq_true (dok_sz hz)
    dsimp only [isStr]
    refine ⟨_, rfl, iteNT ?_⟩
    walk_at "go"
    refine ⟨Nat.le_trans hz (by decide), ?_⟩
    walk_at "go"
    refine ifd (fun c => ?_) (fun c => ?_)
    · walk_at "go"
      refine ifdn (fun c2 => ?_) (fun c2 => ?_)
      · walk_at "go"
        refine g_istr ?_
        walk_at "go"
        refine fun D nD => lc_it walk_str (fun i H3 => H3 D = some (.lst (((x.cps.toList.take i).map small).map V.bl)) ∧ Same H H3) ⟨by rw [upd_same]; rfl, same_new nD⟩ (fun _ _ _ _ => trivial) (fun i y H3 H4 hi hW hy => ?_) (fun H3 hW => ?_)
        · obtain ⟨rfl, cc, hcc, rfl⟩ := hy
          obtain ⟨hD, e3⟩ := hW
          walk_at "go"
          have hl : i < x.cps.toList.length := by simpa using hi
          have hce : x.cps.toList[i] = cc := by
            have : x.cps.toList[i]? = some cc := by rw [Array.getElem?_toList]; exact hcc
            rw [List.getElem?_eq_getElem hl] at this
            exact Option.some.inj this
          refine ⟨_, hD, ?_, ?_, fun a o h => by rw [upd_ne (ne_of_none h nD)]; exact e3 _ _ h⟩
          · rw [List.length_map, List.length_map, List.length_take]
            have : (1000 : Nat) < sizeLine := by decide
            have : x.cps.toList.length = x.length := by simp [Str.length]
            omega
          · rw [upd_same, List.take_succ_eq_append_getElem hl, List.map_append, List.map_append, hce, in_letters]
            rfl
        · obtain ⟨hD, e3⟩ := hW
          walk_at "go"
          refine ⟨D, (x.cps.toList.take x.cps.size).map small, rfl, sql hD, ?_⟩
          have z := q H3 e3
          have e1 : isW' (.str x) = x.cps.toList.all small := by
            dsimp only [isW']
            rw [decide_eq_true (show 1 ≤ x.length by omega), decide_eq_true (show x.length ≤ 8 by omega)]
            rfl
          rw [e1] at z
          have e2 : x.cps.toList.take x.cps.size = x.cps.toList := List.take_of_length_le (by simp)
          rw [e2]
          have e4 : ((x.cps.toList.map small).all id) = x.cps.toList.all small := by simp [List.all_map]
          rw [e4]
          exact z
      · walk_at "go"
        refine e ?_
        dsimp only [isW']
        rw [decide_eq_false (show ¬ x.length ≤ 8 by omega)]
        simp
    · walk_at "go"
      refine e ?_
      dsimp only [isW']
      rw [decide_eq_false (show ¬ 1 ≤ x.length by omega)]
      rfl
  | _ =>
    dsimp only [isStr]
    refine ⟨_, rfl, iteNF (iteT ?_)⟩
    walk_at "go"
    exact q _ (Same.refl _)
abbrev s__law_is_count : Stmt := topS 36
theorem sc__law_is_count : FnScope ["_law_number_here", "_law_least", "_law_most"] ["_law_number_here", "_law_least", "_law_most"] (defScope s__law_is_count) := ⟨rfl, rfl, rfl, by decide +kernel, rfl, by decide +kernel, by decide +kernel⟩
theorem h__law_is_count {k : Nat} {f : Addr} {fd : FuncData} (O : Own K mg "_law_is_count" s__law_is_count ["_law_number_here", "_law_least", "_law_most"] f fd)  (m_isinstance : mg "isinstance" = none) (m_bool : mg "bool" = none) (m_int : mg "int" = none) : Has P w K mg base "_law_is_count" ["_law_number_here", "_law_least", "_law_most"] (k + 1) CX0 (spCCount K) f fd := by
  refine O.has (O.F.ok sc__law_is_count (fun vs H Q E h => ?_) (fun cdv A outer s H vs Q E hr h => ?_))
  · obtain ⟨v, d, lo, hi, rfl, _⟩ := h
    rfl
  obtain ⟨v, d, lo, hi, rfl, hd, q⟩ := h
  refine ⟨_, (pss_one (ps_ret (pe_and (pe_callB call_isi (by rfl) m_isinstance (by decide +kernel) (pa_cons (pv 0) (pa_cons (pe_bltn (v := .ty "int") (by rfl) m_int (by decide +kernel) rfl) pa_nil))) (pe_and (pe_not (pe_callB call_isi (by rfl) m_isinstance (by decide +kernel) (pa_cons (pv 0) (pa_cons (pe_bltn (v := .ty "bool") (by rfl) m_bool (by decide +kernel) rfl) pa_nil)))) (pe_and (pe_cmpR op_le (pv 1) (pv 0) (nomark _)) (pe_one (pe_cmpR op_le (pv 0) (pv 2) (nomark _)))))))), ?_⟩
  walk_at "go"
  refine use_isInt hd ?_
  refine ⟨_, rfl, ?_⟩
  cases hd with
  | int i =>
    have e : inB lo hi (.int i) = (decide (lo ≤ i) && decide (i ≤ hi)) := rfl
    rw [e] at q
    dsimp only [isInt]
    refine iteT ?_
    walk_at "go"
    refine use_isBool (.int i) ?_
    refine ⟨_, rfl, _, rfl, iteT ?_⟩
    walk_at "go"
    refine ifd (fun c => ?_) (fun c => ?_)
    · rw [decide_eq_true c, Bool.true_and] at q
      walk_at "go"
      exact q
    · rw [decide_eq_false c, Bool.false_and] at q
      exact q
  | bl i =>
    dsimp only [isInt]
    refine iteT ?_
    walk_at "go"
    refine use_isBool (.bl i) ?_
    refine ⟨_, rfl, _, rfl, iteF ?_⟩
    exact q
  | _ =>
    dsimp only [isInt]
    refine iteF ?_
    exact q
end

/-! ### what is drawn is a contract -/
theorem wf_of {n : Nat} {kind u : Str} {ks : List Str} {ds : List PyData} (hk : kindsOf kind u = some ks) (hl : ks.length = ds.length) (hp : (List.zip ks ds).all (partOk n) = true) (hs : twoSides ks = false ∨ sameSides ds = false) : wf (n + 1) kind (.tuple (.str u :: ds)) = true := by
  rw [wf_tup', hk]
  dsimp only
  rw [decide_eq_true hl, hp]
  rcases hs with h | h <;> simp [h]
theorem pk_deep {n : Nat} {k : Str} {d : PyData} (h : isDeep k = true) : partOk n (k, d) = wf n k d := by unfold partOk; rw [if_pos h]
theorem pk_plain {n : Nat} {k : Str} {d : PyData} (h : isDeep k = false) : partOk n (k, d) = plainOk k d := by unfold partOk; rw [if_neg (by rw [h]; exact Bool.false_ne_true)]
theorem pk_num {n : Nat} {d : PyData} : partOk n ("number", d) = wf n "number" d := pk_deep (by decide +kernel)
theorem pk_cond {n : Nat} {d : PyData} : partOk n ("condition", d) = wf n "condition" d := pk_deep (by decide +kernel)
theorem pk_con {n : Nat} {d : PyData} : partOk n ("contract", d) = wf n "contract" d := pk_deep (by decide +kernel)
theorem pl_word {k : Str} {d : PyData} (h1 : ¬ k = "amount") (h2 : ¬ k = "wait") (h3 : ¬ k = "times") (h4 : ¬ k = "gap") : plainOk k d = isW' d := by
  unfold plainOk
  rw [if_neg h1, if_neg h2, if_neg h3, if_neg h4]
theorem pk_side {n : Nat} {d : PyData} : partOk n ("side", d) = isW' d := (pk_plain (by decide +kernel)).trans (pl_word (by decide +kernel) (by decide +kernel) (by decide +kernel) (by decide +kernel))
theorem pk_good {n : Nat} {d : PyData} : partOk n ("good", d) = isW' d := (pk_plain (by decide +kernel)).trans (pl_word (by decide +kernel) (by decide +kernel) (by decide +kernel) (by decide +kernel))
theorem pk_name {n : Nat} {d : PyData} : partOk n ("name", d) = isW' d := (pk_plain (by decide +kernel)).trans (pl_word (by decide +kernel) (by decide +kernel) (by decide +kernel) (by decide +kernel))
theorem pk_amount {n : Nat} {d : PyData} : partOk n ("amount", d) = inB (-999999999999) 999999999999 d := by
  refine (pk_plain (by decide +kernel)).trans ?_
  unfold plainOk
  rw [if_pos rfl]
theorem pk_wait {n : Nat} {d : PyData} : partOk n ("wait", d) = inB 0 99 d := by
  refine (pk_plain (by decide +kernel)).trans ?_
  have e : ¬ ("wait" : Str) = "amount" := by decide +kernel
  unfold plainOk
  rw [if_neg e, if_pos rfl]
theorem pk_times {n : Nat} {d : PyData} : partOk n ("times", d) = inB 1 9 d := by
  refine (pk_plain (by decide +kernel)).trans ?_
  have e : ¬ ("times" : Str) = "amount" := by decide +kernel
  have e2 : ¬ ("times" : Str) = "wait" := by decide +kernel
  unfold plainOk
  rw [if_neg e, if_neg e2, if_pos rfl]
theorem pk_gap {n : Nat} {d : PyData} : partOk n ("gap", d) = inB 1 99 d := by
  refine (pk_plain (by decide +kernel)).trans ?_
  have e : ¬ ("gap" : Str) = "amount" := by decide +kernel
  have e2 : ¬ ("gap" : Str) = "wait" := by decide +kernel
  have e3 : ¬ ("gap" : Str) = "times" := by decide +kernel
  unfold plainOk
  rw [if_neg e, if_neg e2, if_neg e3, if_pos rfl]
theorem inB_of {lo hi i : Int} (h0 : lo ≤ i) (h1 : i ≤ hi) : inB lo hi (.int i) = true := by
  show (decide (lo ≤ i) && decide (i ≤ hi)) = true
  rw [decide_eq_true h0, decide_eq_true h1]
  rfl

theorem room65 {k : Nat} {A : Around} (r : Room k A) : A.units + 65 < cLine := by have := r.un; omega
/-- so many levels, of a kind -/
def spChk (K : PySem.W.Frag) (kind : Str) (N : Nat) : Sp := fun vs H Q _ => ∃ (v : V) (d : PyData) (dp : Int) (j : Nat), vs = [v, .int dp] ∧ dp + j = 14 ∧ j ≤ N ∧ (1 ≤ dp ∧ dp ≤ 13) ∧ Dp K H v d ∧ dOk d = true ∧ ∀ H', Same H H' → Q (.bl (wf (j - 1) kind d)) H'
theorem use_chk {K : PySem.W.Frag} {kind : Str} {N : Nat} (j : Nat) {v : V} {d : PyData} {dp : Int} {H : Hp} {Q : VK} {E : XK} (h0 : dp + j = 14) (hj : j ≤ N) (h1 : 1 ≤ dp ∧ dp ≤ 13) (h : Dp K H v d) (z : dOk d = true) (q : ∀ H', Same H H' → Q (.bl (wf (j - 1) kind d)) H') : spChk K kind N ([v, .int dp] ++ []) H Q E := ⟨v, d, dp, j, rfl, h0, hj, h1, h, z, q⟩
theorem none_chk {P : Program} {w : World} {K : PySem.W.Frag} {mg : Str → Option Value} {base : Heap} {kind : Str} {f : Addr} {fd : FuncData} {ps : List Str} : FnOk P w K mg base CX0 0 f fd ps (spChk K kind 0) := by
  have no : ∀ vs H Q E, ¬ spChk K kind 0 vs H Q E := fun vs H Q E h => by
    obtain ⟨v, d, dp, j, _, h0, hj, h1, _⟩ := h
    omega
  exact ⟨fun vs H Q E h => absurd h (no vs H Q E), fun A outer s H args us vs Q E _ _ _ _ h => absurd h (no vs H Q E)⟩
/-- is a text, this one -/
def isThe (x : Str) : PyData → Bool
  | .str w => decide (w = x)
  | _ => false
theorem eqv_the {d : PyData} {x : Str} (h : flatD d = true) : PyData.eqv d (.str x) = isThe x d := by
  cases d with
  | str w =>
    unfold PyData.eqv isThe
    by_cases e : w = x <;> simp [e]
  | list _ => cases h
  | tuple _ => cases h
  | dict _ => cases h
  | _ => rfl
theorem flat_shaped {d : PyData} (h : flatD d = true) (z : hOk d = true) : SeqAt.shaped d = true := by
  cases d with
  | str x =>
    unfold hOk at z
    simp [SeqAt.shaped, PyData.canLay0, PyData.depth, z]
  | list _ => cases h
  | tuple _ => cases h
  | dict _ => cases h
  | _ => simp [SeqAt.shaped, PyData.canLay0, PyData.depth]
theorem str_shaped {x : Str} (z : PyData.strOk x = true) : SeqAt.shaped (.str x) = true := by simp [SeqAt.shaped, PyData.canLay0, PyData.depth, z]
theorem flat_V {K : PySem.W.Frag} {H : Hp} {v : V} {d : PyData} (h : Dp K H v d) (f : flatD d = true) : flatV v = true := by
  cases h with
  | lst _ _ => cases f
  | tup _ _ => cases f
  | _ => rfl
/-- which of some words -/
theorem inV_strs {K : PySem.W.Frag} {H : Hp} {v : V} {d : PyData} (h : Dp K H v d) (f : flatD d = true) : ∀ ws : List Str, inV v (ws.map V.str) = ws.any fun x => isThe x d
  | [] => rfl
  | x :: ws => by
    have ih := inV_strs h f ws
    unfold inV at ih ⊢
    rw [List.map_cons, List.any_cons, List.any_cons, ih]
    congr 1
    cases h with
    | str w =>
      show (x == w) = decide (w = x)
      by_cases e : w = x
      · subst e; simp
      · rw [decide_eq_false e]
        simpa using fun z => e z.symm
    | lst _ _ => cases f
    | tup _ _ => cases f
    | _ => rfl
/-- told[0] == 'word' -/
theorem use_the {K : PySem.W.Frag} {H : Hp} {v : V} {d : PyData} {x : Str} {Q : VK} (h : Dp K H v d) (f : flatD d = true) (z : hOk d = true) (hx : PyData.strOk x = true) (q : Q (.bl (isThe x d)) H) : rEqD K v (.str x) H Q :=
  ⟨d, .str x, h, .str x, flat_shaped f z, str_shaped hx, by rw [eqv_the f]; exact q⟩
theorem kinds_num {w : Str} {ks : List Str} (h : kindsOf "number" w = some ks) : 1 ≤ ks.length := by
  have e1 : ¬ ("number" : Str) = "contract" := by decide +kernel
  have e2 : ¬ ("number" : Str) = "condition" := by decide +kernel
  unfold kindsOf at h
  rw [if_neg e1, if_neg e2] at h
  obtain ⟨p, hp, e⟩ := formOf_mem h
  have all : ∀ p ∈ numForms, 1 ≤ p.2.length := by decide +kernel
  rw [← e]
  exact all p hp
def opsL : List Str := ["plus", "minus", "times", "most", "least"]
theorem kinds_num_of (w : Str) : kindsOf "number" w = if w = "num" then some [("amount" : Str)] else if w = "read" then some [("name" : Str)] else if opsL.any (fun x => decide (w = x)) = true then some [("number" : Str), ("number" : Str)] else none := by
  have e1 : ¬ ("number" : Str) = "contract" := by decide +kernel
  have e2 : ¬ ("number" : Str) = "condition" := by decide +kernel
  unfold kindsOf
  rw [if_neg e1, if_neg e2]
  unfold numForms opsL
  simp only [formOf, List.any_cons, List.any_nil, Bool.or_false, Bool.or_eq_true, decide_eq_true_eq, eq_comm (a := w)]
  repeat' split
  all_goals first | rfl | simp_all
theorem the_is {x : Str} {d : PyData} (h : isThe x d = true) : d = .str x := by
  cases d with
  | str w => rw [of_decide_eq_true (show decide (w = x) = true from h)]
  | _ => cases h
theorem wf_len {m : Nat} {kind u : Str} {dr : List PyData} (h : ∀ ks, kindsOf kind u = some ks → ks.length ≠ dr.length) : wf (m + 1) kind (.tuple (.str u :: dr)) = false := by
  rw [wf_tup']
  cases hk : kindsOf kind u with
  | none => rfl
  | some ks =>
    dsimp only
    rw [decide_eq_false (h ks hk)]
    rfl
theorem wf_is {m : Nat} {kind u : Str} {dr : List PyData} {ks : List Str} {b : Bool} (hk : kindsOf kind u = some ks) (hl : ks.length = dr.length) (ht : twoSides ks = false) (hb : (List.zip ks dr).all (partOk m) = b) : wf (m + 1) kind (.tuple (.str u :: dr)) = b := by
  rw [wf_tup', hk]
  dsimp only
  rw [decide_eq_true hl, hb, ht]
  simp
theorem any_the {d : PyData} : ∀ {ws : List Str}, ws.any (fun x => isThe x d) = true → ∃ u, d = .str u ∧ ws.any (fun x => decide (u = x)) = true
  | [], h => by cases h
  | x :: ws, h => by
    rw [List.any_cons, Bool.or_eq_true] at h
    rcases h with h | h
    · exact ⟨x, the_is h, by simp⟩
    · obtain ⟨u, e, h⟩ := any_the h
      exact ⟨u, e, by rw [List.any_cons, h]; simp⟩
theorem amounts {d : PyData} : inB (1 - 10 ^ (12 : Int).toNat) (10 ^ (12 : Int).toNat - 1) d = inB (-999999999999) 999999999999 d := by
  have e1 : (1 - 10 ^ (12 : Int).toNat : Int) = -999999999999 := by decide
  have e2 : (10 ^ (12 : Int).toNat - 1 : Int) = 999999999999 := by decide
  rw [e1, e2]
theorem formOf_key {z : Str} {ks : List Str} : ∀ {L : Forms}, formOf L z = some ks → ∃ p ∈ L, p.1 = z ∧ p.2 = ks
  | [], h => by cases h
  | p :: s, h => by
    unfold formOf at h
    split at h
    · rename_i c
      exact ⟨p, List.mem_cons_self, c, Option.some.inj h⟩
    · obtain ⟨q, hq, e⟩ := formOf_key h
      exact ⟨q, List.mem_cons_of_mem _ hq, e⟩
theorem kinds_c {w : Str} {ks : List Str} (h : kindsOf "condition" w = some ks) : ∃ p ∈ condForms, p.1 = w ∧ p.2 = ks := by
  have e1 : ¬ ("condition" : Str) = "contract" := by decide +kernel
  unfold kindsOf at h
  rw [if_neg e1, if_pos rfl] at h
  exact formOf_key h
theorem kinds_cond {w : Str} {ks : List Str} (h : kindsOf "condition" w = some ks) : 1 ≤ ks.length := by
  obtain ⟨p, hp, _, e⟩ := kinds_c h
  have all : ∀ p ∈ condForms, 1 ≤ p.2.length := by decide +kernel
  rw [← e]
  exact all p hp
def asksL : List Str := ["not", "all", "any"]
theorem kinds_cond_of {w : Str} {ks : List Str} (h : kindsOf "condition" w = some ks) : w = "below" ∨ asksL.any (fun x => decide (w = x)) = true := by
  obtain ⟨p, hp, e, _⟩ := kinds_c h
  have all : ∀ p ∈ condForms, p.1 = "below" ∨ asksL.any (fun x => decide (p.1 = x)) = true := by decide +kernel
  rw [← e]
  exact all p hp
theorem asks_kinds {u : Str} (h : asksL.any (fun x => decide (u = x)) = true) : kindsOf "condition" u = some (List.replicate (if u = "not" then 1 else 2) ("condition" : Str)) := by
  unfold asksL at h
  simp only [List.any_cons, List.any_nil, Bool.or_false, Bool.or_eq_true, decide_eq_true_eq] at h
  rcases h with rfl | rfl | rfl <;> decide +kernel
theorem two_repl (k : Nat) : twoSides (List.replicate k ("condition" : Str)) = false := by
  unfold twoSides
  refine decide_eq_false fun e => ?_
  match k, e with
  | 0, e => cases e
  | 1, e => cases e
  | k + 2, e =>
    have z : ("condition" : Str) = "side" := (List.cons.inj e).1
    exact absurd z (by decide +kernel)
theorem zip_repl {m : Nat} : ∀ ds : List PyData, (List.zip (List.replicate ds.length ("condition" : Str)) ds).all (partOk m) = ds.all (wf m "condition")
  | [] => rfl
  | d :: ds => by
    rw [List.length_cons, List.replicate_succ, List.zip_cons_cons, List.all_cons, List.all_cons, zip_repl ds, pk_cond]
section
variable {P : Program} {w : World} {K : PySem.W.Frag} {mg : Str → Option Value} {base : Heap}
abbrev s__law_is_told : Stmt := topS 37
theorem sc__law_is_told : FnScope ["_law_told", "_law_deep"] ["_law_told", "_law_deep"] (defScope s__law_is_told) := ⟨rfl, rfl, rfl, by decide +kernel, rfl, by decide +kernel, by decide +kernel⟩
theorem h__law_is_told {N : Nat} {k : Nat} {f : Addr} {fd : FuncData} (O : Own K mg "_law_is_told" s__law_is_told ["_law_told", "_law_deep"] f fd)  {f__law_is_told : Addr} {fd__law_is_told : FuncData} (D__law_is_told : Has P w K mg base "_law_is_told" ["_law_told", "_law_deep"] k CX0 (spChk K "number" N) f__law_is_told fd__law_is_told) {f__law_is_word : Addr} {fd__law_is_word : FuncData} (D__law_is_word : Has P w K mg base "_law_is_word" ["_law_word_here"] k CX0 (spCWord K) f__law_is_word fd__law_is_word) {f__law_is_count : Addr} {fd__law_is_count : FuncData} (D__law_is_count : Has P w K mg base "_law_is_count" ["_law_number_here", "_law_least", "_law_most"] k CX0 (spCCount K) f__law_is_count fd__law_is_count) (m_len : mg "len" = none) (m_isinstance : mg "isinstance" = none) (m_tuple : mg "tuple" = none) : Has P w K mg base "_law_is_told" ["_law_told", "_law_deep"] (k + 1) CX0 (spChk K "number" (N + 1)) f fd := by
  refine O.has (O.F.ok sc__law_is_told (fun vs H Q E h => ?_) (fun cdv A outer s H vs Q E hr h => ?_))
  · obtain ⟨v, d, dp, j, rfl, _⟩ := h
    rfl
  obtain ⟨v, d, dp, j, rfl, h0, hj, h1, hd, hz, q⟩ := h
  obtain ⟨n, rfl⟩ : ∃ n, j = n + 1 := ⟨j - 1, by omega⟩
  refine ⟨_, (pss_cons (ps_if (PW.pt (pw_or (pt_not (pt_val (pe_callB call_isi (by rfl) m_isinstance (by decide +kernel) (pa_cons (pv 0) (pa_cons (pe_bltn (v := .ty "tuple") (by rfl) m_tuple (by decide +kernel) rfl) pa_nil))))) (pw_or (pt_cmpR op_lt (pe_callB call_len_seq (by rfl) m_len (by decide +kernel) (pa_cons (pv 0) pa_nil)) pe_int (nomark _)) (pw_or1 (pt_cmpR op_gt (pv 1) pe_int (nomark _)))))) (pss_one (ps_ret pe_bl)) pss_nil) (pss_cons (ps_if (pt_cmpR (op_eqD hr.units) (pe_ix ix_tup (pv 0) pe_int (fun _ _ => rfl)) pe_str (nomark _)) (pss_one (ps_ret (pe_and (pe_cmpR op_eq (pe_callB call_len_seq (by rfl) m_len (by decide +kernel) (pa_cons (pv 0) pa_nil)) pe_int (nomark _)) (pe_one (pe_call D__law_is_count.G hr (by rfl) D__law_is_count.g D__law_is_count.k D__law_is_count.b .nil pass0 (pa_cons (pe_ix ix_tup (pv 0) pe_int (fun _ _ => rfl)) (pa_cons (pe_op op_sub pe_int (pe_op op_pow pe_int pe_int)) (pa_cons (pe_op op_sub (pe_op op_pow pe_int pe_int) pe_int) pa_nil)))))))) pss_nil) (pss_cons (ps_if (pt_cmpR (op_eqD hr.units) (pe_ix ix_tup (pv 0) pe_int (fun _ _ => rfl)) pe_str (nomark _)) (pss_one (ps_ret (pe_and (pe_cmpR op_eq (pe_callB call_len_seq (by rfl) m_len (by decide +kernel) (pa_cons (pv 0) pa_nil)) pe_int (nomark _)) (pe_one (pe_call D__law_is_word.G hr (by rfl) D__law_is_word.g D__law_is_word.k D__law_is_word.b .nil pass0 (pa_cons (pe_ix ix_tup (pv 0) pe_int (fun _ _ => rfl)) pa_nil)))))) pss_nil) (pss_cons (ps_if (PW.pt (pw_or (pt_cmpR op_notIn_seq (pe_ix ix_tup (pv 0) pe_int (fun _ _ => rfl)) (pe_lst (pa_cons pe_str (pa_cons pe_str (pa_cons pe_str (pa_cons pe_str (pa_cons pe_str pa_nil)))))) (by rfl)) (pw_or1 (pt_cmpR op_ne (pe_callB call_len_seq (by rfl) m_len (by decide +kernel) (pa_cons (pv 0) pa_nil)) pe_int (nomark _))))) (pss_one (ps_ret pe_bl)) pss_nil) (pss_one (ps_ret (pe_and (pe_call D__law_is_told.G hr (by rfl) D__law_is_told.g D__law_is_told.k D__law_is_told.b .nil pass0 (pa_cons (pe_ix ix_tup (pv 0) pe_int (fun _ _ => rfl)) (pa_cons (pe_op op_add (pv 1) pe_int) pa_nil))) (pe_one (pe_call D__law_is_told.G hr (by rfl) D__law_is_told.g D__law_is_told.k D__law_is_told.b .nil pass0 (pa_cons (pe_ix ix_tup (pv 0) pe_int (fun _ _ => rfl)) (pa_cons (pe_op op_add (pv 1) pe_int) pa_nil))))))))))), ?_⟩
  have q : ∀ {b : Bool} {H'}, wf n "number" d = b → Same H H' → Q (.bl b) H' := fun e s => by
    have z := q _ s
    rw [show wf (n + 1 - 1) "number" d = _ from e] at z
    exact z
  walk_at "go"
  refine use_isTup hd ?_
  cases hd with
  | @tup a vs ds ha hall =>
    dsimp only [isTup]
    refine ⟨_, rfl, iteNT ?_⟩
    walk_at "go"
    refine ⟨_, _, rfl, .inr ha, ?_⟩
    have hl := DpAll.len hall
    walk_at "go"
    refine ifd (fun c => ?_) (fun c => ?_)
    · refine iteT ?_
      walk_at "go"
      refine q ?_ (Same.refl _)
      cases n with
      | zero => rfl
      | succ m =>
        cases ds with
        | nil => rfl
        | cons x r =>
          cases x with
          | str u =>
            rw [wf_tup']
            cases hk : kindsOf "number" u with
            | none => rfl
            | some ks =>
              have := kinds_num hk
              rw [List.length_cons] at hl
              dsimp only
              rw [decide_eq_false (show ¬ ks.length = r.length by omega)]
              rfl
          | _ => rfl
    walk_at "go"
    refine ifd (fun c2 => ?_) (fun c2 => ?_)
    · walk_at "go"
      have e : n = 0 := by omega
      subst e
      exact q rfl (Same.refl _)
    obtain ⟨m, rfl⟩ : ∃ m, n = m + 1 := ⟨n - 1, by omega⟩
    cases hall with
    | nil => exact absurd (by decide) c
    | @cons v0 vr d0 dr hd0 hr0 =>
      obtain ⟨hza, hzf⟩ := dok_parts hz
      have f0 := hzf d0 dr rfl
      rw [List.all_cons, Bool.and_eq_true] at hza
      walk_at "go"
      refine ⟨_, _, _, _, rfl, rfl, ha, at_any (j := 0) rfl rfl, ?_⟩
      walk_at "go"
      refine use_the hd0 f0 (dok_h hza.1) (by decide +kernel) ?_
      refine ⟨_, rfl, ifb (fun c3 => ?_) (fun c3 => ?_)⟩
      · have e0 := the_is c3
        subst e0
        walk_at "go"
        refine ⟨_, _, rfl, .inr ha, ?_⟩
        walk_at "go"
        refine ifd (fun c4 => ?_) (fun c4 => ?_)
        · cases hr0 with
          | nil => exact absurd c4 (by simp only [List.length_cons, List.length_nil]; omega)
          | @cons v1 vr1 d1 dr1 hd1 hr1 =>
            cases hr1 with
            | cons _ _ => exact absurd c4 (by simp only [List.length_cons]; omega)
            | nil =>
              walk_at "go"
              refine ⟨_, _, _, _, rfl, rfl, ha, at_any (j := 1) rfl rfl, ?_⟩
              walk_at "go"
              refine g_I ⟨by decide, by decide, by decide⟩ ?_
              walk_at "go"
              refine g_I ⟨by decide, by decide, by decide⟩ ?_
              walk_at "go"
              refine use_ccount hd1 ?_
              rw [amounts]
              refine q (wf_is (ks := ["amount"]) (by decide +kernel) rfl (by decide +kernel) ?_) (Same.refl _)
              simp only [List.zip_cons_cons, List.zip_nil_right, List.all_cons, List.all_nil, pk_amount, Bool.and_true]
        · refine q (wf_len fun ks hk => ?_) (Same.refl _)
          have : ks = [("amount" : Str)] := by
            have e : kindsOf "number" "num" = some [("amount" : Str)] := by decide +kernel
            rw [e] at hk
            exact (Option.some.inj hk).symm
          subst this
          have hl2 := DpAll.len hr0
          rw [List.length_cons] at c4
          intro z
          have z : 1 = dr.length := z
          omega
      walk_at "go"
      refine ⟨_, _, _, _, rfl, rfl, ha, at_any (j := 0) rfl rfl, ?_⟩
      walk_at "go"
      refine use_the hd0 f0 (dok_h hza.1) (by decide +kernel) ?_
      refine ⟨_, rfl, ifb (fun c5 => ?_) (fun c5 => ?_)⟩
      · have e0 := the_is c5
        subst e0
        walk_at "go"
        refine ⟨_, _, rfl, .inr ha, ?_⟩
        walk_at "go"
        refine ifd (fun c4 => ?_) (fun c4 => ?_)
        · cases hr0 with
          | nil => exact absurd c4 (by simp only [List.length_cons, List.length_nil]; omega)
          | @cons v1 vr1 d1 dr1 hd1 hr1 =>
            cases hr1 with
            | cons _ _ => exact absurd c4 (by simp only [List.length_cons]; omega)
            | nil =>
              simp only [List.all_cons, List.all_nil, Bool.and_true] at hza
              walk_at "go"
              refine ⟨_, _, _, _, rfl, rfl, ha, at_any (j := 1) rfl rfl, ?_⟩
              walk_at "go"
              refine use_cword hd1 hza.2 fun H' s' => ?_
              refine q (wf_is (ks := ["name"]) (by decide +kernel) rfl (by decide +kernel) ?_) s'
              simp only [List.zip_cons_cons, List.zip_nil_right, List.all_cons, List.all_nil, pk_name, Bool.and_true]
        · refine q (wf_len fun ks hk => ?_) (Same.refl _)
          have : ks = [("name" : Str)] := by
            have e : kindsOf "number" "read" = some [("name" : Str)] := by decide +kernel
            rw [e] at hk
            exact (Option.some.inj hk).symm
          subst this
          have hl2 := DpAll.len hr0
          rw [List.length_cons] at c4
          intro z
          have z : 1 = dr.length := z
          omega
      walk_at "go"
      refine ⟨_, _, _, _, rfl, rfl, ha, at_any (j := 0) rfl rfl, ?_⟩
      walk_at "go"
      refine ⟨by show 5 ≤ sizeLine; decide, fun p np => ?_⟩
      have sn := same_new (o := .lst (opsL.map V.str)) np
      refine ⟨p, opsL.map V.str, rfl, .inl (sql upd_same), flat_V hd0 f0, rfl, ?_⟩
      rw [if_pos rfl, inV_strs hd0 f0]
      show ∃ k, V.bl (!opsL.any fun x => isThe x d0) = .bl k ∧ _
      refine ⟨_, rfl, ifn (fun c6 => ?_) (fun c6 => ?_)⟩
      · obtain ⟨u, rfl, hu⟩ := any_the c6
        have hk : kindsOf "number" u = some [("number" : Str), ("number" : Str)] := by
          have n1 : ¬ u = "num" := fun e => by
            have z : decide (u = "num") = false := c3
            rw [e] at z
            simp at z
          have n2 : ¬ u = "read" := fun e => by
            have z : decide (u = "read") = false := c5
            rw [e] at z
            simp at z
          rw [kinds_num_of, if_neg n1, if_neg n2, if_pos hu]
        have ha2 := SqT.same sn ha
        walk_at "go"
        refine ⟨_, _, rfl, .inr ha2, ?_⟩
        walk_at "go"
        refine ifdn (fun c7 => ?_) (fun c7 => ?_)
        · have hr2 := DpAll.dm (.of sn) hr0
          cases hr0 with
          | nil => exact absurd c7 (by simp only [List.length_cons, List.length_nil]; omega)
          | @cons v1 vr1 d1 dr1 hd1 hr1 =>
            cases hr1 with
            | nil => exact absurd c7 (by simp only [List.length_cons, List.length_nil]; omega)
            | @cons v2 vr2 d2 dr2 hd2 hr2' =>
              cases hr2' with
              | cons _ _ => exact absurd c7 (by simp only [List.length_cons, List.length_nil]; omega)
              | nil =>
                simp only [List.all_cons, List.all_nil, Bool.and_true, Bool.and_eq_true] at hza
                walk_at "go"
                refine ⟨_, _, _, _, rfl, rfl, ha2, at_any (j := 1) rfl rfl, ?_⟩
                walk_at "go"
                refine use_chk (m + 1) (by omega) (by omega) (by omega) (Dp.dm (.of sn) hd1) hza.2.1 fun H1 e1 => ?_
                have w2 : wf (m + 1) "number" (.tuple [.str u, d1, d2]) = (wf m "number" d1 && wf m "number" d2) := by
                  refine wf_is hk rfl (by decide +kernel) ?_
                  simp only [List.zip_cons_cons, List.zip_nil_right, List.all_cons, List.all_nil, pk_num, Bool.and_true]
                refine ⟨_, rfl, ifb (fun c8 => ?_) (fun c8 => ?_)⟩
                · have c8 : wf m "number" d1 = true := c8
                  rw [c8, Bool.true_and] at w2
                  walk_at "go"
                  refine ⟨_, _, _, _, rfl, rfl, SqT.same e1 ha2, at_any (j := 2) rfl rfl, ?_⟩
                  walk_at "go"
                  refine use_chk (m + 1) (by omega) (by omega) (by omega) (Dp.dm (.of (sn.trans e1)) hd2) hza.2.2 fun H2 e2 => ?_
                  exact q w2 ((sn.trans e1).trans e2)
                · have c8 : wf m "number" d1 = false := c8
                  rw [c8, Bool.false_and] at w2
                  exact q w2 (sn.trans e1)
        · walk_at "go"
          refine q (wf_len fun ks hk2 => ?_) sn
          rw [hk] at hk2
          cases hk2
          have hl2 := DpAll.len hr0
          rw [List.length_cons] at c7
          intro z
          have z : 2 = dr.length := z
          omega
      · refine iteT ?_
        walk_at "go"
        refine q ?_ sn
        cases hd0 with
        | str u =>
          refine wf_len fun ks hk => ?_
          have n1 : ¬ u = "num" := fun e => by
            have z : decide (u = "num") = false := c3
            rw [e] at z
            simp at z
          have n2 : ¬ u = "read" := fun e => by
            have z : decide (u = "read") = false := c5
            rw [e] at z
            simp at z
          have n3 : ¬ opsL.any (fun x => decide (u = x)) = true := by
            have c6 : (opsL.any fun x => decide (u = x)) = false := c6
            rw [c6]
            exact Bool.false_ne_true
          rw [kinds_num_of, if_neg n1, if_neg n2, if_neg n3] at hk
          cases hk
        | _ => exact wf_not fun _ _ e => by cases e
  | _ =>
    dsimp only [isTup]
    refine ⟨_, rfl, iteNF (iteT ?_)⟩
    walk_at "go"
    exact q (wf_not fun _ _ e => by cases e) (Same.refl _)
abbrev s__law_is_asked : Stmt := topS 38
theorem sc__law_is_asked : FnScope ["_law_asked", "_law_deep", "_law_inner"] ["_law_asked", "_law_deep"] (defScope s__law_is_asked) := ⟨rfl, rfl, rfl, by decide +kernel, rfl, by decide +kernel, by decide +kernel⟩
theorem h__law_is_asked {N : Nat} {k : Nat} {f : Addr} {fd : FuncData} (O : Own K mg "_law_is_asked" s__law_is_asked ["_law_asked", "_law_deep"] f fd)  {f__law_is_asked : Addr} {fd__law_is_asked : FuncData} (D__law_is_asked : Has P w K mg base "_law_is_asked" ["_law_asked", "_law_deep"] k CX0 (spChk K "condition" N) f__law_is_asked fd__law_is_asked) {f__law_is_told : Addr} {fd__law_is_told : FuncData} (D__law_is_told : Has P w K mg base "_law_is_told" ["_law_told", "_law_deep"] k CX0 (spChk K "number" 13) f__law_is_told fd__law_is_told) (m_all : mg "all" = none) (m_len : mg "len" = none) (m_int : mg "int" = none) (m_isinstance : mg "isinstance" = none) (m_tuple : mg "tuple" = none) : Has P w K mg base "_law_is_asked" ["_law_asked", "_law_deep"] (k + 1) CX0 (spChk K "condition" (N + 1)) f fd := by
  refine O.has (O.F.ok sc__law_is_asked (fun vs H Q E h => ?_) (fun cdv A outer s H vs Q E hr h => ?_))
  · obtain ⟨v, d, dp, j, rfl, _⟩ := h
    rfl
  obtain ⟨v, d, dp, j, rfl, h0, hj, h1, hd, hz, q⟩ := h
  obtain ⟨n, rfl⟩ : ∃ n, j = n + 1 := ⟨j - 1, by omega⟩
  refine ⟨_, (pss_cons (ps_if (PW.pt (pw_or (pt_not (pt_val (pe_callB call_isi (by rfl) m_isinstance (by decide +kernel) (pa_cons (pv 0) (pa_cons (pe_bltn (v := .ty "tuple") (by rfl) m_tuple (by decide +kernel) rfl) pa_nil))))) (pw_or (pt_cmpR op_lt (pe_callB call_len_seq (by rfl) m_len (by decide +kernel) (pa_cons (pv 0) pa_nil)) pe_int (nomark _)) (pw_or1 (pt_cmpR op_gt (pv 1) pe_int (nomark _)))))) (pss_one (ps_ret pe_bl)) pss_nil) (pss_cons (ps_if (pt_cmpR (op_eqD hr.units) (pe_ix ix_tup (pv 0) pe_int (fun _ _ => rfl)) pe_str (nomark _)) (pss_one (ps_ret (pe_and (pe_cmpR op_eq (pe_callB call_len_seq (by rfl) m_len (by decide +kernel) (pa_cons (pv 0) pa_nil)) pe_int (nomark _)) (pe_and (pe_call D__law_is_told.G hr (by rfl) D__law_is_told.g D__law_is_told.k D__law_is_told.b .nil pass0 (pa_cons (pe_ix ix_tup (pv 0) pe_int (fun _ _ => rfl)) (pa_cons (pe_op op_add (pv 1) pe_int) pa_nil))) (pe_one (pe_call D__law_is_told.G hr (by rfl) D__law_is_told.g D__law_is_told.k D__law_is_told.b .nil pass0 (pa_cons (pe_ix ix_tup (pv 0) pe_int (fun _ _ => rfl)) (pa_cons (pe_op op_add (pv 1) pe_int) pa_nil)))))))) pss_nil) (pss_cons (ps_if (PW.pt (pw_or (pt_cmpR op_notIn_seq (pe_ix ix_tup (pv 0) pe_int (fun _ _ => rfl)) (pe_lst (pa_cons pe_str (pa_cons pe_str (pa_cons pe_str pa_nil)))) (by rfl)) (pw_or1 (pt_cmpR op_ne (pe_callB call_len_seq (by rfl) m_len (by decide +kernel) (pa_cons (pv 0) pa_nil)) (pe_op op_sub pe_int (pe_callTy call_int1 (by rfl) m_int (by decide +kernel) (pa_cons (pe_cmpR (op_eqD hr.units) (pe_ix ix_tup (pv 0) pe_int (fun _ _ => rfl)) pe_str (nomark _)) pa_nil))) (nomark _))))) (pss_one (ps_ret pe_bl)) pss_nil) (pss_one (ps_ret (pe_callB (cr_all rfl) (by rfl) m_all (by decide +kernel) (pa_cons (pe_lc (own := [("_law_inner", 2)]) (g := gName 2) rfl sc__law_is_asked.nd (pi_tup (pe_slice sl_tup (pv 0) (po_some pe_int) po_none)) (blkOk_by (own := [("_law_inner", 2)]) (N := ["_law_asked", "_law_deep", "_law_inner"]) (sc := defScope s__law_is_asked) (by decide +kernel)) (fun _ _ _ _ _ => pg_name (i := 2) sc__law_is_asked.nd rfl (.inl rfl)) (fun _ _ _ _ _ => pts_nil) (fun _ _ _ _ _ => (pe_call D__law_is_asked.G hr (by rfl) D__law_is_asked.g D__law_is_asked.k D__law_is_asked.b .nil pass0 (pa_cons (pv 2) (pa_cons (pe_op op_add (pv 1) pe_int) pa_nil))))) pa_nil))))))), ?_⟩
  have q : ∀ {b : Bool} {H'}, wf n "condition" d = b → Same H H' → Q (.bl b) H' := fun e s => by
    have z := q _ s
    rw [show wf (n + 1 - 1) "condition" d = _ from e] at z
    exact z
  walk_at "go"
  refine use_isTup hd ?_
  cases hd with
  | @tup a vs ds ha hall =>
    dsimp only [isTup]
    refine ⟨_, rfl, iteNT ?_⟩
    walk_at "go"
    refine ⟨_, _, rfl, .inr ha, ?_⟩
    have hl := DpAll.len hall
    walk_at "go"
    refine ifd (fun c => ?_) (fun c => ?_)
    · refine iteT ?_
      walk_at "go"
      refine q ?_ (Same.refl _)
      cases n with
      | zero => rfl
      | succ m =>
        cases ds with
        | nil => rfl
        | cons x r =>
          cases x with
          | str u =>
            rw [wf_tup']
            cases hk : kindsOf "condition" u with
            | none => rfl
            | some ks =>
              have := kinds_cond hk
              rw [List.length_cons] at hl
              dsimp only
              rw [decide_eq_false (show ¬ ks.length = r.length by omega)]
              rfl
          | _ => rfl
    walk_at "go"
    refine ifd (fun c2 => ?_) (fun c2 => ?_)
    · walk_at "go"
      have e : n = 0 := by omega
      subst e
      exact q rfl (Same.refl _)
    obtain ⟨m, rfl⟩ : ∃ m, n = m + 1 := ⟨n - 1, by omega⟩
    cases hall with
    | nil => exact absurd (by decide) c
    | @cons v0 vr d0 dr hd0 hr0 =>
      obtain ⟨hza, hzf⟩ := dok_parts hz
      have f0 := hzf d0 dr rfl
      rw [List.all_cons, Bool.and_eq_true] at hza
      walk_at "go"
      refine ⟨_, _, _, _, rfl, rfl, ha, at_any (j := 0) rfl rfl, ?_⟩
      walk_at "go"
      refine use_the hd0 f0 (dok_h hza.1) (by decide +kernel) ?_
      refine ⟨_, rfl, ifb (fun c3 => ?_) (fun c3 => ?_)⟩
      · have e0 := the_is c3
        subst e0
        walk_at "go"
        refine ⟨_, _, rfl, .inr ha, ?_⟩
        walk_at "go"
        refine ifd (fun c4 => ?_) (fun c4 => ?_)
        · cases hr0 with
          | nil => exact absurd c4 (by simp only [List.length_cons, List.length_nil]; omega)
          | @cons v1 vr1 d1 dr1 hd1 hr1 =>
            cases hr1 with
            | nil => exact absurd c4 (by simp only [List.length_cons, List.length_nil]; omega)
            | @cons v2 vr2 d2 dr2 hd2 hr2' =>
              cases hr2' with
              | cons _ _ => exact absurd c4 (by simp only [List.length_cons, List.length_nil]; omega)
              | nil =>
                simp only [List.all_cons, List.all_nil, Bool.and_true, Bool.and_eq_true] at hza
                walk_at "go"
                refine ⟨_, _, _, _, rfl, rfl, ha, at_any (j := 1) rfl rfl, ?_⟩
                walk_at "go"
                refine use_chk (m + 1) (by omega) (by omega) (by omega) hd1 hza.2.1 fun H1 e1 => ?_
                have w2 : wf (m + 1) "condition" (.tuple [.str "below", d1, d2]) = (wf m "number" d1 && wf m "number" d2) := by
                  refine wf_is (ks := ["number", "number"]) (by decide +kernel) rfl (by decide +kernel) ?_
                  simp only [List.zip_cons_cons, List.zip_nil_right, List.all_cons, List.all_nil, pk_num, Bool.and_true]
                refine ⟨_, rfl, ifb (fun c8 => ?_) (fun c8 => ?_)⟩
                · have c8 : wf m "number" d1 = true := c8
                  rw [c8, Bool.true_and] at w2
                  walk_at "go"
                  refine ⟨_, _, _, _, rfl, rfl, SqT.same e1 ha, at_any (j := 2) rfl rfl, ?_⟩
                  walk_at "go"
                  refine use_chk (m + 1) (by omega) (by omega) (by omega) (Dp.dm (.of e1) hd2) hza.2.2 fun H2 e2 => ?_
                  exact q w2 (e1.trans e2)
                · have c8 : wf m "number" d1 = false := c8
                  rw [c8, Bool.false_and] at w2
                  exact q w2 e1
        · refine q (wf_len fun ks hk => ?_) (Same.refl _)
          have e : kindsOf "condition" "below" = some [("number" : Str), ("number" : Str)] := by decide +kernel
          rw [e] at hk
          cases hk
          have hl2 := DpAll.len hr0
          rw [List.length_cons] at c4
          intro z
          have z : 2 = dr.length := z
          omega
      walk_at "go"
      refine ⟨_, _, _, _, rfl, rfl, ha, at_any (j := 0) rfl rfl, ?_⟩
      walk_at "go"
      refine ⟨by show 3 ≤ sizeLine; decide, fun p np => ?_⟩
      have sn := same_new (o := .lst (asksL.map V.str)) np
      refine ⟨p, asksL.map V.str, rfl, .inl (sql upd_same), flat_V hd0 f0, rfl, ?_⟩
      rw [if_pos rfl, inV_strs hd0 f0]
      show ∃ k, V.bl (!asksL.any fun x => isThe x d0) = .bl k ∧ _
      refine ⟨_, rfl, ifn (fun c6 => ?_) (fun c6 => ?_)⟩
      · obtain ⟨u, rfl, hu⟩ := any_the c6
        cases hd0
        have hk := asks_kinds hu
        have ha2 := SqT.same sn ha
        have hr2 := DpAll.dm (.of sn) hr0
        have hl2 := DpAll.len hr0
        show tTest _ _ (upd H p (.lst (asksL.map V.str))) _
        generalize upd H p (.lst (asksL.map V.str)) = H0 at sn ha2 hr2 ⊢
        walk_at "go"
        refine ⟨_, _, rfl, .inr ha2, ?_⟩
        walk_at "go"
        refine ⟨_, _, _, _, rfl, rfl, ha2, at_any (j := 0) rfl rfl, ?_⟩
        walk_at "go"
        refine use_the (.str u) rfl (dok_h hza.1) (by decide +kernel) ?_
        refine .inr ⟨_, rfl, ?_⟩
        walk_at "go"
        have hlen : ((List.length (V.str u :: vr) : Nat) : Int) = 3 - (if isThe "not" (.str u) = true then 1 else 0) ↔ dr.length = (if u = "not" then 1 else 2) := by
          rw [List.length_cons, hl2]
          by_cases c : u = "not"
          · rw [if_pos (show isThe "not" (.str u) = true from decide_eq_true c), if_pos c]
            omega
          · rw [if_neg (show ¬ isThe "not" (.str u) = true from fun z => c (of_decide_eq_true z)), if_neg c]
            omega
        refine ifdn (fun c7 => ?_) (fun c7 => ?_)
        · have e7 := hlen.mp c7
          rw [← e7] at hk
          have wd : wf (m + 1) "condition" (.tuple (.str u :: dr)) = dr.all (wf m "condition") := wf_is hk List.length_replicate (two_repl _) (zip_repl dr)
          walk_at "go"
          refine ⟨_, _, rfl, ha2, not_whole1 _ _, fun p9 np9 => ?_⟩
          rw [cut1]
          have s9 := same_new (o := .tup vr) np9
          have hq : SqT K (upd H0 p9 (.tup vr)) p9 vr := sqt upd_same
          have hr9 := DpAll.dm (.of s9) hr2
          generalize upd H0 p9 (.tup vr) = H9 at s9 hq hr9 ⊢
          have hall9 := hza.2
          refine ⟨_, rfl, ⟨_, hq⟩, fun D nD => lc_tup (xs := vr) (fun i H3 => H3 D = some (.lst (((dr.take i).map (wf m "condition")).map V.bl)) ∧ Same H9 H3) ⟨by rw [upd_same]; rfl, same_new nD⟩ (fun i H3 hi hW => SqT.same hW.2 hq) (fun i x H3 hx hW => ?_) (fun H3 hW => ?_)⟩
          · obtain ⟨hD, e3⟩ := hW
            have hi : i < dr.length := by have := (List.getElem?_eq_some_iff.mp hx).1; omega
            have hdi : dr[i]? = some dr[i] := List.getElem?_eq_getElem hi
            obtain ⟨x', hx', hDx⟩ := DpAll.at hr9 hdi
            have ex : x' = x := Option.some.inj (hx'.symm.trans hx)
            subst ex
            walk_at "go"
            refine use_chk (m + 1) (by omega) (by omega) (by omega) (Dp.dm (.of e3) hDx) (List.all_eq_true.mp hall9 _ (List.getElem_mem hi)) fun H4 e4 => ?_
            refine ⟨_, e4 _ _ hD, ?_, ?_, fun b o h => by rw [upd_ne (ne_of_none h nD)]; exact e4 _ _ (e3 _ _ h)⟩
            · rw [List.length_map, List.length_map, List.length_take]
              have z : (2 : Nat) < sizeLine := by decide
              have z2 : dr.length ≤ 2 := by rw [e7]; split <;> omega
              omega
            · rw [upd_same, List.take_succ_eq_append_getElem hi, List.map_append, List.map_append]
              rfl
          · obtain ⟨hD, e3⟩ := hW
            walk_at "go"
            refine ⟨D, (dr.take vr.length).map (wf m "condition"), rfl, sql hD, ?_⟩
            have e4 : dr.take vr.length = dr := List.take_of_length_le (by omega)
            rw [e4]
            refine q (wd.trans ?_) ((sn.trans s9).trans e3)
            simp [List.all_map]
        · walk_at "go"
          refine q (wf_len fun ks hk2 => ?_) sn
          rw [hk] at hk2
          cases hk2
          rw [List.length_replicate]
          exact fun z => c7 (hlen.mpr z.symm)
      · refine iteT ?_
        walk_at "go"
        refine q ?_ sn
        cases hd0 with
        | str u =>
          refine wf_len fun ks hk => ?_
          have n1 : ¬ u = "below" := fun e => by
            have z : decide (u = "below") = false := c3
            rw [e] at z
            simp at z
          have n3 : ¬ asksL.any (fun x => decide (u = x)) = true := by
            have c6 : (asksL.any fun x => decide (u = x)) = false := c6
            rw [c6]
            exact Bool.false_ne_true
          have z := kinds_cond_of hk
          rcases z with z | z
          · exact absurd z n1
          · exact absurd z n3
        | _ => exact wf_not fun _ _ e => by cases e
  | _ =>
    dsimp only [isTup]
    refine ⟨_, rfl, iteNF (iteT ?_)⟩
    walk_at "go"
    exact q (wf_not fun _ _ e => by cases e) (Same.refl _)
end

/-! ### contracts, read by the law -/
theorem wf_give {m : Nat} {d1 d2 d3 d4 : PyData} : wf (m + 1) "contract" (.tuple [.str "give", d1, d2, d3, d4]) = ((isW' d1 && (isW' d2 && (isW' d3 && wf m "number" d4))) && !sameSides [d1, d2, d3, d4]) := by
  have hk : kindsOf "contract" "give" = some [("side" : Str), ("side" : Str), ("good" : Str), ("number" : Str)] := by decide +kernel
  have ht : twoSides [("side" : Str), ("side" : Str), ("good" : Str), ("number" : Str)] = true := by decide +kernel
  rw [wf_tup', hk]
  dsimp only
  rw [ht]
  simp only [List.zip_cons_cons, List.zip_nil_right, List.all_cons, List.all_nil, pk_num, pk_con, pk_cond, pk_side, pk_good, pk_wait, pk_times, pk_gap, Bool.and_true, Bool.true_and, Bool.false_and, Bool.not_false, Bool.and_assoc, List.length_cons, List.length_nil, decide_true]
theorem wf_both {m : Nat} {d1 d2 : PyData} : wf (m + 1) "contract" (.tuple [.str "both", d1, d2]) = (wf m "contract" d1 && wf m "contract" d2) := by
  have hk : kindsOf "contract" "both" = some [("contract" : Str), ("contract" : Str)] := by decide +kernel
  have ht : twoSides [("contract" : Str), ("contract" : Str)] = false := by decide +kernel
  rw [wf_tup', hk]
  dsimp only
  rw [ht]
  simp only [List.zip_cons_cons, List.zip_nil_right, List.all_cons, List.all_nil, pk_num, pk_con, pk_cond, pk_side, pk_good, pk_wait, pk_times, pk_gap, Bool.and_true, Bool.true_and, Bool.false_and, Bool.not_false, Bool.and_assoc, List.length_cons, List.length_nil, decide_true]
theorem wf_turned {m : Nat} {d1 d2 d3 : PyData} : wf (m + 1) "contract" (.tuple [.str "turned", d1, d2, d3]) = ((isW' d1 && (isW' d2 && wf m "contract" d3)) && !sameSides [d1, d2, d3]) := by
  have hk : kindsOf "contract" "turned" = some [("side" : Str), ("side" : Str), ("contract" : Str)] := by decide +kernel
  have ht : twoSides [("side" : Str), ("side" : Str), ("contract" : Str)] = true := by decide +kernel
  rw [wf_tup', hk]
  dsimp only
  rw [ht]
  simp only [List.zip_cons_cons, List.zip_nil_right, List.all_cons, List.all_nil, pk_num, pk_con, pk_cond, pk_side, pk_good, pk_wait, pk_times, pk_gap, Bool.and_true, Bool.true_and, Bool.false_and, Bool.not_false, Bool.and_assoc, List.length_cons, List.length_nil, decide_true]
theorem wf_later {m : Nat} {d1 d2 : PyData} : wf (m + 1) "contract" (.tuple [.str "later", d1, d2]) = (inB 0 99 d1 && wf m "contract" d2) := by
  have hk : kindsOf "contract" "later" = some [("wait" : Str), ("contract" : Str)] := by decide +kernel
  have ht : twoSides [("wait" : Str), ("contract" : Str)] = false := by decide +kernel
  rw [wf_tup', hk]
  dsimp only
  rw [ht]
  simp only [List.zip_cons_cons, List.zip_nil_right, List.all_cons, List.all_nil, pk_num, pk_con, pk_cond, pk_side, pk_good, pk_wait, pk_times, pk_gap, Bool.and_true, Bool.true_and, Bool.false_and, Bool.not_false, Bool.and_assoc, List.length_cons, List.length_nil, decide_true]
theorem wf_often {m : Nat} {d1 d2 d3 : PyData} : wf (m + 1) "contract" (.tuple [.str "often", d1, d2, d3]) = (inB 1 9 d1 && (inB 1 99 d2 && wf m "contract" d3)) := by
  have hk : kindsOf "contract" "often" = some [("times" : Str), ("gap" : Str), ("contract" : Str)] := by decide +kernel
  have ht : twoSides [("times" : Str), ("gap" : Str), ("contract" : Str)] = false := by decide +kernel
  rw [wf_tup', hk]
  dsimp only
  rw [ht]
  simp only [List.zip_cons_cons, List.zip_nil_right, List.all_cons, List.all_nil, pk_num, pk_con, pk_cond, pk_side, pk_good, pk_wait, pk_times, pk_gap, Bool.and_true, Bool.true_and, Bool.false_and, Bool.not_false, Bool.and_assoc, List.length_cons, List.length_nil, decide_true]
theorem wf_if {m : Nat} {d1 d2 d3 : PyData} : wf (m + 1) "contract" (.tuple [.str "if", d1, d2, d3]) = (wf m "condition" d1 && (wf m "contract" d2 && wf m "contract" d3)) := by
  have hk : kindsOf "contract" "if" = some [("condition" : Str), ("contract" : Str), ("contract" : Str)] := by decide +kernel
  have ht : twoSides [("condition" : Str), ("contract" : Str), ("contract" : Str)] = false := by decide +kernel
  rw [wf_tup', hk]
  dsimp only
  rw [ht]
  simp only [List.zip_cons_cons, List.zip_nil_right, List.all_cons, List.all_nil, pk_num, pk_con, pk_cond, pk_side, pk_good, pk_wait, pk_times, pk_gap, Bool.and_true, Bool.true_and, Bool.false_and, Bool.not_false, Bool.and_assoc, List.length_cons, List.length_nil, decide_true]
theorem wf_when {m : Nat} {d1 d2 : PyData} : wf (m + 1) "contract" (.tuple [.str "when", d1, d2]) = (wf m "condition" d1 && wf m "contract" d2) := by
  have hk : kindsOf "contract" "when" = some [("condition" : Str), ("contract" : Str)] := by decide +kernel
  have ht : twoSides [("condition" : Str), ("contract" : Str)] = false := by decide +kernel
  rw [wf_tup', hk]
  dsimp only
  rw [ht]
  simp only [List.zip_cons_cons, List.zip_nil_right, List.all_cons, List.all_nil, pk_num, pk_con, pk_cond, pk_side, pk_good, pk_wait, pk_times, pk_gap, Bool.and_true, Bool.true_and, Bool.false_and, Bool.not_false, Bool.and_assoc, List.length_cons, List.length_nil, decide_true]
theorem wf_until {m : Nat} {d1 d2 : PyData} : wf (m + 1) "contract" (.tuple [.str "until", d1, d2]) = (wf m "condition" d1 && wf m "contract" d2) := by
  have hk : kindsOf "contract" "until" = some [("condition" : Str), ("contract" : Str)] := by decide +kernel
  have ht : twoSides [("condition" : Str), ("contract" : Str)] = false := by decide +kernel
  rw [wf_tup', hk]
  dsimp only
  rw [ht]
  simp only [List.zip_cons_cons, List.zip_nil_right, List.all_cons, List.all_nil, pk_num, pk_con, pk_cond, pk_side, pk_good, pk_wait, pk_times, pk_gap, Bool.and_true, Bool.true_and, Bool.false_and, Bool.not_false, Bool.and_assoc, List.length_cons, List.length_nil, decide_true]
theorem dpall2 {K : PySem.W.Frag} {H : Hp} {vr : List V} {dr : List PyData} (h : DpAll K H vr dr) (hl : dr.length = 2) : ∃ v1 v2, ∃ d1 d2, vr = [v1, v2] ∧ dr = [d1, d2] ∧ Dp K H v1 d1 ∧ Dp K H v2 d2 := by
  cases h with
  | nil => cases hl
  | cons h1 r1 =>
  cases r1 with
  | nil => cases hl
  | cons h2 r2 =>
  cases r2 with
  | cons _ _ => cases hl
  | nil =>
  exact ⟨_, _, _, _, rfl, rfl, h1, h2⟩
theorem dpall3 {K : PySem.W.Frag} {H : Hp} {vr : List V} {dr : List PyData} (h : DpAll K H vr dr) (hl : dr.length = 3) : ∃ v1 v2 v3, ∃ d1 d2 d3, vr = [v1, v2, v3] ∧ dr = [d1, d2, d3] ∧ Dp K H v1 d1 ∧ Dp K H v2 d2 ∧ Dp K H v3 d3 := by
  cases h with
  | nil => cases hl
  | cons h1 r1 =>
  cases r1 with
  | nil => cases hl
  | cons h2 r2 =>
  cases r2 with
  | nil => cases hl
  | cons h3 r3 =>
  cases r3 with
  | cons _ _ => cases hl
  | nil =>
  exact ⟨_, _, _, _, _, _, rfl, rfl, h1, h2, h3⟩
theorem dpall4 {K : PySem.W.Frag} {H : Hp} {vr : List V} {dr : List PyData} (h : DpAll K H vr dr) (hl : dr.length = 4) : ∃ v1 v2 v3 v4, ∃ d1 d2 d3 d4, vr = [v1, v2, v3, v4] ∧ dr = [d1, d2, d3, d4] ∧ Dp K H v1 d1 ∧ Dp K H v2 d2 ∧ Dp K H v3 d3 ∧ Dp K H v4 d4 := by
  cases h with
  | nil => cases hl
  | cons h1 r1 =>
  cases r1 with
  | nil => cases hl
  | cons h2 r2 =>
  cases r2 with
  | nil => cases hl
  | cons h3 r3 =>
  cases r3 with
  | nil => cases hl
  | cons h4 r4 =>
  cases r4 with
  | cons _ _ => cases hl
  | nil =>
  exact ⟨_, _, _, _, _, _, _, _, rfl, rfl, h1, h2, h3, h4⟩
theorem isW_str {d : PyData} (h : isW' d = true) : ∃ x, d = .str x := by
  cases d with
  | str x => exact ⟨x, rfl⟩
  | _ => cases h
def sizesL : List (Str × Nat) := [(("give" : Str), 5), (("both" : Str), 3), (("turned" : Str), 4), (("later" : Str), 3), (("often" : Str), 4), (("if" : Str), 4), (("when" : Str), 3), (("until" : Str), 3)]
def sizesD : List PyData := sizesL.map fun p => .tuple [.str p.1, .int p.2]
theorem sizes_eqv {x : Str} {k n : Int} {d : PyData} (f : flatD d = true) : PyData.eqv (.tuple [.str x, .int k]) (.tuple [d, .int n]) = (isThe x d && decide (k = n)) := by
  have e : PyData.eqv (.str x) d = isThe x d := by
    cases d with
    | str w =>
      unfold PyData.eqv isThe
      by_cases e : x = w
      · subst e; simp
      · dsimp only
        rw [decide_eq_false (fun z : w = x => e z.symm)]
        simpa using e
    | list _ => cases f
    | tuple _ => cases f
    | dict _ => cases f
    | _ => rfl
  have e2 : PyData.eqv (.int k) (.int n) = decide (k = n) := by
    unfold PyData.eqv
    by_cases c : k = n <;> simp [c]
  show PyData.eqvAll [.str x, .int k] [d, .int n] = _
  simp only [PyData.eqvAll, e, e2, Bool.and_true]
theorem sizes_any {d : PyData} {n : Nat} (f : flatD d = true) : ∀ L : List (Str × Nat), ((L.map fun p => PyData.tuple [.str p.1, .int p.2]).any fun z => PyData.eqv z (.tuple [d, .int n])) = L.any fun p => isThe p.1 d && decide (p.2 = n)
  | [] => rfl
  | p :: L => by
    rw [List.map_cons, List.any_cons, List.any_cons, sizes_any f L, sizes_eqv f]
    congr 2
    by_cases c : p.2 = n
    · simp [c]
    · rw [decide_eq_false c]
      exact decide_eq_false (fun z => c (by omega))
theorem sizes_is {d : PyData} {n : Nat} : ∀ {L : List (Str × Nat)}, (L.any fun p => isThe p.1 d && decide (p.2 = n)) = true → ∃ p ∈ L, d = .str p.1 ∧ p.2 = n
  | [], h => by cases h
  | p :: L, h => by
    rw [List.any_cons, Bool.or_eq_true, Bool.and_eq_true] at h
    rcases h with h | h
    · exact ⟨p, List.mem_cons_self, the_is h.1, of_decide_eq_true h.2⟩
    · obtain ⟨q, hq, e⟩ := sizes_is h
      exact ⟨q, List.mem_cons_of_mem _ hq, e⟩
theorem pair_shaped {d : PyData} {n : Int} (f : flatD d = true) (z : hOk d = true) : SeqAt.shaped (.tuple [d, .int n]) = true := by
  cases d with
  | str x =>
    unfold hOk at z
    simp [SeqAt.shaped, PyData.canLay0, PyData.canLayAll0, PyData.depth, PyData.depthAll, z]
  | list _ => cases f
  | tuple _ => cases f
  | dict _ => cases f
  | _ => simp [SeqAt.shaped, PyData.canLay0, PyData.canLayAll0, PyData.depth, PyData.depthAll]
theorem kinds_k {w : Str} {ks : List Str} (h : kindsOf "contract" w = some ks) : w = "none" ∨ ∃ p ∈ sizesL, p.1 = w ∧ p.2 = ks.length + 1 := by
  unfold kindsOf at h
  rw [if_pos rfl] at h
  obtain ⟨p, hp, e1, e2⟩ := formOf_key h
  have all : ∀ p ∈ ctrForms, p.1 = "none" ∨ ∃ q ∈ sizesL, q.1 = p.1 ∧ q.2 = p.2.length + 1 := by decide +kernel
  rw [← e1, ← e2]
  exact all p hp
theorem sizes_cases {p : Str × Nat} (h : p ∈ sizesL) : p = (("give" : Str), 5) ∨ p = (("both" : Str), 3) ∨ p = (("turned" : Str), 4) ∨ p = (("later" : Str), 3) ∨ p = (("often" : Str), 4) ∨ p = (("if" : Str), 4) ∨ p = (("when" : Str), 3) ∨ p = (("until" : Str), 3) := by
  unfold sizesL at h
  simpa using h
section
variable {P : Program} {w : World} {K : PySem.W.Frag} {mg : Str → Option Value} {base : Heap}
abbrev s__law_is_contract : Stmt := topS 39
theorem sc__law_is_contract : FnScope ["_law_contract", "_law_deep", "_law_word_here", "_law_sizes"] ["_law_contract", "_law_deep"] (defScope s__law_is_contract) := ⟨rfl, rfl, rfl, by decide +kernel, rfl, by decide +kernel, by decide +kernel⟩
theorem h__law_is_contract {N : Nat} {k : Nat} {f : Addr} {fd : FuncData} (O : Own K mg "_law_is_contract" s__law_is_contract ["_law_contract", "_law_deep"] f fd)  {f__law_is_contract : Addr} {fd__law_is_contract : FuncData} (D__law_is_contract : Has P w K mg base "_law_is_contract" ["_law_contract", "_law_deep"] k CX0 (spChk K "contract" N) f__law_is_contract fd__law_is_contract) {f__law_is_asked : Addr} {fd__law_is_asked : FuncData} (D__law_is_asked : Has P w K mg base "_law_is_asked" ["_law_asked", "_law_deep"] k CX0 (spChk K "condition" 13) f__law_is_asked fd__law_is_asked) {f__law_is_count : Addr} {fd__law_is_count : FuncData} (D__law_is_count : Has P w K mg base "_law_is_count" ["_law_number_here", "_law_least", "_law_most"] k CX0 (spCCount K) f__law_is_count fd__law_is_count) {f__law_is_told : Addr} {fd__law_is_told : FuncData} (D__law_is_told : Has P w K mg base "_law_is_told" ["_law_told", "_law_deep"] k CX0 (spChk K "number" 13) f__law_is_told fd__law_is_told) {f__law_is_word : Addr} {fd__law_is_word : FuncData} (D__law_is_word : Has P w K mg base "_law_is_word" ["_law_word_here"] k CX0 (spCWord K) f__law_is_word fd__law_is_word) (m_len : mg "len" = none) (m_isinstance : mg "isinstance" = none) (m_tuple : mg "tuple" = none) : Has P w K mg base "_law_is_contract" ["_law_contract", "_law_deep"] (k + 1) CX0 (spChk K "contract" (N + 1)) f fd := by
  refine O.has (O.F.ok sc__law_is_contract (fun vs H Q E h => ?_) (fun cdv A outer s H vs Q E hr h => ?_))
  · obtain ⟨v, d, dp, j, rfl, _⟩ := h
    rfl
  obtain ⟨v, d, dp, j, rfl, h0, hj, h1, hd, hz, q⟩ := h
  obtain ⟨n, rfl⟩ : ∃ n, j = n + 1 := ⟨j - 1, by omega⟩
  refine ⟨_, (pss_cons (ps_if (PW.pt (pw_or (pt_not (pt_val (pe_callB call_isi (by rfl) m_isinstance (by decide +kernel) (pa_cons (pv 0) (pa_cons (pe_bltn (v := .ty "tuple") (by rfl) m_tuple (by decide +kernel) rfl) pa_nil))))) (pw_or (pt_cmpR op_eq (pe_callB call_len_seq (by rfl) m_len (by decide +kernel) (pa_cons (pv 0) pa_nil)) pe_int (nomark _)) (pw_or1 (pt_cmpR op_gt (pv 1) pe_int (nomark _)))))) (pss_one (ps_ret pe_bl)) pss_nil) (pss_cons (ps_set (i := 2) sc__law_is_contract.nd rfl (.inl rfl) (pe_ix ix_tup (pv 0) pe_int (fun _ _ => rfl))) (pss_cons (ps_if (pt_cmpR (op_eqD hr.units) (pv 2) pe_str (nomark _)) (pss_one (ps_ret (pe_cmpR op_eq (pe_callB call_len_seq (by rfl) m_len (by decide +kernel) (pa_cons (pv 0) pa_nil)) pe_int (nomark _)))) pss_nil) (pss_cons (ps_set (i := 3) sc__law_is_contract.nd rfl (.inl rfl) (pe_lst (pa_cons (pe_tup (pa_cons pe_str (pa_cons pe_int pa_nil))) (pa_cons (pe_tup (pa_cons pe_str (pa_cons pe_int pa_nil))) (pa_cons (pe_tup (pa_cons pe_str (pa_cons pe_int pa_nil))) (pa_cons (pe_tup (pa_cons pe_str (pa_cons pe_int pa_nil))) (pa_cons (pe_tup (pa_cons pe_str (pa_cons pe_int pa_nil))) (pa_cons (pe_tup (pa_cons pe_str (pa_cons pe_int pa_nil))) (pa_cons (pe_tup (pa_cons pe_str (pa_cons pe_int pa_nil))) (pa_cons (pe_tup (pa_cons pe_str (pa_cons pe_int pa_nil))) pa_nil)))))))))) (pss_cons (ps_if (pt_cmpR (op_notInD (room65 hr)) (pe_tup (pa_cons (pv 2) (pa_cons (pe_callB call_len_seq (by rfl) m_len (by decide +kernel) (pa_cons (pv 0) pa_nil)) pa_nil))) (pv 3) (by rfl)) (pss_one (ps_ret pe_bl)) pss_nil) (pss_cons (ps_if (PW.pt (pw_or (pt_cmpR op_eq (pv 2) pe_str (nomark _)) (pw_or1 (pt_cmpR op_eq (pv 2) pe_str (nomark _))))) (pss_one (ps_if (PW.pt (pw_or (pt_not (pt_val (pe_call D__law_is_word.G hr (by rfl) D__law_is_word.g D__law_is_word.k D__law_is_word.b .nil pass0 (pa_cons (pe_ix ix_tup (pv 0) pe_int (fun _ _ => rfl)) pa_nil)))) (pw_or (pt_not (pt_val (pe_call D__law_is_word.G hr (by rfl) D__law_is_word.g D__law_is_word.k D__law_is_word.b .nil pass0 (pa_cons (pe_ix ix_tup (pv 0) pe_int (fun _ _ => rfl)) pa_nil)))) (pw_or1 (pt_cmpR op_eq (pe_ix ix_tup (pv 0) pe_int (fun _ _ => rfl)) (pe_ix ix_tup (pv 0) pe_int (fun _ _ => rfl)) (nomark _)))))) (pss_one (ps_ret pe_bl)) pss_nil)) pss_nil) (pss_cons (ps_if (pt_cmpR op_eq (pv 2) pe_str (nomark _)) (pss_one (ps_ret (pe_and (pe_call D__law_is_word.G hr (by rfl) D__law_is_word.g D__law_is_word.k D__law_is_word.b .nil pass0 (pa_cons (pe_ix ix_tup (pv 0) pe_int (fun _ _ => rfl)) pa_nil)) (pe_one (pe_call D__law_is_told.G hr (by rfl) D__law_is_told.g D__law_is_told.k D__law_is_told.b .nil pass0 (pa_cons (pe_ix ix_tup (pv 0) pe_int (fun _ _ => rfl)) (pa_cons (pe_op op_add (pv 1) pe_int) pa_nil))))))) pss_nil) (pss_cons (ps_if (PW.pt (pw_and (pt_cmpR op_eq (pv 2) pe_str (nomark _)) (pw_and1 (pt_not (pt_val (pe_call D__law_is_count.G hr (by rfl) D__law_is_count.g D__law_is_count.k D__law_is_count.b .nil pass0 (pa_cons (pe_ix ix_tup (pv 0) pe_int (fun _ _ => rfl)) (pa_cons pe_int (pa_cons pe_int pa_nil))))))))) (pss_one (ps_ret pe_bl)) pss_nil) (pss_cons (ps_if (PW.pt (pw_and (pt_cmpR op_eq (pv 2) pe_str (nomark _)) (pw_and1 (pt_not (PW.pt (pw_and (pt_val (pe_call D__law_is_count.G hr (by rfl) D__law_is_count.g D__law_is_count.k D__law_is_count.b .nil pass0 (pa_cons (pe_ix ix_tup (pv 0) pe_int (fun _ _ => rfl)) (pa_cons pe_int (pa_cons pe_int pa_nil))))) (pw_and1 (pt_val (pe_call D__law_is_count.G hr (by rfl) D__law_is_count.g D__law_is_count.k D__law_is_count.b .nil pass0 (pa_cons (pe_ix ix_tup (pv 0) pe_int (fun _ _ => rfl)) (pa_cons pe_int (pa_cons pe_int pa_nil)))))))))))) (pss_one (ps_ret pe_bl)) pss_nil) (pss_cons (ps_if (PW.pt (pw_and (pt_cmpR op_in_seq (pv 2) (pe_lst (pa_cons pe_str (pa_cons pe_str (pa_cons pe_str pa_nil)))) (by rfl)) (pw_and1 (pt_not (pt_val (pe_call D__law_is_asked.G hr (by rfl) D__law_is_asked.g D__law_is_asked.k D__law_is_asked.b .nil pass0 (pa_cons (pe_ix ix_tup (pv 0) pe_int (fun _ _ => rfl)) (pa_cons (pe_op op_add (pv 1) pe_int) pa_nil)))))))) (pss_one (ps_ret pe_bl)) pss_nil) (pss_cons (ps_if (PW.pt (pw_or (pt_cmpR op_eq (pv 2) pe_str (nomark _)) (pw_or1 (pt_cmpR op_eq (pv 2) pe_str (nomark _))))) (pss_one (ps_if (pt_not (pt_val (pe_call D__law_is_contract.G hr (by rfl) D__law_is_contract.g D__law_is_contract.k D__law_is_contract.b .nil pass0 (pa_cons (pe_ix ix_tup (pv 0) (pe_op op_sub (pe_callB call_len_seq (by rfl) m_len (by decide +kernel) (pa_cons (pv 0) pa_nil)) pe_int) (fun _ _ => rfl)) (pa_cons (pe_op op_add (pv 1) pe_int) pa_nil))))) (pss_one (ps_ret pe_bl)) pss_nil)) pss_nil) (pss_one (ps_ret (pe_call D__law_is_contract.G hr (by rfl) D__law_is_contract.g D__law_is_contract.k D__law_is_contract.b .nil pass0 (pa_cons (pe_ix ix_tup (pv 0) (pe_op op_sub (pe_callB call_len_seq (by rfl) m_len (by decide +kernel) (pa_cons (pv 0) pa_nil)) pe_int) (fun _ _ => rfl)) (pa_cons (pe_op op_add (pv 1) pe_int) pa_nil)))))))))))))))), ?_⟩
  have q : ∀ {b : Bool} {H'}, wf n "contract" d = b → Same H H' → Q (.bl b) H' := fun e s => by
    have z := q _ s
    rw [show wf (n + 1 - 1) "contract" d = _ from e] at z
    exact z
  walk_at "go"
  refine use_isTup hd ?_
  cases hd with
  | @tup a vs ds ha hall =>
    dsimp only [isTup]
    refine ⟨_, rfl, iteNT ?_⟩
    walk_at "go"
    refine ⟨_, _, rfl, .inr ha, ?_⟩
    have hl := DpAll.len hall
    walk_at "go"
    refine ifd (fun c => ?_) (fun c => ?_)
    · refine iteT ?_
      walk_at "go"
      refine q ?_ (Same.refl _)
      cases ds with
      | nil => cases n <;> rfl
      | cons _ _ => rw [List.length_cons] at hl; omega
    walk_at "go"
    refine ifd (fun c2 => ?_) (fun c2 => ?_)
    · walk_at "go"
      have e : n = 0 := by omega
      subst e
      exact q rfl (Same.refl _)
    obtain ⟨m, rfl⟩ : ∃ m, n = m + 1 := ⟨n - 1, by omega⟩
    cases hall with
    | nil => exact absurd (by decide) c
    | @cons v0 vr d0 dr hd0 hr0 =>
      obtain ⟨hza, hzf⟩ := dok_parts hz
      have f0 := hzf d0 dr rfl
      rw [List.all_cons, Bool.and_eq_true] at hza
      walk_at "go"
      refine ⟨_, _, _, _, rfl, rfl, ha, at_any (j := 0) rfl rfl, ?_⟩
      walk_at "go"
      refine use_the hd0 f0 (dok_h hza.1) (by decide +kernel) ?_
      refine ⟨_, rfl, ifb (fun c3 => ?_) (fun c3 => ?_)⟩
      · have e0 := the_is c3
        subst e0
        walk_at "go"
        refine ⟨_, _, rfl, .inr ha, ?_⟩
        walk_at "go"
        have hk : kindsOf "contract" "none" = some [] := by decide +kernel
        by_cases c4 : (((v0 :: vr).length : Nat) : Int) = 1
        · rw [decide_eq_true c4]
          have e : dr = [] := by
            rw [List.length_cons] at c4
            exact List.length_eq_zero_iff.mp (by have := DpAll.len hr0; omega)
          subst e
          exact q (wf_is hk rfl (by decide +kernel) rfl) (Same.refl _)
        · rw [decide_eq_false c4]
          refine q (wf_len fun ks hk2 => ?_) (Same.refl _)
          rw [hk] at hk2
          cases hk2
          rw [List.length_cons] at c4
          intro z
          have z : 0 = dr.length := z
          have := DpAll.len hr0
          omega
      with_reducible refine g_next ?_
      with_reducible refine g_seq ?_
      with_reducible refine g_asg ?_
      refine (evd_lst (Γ := fun _ => none) (K := K) (ds := sizesD) (by walk_at "ev") (by decide)) _ _ _ (fun _ _ h => by cases h) fun vz H9 s9 dz => ?_
      have ha9 := SqT.same s9 ha
      have hr9 := DpAll.dm (.of s9) hr0
      have hd9 := Dp.dm (.of s9) hd0
      walk_at "go"
      refine ⟨_, _, rfl, .inr ha9, ?_⟩
      walk_at "go"
      refine ⟨by show 2 ≤ sizeLine; decide, fun pp npp => ?_⟩
      have sp := same_new (o := .tup [v0, .int (((v0 :: vr).length : Nat) : Int)]) npp
      walk_at "go"
      refine ⟨.tuple [d0, .int (((v0 :: vr).length : Nat) : Int)], sizesD, .tup (sqt upd_same) (.cons (Dp.dm (.of sp) hd9) (.cons (.int _) .nil)), Dp.dm (.of sp) dz, pair_shaped f0 (dok_h hza.1), by decide +kernel, ?_⟩
      have ey := sizes_any (n := (v0 :: vr).length) f0 sizesL
      rw [show (sizesD.any fun z => PyData.eqv z (.tuple [d0, .int (((v0 :: vr).length : Nat) : Int)])) = _ from ey]
      replace ha9 := SqT.same sp ha9
      replace hr9 := DpAll.dm (.of sp) hr9
      replace s9 := s9.trans sp
      clear dz hd9 ey
      show ∃ k, _ ∧ if k = true then _ else _
      generalize upd H9 pp (.tup [v0, .int (((v0 :: vr).length : Nat) : Int)]) = H9 at ha9 hr9 s9 ⊢
      have hl2 := DpAll.len hr0
      have hzr := hza.2
      refine ⟨_, rfl, ifn (fun c6 => ?_) (fun c6 => ?_)⟩
      rotate_left
      · walk_at "go"
        refine q ?_ s9
        cases hd0 with
        | str u =>
          refine wf_len fun ks hk => ?_
          rcases kinds_k hk with e | ⟨p, hp, e1, e2⟩
          · have c3 : decide (u = "none") = false := c3
            rw [e] at c3
            simp at c3
          · intro z
            have : (sizesL.any fun p => isThe p.1 (.str u) && decide (p.2 = (V.str u :: vr).length)) = true := by
              rw [List.any_eq_true]
              refine ⟨p, hp, ?_⟩
              rw [Bool.and_eq_true]
              refine ⟨decide_eq_true e1.symm, decide_eq_true ?_⟩
              rw [List.length_cons, e2, hl2, z]
            rw [this] at c6
            cases c6
        | _ => exact wf_not fun _ _ e => by cases e
      obtain ⟨p, hp, rfl, e2⟩ := sizes_is c6
      have hn : p.2 = dr.length + 1 := by rw [e2, List.length_cons, hl2]
      cases hd0
      clear c6 e2 hr0 ha
      rcases sizes_cases hp with rfl | rfl | rfl | rfl | rfl | rfl | rfl | rfl
      all_goals dsimp only at hn
      · obtain ⟨v1, v2, v3, v4, d1, d2, d3, d4, rfl, rfl, hd1, hd2, hd3, hd4⟩ := dpall4 hr9 (by omega)
        simp only [List.all_cons, List.all_nil, Bool.and_true, Bool.and_eq_true] at hzr
        have W := wf_give (m := m) (d1 := d1) (d2 := d2) (d3 := d3) (d4 := d4)
        walk_at "go"
        refine ifd (fun _ => ?_) (fun c => absurd rfl c)
        walk_at "go"
        refine ⟨_, _, _, _, rfl, rfl, ha9, at_any (j := 1) rfl rfl, ?_⟩
        walk_at "go"
        refine use_cword hd1 hzr.1 fun Ha ea => ?_
        have haA := SqT.same ea ha9
        refine ⟨_, rfl, ifn (fun w1 => ?_) (fun w1 => ?_)⟩
        rotate_left
        · refine iteT ?_
          walk_at "go"
          exact q (by rw [W]; simp [w1]) (s9.trans ea)
        walk_at "go"
        refine ⟨_, _, _, _, rfl, rfl, haA, at_any (j := 2) rfl rfl, ?_⟩
        walk_at "go"
        refine use_cword (Dp.dm (.of ea) hd2) hzr.2.1 fun Hb eb => ?_
        have haB := SqT.same eb haA
        refine ⟨_, rfl, ifn (fun w2 => ?_) (fun w2 => ?_)⟩
        rotate_left
        · refine iteT ?_
          walk_at "go"
          exact q (by rw [W]; simp [w1, w2]) ((s9.trans ea).trans eb)
        obtain ⟨x1, rfl⟩ := isW_str w1
        obtain ⟨x2, rfl⟩ := isW_str w2
        cases hd1
        cases hd2
        walk_at "go"
        refine ⟨_, _, _, _, rfl, rfl, haB, at_any (j := 1) rfl rfl, ?_⟩
        walk_at "go"
        refine ⟨_, _, _, _, rfl, rfl, haB, at_any (j := 2) rfl rfl, ?_⟩
        walk_at "go"
        refine ifd (fun w3 => ?_) (fun w3 => ?_)
        · subst w3
          walk_at "go"
          exact q (by rw [W]; simp [sameSides]) ((s9.trans ea).trans eb)
        have W3 : sameSides (.str x1 :: .str x2 :: [d3, d4]) = false := decide_eq_false w3
        rw [W3] at W
        clear W3
        have EB := (s9.trans ea).trans eb
        walk_at "go"
        refine ifd (fun _ => ?_) (fun c => absurd rfl c)
        walk_at "go"
        refine ⟨_, _, _, _, rfl, rfl, haB, at_any (j := 3) rfl rfl, ?_⟩
        walk_at "go"
        refine use_cword (Dp.dm (.of (ea.trans eb)) hd3) hzr.2.2.1 fun Hc ec => ?_
        refine ⟨_, rfl, ifb (fun w4 => ?_) (fun w4 => ?_)⟩
        · walk_at "go"
          refine ⟨_, _, _, _, rfl, rfl, (SqT.same ec haB), at_any (j := 4) rfl rfl, ?_⟩
          walk_at "go"
          refine use_chk (m + 1) (by omega) (by omega) (by omega) (Dp.dm (.of ec) (Dp.dm (.of (ea.trans eb)) hd4)) hzr.2.2.2 fun Hd ed => ?_
          exact q (by rw [W]; simp [w1, w2, w4]) ((EB.trans ec).trans ed)
        · exact q (by rw [W]; simp [w1, w2, w4]) (EB.trans ec)
      · obtain ⟨v1, v2, d1, d2, rfl, rfl, hd1, hd2⟩ := dpall2 hr9 (by omega)
        simp only [List.all_cons, List.all_nil, Bool.and_true, Bool.and_eq_true] at hzr
        have W := wf_both (m := m) (d1 := d1) (d2 := d2)
        walk_at "go"
        refine ifd (fun c => absurd c (by decide +kernel)) (fun _ => ?_)
        walk_at "go"
        refine ifd (fun c => absurd c (by decide +kernel)) (fun _ => ?_)
        walk_at "go"
        refine ifd (fun c => absurd c (by decide +kernel)) (fun _ => ?_)
        walk_at "go"
        refine ifd (fun c => absurd c (by decide +kernel)) (fun _ => ?_)
        walk_at "go"
        refine ifd (fun c => absurd c (by decide +kernel)) (fun _ => ?_)
        walk_at "go"
        refine ⟨by show 3 ≤ sizeLine; decide, fun px npx => ?_⟩
        have sx := same_new (o := .lst [.str "if", .str "when", .str "until"]) npx
        refine ⟨px, _, rfl, .inl (sql upd_same), rfl, rfl, ?_⟩
        have hax := SqT.same sx ha9
        have EX := s9.trans sx
        show ∃ k, V.bl (inV (.str "both") [.str "if", .str "when", .str "until"]) = .bl k ∧ _
        generalize upd _ px (.lst [.str "if", .str "when", .str "until"]) = HX at sx hax EX ⊢
        rw [show inV (.str "both") [.str "if", .str "when", .str "until"] = false from by decide +kernel]
        walk_at "go"
        refine ifd (fun _ => ?_) (fun c => absurd rfl c)
        walk_at "go"
        refine ⟨_, _, rfl, .inr hax, ?_⟩
        walk_at "go"
        refine ⟨_, _, _, _, rfl, rfl, hax, at_any (j := 1) (by simp only [List.length_cons, List.length_nil]; omega) rfl, ?_⟩
        walk_at "go"
        refine use_chk (m + 1) (by omega) (by omega) (by omega) (Dp.dm (.of sx) hd1) hzr.1 fun HZ ez => ?_
        have haz := SqT.same ez hax
        have EZ := EX.trans ez
        refine ⟨_, rfl, ifn (fun w5 => ?_) (fun w5 => ?_)⟩
        rotate_left
        · have w5 : wf m "contract" d1 = false := w5
          walk_at "go"
          exact q (by rw [W]; simp [w5]) EZ
        have w5 : wf m "contract" d1 = true := w5
        walk_at "go"
        refine ⟨_, _, rfl, .inr haz, ?_⟩
        walk_at "go"
        refine ⟨_, _, _, _, rfl, rfl, haz, at_any (j := 2) (by simp only [List.length_cons, List.length_nil]; omega) rfl, ?_⟩
        walk_at "go"
        refine use_chk (m + 1) (by omega) (by omega) (by omega) (Dp.dm (.of ez) (Dp.dm (.of sx) hd2)) hzr.2 fun HW ew => ?_
        exact q (by rw [W]; simp [w5]) (EZ.trans ew)
      · obtain ⟨v1, v2, v3, d1, d2, d3, rfl, rfl, hd1, hd2, hd3⟩ := dpall3 hr9 (by omega)
        simp only [List.all_cons, List.all_nil, Bool.and_true, Bool.and_eq_true] at hzr
        have W := wf_turned (m := m) (d1 := d1) (d2 := d2) (d3 := d3)
        walk_at "go"
        refine ifd (fun c => absurd c (by decide +kernel)) (fun _ => ?_)
        walk_at "go"
        refine ifd (fun _ => ?_) (fun c => absurd rfl c)
        walk_at "go"
        refine ⟨_, _, _, _, rfl, rfl, ha9, at_any (j := 1) rfl rfl, ?_⟩
        walk_at "go"
        refine use_cword hd1 hzr.1 fun Ha ea => ?_
        have haA := SqT.same ea ha9
        refine ⟨_, rfl, ifn (fun w1 => ?_) (fun w1 => ?_)⟩
        rotate_left
        · refine iteT ?_
          walk_at "go"
          exact q (by rw [W]; simp [w1]) (s9.trans ea)
        walk_at "go"
        refine ⟨_, _, _, _, rfl, rfl, haA, at_any (j := 2) rfl rfl, ?_⟩
        walk_at "go"
        refine use_cword (Dp.dm (.of ea) hd2) hzr.2.1 fun Hb eb => ?_
        have haB := SqT.same eb haA
        refine ⟨_, rfl, ifn (fun w2 => ?_) (fun w2 => ?_)⟩
        rotate_left
        · refine iteT ?_
          walk_at "go"
          exact q (by rw [W]; simp [w1, w2]) ((s9.trans ea).trans eb)
        obtain ⟨x1, rfl⟩ := isW_str w1
        obtain ⟨x2, rfl⟩ := isW_str w2
        cases hd1
        cases hd2
        walk_at "go"
        refine ⟨_, _, _, _, rfl, rfl, haB, at_any (j := 1) rfl rfl, ?_⟩
        walk_at "go"
        refine ⟨_, _, _, _, rfl, rfl, haB, at_any (j := 2) rfl rfl, ?_⟩
        walk_at "go"
        refine ifd (fun w3 => ?_) (fun w3 => ?_)
        · subst w3
          walk_at "go"
          exact q (by rw [W]; simp [sameSides]) ((s9.trans ea).trans eb)
        have W3 : sameSides (.str x1 :: .str x2 :: [d3]) = false := decide_eq_false w3
        rw [W3] at W
        clear W3
        have EB := (s9.trans ea).trans eb
        walk_at "go"
        refine ifd (fun c => absurd c (by decide +kernel)) (fun _ => ?_)
        walk_at "go"
        refine ifd (fun c => absurd c (by decide +kernel)) (fun _ => ?_)
        walk_at "go"
        refine ifd (fun c => absurd c (by decide +kernel)) (fun _ => ?_)
        walk_at "go"
        refine ⟨by show 3 ≤ sizeLine; decide, fun px npx => ?_⟩
        have sx := same_new (o := .lst [.str "if", .str "when", .str "until"]) npx
        refine ⟨px, _, rfl, .inl (sql upd_same), rfl, rfl, ?_⟩
        have hax := SqT.same sx haB
        have EX := EB.trans sx
        show ∃ k, V.bl (inV (.str "turned") [.str "if", .str "when", .str "until"]) = .bl k ∧ _
        generalize upd _ px (.lst [.str "if", .str "when", .str "until"]) = HX at sx hax EX ⊢
        rw [show inV (.str "turned") [.str "if", .str "when", .str "until"] = false from by decide +kernel]
        walk_at "go"
        refine ifd (fun c => absurd c (by decide +kernel)) (fun _ => ?_)
        walk_at "go"
        refine ifd (fun c => absurd c (by decide +kernel)) (fun _ => ?_)
        walk_at "go"
        refine ⟨_, _, rfl, .inr hax, ?_⟩
        walk_at "go"
        refine ⟨_, _, _, _, rfl, rfl, hax, at_any (j := 3) (by simp only [List.length_cons, List.length_nil]; omega) rfl, ?_⟩
        walk_at "go"
        refine use_chk (m + 1) (by omega) (by omega) (by omega) (Dp.dm (.of sx) (Dp.dm (.of (ea.trans eb)) hd3)) hzr.2.2 fun HW ew => ?_
        exact q (by rw [W]; simp [w1, w2]) (EX.trans ew)
      · obtain ⟨v1, v2, d1, d2, rfl, rfl, hd1, hd2⟩ := dpall2 hr9 (by omega)
        simp only [List.all_cons, List.all_nil, Bool.and_true, Bool.and_eq_true] at hzr
        have W := wf_later (m := m) (d1 := d1) (d2 := d2)
        walk_at "go"
        refine ifd (fun c => absurd c (by decide +kernel)) (fun _ => ?_)
        walk_at "go"
        refine ifd (fun c => absurd c (by decide +kernel)) (fun _ => ?_)
        walk_at "go"
        refine ifd (fun c => absurd c (by decide +kernel)) (fun _ => ?_)
        walk_at "go"
        refine ifd (fun _ => ?_) (fun c => absurd rfl c)
        walk_at "go"
        refine ⟨_, _, _, _, rfl, rfl, ha9, at_any (j := 1) rfl rfl, ?_⟩
        walk_at "go"
        refine use_ccount hd1 ?_
        refine ⟨_, rfl, ifn (fun w1 => ?_) (fun w1 => ?_)⟩
        rotate_left
        · walk_at "go"
          exact q (by rw [W]; simp [w1]) s9
        walk_at "go"
        refine ifd (fun c => absurd c (by decide +kernel)) (fun _ => ?_)
        walk_at "go"
        refine ⟨by show 3 ≤ sizeLine; decide, fun px npx => ?_⟩
        have sx := same_new (o := .lst [.str "if", .str "when", .str "until"]) npx
        refine ⟨px, _, rfl, .inl (sql upd_same), rfl, rfl, ?_⟩
        have hax := SqT.same sx ha9
        have EX := s9.trans sx
        show ∃ k, V.bl (inV (.str "later") [.str "if", .str "when", .str "until"]) = .bl k ∧ _
        generalize upd _ px (.lst [.str "if", .str "when", .str "until"]) = HX at sx hax EX ⊢
        rw [show inV (.str "later") [.str "if", .str "when", .str "until"] = false from by decide +kernel]
        walk_at "go"
        refine ifd (fun c => absurd c (by decide +kernel)) (fun _ => ?_)
        walk_at "go"
        refine ifd (fun c => absurd c (by decide +kernel)) (fun _ => ?_)
        walk_at "go"
        refine ⟨_, _, rfl, .inr hax, ?_⟩
        walk_at "go"
        refine ⟨_, _, _, _, rfl, rfl, hax, at_any (j := 2) (by simp only [List.length_cons, List.length_nil]; omega) rfl, ?_⟩
        walk_at "go"
        refine use_chk (m + 1) (by omega) (by omega) (by omega) (Dp.dm (.of sx) hd2) hzr.2 fun HW ew => ?_
        exact q (by rw [W]; simp [w1]) (EX.trans ew)
      · obtain ⟨v1, v2, v3, d1, d2, d3, rfl, rfl, hd1, hd2, hd3⟩ := dpall3 hr9 (by omega)
        simp only [List.all_cons, List.all_nil, Bool.and_true, Bool.and_eq_true] at hzr
        have W := wf_often (m := m) (d1 := d1) (d2 := d2) (d3 := d3)
        walk_at "go"
        refine ifd (fun c => absurd c (by decide +kernel)) (fun _ => ?_)
        walk_at "go"
        refine ifd (fun c => absurd c (by decide +kernel)) (fun _ => ?_)
        walk_at "go"
        refine ifd (fun c => absurd c (by decide +kernel)) (fun _ => ?_)
        walk_at "go"
        refine ifd (fun c => absurd c (by decide +kernel)) (fun _ => ?_)
        walk_at "go"
        refine ifd (fun _ => ?_) (fun c => absurd rfl c)
        walk_at "go"
        refine ⟨_, _, _, _, rfl, rfl, ha9, at_any (j := 1) rfl rfl, ?_⟩
        walk_at "go"
        refine use_ccount hd1 ?_
        refine ⟨_, rfl, ?_⟩
        refine ifb (fun w1 => ?_) (fun w1 => ?_)
        rotate_left
        · refine iteNF ?_
          walk_at "go"
          exact q (by rw [W]; simp [w1]) s9
        walk_at "go"
        refine ⟨_, _, _, _, rfl, rfl, ha9, at_any (j := 2) rfl rfl, ?_⟩
        walk_at "go"
        refine use_ccount hd2 ?_
        refine ⟨_, rfl, ifn (fun w2 => ?_) (fun w2 => ?_)⟩
        rotate_left
        · walk_at "go"
          exact q (by rw [W]; simp [w1, w2]) s9
        walk_at "go"
        refine ⟨by show 3 ≤ sizeLine; decide, fun px npx => ?_⟩
        have sx := same_new (o := .lst [.str "if", .str "when", .str "until"]) npx
        refine ⟨px, _, rfl, .inl (sql upd_same), rfl, rfl, ?_⟩
        have hax := SqT.same sx ha9
        have EX := s9.trans sx
        show ∃ k, V.bl (inV (.str "often") [.str "if", .str "when", .str "until"]) = .bl k ∧ _
        generalize upd _ px (.lst [.str "if", .str "when", .str "until"]) = HX at sx hax EX ⊢
        rw [show inV (.str "often") [.str "if", .str "when", .str "until"] = false from by decide +kernel]
        walk_at "go"
        refine ifd (fun c => absurd c (by decide +kernel)) (fun _ => ?_)
        walk_at "go"
        refine ifd (fun c => absurd c (by decide +kernel)) (fun _ => ?_)
        walk_at "go"
        refine ⟨_, _, rfl, .inr hax, ?_⟩
        walk_at "go"
        refine ⟨_, _, _, _, rfl, rfl, hax, at_any (j := 3) (by simp only [List.length_cons, List.length_nil]; omega) rfl, ?_⟩
        walk_at "go"
        refine use_chk (m + 1) (by omega) (by omega) (by omega) (Dp.dm (.of sx) hd3) hzr.2.2 fun HW ew => ?_
        exact q (by rw [W]; simp [w1, w2]) (EX.trans ew)
      · obtain ⟨v1, v2, v3, d1, d2, d3, rfl, rfl, hd1, hd2, hd3⟩ := dpall3 hr9 (by omega)
        simp only [List.all_cons, List.all_nil, Bool.and_true, Bool.and_eq_true] at hzr
        have W := wf_if (m := m) (d1 := d1) (d2 := d2) (d3 := d3)
        walk_at "go"
        refine ifd (fun c => absurd c (by decide +kernel)) (fun _ => ?_)
        walk_at "go"
        refine ifd (fun c => absurd c (by decide +kernel)) (fun _ => ?_)
        walk_at "go"
        refine ifd (fun c => absurd c (by decide +kernel)) (fun _ => ?_)
        walk_at "go"
        refine ifd (fun c => absurd c (by decide +kernel)) (fun _ => ?_)
        walk_at "go"
        refine ifd (fun c => absurd c (by decide +kernel)) (fun _ => ?_)
        walk_at "go"
        refine ⟨by show 3 ≤ sizeLine; decide, fun px npx => ?_⟩
        have sx := same_new (o := .lst [.str "if", .str "when", .str "until"]) npx
        refine ⟨px, _, rfl, .inl (sql upd_same), rfl, rfl, ?_⟩
        have hax := SqT.same sx ha9
        have EX := s9.trans sx
        show ∃ k, V.bl (inV (.str "if") [.str "if", .str "when", .str "until"]) = .bl k ∧ _
        generalize upd _ px (.lst [.str "if", .str "when", .str "until"]) = HX at sx hax EX ⊢
        rw [show inV (.str "if") [.str "if", .str "when", .str "until"] = true from by decide +kernel]
        walk_at "go"
        refine ⟨_, _, _, _, rfl, rfl, hax, at_any (j := 1) rfl rfl, ?_⟩
        walk_at "go"
        refine use_chk (m + 1) (by omega) (by omega) (by omega) (Dp.dm (.of sx) hd1) hzr.1 fun HY ey => ?_
        have w1x : wf (m + 1 - 1) "condition" d1 = wf m "condition" d1 := rfl
        have hay := SqT.same ey hax
        have EY := EX.trans ey
        refine ⟨_, rfl, ifn (fun w1 => ?_) (fun w1 => ?_)⟩
        rotate_left
        · have w1 : wf m "condition" d1 = false := w1
          walk_at "go"
          exact q (by rw [W]; simp [w1]) EY
        have w1 : wf m "condition" d1 = true := w1
        walk_at "go"
        refine ifd (fun c => absurd c (by decide +kernel)) (fun _ => ?_)
        walk_at "go"
        refine ifd (fun _ => ?_) (fun c => absurd rfl c)
        walk_at "go"
        refine ⟨_, _, rfl, .inr hay, ?_⟩
        walk_at "go"
        refine ⟨_, _, _, _, rfl, rfl, hay, at_any (j := 2) (by simp only [List.length_cons, List.length_nil]; omega) rfl, ?_⟩
        walk_at "go"
        refine use_chk (m + 1) (by omega) (by omega) (by omega) (Dp.dm (.of (sx.trans ey)) hd2) hzr.2.1 fun HZ ez => ?_
        have haz := SqT.same ez hay
        have EZ := EY.trans ez
        refine ⟨_, rfl, ifn (fun w5 => ?_) (fun w5 => ?_)⟩
        rotate_left
        · have w5 : wf m "contract" d2 = false := w5
          walk_at "go"
          exact q (by rw [W]; simp [w1, w5]) EZ
        have w5 : wf m "contract" d2 = true := w5
        walk_at "go"
        refine ⟨_, _, rfl, .inr haz, ?_⟩
        walk_at "go"
        refine ⟨_, _, _, _, rfl, rfl, haz, at_any (j := 3) (by simp only [List.length_cons, List.length_nil]; omega) rfl, ?_⟩
        walk_at "go"
        refine use_chk (m + 1) (by omega) (by omega) (by omega) (Dp.dm (.of ez) (Dp.dm (.of (sx.trans ey)) hd3)) hzr.2.2 fun HW ew => ?_
        exact q (by rw [W]; simp [w1, w5]) (EZ.trans ew)
      · obtain ⟨v1, v2, d1, d2, rfl, rfl, hd1, hd2⟩ := dpall2 hr9 (by omega)
        simp only [List.all_cons, List.all_nil, Bool.and_true, Bool.and_eq_true] at hzr
        have W := wf_when (m := m) (d1 := d1) (d2 := d2)
        walk_at "go"
        refine ifd (fun c => absurd c (by decide +kernel)) (fun _ => ?_)
        walk_at "go"
        refine ifd (fun c => absurd c (by decide +kernel)) (fun _ => ?_)
        walk_at "go"
        refine ifd (fun c => absurd c (by decide +kernel)) (fun _ => ?_)
        walk_at "go"
        refine ifd (fun c => absurd c (by decide +kernel)) (fun _ => ?_)
        walk_at "go"
        refine ifd (fun c => absurd c (by decide +kernel)) (fun _ => ?_)
        walk_at "go"
        refine ⟨by show 3 ≤ sizeLine; decide, fun px npx => ?_⟩
        have sx := same_new (o := .lst [.str "if", .str "when", .str "until"]) npx
        refine ⟨px, _, rfl, .inl (sql upd_same), rfl, rfl, ?_⟩
        have hax := SqT.same sx ha9
        have EX := s9.trans sx
        show ∃ k, V.bl (inV (.str "when") [.str "if", .str "when", .str "until"]) = .bl k ∧ _
        generalize upd _ px (.lst [.str "if", .str "when", .str "until"]) = HX at sx hax EX ⊢
        rw [show inV (.str "when") [.str "if", .str "when", .str "until"] = true from by decide +kernel]
        walk_at "go"
        refine ⟨_, _, _, _, rfl, rfl, hax, at_any (j := 1) rfl rfl, ?_⟩
        walk_at "go"
        refine use_chk (m + 1) (by omega) (by omega) (by omega) (Dp.dm (.of sx) hd1) hzr.1 fun HY ey => ?_
        have w1x : wf (m + 1 - 1) "condition" d1 = wf m "condition" d1 := rfl
        have hay := SqT.same ey hax
        have EY := EX.trans ey
        refine ⟨_, rfl, ifn (fun w1 => ?_) (fun w1 => ?_)⟩
        rotate_left
        · have w1 : wf m "condition" d1 = false := w1
          walk_at "go"
          exact q (by rw [W]; simp [w1]) EY
        have w1 : wf m "condition" d1 = true := w1
        walk_at "go"
        refine ifd (fun c => absurd c (by decide +kernel)) (fun _ => ?_)
        walk_at "go"
        refine ifd (fun c => absurd c (by decide +kernel)) (fun _ => ?_)
        walk_at "go"
        refine ⟨_, _, rfl, .inr hay, ?_⟩
        walk_at "go"
        refine ⟨_, _, _, _, rfl, rfl, hay, at_any (j := 2) (by simp only [List.length_cons, List.length_nil]; omega) rfl, ?_⟩
        walk_at "go"
        refine use_chk (m + 1) (by omega) (by omega) (by omega) (Dp.dm (.of (sx.trans ey)) hd2) hzr.2 fun HW ew => ?_
        exact q (by rw [W]; simp [w1]) (EY.trans ew)
      · obtain ⟨v1, v2, d1, d2, rfl, rfl, hd1, hd2⟩ := dpall2 hr9 (by omega)
        simp only [List.all_cons, List.all_nil, Bool.and_true, Bool.and_eq_true] at hzr
        have W := wf_until (m := m) (d1 := d1) (d2 := d2)
        walk_at "go"
        refine ifd (fun c => absurd c (by decide +kernel)) (fun _ => ?_)
        walk_at "go"
        refine ifd (fun c => absurd c (by decide +kernel)) (fun _ => ?_)
        walk_at "go"
        refine ifd (fun c => absurd c (by decide +kernel)) (fun _ => ?_)
        walk_at "go"
        refine ifd (fun c => absurd c (by decide +kernel)) (fun _ => ?_)
        walk_at "go"
        refine ifd (fun c => absurd c (by decide +kernel)) (fun _ => ?_)
        walk_at "go"
        refine ⟨by show 3 ≤ sizeLine; decide, fun px npx => ?_⟩
        have sx := same_new (o := .lst [.str "if", .str "when", .str "until"]) npx
        refine ⟨px, _, rfl, .inl (sql upd_same), rfl, rfl, ?_⟩
        have hax := SqT.same sx ha9
        have EX := s9.trans sx
        show ∃ k, V.bl (inV (.str "until") [.str "if", .str "when", .str "until"]) = .bl k ∧ _
        generalize upd _ px (.lst [.str "if", .str "when", .str "until"]) = HX at sx hax EX ⊢
        rw [show inV (.str "until") [.str "if", .str "when", .str "until"] = true from by decide +kernel]
        walk_at "go"
        refine ⟨_, _, _, _, rfl, rfl, hax, at_any (j := 1) rfl rfl, ?_⟩
        walk_at "go"
        refine use_chk (m + 1) (by omega) (by omega) (by omega) (Dp.dm (.of sx) hd1) hzr.1 fun HY ey => ?_
        have w1x : wf (m + 1 - 1) "condition" d1 = wf m "condition" d1 := rfl
        have hay := SqT.same ey hax
        have EY := EX.trans ey
        refine ⟨_, rfl, ifn (fun w1 => ?_) (fun w1 => ?_)⟩
        rotate_left
        · have w1 : wf m "condition" d1 = false := w1
          walk_at "go"
          exact q (by rw [W]; simp [w1]) EY
        have w1 : wf m "condition" d1 = true := w1
        walk_at "go"
        refine ifd (fun c => absurd c (by decide +kernel)) (fun _ => ?_)
        walk_at "go"
        refine ifd (fun c => absurd c (by decide +kernel)) (fun _ => ?_)
        walk_at "go"
        refine ⟨_, _, rfl, .inr hay, ?_⟩
        walk_at "go"
        refine ⟨_, _, _, _, rfl, rfl, hay, at_any (j := 2) (by simp only [List.length_cons, List.length_nil]; omega) rfl, ?_⟩
        walk_at "go"
        refine use_chk (m + 1) (by omega) (by omega) (by omega) (Dp.dm (.of (sx.trans ey)) hd2) hzr.2 fun HW ew => ?_
        exact q (by rw [W]; simp [w1]) (EY.trans ew)
  | _ =>
    dsimp only [isTup]
    refine ⟨_, rfl, iteNF (iteT ?_)⟩
    walk_at "go"
    exact q (wf_not fun _ _ e => by cases e) (Same.refl _)
end

/-! ### the law -/
def spLaw (K : PySem.W.Frag) (PT : Addr) : Sp := fun vs H Q _ => ∃ (ns : List Int) (na : Addr), vs = [.ref na] ∧ SqL K H na (ns.map V.int) ∧ ns.length ≤ 63 ∧ GxR.TabG H PT ∧ ∀ H', Q (.bl true) H'
theorem pick4 {i : Int} (x y z u : V) (h0 : 0 ≤ i) (h1 : i < 4) : ∃ v, (v = x ∨ v = y ∨ v = z ∨ v = u) ∧ atI [x, y, z, u] i = some v := by
  have : i = 0 ∨ i = 1 ∨ i = 2 ∨ i = 3 := by omega
  rcases this with rfl | rfl | rfl | rfl
  · exact ⟨x, .inl rfl, at_any (j := 0) rfl rfl⟩
  · exact ⟨y, .inr (.inl rfl), at_any (j := 1) rfl rfl⟩
  · exact ⟨z, .inr (.inr (.inl rfl)), at_any (j := 2) rfl rfl⟩
  · exact ⟨u, .inr (.inr (.inr rfl)), at_any (j := 3) rfl rfl⟩
section
variable {P : Program} {w : World} {K : PySem.W.Frag} {mg : Str → Option Value} {base : Heap}
abbrev s_law : Stmt := topS 40
theorem sc_law : FnScope ["_law_script", "_law_s", "_law_contract", "_law_k", "_law_good", "e"] ["_law_script"] (defScope s_law) := ⟨rfl, rfl, rfl, by decide +kernel, rfl, by decide +kernel, by decide +kernel⟩
theorem h_law {PT : Addr} {k : Nat} {f : Addr} {fd : FuncData} (O : Own K mg "law" s_law ["_law_script"] f fd) {C_BookError : Addr} (X_BookError : ExcT K mg "BookError" C_BookError) {C_BadContract : Addr} (X_BadContract : ExcT K mg "BadContract" C_BadContract) {C_TooMany : Addr} (X_TooMany : ExcT K mg "TooMany" C_TooMany) {C_BadText : Addr} (X_BadText : ExcT K mg "BadText" C_BadText) {C_BadMarket : Addr} (X_BadMarket : ExcT K mg "BadMarket" C_BadMarket) (ER : Errs K C_BookError C_BadContract C_BadMarket C_BadText C_TooMany) {f_need_contract : Addr} {fd_need_contract : FuncData} (D_need_contract : Has P w K mg base "need_contract" ["contract"] k (L2.CX P w) (spNeed K C_BadContract PT) f_need_contract fd_need_contract) {f__law_is_contract : Addr} {fd__law_is_contract : FuncData} (D__law_is_contract : Has P w K mg base "_law_is_contract" ["_law_contract", "_law_deep"] k CX0 (spChk K "contract" 13) f__law_is_contract fd__law_is_contract) {f__law_taken : Addr} {fd__law_taken : FuncData} (D__law_taken : Has P w K mg base "_law_taken" ["_law_s", "_law_most"] k CX0 (spTaken K) f__law_taken fd__law_taken) {f__law_loose_round : Addr} {fd__law_loose_round : FuncData} (D__law_loose_round : Has P w K mg base "_law_loose_round" ["_law_s", "_law_way", "_law_inner", "_law_deep"] k CX0 (spRound K 5) f__law_loose_round fd__law_loose_round) {f__law_loose : Addr} {fd__law_loose : FuncData} (D__law_loose : Has P w K mg base "_law_loose" ["_law_s", "_law_deep"] k CX0 (spLoose K 5) f__law_loose fd__law_loose) {f__law_begun : Addr} {fd__law_begun : FuncData} (D__law_begun : Has P w K mg base "_law_begun" ["_law_script"] k CX0 (spBegun K) f__law_begun fd__law_begun) (m_isinstance : mg "isinstance" = none) (m_ValueError : mg "ValueError" = none) (m_range : mg "range" = none) : Has P w K mg base "law" ["_law_script"] (k + 1) CX0 (spLaw K PT) f fd := by
  refine O.has (O.F.ok sc_law (fun vs H Q E h => ?_) (fun cdv A outer s H vs Q E hr h => ?_))
  · obtain ⟨ns, na, rfl, _⟩ := h
    rfl
  obtain ⟨ns, na, rfl, hS, h63, ht, q⟩ := h
  refine ⟨_, (pss_cons (ps_set (i := 1) sc_law.nd rfl (.inl rfl) (pe_call D__law_begun.G hr (by rfl) D__law_begun.g D__law_begun.k D__law_begun.b .nil pass0 (pa_cons (pv 0) pa_nil))) (pss_cons (ps_dput (hu_of hr) (pv 1) pe_str pe_int (by rfl)) (pss_cons (ps_dput (hu_of hr) (pv 1) pe_str (pe_ix ix_list (pe_lst (pa_cons pe_int (pa_cons pe_int (pa_cons pe_int (pa_cons pe_int pa_nil))))) (pe_call D__law_taken.G hr (by rfl) D__law_taken.g D__law_taken.k D__law_taken.b .nil pass0 (pa_cons (pv 1) (pa_cons pe_int pa_nil))) (fun _ _ => rfl)) (by rfl)) (pss_cons (ps_set (i := 2) sc_law.nd rfl (.inl rfl) (pe_call D__law_loose.G hr (by rfl) D__law_loose.g D__law_loose.k D__law_loose.b .nil pass0 (pa_cons (pv 1) (pa_cons (pe_op op_add pe_int (pe_call D__law_taken.G hr (by rfl) D__law_taken.g D__law_taken.k D__law_taken.b .nil pass0 (pa_cons (pv 1) (pa_cons pe_int pa_nil)))) pa_nil)))) (pss_cons (ps_for PassesOwn.never rfl (pi_range1 (by rfl) m_range (pa_cons (pe_ix ix_list (pe_lst (pa_cons pe_int (pa_cons pe_int (pa_cons pe_int (pa_cons pe_int pa_nil))))) (pe_call D__law_taken.G hr (by rfl) D__law_taken.g D__law_taken.k D__law_taken.b .nil pass0 (pa_cons (pv 1) (pa_cons pe_int pa_nil))) (fun _ _ => rfl)) pa_nil)) (pg_name (i := 3) sc_law.nd rfl (.inl rfl)) (pss_one (ps_set (i := 2) sc_law.nd rfl (.inl rfl) (pe_call D__law_loose_round.G hr (by rfl) D__law_loose_round.g D__law_loose_round.k D__law_loose_round.b .nil pass0 (pa_cons (pv 1) (pa_cons (pe_op op_add pe_int (pe_call D__law_taken.G hr (by rfl) D__law_taken.g D__law_taken.k D__law_taken.b .nil pass0 (pa_cons (pv 1) (pa_cons pe_int pa_nil)))) (pa_cons (pv 2) (pa_cons pe_int pa_nil)))))))) (pss_cons (ps_set (i := 4) sc_law.nd rfl (.inl rfl) (pe_call D__law_is_contract.G hr (by rfl) D__law_is_contract.g D__law_is_contract.k D__law_is_contract.b .nil pass0 (pa_cons (pv 2) (pa_cons pe_int pa_nil)))) (pss_one (ps_try_as (i := 5) rfl rfl sc_law.nd rfl rfl ⟨rfl, by decide, .inl X_BookError.g⟩ takes0 (fun W pn xe tk _ => (pss_one (ps_ret (pe_and (pe_cmpR op_isN (pe_callS D_need_contract.G hr (by rfl) D_need_contract.g D_need_contract.k D_need_contract.b (fun σ => passAt tk σ) (pa_cons (pv 2) pa_nil)) pe_non (nomark _)) (pe_one (pv 4)))))) (fun a oe cls d pn hz hf => (pss_cons (ps_if (PW.pt (pw_or (pt_val (pv 4)) (pw_or (pt_val (pe_callB (call_isX hz hf) (by rfl) m_isinstance (by decide +kernel) (pa_cons (pv 5) (pa_cons (pe_glob (v := .ref C_BadMarket) (by rfl) X_BadMarket.g rfl) pa_nil)))) (pw_or (pt_val (pe_callB (call_isX hz hf) (by rfl) m_isinstance (by decide +kernel) (pa_cons (pv 5) (pa_cons (pe_glob (v := .ref C_BadText) (by rfl) X_BadText.g rfl) pa_nil)))) (pw_or1 (pt_val (pe_callB (call_isX hz hf) (by rfl) m_isinstance (by decide +kernel) (pa_cons (pv 5) (pa_cons (pe_glob (v := .ref C_TooMany) (by rfl) X_TooMany.g rfl) pa_nil))))))))) (pss_one (ps_ret pe_bl)) pss_nil) (pss_one (ps_ret (pe_and (pe_callB (call_isX hz hf) (by rfl) m_isinstance (by decide +kernel) (pa_cons (pv 5) (pa_cons (pe_glob (v := .ref C_BadContract) (by rfl) X_BadContract.g rfl) pa_nil))) (pe_one (pe_callB (call_isX hz hf) (by rfl) m_isinstance (by decide +kernel) (pa_cons (pv 5) (pa_cons (pe_bltn (v := .ty "ValueError") (by rfl) m_ValueError (by decide +kernel) rfl) pa_nil))))))))))))))))), ?_⟩
  walk_at "go"
  refine use_begun hS h63 fun c s nm H1 hod e1 ns1 L1 => ?_
  have ht1 := tab_same ht e1
  have ok := L1.ok
  walk_at "go"
  obtain ⟨n1, re1, mx1, hs1, g0, g1, g2, g3⟩ := L1.st
  refine g_put hs1 sd_lt put_talk ?_
  have ok1 : Cfg.Ok { c with ta := 0 } := ⟨ok.sz1, ok.sz8, ok.pl0, ok.plz, ok.tu0, ok.tuz, .inl rfl, ok.od⟩
  have L2 := L1.cfg (c' := { c with ta := 0 }) g0 g1 g2 g3 ok1
  have ht2 : GxR.TabG (upd H1 s (.dK (sd { c with ta := 0 } na nm n1 re1 mx1))) PT := L1.tab ht1 KB.upd
  have hod1 : ({ c with ta := 0 } : Cfg).od = none := hod
  generalize ({ c with ta := 0 } : Cfg) = c1 at ok1 L2 ht2 hod1 ⊢
  generalize upd H1 s (.dK (sd c1 na nm n1 re1 mx1)) = H2 at L2 ht2 ⊢
  walk_at "go"
  refine ⟨by show 4 ≤ sizeLine; decide, fun p3 n3 => ?_⟩
  have s3 := same_new (o := .lst [.int 0, .int 40, .int 15, .int 5]) n3
  have hp3 : (upd H2 p3 (.lst [.int 0, .int 40, .int 15, .int 5])) p3 = some (.lst [.int 0, .int 40, .int 15, .int 5]) := upd_same
  replace L2 := L2.same s3
  replace ht2 := tab_same ht2 s3
  generalize upd H2 p3 (.lst [.int 0, .int 40, .int 15, .int 5]) = H3 at hp3 L2 ht2 ⊢
  walk_at "go"
  refine use_taken L2 (by decide) (by decide) fun r H4 r0 r1 e4 L4 => ?_
  have ht4 := L2.tab ht2 e4
  obtain ⟨vo, hvo, hpo⟩ := pick4 (.int 0) (.int 40) (.int 15) (.int 5) r0 r1
  have ho : ∃ o : Int, vo = .int o ∧ 0 ≤ o ∧ o ≤ 1000 := by
    rcases hvo with rfl | rfl | rfl | rfl
    · exact ⟨0, rfl, by decide, by decide⟩
    · exact ⟨40, rfl, by decide, by decide⟩
    · exact ⟨15, rfl, by decide, by decide⟩
    · exact ⟨5, rfl, by decide, by decide⟩
  obtain ⟨o, rfl, o0, o1⟩ := ho
  refine ⟨_, _, _, _, rfl, rfl, sql (L2.keepl e4 hp3), hpo, ?_⟩
  walk_at "go"
  obtain ⟨n4, re4, mx4, hs4, k0, k1, k2, k3⟩ := L4.st
  refine g_put hs4 sd_lt (put_odd hod1) ?_
  have ok5 : Cfg.Ok { c1 with od := some o } := ⟨ok1.sz1, ok1.sz8, ok1.pl0, ok1.plz, ok1.tu0, ok1.tuz, ok1.ta, fun o' h => by cases h; exact ⟨o0, o1⟩⟩
  have L5 := L4.cfg (c' := { c1 with od := some o }) k0 k1 k2 k3 ok5
  have ht5 : GxR.TabG (upd H4 s (.dK (sd { c1 with od := some o } na nm n4 re4 mx4))) PT := L4.tab ht4 KB.upd
  have hoo : ({ c1 with od := some o } : Cfg).od = some o := rfl
  generalize ({ c1 with od := some o } : Cfg) = c2 at ok5 L5 ht5 hoo ⊢
  generalize upd H4 s (.dK (sd c2 na nm n4 re4 mx4)) = H5 at L5 ht5 ⊢
  walk_at "go"
  refine use_taken L5 (by decide) (by decide) fun r6 H6 a0 a1 e6 L6 => ?_
  have ht6 := L5.tab ht5 e6
  walk_at "go"
  refine use_loose L6 hoo (by omega) (by omega) fun v7 d7 H7 e7 L7 hd7 hz7 => ?_
  have ht7 := L6.tab ht6 e7
  walk_at "go"
  refine ⟨by show 4 ≤ sizeLine; decide, fun p8 n8 => ?_⟩
  have s8 := same_new (o := .lst [.int 0, .int 0, .int 8, .int 11]) n8
  have hp8 : (upd H7 p8 (.lst [.int 0, .int 0, .int 8, .int 11])) p8 = some (.lst [.int 0, .int 0, .int 8, .int 11]) := upd_same
  replace L7 := L7.same s8
  replace ht7 := tab_same ht7 s8
  replace hd7 := Dp.dm (.of s8) hd7
  show tCall _ _ _ _ _ (upd H7 p8 (.lst [.int 0, .int 0, .int 8, .int 11])) _
  generalize upd H7 p8 (.lst [.int 0, .int 0, .int 8, .int 11]) = H8 at hp8 L7 ht7 hd7 ⊢
  walk_at "go"
  refine use_taken L7 (by decide) (by decide) fun r9 H9 b0 b1 e9 L9 => ?_
  have ht9 := L7.tab ht7 e9
  have hd9 := Dp.dm (L7.dm e9) hd7
  obtain ⟨vm, hvm, hpm⟩ := pick4 (.int 0) (.int 0) (.int 8) (.int 11) b0 b1
  have hm : ∃ m : Int, vm = .int m ∧ 0 ≤ m ∧ m ≤ 1000 := by
    rcases hvm with rfl | rfl | rfl | rfl
    · exact ⟨0, rfl, by decide, by decide⟩
    · exact ⟨0, rfl, by decide, by decide⟩
    · exact ⟨8, rfl, by decide, by decide⟩
    · exact ⟨11, rfl, by decide, by decide⟩
  obtain ⟨m, rfl, m0, m1⟩ := hm
  refine ⟨_, _, _, _, rfl, rfl, sql (L7.keepl e9 hp8), hpm, ?_⟩
  walk_at "go"
  refine ⟨by omega, by omega, ?_⟩
  refine for_range (lo := 0) (n := m.toNat) (fun i σ Hx => ∃ vx dx y3, σ = [some (.ref na), some (.ref s), some vx, y3, none, none] ∧ LS K c2 ns [] s na nm Hx ∧ GxR.TabG Hx PT ∧ Dp K Hx vx dx ∧ dOk dx = true)
    ⟨_, _, _, rfl, L9, ht9, hd9, hz7⟩ (fun i σ Hx hi hW => ?_) (fun σ Hx hW => ?_)
  · obtain ⟨vx, dx, y3, rfl, Lx, htx, hdx, hzx⟩ := hW
    walk_at "go"
    refine use_taken Lx (by decide) (by decide) fun ry Hy c0 c1 ey Ly => ?_
    walk_at "go"
    refine use_round Ly hoo (by omega) (by omega) (by decide) (by decide) (by decide) (Dp.dm (Lx.dm ey) hdx) hzx fun vz dz Hz ez Lz hdz hzz => ?_
    walk_at "go"
    exact ⟨_, _, _, rfl, Lz, Ly.tab (Lx.tab htx ey) ez, hdz, hzz⟩
  obtain ⟨vx, dx, y3, rfl, Lx, htx, hdx, hzx⟩ := hW
  walk_at "go"
  refine use_chk 13 (by decide) (by decide) (by decide) hdx hzx fun Hy ey => ?_
  have hdy := Dp.dm (.of ey) hdx
  have hty := tab_same htx ey
  walk_at "go"
  refine g_callS ?_
  walk_at "go"
  refine use_need hdy (dok_sz hzx) hty (fun e H5 t5 => ?_) (fun e H5 t5 => ?_)
  · walk_at "go"
    refine ifd (fun _ => ?_) (fun c => absurd rfl c)
    walk_at "go"
    have z := q H5
    rw [show wf (13 - 1) "contract" dx = true from e]
    exact z
  · refine ⟨true, ER.exm, fun _ a na => ?_, fun z => Bool.noConfusion z⟩
    rw [show wf (13 - 1) "contract" dx = false from e]
    walk_at "go"
    refine use_isX ER.ec (fun _ h => h) ER.iM ?_
    walk_at "go"
    refine use_isX ER.ec (fun _ h => h) ER.iX ?_
    walk_at "go"
    refine use_isX ER.ec (fun _ h => h) ER.iT ?_
    walk_at "go"
    refine use_isX ER.ec (fun _ h => h) ER.iC ?_
    walk_at "go"
    refine use_isX ER.ec (fun _ h => h) ER.iV ?_
    walk_at "go"
    exact q H5
end

theorem all_mk {q : Program} {l : PySem.W.OpenLaw} {w : World} {K : PySem.W.Frag} {h : Heap} {mg : Str → Option Value} {fa : Addr} (X : K.In h) (G : h.Ns mainGlobals mg) (hfa : mg "law" = some (.ref fa)) (TO : TabsOf q K h)
    {f0 : Addr} {od0 an0 : Option Addr} {sl0 : Array (Option Value)} {oc0 kV0 dc0 pm0 ct0 : Value} {cd0 : Value}
    {f1 : Addr} {od1 an1 : Option Addr} {sl1 : Array (Option Value)} {oc1 kV1 dc1 pm1 ct1 : Value} {cd1 : Value}
    {f2 : Addr} {od2 an2 : Option Addr} {sl2 : Array (Option Value)} {oc2 kV2 dc2 pm2 ct2 : Value} {cd2 : Value}
    {f3 : Addr} {od3 an3 : Option Addr} {sl3 : Array (Option Value)} {oc3 kV3 dc3 pm3 ct3 : Value} {cd3 : Value}
    {f4 : Addr} {od4 an4 : Option Addr} {sl4 : Array (Option Value)} {oc4 kV4 dc4 pm4 ct4 : Value} {cd4 : Value}
    {f5 : Addr} {od5 an5 : Option Addr} {sl5 : Array (Option Value)} {oc5 kV5 dc5 pm5 ct5 : Value} {cd5 : Value}
    {f6 : Addr} {od6 an6 : Option Addr} {sl6 : Array (Option Value)} {oc6 kV6 dc6 pm6 ct6 : Value} {cd6 : Value}
    {f7 : Addr} {od7 an7 : Option Addr} {sl7 : Array (Option Value)} {oc7 kV7 dc7 pm7 ct7 : Value} {cd7 : Value}
    {f8 : Addr} {od8 an8 : Option Addr} {sl8 : Array (Option Value)} {oc8 kV8 dc8 pm8 ct8 : Value} {cd8 : Value}
    {f9 : Addr} {od9 an9 : Option Addr} {sl9 : Array (Option Value)} {oc9 kV9 dc9 pm9 ct9 : Value} {cd9 : Value}
    {f10 : Addr} {od10 an10 : Option Addr} {sl10 : Array (Option Value)} {oc10 kV10 dc10 pm10 ct10 : Value} {cd10 : Value}
    {f11 : Addr} {od11 an11 : Option Addr} {sl11 : Array (Option Value)} {oc11 kV11 dc11 pm11 ct11 : Value} {cT PT : Addr} {oq : Value} {oe : Option Addr} {vq : Array Value} {sq : Array (Option Value)}
    {f12 : Addr} {od12 an12 : Option Addr} {sl12 : Array (Option Value)} {oc12 kV12 dc12 pm12 ct12 : Value} {cd12 : Value}
    {f13 : Addr} {od13 an13 : Option Addr} {sl13 : Array (Option Value)} {oc13 kV13 dc13 pm13 ct13 : Value} {cd13 : Value}
    {f14 : Addr} {od14 an14 : Option Addr} {sl14 : Array (Option Value)} {oc14 kV14 dc14 pm14 ct14 : Value} {cd14 : Value}
    {f15 : Addr} {od15 an15 : Option Addr} {sl15 : Array (Option Value)} {oc15 kV15 dc15 pm15 ct15 : Value} {cd15 : Value}
    {f16 : Addr} {od16 an16 : Option Addr} {sl16 : Array (Option Value)} {oc16 kV16 dc16 pm16 ct16 : Value} {cd16 : Value}
    {f17 : Addr} {od17 an17 : Option Addr} {sl17 : Array (Option Value)} {oc17 kV17 dc17 pm17 ct17 : Value} {cd17 : Value}
    {f18 : Addr} {od18 an18 : Option Addr} {sl18 : Array (Option Value)} {oc18 kV18 dc18 pm18 ct18 : Value} {cd18 : Value}
    {f19 : Addr} {od19 an19 : Option Addr} {sl19 : Array (Option Value)} {oc19 kV19 dc19 pm19 ct19 : Value} {cd19 : Value}
    {f20 : Addr} {od20 an20 : Option Addr} {sl20 : Array (Option Value)} {oc20 kV20 dc20 pm20 ct20 : Value} {cd20 : Value}
    {f21 : Addr} {od21 an21 : Option Addr} {sl21 : Array (Option Value)} {oc21 kV21 dc21 pm21 ct21 : Value} {cd21 : Value}
    {f22 : Addr} {od22 an22 : Option Addr} {sl22 : Array (Option Value)} {oc22 kV22 dc22 pm22 ct22 : Value} {cd22 : Value}
    {f23 : Addr} {od23 an23 : Option Addr} {sl23 : Array (Option Value)} {oc23 kV23 dc23 pm23 ct23 : Value} {cd23 : Value}
    {f24 : Addr} {od24 an24 : Option Addr} {sl24 : Array (Option Value)} {oc24 kV24 dc24 pm24 ct24 : Value} {cd24 : Value}
    {C_BadContract : Addr}
    {C_BookError : Addr}
    {C_TooMany : Addr}
    {C_BadText : Addr}
    {C_BadMarket : Addr}
    {t_LETTERS : Tok}
    {t_LONGEST_WORD : Tok}
    {t_TOO_LARGE : Tok}
    {d_NUMBERS : Addr}
    {d_CONDITIONS : Addr}
    {d_CONTRACTS : Addr}
    {t_DEEPEST : Tok}
    (a0 : PySem.W.nsIn K mainGlobals "_law_taken" = some (some (.ref f0))) (l0 : K.lookup f0 = some ⟨oc0, od0, .func (PySem.W.fnOf "_law_taken" "_law_taken" (defArgs s__law_taken) (defBody s__law_taken) (defScope s__law_taken) .none kV0 dc0 pm0 an0 cd0 ct0), sl0⟩) (c0 : PySem.W.codeIn K cd0 "_law_taken" = true) (k0 : PySem.W.keepIn K (.ref f0) = true)
    (a1 : PySem.W.nsIn K mainGlobals "_law_word" = some (some (.ref f1))) (l1 : K.lookup f1 = some ⟨oc1, od1, .func (PySem.W.fnOf "_law_word" "_law_word" (defArgs s__law_word) (defBody s__law_word) (defScope s__law_word) .none kV1 dc1 pm1 an1 cd1 ct1), sl1⟩) (c1 : PySem.W.codeIn K cd1 "_law_word" = true) (k1 : PySem.W.keepIn K (.ref f1) = true)
    (a2 : PySem.W.nsIn K mainGlobals "_law_number" = some (some (.ref f2))) (l2 : K.lookup f2 = some ⟨oc2, od2, .func (PySem.W.fnOf "_law_number" "_law_number" (defArgs s__law_number) (defBody s__law_number) (defScope s__law_number) .none kV2 dc2 pm2 an2 cd2 ct2), sl2⟩) (c2 : PySem.W.codeIn K cd2 "_law_number" = true) (k2 : PySem.W.keepIn K (.ref f2) = true)
    (a3 : PySem.W.nsIn K mainGlobals "_law_begun" = some (some (.ref f3))) (l3 : K.lookup f3 = some ⟨oc3, od3, .func (PySem.W.fnOf "_law_begun" "_law_begun" (defArgs s__law_begun) (defBody s__law_begun) (defScope s__law_begun) .none kV3 dc3 pm3 an3 cd3 ct3), sl3⟩) (c3 : PySem.W.codeIn K cd3 "_law_begun" = true) (k3 : PySem.W.keepIn K (.ref f3) = true)
    (a4 : PySem.W.nsIn K mainGlobals "_law_amiss" = some (some (.ref f4))) (l4 : K.lookup f4 = some ⟨oc4, od4, .func (PySem.W.fnOf "_law_amiss" "_law_amiss" (defArgs s__law_amiss) (defBody s__law_amiss) (defScope s__law_amiss) .none kV4 dc4 pm4 an4 cd4 ct4), sl4⟩) (c4 : PySem.W.codeIn K cd4 "_law_amiss" = true) (k4 : PySem.W.keepIn K (.ref f4) = true)
    (a5 : PySem.W.nsIn K mainGlobals "_law_loose_word" = some (some (.ref f5))) (l5 : K.lookup f5 = some ⟨oc5, od5, .func (PySem.W.fnOf "_law_loose_word" "_law_loose_word" (defArgs s__law_loose_word) (defBody s__law_loose_word) (defScope s__law_loose_word) .none kV5 dc5 pm5 an5 cd5 ct5), sl5⟩) (c5 : PySem.W.codeIn K cd5 "_law_loose_word" = true) (k5 : PySem.W.keepIn K (.ref f5) = true)
    (a6 : PySem.W.nsIn K mainGlobals "_law_loose_count" = some (some (.ref f6))) (l6 : K.lookup f6 = some ⟨oc6, od6, .func (PySem.W.fnOf "_law_loose_count" "_law_loose_count" (defArgs s__law_loose_count) (defBody s__law_loose_count) (defScope s__law_loose_count) .none kV6 dc6 pm6 an6 cd6 ct6), sl6⟩) (c6 : PySem.W.codeIn K cd6 "_law_loose_count" = true) (k6 : PySem.W.keepIn K (.ref f6) = true)
    (a7 : PySem.W.nsIn K mainGlobals "_law_loose_told" = some (some (.ref f7))) (l7 : K.lookup f7 = some ⟨oc7, od7, .func (PySem.W.fnOf "_law_loose_told" "_law_loose_told" (defArgs s__law_loose_told) (defBody s__law_loose_told) (defScope s__law_loose_told) .none kV7 dc7 pm7 an7 cd7 ct7), sl7⟩) (c7 : PySem.W.codeIn K cd7 "_law_loose_told" = true) (k7 : PySem.W.keepIn K (.ref f7) = true)
    (a8 : PySem.W.nsIn K mainGlobals "_law_loose_asked" = some (some (.ref f8))) (l8 : K.lookup f8 = some ⟨oc8, od8, .func (PySem.W.fnOf "_law_loose_asked" "_law_loose_asked" (defArgs s__law_loose_asked) (defBody s__law_loose_asked) (defScope s__law_loose_asked) .none kV8 dc8 pm8 an8 cd8 ct8), sl8⟩) (c8 : PySem.W.codeIn K cd8 "_law_loose_asked" = true) (k8 : PySem.W.keepIn K (.ref f8) = true)
    (a9 : PySem.W.nsIn K mainGlobals "_law_loose_round" = some (some (.ref f9))) (l9 : K.lookup f9 = some ⟨oc9, od9, .func (PySem.W.fnOf "_law_loose_round" "_law_loose_round" (defArgs s__law_loose_round) (defBody s__law_loose_round) (defScope s__law_loose_round) .none kV9 dc9 pm9 an9 cd9 ct9), sl9⟩) (c9 : PySem.W.codeIn K cd9 "_law_loose_round" = true) (k9 : PySem.W.keepIn K (.ref f9) = true)
    (a10 : PySem.W.nsIn K mainGlobals "_law_loose" = some (some (.ref f10))) (l10 : K.lookup f10 = some ⟨oc10, od10, .func (PySem.W.fnOf "_law_loose" "_law_loose" (defArgs s__law_loose) (defBody s__law_loose) (defScope s__law_loose) .none kV10 dc10 pm10 an10 cd10 ct10), sl10⟩) (c10 : PySem.W.codeIn K cd10 "_law_loose" = true) (k10 : PySem.W.keepIn K (.ref f10) = true)
    (a11 : PySem.W.nsIn K mainGlobals "is_word" = some (some (.ref f11))) (l11 : K.lookup f11 = some ⟨oc11, od11, .func (PySem.W.fnOf "is_word" "is_word" (defArgs s_is_word) (defBody s_is_word) (defScope s_is_word) .none kV11 dc11 pm11 an11 (.ref cT) ct11), sl11⟩) (c11 : PySem.W.codeIn K (.ref cT) "is_word" = true) (k11 : PySem.W.keepIn K (.ref f11) = true)
    (cc : K.lookup cT = some ⟨oq, oe, .fields vq, sq⟩) (v11 : (vq[11]? : Option Value) = some (.ref PT)) (rT : ((recsOf q).find? (fun e => e.name == ("is_word" : Str))).isSome = true) (nP : K.lookup PT = none)
    (a12 : PySem.W.nsIn K mainGlobals "is_whole" = some (some (.ref f12))) (l12 : K.lookup f12 = some ⟨oc12, od12, .func (PySem.W.fnOf "is_whole" "is_whole" (defArgs s_is_whole) (defBody s_is_whole) (defScope s_is_whole) .none kV12 dc12 pm12 an12 cd12 ct12), sl12⟩) (c12 : PySem.W.codeIn K cd12 "is_whole" = true) (k12 : PySem.W.keepIn K (.ref f12) = true)
    (a13 : PySem.W.nsIn K mainGlobals "is_between" = some (some (.ref f13))) (l13 : K.lookup f13 = some ⟨oc13, od13, .func (PySem.W.fnOf "is_between" "is_between" (defArgs s_is_between) (defBody s_is_between) (defScope s_is_between) .none kV13 dc13 pm13 an13 cd13 ct13), sl13⟩) (c13 : PySem.W.codeIn K cd13 "is_between" = true) (k13 : PySem.W.keepIn K (.ref f13) = true)
    (a14 : PySem.W.nsIn K mainGlobals "is_amount" = some (some (.ref f14))) (l14 : K.lookup f14 = some ⟨oc14, od14, .func (PySem.W.fnOf "is_amount" "is_amount" (defArgs s_is_amount) (defBody s_is_amount) (defScope s_is_amount) .none kV14 dc14 pm14 an14 cd14 ct14), sl14⟩) (c14 : PySem.W.codeIn K cd14 "is_amount" = true) (k14 : PySem.W.keepIn K (.ref f14) = true)
    (a15 : PySem.W.nsIn K mainGlobals "kinds_behind" = some (some (.ref f15))) (l15 : K.lookup f15 = some ⟨oc15, od15, .func (PySem.W.fnOf "kinds_behind" "kinds_behind" (defArgs s_kinds_behind) (defBody s_kinds_behind) (defScope s_kinds_behind) .none kV15 dc15 pm15 an15 cd15 ct15), sl15⟩) (c15 : PySem.W.codeIn K cd15 "kinds_behind" = true) (k15 : PySem.W.keepIn K (.ref f15) = true)
    (a16 : PySem.W.nsIn K mainGlobals "_is_plain" = some (some (.ref f16))) (l16 : K.lookup f16 = some ⟨oc16, od16, .func (PySem.W.fnOf "_is_plain" "_is_plain" (defArgs s__is_plain) (defBody s__is_plain) (defScope s__is_plain) .none kV16 dc16 pm16 an16 cd16 ct16), sl16⟩) (c16 : PySem.W.codeIn K cd16 "_is_plain" = true) (k16 : PySem.W.keepIn K (.ref f16) = true)
    (a17 : PySem.W.nsIn K mainGlobals "_need_form" = some (some (.ref f17))) (l17 : K.lookup f17 = some ⟨oc17, od17, .func (PySem.W.fnOf "_need_form" "_need_form" (defArgs s__need_form) (defBody s__need_form) (defScope s__need_form) .none kV17 dc17 pm17 an17 cd17 ct17), sl17⟩) (c17 : PySem.W.codeIn K cd17 "_need_form" = true) (k17 : PySem.W.keepIn K (.ref f17) = true)
    (a18 : PySem.W.nsIn K mainGlobals "need_contract" = some (some (.ref f18))) (l18 : K.lookup f18 = some ⟨oc18, od18, .func (PySem.W.fnOf "need_contract" "need_contract" (defArgs s_need_contract) (defBody s_need_contract) (defScope s_need_contract) .none kV18 dc18 pm18 an18 cd18 ct18), sl18⟩) (c18 : PySem.W.codeIn K cd18 "need_contract" = true) (k18 : PySem.W.keepIn K (.ref f18) = true)
    (a19 : PySem.W.nsIn K mainGlobals "_law_is_word" = some (some (.ref f19))) (l19 : K.lookup f19 = some ⟨oc19, od19, .func (PySem.W.fnOf "_law_is_word" "_law_is_word" (defArgs s__law_is_word) (defBody s__law_is_word) (defScope s__law_is_word) .none kV19 dc19 pm19 an19 cd19 ct19), sl19⟩) (c19 : PySem.W.codeIn K cd19 "_law_is_word" = true) (k19 : PySem.W.keepIn K (.ref f19) = true)
    (a20 : PySem.W.nsIn K mainGlobals "_law_is_count" = some (some (.ref f20))) (l20 : K.lookup f20 = some ⟨oc20, od20, .func (PySem.W.fnOf "_law_is_count" "_law_is_count" (defArgs s__law_is_count) (defBody s__law_is_count) (defScope s__law_is_count) .none kV20 dc20 pm20 an20 cd20 ct20), sl20⟩) (c20 : PySem.W.codeIn K cd20 "_law_is_count" = true) (k20 : PySem.W.keepIn K (.ref f20) = true)
    (a21 : PySem.W.nsIn K mainGlobals "_law_is_told" = some (some (.ref f21))) (l21 : K.lookup f21 = some ⟨oc21, od21, .func (PySem.W.fnOf "_law_is_told" "_law_is_told" (defArgs s__law_is_told) (defBody s__law_is_told) (defScope s__law_is_told) .none kV21 dc21 pm21 an21 cd21 ct21), sl21⟩) (c21 : PySem.W.codeIn K cd21 "_law_is_told" = true) (k21 : PySem.W.keepIn K (.ref f21) = true)
    (a22 : PySem.W.nsIn K mainGlobals "_law_is_asked" = some (some (.ref f22))) (l22 : K.lookup f22 = some ⟨oc22, od22, .func (PySem.W.fnOf "_law_is_asked" "_law_is_asked" (defArgs s__law_is_asked) (defBody s__law_is_asked) (defScope s__law_is_asked) .none kV22 dc22 pm22 an22 cd22 ct22), sl22⟩) (c22 : PySem.W.codeIn K cd22 "_law_is_asked" = true) (k22 : PySem.W.keepIn K (.ref f22) = true)
    (a23 : PySem.W.nsIn K mainGlobals "_law_is_contract" = some (some (.ref f23))) (l23 : K.lookup f23 = some ⟨oc23, od23, .func (PySem.W.fnOf "_law_is_contract" "_law_is_contract" (defArgs s__law_is_contract) (defBody s__law_is_contract) (defScope s__law_is_contract) .none kV23 dc23 pm23 an23 cd23 ct23), sl23⟩) (c23 : PySem.W.codeIn K cd23 "_law_is_contract" = true) (k23 : PySem.W.keepIn K (.ref f23) = true)
    (a24 : PySem.W.nsIn K mainGlobals "law" = some (some (.ref f24))) (l24 : K.lookup f24 = some ⟨oc24, od24, .func (PySem.W.fnOf "law" "law" (defArgs s_law) (defBody s_law) (defScope s_law) .none kV24 dc24 pm24 an24 cd24 ct24), sl24⟩) (c24 : PySem.W.codeIn K cd24 "law" = true) (k24 : PySem.W.keepIn K (.ref f24) = true)
    (xg_BadContract : PySem.W.nsIn K mainGlobals "BadContract" = some (some (.ref C_BadContract))) (xx_BadContract : PySem.W.excIn K C_BadContract [.type "ValueError", .type "Exception", .type "BaseException", .type "object"] "ValueError.__new__" = true) (xk_BadContract : PySem.W.keepIn K (.ref C_BadContract) = true) (xs_BadContract : PySem.W.subIn K (.ref C_BadContract) (.type "BaseException") = some true) (xt_BadContract : PySem.W.typeIn K (.ref C_BadContract) = some (.type "type"))
    (xg_BookError : PySem.W.nsIn K mainGlobals "BookError" = some (some (.ref C_BookError))) (xx_BookError : PySem.W.excIn K C_BookError [.type "ValueError", .type "Exception", .type "BaseException", .type "object"] "ValueError.__new__" = true) (xk_BookError : PySem.W.keepIn K (.ref C_BookError) = true) (xs_BookError : PySem.W.subIn K (.ref C_BookError) (.type "BaseException") = some true) (xt_BookError : PySem.W.typeIn K (.ref C_BookError) = some (.type "type"))
    (xg_TooMany : PySem.W.nsIn K mainGlobals "TooMany" = some (some (.ref C_TooMany))) (xx_TooMany : PySem.W.excIn K C_TooMany [.type "ValueError", .type "Exception", .type "BaseException", .type "object"] "ValueError.__new__" = true) (xk_TooMany : PySem.W.keepIn K (.ref C_TooMany) = true) (xs_TooMany : PySem.W.subIn K (.ref C_TooMany) (.type "BaseException") = some true) (xt_TooMany : PySem.W.typeIn K (.ref C_TooMany) = some (.type "type"))
    (xg_BadText : PySem.W.nsIn K mainGlobals "BadText" = some (some (.ref C_BadText))) (xx_BadText : PySem.W.excIn K C_BadText [.type "ValueError", .type "Exception", .type "BaseException", .type "object"] "ValueError.__new__" = true) (xk_BadText : PySem.W.keepIn K (.ref C_BadText) = true) (xs_BadText : PySem.W.subIn K (.ref C_BadText) (.type "BaseException") = some true) (xt_BadText : PySem.W.typeIn K (.ref C_BadText) = some (.type "type"))
    (xg_BadMarket : PySem.W.nsIn K mainGlobals "BadMarket" = some (some (.ref C_BadMarket))) (xx_BadMarket : PySem.W.excIn K C_BadMarket [.type "ValueError", .type "Exception", .type "BaseException", .type "object"] "ValueError.__new__" = true) (xk_BadMarket : PySem.W.keepIn K (.ref C_BadMarket) = true) (xs_BadMarket : PySem.W.subIn K (.ref C_BadMarket) (.type "BaseException") = some true) (xt_BadMarket : PySem.W.typeIn K (.ref C_BadMarket) = some (.type "type"))
    (e1 : PySem.W.exmOne K (.ref C_BadContract) (.ref C_BookError) = some true)
    (e2 : PySem.W.findIn K (.ref C_BadContract) "__getattribute__" = some (some (.builtin "BaseException.__getattribute__")))
    (e3 : PySem.W.findIn K (.ref C_BadContract) "__getattr__" = some none)
    (e4 : PySem.W.hasDictIn K C_BadContract = true)
    (e5 : PySem.W.findIn K (.ref C_BadContract) "__class__" = some (some (.builtin "object.__class__")))
    (e6 : PySem.W.specialIn K (.builtin "object.__class__") "__get__" = some (some (.builtin "getset_descriptor.__get__")))
    (e7 : PySem.W.takesIn K (.builtin "object.__class__") = some true)
    (e8 : PySem.W.mroIn K C_BadContract (.type "object") = some true)
    (e9 : PySem.W.kitOne K (.ref C_BadContract) (.ref C_BadMarket) = some false)
    (e10 : PySem.W.kitOne K (.ref C_BadContract) (.ref C_BadText) = some false)
    (e11 : PySem.W.kitOne K (.ref C_BadContract) (.ref C_TooMany) = some false)
    (e12 : PySem.W.kitOne K (.ref C_BadContract) (.ref C_BadContract) = some true)
    (e13 : PySem.W.kitOne K (.ref C_BadContract) (.type "ValueError") = some true)
    (z_len : PySem.W.nsIn K mainGlobals "len" = some none)
    (z_int : PySem.W.nsIn K mainGlobals "int" = some none)
    (z_max : PySem.W.nsIn K mainGlobals "max" = some none)
    (z_all : PySem.W.nsIn K mainGlobals "all" = some none)
    (z_LETTERS : PySem.W.nsIn K mainGlobals "LETTERS" = some (some (.str "abcdefghijklmnopqrstuvwxyz" t_LETTERS)))
    (z_LONGEST_WORD : PySem.W.nsIn K mainGlobals "LONGEST_WORD" = some (some (.int 8 t_LONGEST_WORD)))
    (z_isinstance : PySem.W.nsIn K mainGlobals "isinstance" = some none)
    (z_str : PySem.W.nsIn K mainGlobals "str" = some none)
    (z_bool : PySem.W.nsIn K mainGlobals "bool" = some none)
    (z_TOO_LARGE : PySem.W.nsIn K mainGlobals "TOO_LARGE" = some (some (.int 1000000000000 t_TOO_LARGE)))
    (z_NUMBERS : PySem.W.nsIn K mainGlobals "NUMBERS" = some (some (.ref d_NUMBERS))) (w_NUMBERS : He.dicW K d_NUMBERS = some (He.keysIn w.params (numForms.map (·.1)))) (o_NUMBERS : tabOk K d_NUMBERS numForms = true)
    (z_CONDITIONS : PySem.W.nsIn K mainGlobals "CONDITIONS" = some (some (.ref d_CONDITIONS))) (w_CONDITIONS : He.dicW K d_CONDITIONS = some (He.keysIn w.params (condForms.map (·.1)))) (o_CONDITIONS : tabOk K d_CONDITIONS condForms = true)
    (z_CONTRACTS : PySem.W.nsIn K mainGlobals "CONTRACTS" = some (some (.ref d_CONTRACTS))) (w_CONTRACTS : He.dicW K d_CONTRACTS = some (He.keysIn w.params (ctrForms.map (·.1)))) (o_CONTRACTS : tabOk K d_CONTRACTS ctrForms = true)
    (z_zip : PySem.W.nsIn K mainGlobals "zip" = some none)
    (z_tuple : PySem.W.nsIn K mainGlobals "tuple" = some none)
    (z_DEEPEST : PySem.W.nsIn K mainGlobals "DEEPEST" = some (some (.int 12 t_DEEPEST)))
    (z_ValueError : PySem.W.nsIn K mainGlobals "ValueError" = some none)
    (z_range : PySem.W.nsIn K mainGlobals "range" = some none)
    : LamX.LawAtS l w K CX0 41 63 "_law_script" mg fa h := by
  have e := hfa.symm.trans (PySem.W.mg_of X G a24)
  cases e
  have tab := TO "is_word" cT PT rT (tabIn_of a11 l11 rfl cc v11)
  refine ⟨(PySem.W.fnOf "law" "law" (defArgs s_law) (defBody s_law) (defScope s_law) .none kV24 dc24 pm24 an24 cd24 ct24), [(cT, PT)], (spLaw K PT), fun p hp => ?_, fun p hp => ?_, fun p hp => ?_, fun s v => .of_eq rfl, fun H a ns hl _ hT hS => ⟨ns, a, rfl, hS, hl, ⟨#[], hT _ (List.mem_singleton.mpr rfl), trivial⟩, fun _ => rfl⟩, fun base _ _ hTB => ?_⟩
  · rw [List.mem_singleton.mp hp]; exact tab.2
  · rw [List.mem_singleton.mp hp]; exact nP
  · rw [List.mem_singleton.mp hp]; exact tab.1
  · have tq := hTB _ (List.mem_singleton.mpr rfl)
    have tb : GxR.TabB base mg cT PT := ⟨tq.code, tq.bm, tq.gP⟩
    have X_BadContract : ExcT K mg "BadContract" C_BadContract := ⟨PySem.W.mg_of X G xg_BadContract, xx_BadContract, xk_BadContract, xs_BadContract, xt_BadContract⟩
    have X_BookError : ExcT K mg "BookError" C_BookError := ⟨PySem.W.mg_of X G xg_BookError, xx_BookError, xk_BookError, xs_BookError, xt_BookError⟩
    have X_TooMany : ExcT K mg "TooMany" C_TooMany := ⟨PySem.W.mg_of X G xg_TooMany, xx_TooMany, xk_TooMany, xs_TooMany, xt_TooMany⟩
    have X_BadText : ExcT K mg "BadText" C_BadText := ⟨PySem.W.mg_of X G xg_BadText, xx_BadText, xk_BadText, xs_BadText, xt_BadText⟩
    have X_BadMarket : ExcT K mg "BadMarket" C_BadMarket := ⟨PySem.W.mg_of X G xg_BadMarket, xx_BadMarket, xk_BadMarket, xs_BadMarket, xt_BadMarket⟩
    have ER : Errs K C_BookError C_BadContract C_BadMarket C_BadText C_TooMany := ⟨e1, ⟨e2, e3, xs_BadContract, e4, e5, e6, e7, e8⟩, e9, e10, e11, e12, e13⟩
    have m_len : mg "len" = none := PySem.W.mg_none_of X G z_len
    have m_int : mg "int" = none := PySem.W.mg_none_of X G z_int
    have m_max : mg "max" = none := PySem.W.mg_none_of X G z_max
    have m_all : mg "all" = none := PySem.W.mg_none_of X G z_all
    have m_LETTERS := PySem.W.mg_of X G z_LETTERS
    have m_LONGEST_WORD := PySem.W.mg_of X G z_LONGEST_WORD
    have m_isinstance : mg "isinstance" = none := PySem.W.mg_none_of X G z_isinstance
    have m_str : mg "str" = none := PySem.W.mg_none_of X G z_str
    have m_bool : mg "bool" = none := PySem.W.mg_none_of X G z_bool
    have m_TOO_LARGE := PySem.W.mg_of X G z_TOO_LARGE
    have F_NUMBERS : FTab K w mg "NUMBERS" numForms d_NUMBERS := FTab.of (PySem.W.mg_of X G z_NUMBERS) w_NUMBERS o_NUMBERS
    have F_CONDITIONS : FTab K w mg "CONDITIONS" condForms d_CONDITIONS := FTab.of (PySem.W.mg_of X G z_CONDITIONS) w_CONDITIONS o_CONDITIONS
    have F_CONTRACTS : FTab K w mg "CONTRACTS" ctrForms d_CONTRACTS := FTab.of (PySem.W.mg_of X G z_CONTRACTS) w_CONTRACTS o_CONTRACTS
    have m_zip : mg "zip" = none := PySem.W.mg_none_of X G z_zip
    have m_tuple : mg "tuple" = none := PySem.W.mg_none_of X G z_tuple
    have m_DEEPEST := PySem.W.mg_of X G z_DEEPEST
    have m_ValueError : mg "ValueError" = none := PySem.W.mg_none_of X G z_ValueError
    have m_range : mg "range" = none := PySem.W.mg_none_of X G z_range
    have O0 : Own K mg "_law_taken" s__law_taken ["_law_s", "_law_most"] f0 _ := ⟨fun_mk (st := s__law_taken) l0 c0 k0, PySem.W.mg_of X G a0, (fun_mk (st := s__law_taken) l0 c0 k0).binds (ps := ["_law_s", "_law_most"]) fun _ _ _ _ _ _ us hl => match us, hl with | [_, _], _ => rfl⟩
    have O1 : Own K mg "_law_word" s__law_word ["_law_s", "_law_k"] f1 _ := ⟨fun_mk (st := s__law_word) l1 c1 k1, PySem.W.mg_of X G a1, (fun_mk (st := s__law_word) l1 c1 k1).binds (ps := ["_law_s", "_law_k"]) fun _ _ _ _ _ _ us hl => match us, hl with | [_, _], _ => rfl⟩
    have O2 : Own K mg "_law_number" s__law_number ["_law_s"] f2 _ := ⟨fun_mk (st := s__law_number) l2 c2 k2, PySem.W.mg_of X G a2, (fun_mk (st := s__law_number) l2 c2 k2).binds (ps := ["_law_s"]) fun _ _ _ _ _ _ us hl => match us, hl with | [_], _ => rfl⟩
    have O3 : Own K mg "_law_begun" s__law_begun ["_law_script"] f3 _ := ⟨fun_mk (st := s__law_begun) l3 c3 k3, PySem.W.mg_of X G a3, (fun_mk (st := s__law_begun) l3 c3 k3).binds (ps := ["_law_script"]) fun _ _ _ _ _ _ us hl => match us, hl with | [_], _ => rfl⟩
    have O4 : Own K mg "_law_amiss" s__law_amiss ["_law_s"] f4 _ := ⟨fun_mk (st := s__law_amiss) l4 c4 k4, PySem.W.mg_of X G a4, (fun_mk (st := s__law_amiss) l4 c4 k4).binds (ps := ["_law_s"]) fun _ _ _ _ _ _ us hl => match us, hl with | [_], _ => rfl⟩
    have O5 : Own K mg "_law_loose_word" s__law_loose_word ["_law_s", "_law_k"] f5 _ := ⟨fun_mk (st := s__law_loose_word) l5 c5 k5, PySem.W.mg_of X G a5, (fun_mk (st := s__law_loose_word) l5 c5 k5).binds (ps := ["_law_s", "_law_k"]) fun _ _ _ _ _ _ us hl => match us, hl with | [_, _], _ => rfl⟩
    have O6 : Own K mg "_law_loose_count" s__law_loose_count ["_law_s", "_law_least", "_law_most"] f6 _ := ⟨fun_mk (st := s__law_loose_count) l6 c6 k6, PySem.W.mg_of X G a6, (fun_mk (st := s__law_loose_count) l6 c6 k6).binds (ps := ["_law_s", "_law_least", "_law_most"]) fun _ _ _ _ _ _ us hl => match us, hl with | [_, _, _], _ => rfl⟩
    have O7 : Own K mg "_law_loose_told" s__law_loose_told ["_law_s", "_law_deep"] f7 _ := ⟨fun_mk (st := s__law_loose_told) l7 c7 k7, PySem.W.mg_of X G a7, (fun_mk (st := s__law_loose_told) l7 c7 k7).binds (ps := ["_law_s", "_law_deep"]) fun _ _ _ _ _ _ us hl => match us, hl with | [_, _], _ => rfl⟩
    have O8 : Own K mg "_law_loose_asked" s__law_loose_asked ["_law_s", "_law_deep"] f8 _ := ⟨fun_mk (st := s__law_loose_asked) l8 c8 k8, PySem.W.mg_of X G a8, (fun_mk (st := s__law_loose_asked) l8 c8 k8).binds (ps := ["_law_s", "_law_deep"]) fun _ _ _ _ _ _ us hl => match us, hl with | [_, _], _ => rfl⟩
    have O9 : Own K mg "_law_loose_round" s__law_loose_round ["_law_s", "_law_way", "_law_inner", "_law_deep"] f9 _ := ⟨fun_mk (st := s__law_loose_round) l9 c9 k9, PySem.W.mg_of X G a9, (fun_mk (st := s__law_loose_round) l9 c9 k9).binds (ps := ["_law_s", "_law_way", "_law_inner", "_law_deep"]) fun _ _ _ _ _ _ us hl => match us, hl with | [_, _, _, _], _ => rfl⟩
    have O10 : Own K mg "_law_loose" s__law_loose ["_law_s", "_law_deep"] f10 _ := ⟨fun_mk (st := s__law_loose) l10 c10 k10, PySem.W.mg_of X G a10, (fun_mk (st := s__law_loose) l10 c10 k10).binds (ps := ["_law_s", "_law_deep"]) fun _ _ _ _ _ _ us hl => match us, hl with | [_, _], _ => rfl⟩
    have O11 : OwnC cT K mg "is_word" s_is_word ["told"] f11 _ := OwnC.mk' (st := s_is_word) l11 c11 k11 (PySem.W.mg_of X G a11) (.all fun us hl => match us, hl with | [_], _ => rfl)
    have O12 : Own K mg "is_whole" s_is_whole ["told"] f12 _ := ⟨fun_mk (st := s_is_whole) l12 c12 k12, PySem.W.mg_of X G a12, (fun_mk (st := s_is_whole) l12 c12 k12).binds (ps := ["told"]) fun _ _ _ _ _ _ us hl => match us, hl with | [_], _ => rfl⟩
    have O13 : Own K mg "is_between" s_is_between ["told", "low", "high"] f13 _ := ⟨fun_mk (st := s_is_between) l13 c13 k13, PySem.W.mg_of X G a13, (fun_mk (st := s_is_between) l13 c13 k13).binds (ps := ["told", "low", "high"]) fun _ _ _ _ _ _ us hl => match us, hl with | [_, _, _], _ => rfl⟩
    have O14 : Own K mg "is_amount" s_is_amount ["told"] f14 _ := ⟨fun_mk (st := s_is_amount) l14 c14 k14, PySem.W.mg_of X G a14, (fun_mk (st := s_is_amount) l14 c14 k14).binds (ps := ["told"]) fun _ _ _ _ _ _ us hl => match us, hl with | [_], _ => rfl⟩
    have O15 : Own K mg "kinds_behind" s_kinds_behind ["word", "kind"] f15 _ := ⟨fun_mk (st := s_kinds_behind) l15 c15 k15, PySem.W.mg_of X G a15, (fun_mk (st := s_kinds_behind) l15 c15 k15).binds (ps := ["word", "kind"]) fun _ _ _ _ _ _ us hl => match us, hl with | [_, _], _ => rfl⟩
    have O16 : Own K mg "_is_plain" s__is_plain ["told", "kind"] f16 _ := ⟨fun_mk (st := s__is_plain) l16 c16 k16, PySem.W.mg_of X G a16, (fun_mk (st := s__is_plain) l16 c16 k16).binds (ps := ["told", "kind"]) fun _ _ _ _ _ _ us hl => match us, hl with | [_, _], _ => rfl⟩
    have O17 : Own K mg "_need_form" s__need_form ["told", "kind", "depth"] f17 _ := ⟨fun_mk (st := s__need_form) l17 c17 k17, PySem.W.mg_of X G a17, (fun_mk (st := s__need_form) l17 c17 k17).binds (ps := ["told", "kind", "depth"]) fun _ _ _ _ _ _ us hl => match us, hl with | [_, _, _], _ => rfl⟩
    have O18 : Own K mg "need_contract" s_need_contract ["contract"] f18 _ := ⟨fun_mk (st := s_need_contract) l18 c18 k18, PySem.W.mg_of X G a18, (fun_mk (st := s_need_contract) l18 c18 k18).binds (ps := ["contract"]) fun _ _ _ _ _ _ us hl => match us, hl with | [_], _ => rfl⟩
    have O19 : Own K mg "_law_is_word" s__law_is_word ["_law_word_here"] f19 _ := ⟨fun_mk (st := s__law_is_word) l19 c19 k19, PySem.W.mg_of X G a19, (fun_mk (st := s__law_is_word) l19 c19 k19).binds (ps := ["_law_word_here"]) fun _ _ _ _ _ _ us hl => match us, hl with | [_], _ => rfl⟩
    have O20 : Own K mg "_law_is_count" s__law_is_count ["_law_number_here", "_law_least", "_law_most"] f20 _ := ⟨fun_mk (st := s__law_is_count) l20 c20 k20, PySem.W.mg_of X G a20, (fun_mk (st := s__law_is_count) l20 c20 k20).binds (ps := ["_law_number_here", "_law_least", "_law_most"]) fun _ _ _ _ _ _ us hl => match us, hl with | [_, _, _], _ => rfl⟩
    have O21 : Own K mg "_law_is_told" s__law_is_told ["_law_told", "_law_deep"] f21 _ := ⟨fun_mk (st := s__law_is_told) l21 c21 k21, PySem.W.mg_of X G a21, (fun_mk (st := s__law_is_told) l21 c21 k21).binds (ps := ["_law_told", "_law_deep"]) fun _ _ _ _ _ _ us hl => match us, hl with | [_, _], _ => rfl⟩
    have O22 : Own K mg "_law_is_asked" s__law_is_asked ["_law_asked", "_law_deep"] f22 _ := ⟨fun_mk (st := s__law_is_asked) l22 c22 k22, PySem.W.mg_of X G a22, (fun_mk (st := s__law_is_asked) l22 c22 k22).binds (ps := ["_law_asked", "_law_deep"]) fun _ _ _ _ _ _ us hl => match us, hl with | [_, _], _ => rfl⟩
    have O23 : Own K mg "_law_is_contract" s__law_is_contract ["_law_contract", "_law_deep"] f23 _ := ⟨fun_mk (st := s__law_is_contract) l23 c23 k23, PySem.W.mg_of X G a23, (fun_mk (st := s__law_is_contract) l23 c23 k23).binds (ps := ["_law_contract", "_law_deep"]) fun _ _ _ _ _ _ us hl => match us, hl with | [_, _], _ => rfl⟩
    have O24 : Own K mg "law" s_law ["_law_script"] fa _ := ⟨fun_mk (st := s_law) l24 c24 k24, PySem.W.mg_of X G a24, (fun_mk (st := s_law) l24 c24 k24).binds (ps := ["_law_script"]) fun _ _ _ _ _ _ us hl => match us, hl with | [_], _ => rfl⟩
    have H__law_taken := h__law_taken (P := l.prog) (w := w) (base := base) (k := 0) O0   m_len m_int
    have H__law_word := h__law_word (P := l.prog) (w := w) (base := base) (k := 0) O1   
    have H__law_number := h__law_number (P := l.prog) (w := w) (base := base) (k := 1) O2  (H__law_taken.mono (by omega)) 
    have H__law_begun := h__law_begun (P := l.prog) (w := w) (base := base) (k := 1) O3  (H__law_taken.mono (by omega)) m_int m_len
    have H__law_amiss := h__law_amiss (P := l.prog) (w := w) (base := base) (k := 1) O4  (H__law_taken.mono (by omega)) 
    have H__law_loose_word := h__law_loose_word (P := l.prog) (w := w) (base := base) (k := 2) O5  (H__law_amiss.mono (by omega)) (H__law_taken.mono (by omega)) (H__law_word.mono (by omega)) 
    have H__law_loose_count := h__law_loose_count (P := l.prog) (w := w) (base := base) (k := 2) O6  (H__law_taken.mono (by omega)) (H__law_amiss.mono (by omega)) 
    have R__law_loose_told : ∀ n : Nat, Has l.prog w K mg base "_law_loose_told" ["_law_s", "_law_deep"] (3 + n) CX0 (spLTold K n) f7 (PySem.W.fnOf "_law_loose_told" "_law_loose_told" (defArgs s__law_loose_told) (defBody s__law_loose_told) (defScope s__law_loose_told) .none kV7 dc7 pm7 an7 cd7 ct7) := fun n => by
      induction n with
      | zero => exact O7.has ((none_ltold (P := l.prog) (w := w) (base := base)).mono (Nat.zero_le _))
      | succ n ih => exact h__law_loose_told (P := l.prog) (w := w) (base := base) (n := n) (k := 3 + n) O7  ih (H__law_taken.mono (by omega)) (H__law_number.mono (by omega)) (H__law_loose_word.mono (by omega)) (H__law_amiss.mono (by omega)) 
    have H__law_loose_told := R__law_loose_told 3
    have R__law_loose_asked : ∀ n : Nat, Has l.prog w K mg base "_law_loose_asked" ["_law_s", "_law_deep"] (6 + n) CX0 (spLAsked K n) f8 (PySem.W.fnOf "_law_loose_asked" "_law_loose_asked" (defArgs s__law_loose_asked) (defBody s__law_loose_asked) (defScope s__law_loose_asked) .none kV8 dc8 pm8 an8 cd8 ct8) := fun n => by
      induction n with
      | zero => exact O8.has ((none_lasked (P := l.prog) (w := w) (base := base)).mono (Nat.zero_le _))
      | succ n ih => exact h__law_loose_asked (P := l.prog) (w := w) (base := base) (n := n) (k := 6 + n) O8  ih (H__law_loose_told.mono (by omega)) (H__law_taken.mono (by omega)) (H__law_amiss.mono (by omega)) 
    have H__law_loose_asked := R__law_loose_asked 3
    have R__law_loose : ∀ n : Nat, Has l.prog w K mg base "_law_loose" ["_law_s", "_law_deep"] (9 + 2 * n) CX0 (spLoose K n) f10 (PySem.W.fnOf "_law_loose" "_law_loose" (defArgs s__law_loose) (defBody s__law_loose) (defScope s__law_loose) .none kV10 dc10 pm10 an10 cd10 ct10) := fun n => by
      induction n with
      | zero => exact O10.has ((none_loose (P := l.prog) (w := w) (base := base)).mono (Nat.zero_le _))
      | succ n ih =>
        have hp := h__law_loose_round (P := l.prog) (w := w) (base := base) (n := n) (k := 9 + 2 * n) O9 (H__law_loose_asked.mono (by omega)) (H__law_loose_count.mono (by omega)) (H__law_amiss.mono (by omega)) (H__law_loose_word.mono (by omega)) (H__law_taken.mono (by omega)) ih m_max
        exact (h__law_loose (P := l.prog) (w := w) (base := base) (n := n) (k := 9 + 2 * n + 1) O10 hp (ih.mono (by omega)) (H__law_loose_told.mono (by omega)) (H__law_loose_word.mono (by omega)) (H__law_taken.mono (by omega)) (H__law_amiss.mono (by omega)) ).mono (by omega)
    have H__law_loose := R__law_loose 5
    have H__law_loose_round := h__law_loose_round (P := l.prog) (w := w) (base := base) (n := 5) (k := 19) O9 (H__law_loose_asked.mono (by omega)) (H__law_loose_count.mono (by omega)) (H__law_amiss.mono (by omega)) (H__law_loose_word.mono (by omega)) (H__law_taken.mono (by omega)) (H__law_loose.mono (by omega)) m_max
    have H_is_word := h_is_word (P := l.prog) (w := w) (base := base) (k := 0) tb O11   m_all m_LETTERS m_len m_LONGEST_WORD m_isinstance m_str
    have H_is_whole := h_is_whole (P := l.prog) (w := w) (base := base) (k := 0) O12   m_isinstance m_bool m_int
    have H_is_between := h_is_between (P := l.prog) (w := w) (base := base) (k := 1) O13  (H_is_whole.mono (by omega)) 
    have H_is_amount := h_is_amount (P := l.prog) (w := w) (base := base) (k := 1) O14  (H_is_whole.mono (by omega)) m_TOO_LARGE
    have H_kinds_behind := h_kinds_behind (P := l.prog) (w := w) (base := base) (k := 0) O15   F_NUMBERS F_CONDITIONS F_CONTRACTS
    have H__is_plain := h__is_plain (P := l.prog) (w := w) (base := base) (k := 2) O16  (H_is_word.mono (by omega)) (H_is_between.mono (by omega)) (H_is_amount.mono (by omega)) 
    have R__need_form : ∀ n : Nat, Has l.prog w K mg base "_need_form" ["told", "kind", "depth"] (3 + n) (L2.CX l.prog w) (spForm K C_BadContract PT n) f17 (PySem.W.fnOf "_need_form" "_need_form" (defArgs s__need_form) (defBody s__need_form) (defScope s__need_form) .none kV17 dc17 pm17 an17 cd17 ct17) := fun n => by
      induction n with
      | zero => exact O17.has ((none_form (P := l.prog) (w := w) (base := base)).mono (Nat.zero_le _))
      | succ n ih => exact h__need_form (P := l.prog) (w := w) (base := base) (n := n) (k := 3 + n) O17 X_BadContract ih (H__is_plain.mono (by omega)) (H_kinds_behind.mono (by omega)) m_zip m_len m_isinstance m_str m_tuple m_DEEPEST
    have H__need_form := R__need_form 13
    have H_need_contract := h_need_contract (P := l.prog) (w := w) (base := base) (k := 16) O18 X_BadContract (H__need_form.mono (by omega)) 
    have H__law_is_word := h__law_is_word (P := l.prog) (w := w) (base := base) (k := 0) O19   m_all m_len m_isinstance m_str
    have H__law_is_count := h__law_is_count (P := l.prog) (w := w) (base := base) (k := 0) O20   m_isinstance m_bool m_int
    have R__law_is_told : ∀ n : Nat, Has l.prog w K mg base "_law_is_told" ["_law_told", "_law_deep"] (1 + n) CX0 (spChk K "number" n) f21 (PySem.W.fnOf "_law_is_told" "_law_is_told" (defArgs s__law_is_told) (defBody s__law_is_told) (defScope s__law_is_told) .none kV21 dc21 pm21 an21 cd21 ct21) := fun n => by
      induction n with
      | zero => exact O21.has ((none_chk (P := l.prog) (w := w) (base := base)).mono (Nat.zero_le _))
      | succ n ih => exact h__law_is_told (P := l.prog) (w := w) (base := base) (N := n) (k := 1 + n) O21  ih (H__law_is_word.mono (by omega)) (H__law_is_count.mono (by omega)) m_len m_isinstance m_tuple
    have H__law_is_told := R__law_is_told 13
    have R__law_is_asked : ∀ n : Nat, Has l.prog w K mg base "_law_is_asked" ["_law_asked", "_law_deep"] (14 + n) CX0 (spChk K "condition" n) f22 (PySem.W.fnOf "_law_is_asked" "_law_is_asked" (defArgs s__law_is_asked) (defBody s__law_is_asked) (defScope s__law_is_asked) .none kV22 dc22 pm22 an22 cd22 ct22) := fun n => by
      induction n with
      | zero => exact O22.has ((none_chk (P := l.prog) (w := w) (base := base)).mono (Nat.zero_le _))
      | succ n ih => exact h__law_is_asked (P := l.prog) (w := w) (base := base) (N := n) (k := 14 + n) O22  ih (H__law_is_told.mono (by omega)) m_all m_len m_int m_isinstance m_tuple
    have H__law_is_asked := R__law_is_asked 13
    have R__law_is_contract : ∀ n : Nat, Has l.prog w K mg base "_law_is_contract" ["_law_contract", "_law_deep"] (27 + n) CX0 (spChk K "contract" n) f23 (PySem.W.fnOf "_law_is_contract" "_law_is_contract" (defArgs s__law_is_contract) (defBody s__law_is_contract) (defScope s__law_is_contract) .none kV23 dc23 pm23 an23 cd23 ct23) := fun n => by
      induction n with
      | zero => exact O23.has ((none_chk (P := l.prog) (w := w) (base := base)).mono (Nat.zero_le _))
      | succ n ih => exact h__law_is_contract (P := l.prog) (w := w) (base := base) (N := n) (k := 27 + n) O23  ih (H__law_is_asked.mono (by omega)) (H__law_is_count.mono (by omega)) (H__law_is_told.mono (by omega)) (H__law_is_word.mono (by omega)) m_len m_isinstance m_tuple
    have H__law_is_contract := R__law_is_contract 13
    have H_law := h_law (P := l.prog) (w := w) (base := base) (k := 40) O24 X_BookError X_BadContract X_TooMany X_BadText X_BadMarket ER (H_need_contract.mono (by omega)) (H__law_is_contract.mono (by omega)) (H__law_taken.mono (by omega)) (H__law_loose_round.mono (by omega)) (H__law_loose.mono (by omega)) (H__law_begun.mono (by omega)) m_isinstance m_ValueError m_range
    exact H_law.G
end Bk
open PySem PySem.W PyProof.Rows
set_option maxHeartbeats 0 in
theorem PySem.Challenge.cw_contractbook_k32_whole_contracts_that_ar_holds : PySem.Challenge.rw_contractbook_k32_whole_contracts_that_ar.Holds := by
  w_on; o_law; k_head; (case hw => w_witness2)
  k_fill
  refine Bk.walk_tabs (l := PySem.Challenge.rw_contractbook_k32_whole_contracts_that_ar) (n := 63) (k := 41) (x := "_law_script") (CX := fun _ => L2.CX0) rfl (by decide) rfl ⟨rfl, by decide, by decide⟩ (fun w h Y => PySem.W.kIn_of Y) ?F (fun _ _ _ _ _ h => h)
  case F =>
    intro w mg fa h KX G hmg TO
    refine' Bk.all_mk KX G hmg TO ?a0 ?l0 ?c0 ?k0 ?a1 ?l1 ?c1 ?k1 ?a2 ?l2 ?c2 ?k2 ?a3 ?l3 ?c3 ?k3 ?a4 ?l4 ?c4 ?k4 ?a5 ?l5 ?c5 ?k5 ?a6 ?l6 ?c6 ?k6 ?a7 ?l7 ?c7 ?k7 ?a8 ?l8 ?c8 ?k8 ?a9 ?l9 ?c9 ?k9 ?a10 ?l10 ?c10 ?k10 ?a11 ?l11 ?c11 ?k11 ?cc ?v11 ?rT ?nP ?a12 ?l12 ?c12 ?k12 ?a13 ?l13 ?c13 ?k13 ?a14 ?l14 ?c14 ?k14 ?a15 ?l15 ?c15 ?k15 ?a16 ?l16 ?c16 ?k16 ?a17 ?l17 ?c17 ?k17 ?a18 ?l18 ?c18 ?k18 ?a19 ?l19 ?c19 ?k19 ?a20 ?l20 ?c20 ?k20 ?a21 ?l21 ?c21 ?k21 ?a22 ?l22 ?c22 ?k22 ?a23 ?l23 ?c23 ?k23 ?a24 ?l24 ?c24 ?k24 ?xg_BadContract ?xx_BadContract ?xk_BadContract ?xs_BadContract ?xt_BadContract ?xg_BookError ?xx_BookError ?xk_BookError ?xs_BookError ?xt_BookError ?xg_TooMany ?xx_TooMany ?xk_TooMany ?xs_TooMany ?xt_TooMany ?xg_BadText ?xx_BadText ?xk_BadText ?xs_BadText ?xt_BadText ?xg_BadMarket ?xx_BadMarket ?xk_BadMarket ?xs_BadMarket ?xt_BadMarket ?e1 ?e2 ?e3 ?e4 ?e5 ?e6 ?e7 ?e8 ?e9 ?e10 ?e11 ?e12 ?e13 ?z_len ?z_int ?z_max ?z_all ?z_LETTERS ?z_LONGEST_WORD ?z_isinstance ?z_str ?z_bool ?z_TOO_LARGE ?z_NUMBERS ?w_NUMBERS ?o_NUMBERS ?z_CONDITIONS ?w_CONDITIONS ?o_CONDITIONS ?z_CONTRACTS ?w_CONTRACTS ?o_CONTRACTS ?z_zip ?z_tuple ?z_DEEPEST ?z_ValueError ?z_range
    (case a0 => k_is)
    (case l0 => k_is)
    (case c0 => k_is)
    (case k0 => k_is)
    (case a1 => k_is)
    (case l1 => k_is)
    (case c1 => k_is)
    (case k1 => k_is)
    (case a2 => k_is)
    (case l2 => k_is)
    (case c2 => k_is)
    (case k2 => k_is)
    (case a3 => k_is)
    (case l3 => k_is)
    (case c3 => k_is)
    (case k3 => k_is)
    (case a4 => k_is)
    (case l4 => k_is)
    (case c4 => k_is)
    (case k4 => k_is)
    (case a5 => k_is)
    (case l5 => k_is)
    (case c5 => k_is)
    (case k5 => k_is)
    (case a6 => k_is)
    (case l6 => k_is)
    (case c6 => k_is)
    (case k6 => k_is)
    (case a7 => k_is)
    (case l7 => k_is)
    (case c7 => k_is)
    (case k7 => k_is)
    (case a8 => k_is)
    (case l8 => k_is)
    (case c8 => k_is)
    (case k8 => k_is)
    (case a9 => k_is)
    (case l9 => k_is)
    (case c9 => k_is)
    (case k9 => k_is)
    (case a10 => k_is)
    (case l10 => k_is)
    (case c10 => k_is)
    (case k10 => k_is)
    (case a11 => k_is)
    (case l11 => k_is)
    (case c11 => k_is)
    (case k11 => k_is)
    (case cc => k_is)
    (case v11 => rfl)
    (case rT => kernel_rfl)
    (case nP => kernel_rfl)
    (case a12 => k_is)
    (case l12 => k_is)
    (case c12 => k_is)
    (case k12 => k_is)
    (case a13 => k_is)
    (case l13 => k_is)
    (case c13 => k_is)
    (case k13 => k_is)
    (case a14 => k_is)
    (case l14 => k_is)
    (case c14 => k_is)
    (case k14 => k_is)
    (case a15 => k_is)
    (case l15 => k_is)
    (case c15 => k_is)
    (case k15 => k_is)
    (case a16 => k_is)
    (case l16 => k_is)
    (case c16 => k_is)
    (case k16 => k_is)
    (case a17 => k_is)
    (case l17 => k_is)
    (case c17 => k_is)
    (case k17 => k_is)
    (case a18 => k_is)
    (case l18 => k_is)
    (case c18 => k_is)
    (case k18 => k_is)
    (case a19 => k_is)
    (case l19 => k_is)
    (case c19 => k_is)
    (case k19 => k_is)
    (case a20 => k_is)
    (case l20 => k_is)
    (case c20 => k_is)
    (case k20 => k_is)
    (case a21 => k_is)
    (case l21 => k_is)
    (case c21 => k_is)
    (case k21 => k_is)
    (case a22 => k_is)
    (case l22 => k_is)
    (case c22 => k_is)
    (case k22 => k_is)
    (case a23 => k_is)
    (case l23 => k_is)
    (case c23 => k_is)
    (case k23 => k_is)
    (case a24 => k_is)
    (case l24 => k_is)
    (case c24 => k_is)
    (case k24 => k_is)
    (case xg_BadContract => k_is)
    (case xx_BadContract => k_exc)
    (case xk_BadContract => k_is)
    (case xs_BadContract => k_is)
    (case xt_BadContract => k_is)
    (case xg_BookError => k_is)
    (case xx_BookError => k_exc)
    (case xk_BookError => k_is)
    (case xs_BookError => k_is)
    (case xt_BookError => k_is)
    (case xg_TooMany => k_is)
    (case xx_TooMany => k_exc)
    (case xk_TooMany => k_is)
    (case xs_TooMany => k_is)
    (case xt_TooMany => k_is)
    (case xg_BadText => k_is)
    (case xx_BadText => k_exc)
    (case xk_BadText => k_is)
    (case xs_BadText => k_is)
    (case xt_BadText => k_is)
    (case xg_BadMarket => k_is)
    (case xx_BadMarket => k_exc)
    (case xk_BadMarket => k_is)
    (case xs_BadMarket => k_is)
    (case xt_BadMarket => k_is)
    (case e1 => kernel_rfl)
    (case e2 => k_is)
    (case e3 => k_is)
    (case e4 => k_is)
    (case e5 => k_is)
    (case e6 => k_is)
    (case e7 => k_is)
    (case e8 => k_is)
    (case e9 => kernel_rfl)
    (case e10 => kernel_rfl)
    (case e11 => kernel_rfl)
    (case e12 => kernel_rfl)
    (case e13 => kernel_rfl)
    (case z_len => k_is)
    (case z_int => k_is)
    (case z_max => k_is)
    (case z_all => k_is)
    (case z_LETTERS => k_is)
    (case z_LONGEST_WORD => k_is)
    (case z_isinstance => k_is)
    (case z_str => k_is)
    (case z_bool => k_is)
    (case z_TOO_LARGE => k_is)
    (case z_NUMBERS => k_is)
    (case w_NUMBERS => kernel_rfl)
    (case o_NUMBERS => kernel_rfl)
    (case z_CONDITIONS => k_is)
    (case w_CONDITIONS => kernel_rfl)
    (case o_CONDITIONS => kernel_rfl)
    (case z_CONTRACTS => k_is)
    (case w_CONTRACTS => kernel_rfl)
    (case o_CONTRACTS => kernel_rfl)
    (case z_zip => k_is)
    (case z_tuple => k_is)
    (case z_DEEPEST => k_is)
    (case z_ValueError => k_is)
    (case z_range => k_is)
