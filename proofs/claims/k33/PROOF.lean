import PyProof.Rows.All
import Wide.All
import OpenK.AllK
import Wide.FinOn
import HandS.ForMost
import HandS.More
import HandS.DictComp
import HandS.IsInst
import HandS.Wide
import HandS.TupAny
import PyProof.StrOps2
import HandS.AnyAll
import HandS.Text
import HandS.ForExc
import HandS.FStr
import HandS.Small
import HandS.Zip
import HandS.ExcIs
import HandS.EndTab
import KE.KNest
import HandS.Walk
import HandS.Deep
import HandS.HeadHook3
import HandS.Strs
import HandS.RaiseMore
import HandS.Evl
import HandS.DeepEq
import HandS.TupLe
import KE.KEqNest
import PySem.Challenge.RW_contractbook_k33_whole_markets_that_are
set_option Elab.async false
set_option linter.all false
set_option maxRecDepth 100000
namespace Bk
open PySem PySem.Spec PyProof.Rows L2

/-! ### steps of a reading -/
section steps
variable {D : Ends} {σ : L2.St} {H : Hp} {Q : VK} {v : V}
theorem g_seq {t u : TS} (h : t { D with nx := u D } σ H) : tSeq t u D σ H := h
theorem g_next (h : D.nx σ H) : tNext D σ H := h
theorem g_asg {te : TE} {g : TG} (h : te σ H fun x H1 => g x σ H1 D.nx) : tAsg te g D σ H := h
theorem g_name {i : Nat} {R : L2.St → Hp → Prop} (h : R (σ.set i (some v)) H) : gName i v σ H R := h
theorem g_ret {te : TE} (h : te σ H D.rt) : tRet te D σ H := h
theorem g_drop {te : TE} (h : te σ H fun _ H1 => D.nx σ H1) : tDrop te D σ H := h
theorem g_ifs {c : TT} {t u : TS} (h : c σ H fun b H1 => if b = true then t D σ H1 else u D σ H1) : tIfS c t u D σ H := h
theorem g_if {c : TT} {t u : TE} (h : c σ H fun b H1 => if b = true then t σ H1 Q else u σ H1 Q) : tIf c t u σ H Q := h
theorem g_c (h : Q v H) : tC v σ H Q := h
theorem g_op {r : R2} {ta tb : TE} (h : ta σ H fun x H1 => tb σ H1 fun y H2 => r x y H2 Q) : tOp r ta tb σ H Q := h
theorem g_un {r : V → Hp → VK → Prop} {ta : TE} (h : ta σ H fun x H1 => r x H1 Q) : tUn r ta σ H Q := h
theorem g_neg {g : Int → V} {i : Int} (h : Q (g i) H) : rU g (.int i) H Q := ⟨i, rfl, h⟩
theorem g_I0 {g : Int → Int → V} {i j : Int} (h : Q (g i j) H) : rI0 g (.int i) (.int j) H Q := ⟨i, j, rfl, rfl, h⟩
theorem g_I {C : Int → Int → Prop} {g : Int → Int → V} {i j : Int} (hc : C i j) (h : Q (g i j) H) : rI C g (.int i) (.int j) H Q := ⟨i, j, rfl, rfl, hc, h⟩
theorem dec_int {i j : Int} : decide (V.int i = V.int j) = decide (i = j) := by
  by_cases e : i = j
  · rw [e]; simp
  · rw [decide_eq_false e]
    exact decide_eq_false (fun z => e (V.int.inj z))
theorem dec_str {i j : Str} : decide (V.str i = V.str j) = decide (i = j) := by
  by_cases e : i = j
  · rw [e]; simp
  · rw [decide_eq_false e]
    exact decide_eq_false (fun z => e (V.str.inj z))
theorem dec_bl {i j : Bool} : decide (V.bl i = V.bl j) = decide (i = j) := by
  cases i <;> cases j <;> rfl
theorem g_eqI {i j : Int} (h : Q (.bl (decide (i = j))) H) : rEq (.int i) (.int j) H Q := ⟨rfl, by rw [dec_int]; exact h⟩
theorem g_eqS {i j : Str} (h : Q (.bl (decide (i = j))) H) : rEq (.str i) (.str j) H Q := ⟨rfl, by rw [dec_str]; exact h⟩
theorem g_eqB {i j : Bool} (h : Q (.bl (decide (i = j))) H) : rEq (.bl i) (.bl j) H Q := ⟨rfl, by rw [dec_bl]; exact h⟩
theorem g_neI {i j : Int} (h : Q (.bl (!decide (i = j))) H) : rNe (.int i) (.int j) H Q := ⟨rfl, by rw [dec_int]; exact h⟩
theorem g_neS {i j : Str} (h : Q (.bl (!decide (i = j))) H) : rNe (.str i) (.str j) H Q := ⟨rfl, by rw [dec_str]; exact h⟩
theorem g_neB {i j : Bool} (h : Q (.bl (!decide (i = j))) H) : rNe (.bl i) (.bl j) H Q := ⟨rfl, by rw [dec_bl]; exact h⟩
theorem g_test {te : TE} {R : Bool → Hp → Prop} (h : te σ H fun x H' => ∃ k, x = .bl k ∧ R k H') : tTest te σ H R := h
theorem g_b {te : TE} {R : Bool → Hp → Prop} (h : te σ H fun x H' => ∃ k, x = .bl k ∧ R k H') : tB te σ H R := h
theorem g_and {t u : TT} {R : Bool → Hp → Prop} (h : t σ H fun c H1 => if c = true then u σ H1 R else R false H1) : tAnd t u σ H R := h
theorem g_or {t u : TT} {R : Bool → Hp → Prop} (h : t σ H fun c H1 => if c = true then R true H1 else u σ H1 R) : tOr t u σ H R := h
theorem g_not {t : TT} {R : Bool → Hp → Prop} (h : t σ H fun c H1 => R (!c) H1) : tNot t σ H R := h
theorem g_andV {ta tb : TE} (h : ta σ H fun x H1 => ∃ c, x = .bl c ∧ if c = true then tb σ H1 Q else Q (.bl false) H1) : tAndV ta tb σ H Q := h
theorem g_orV {ta tb : TE} (h : ta σ H fun x H1 => ∃ c, x = .bl c ∧ if c = true then Q (.bl true) H1 else tb σ H1 Q) : tOrV ta tb σ H Q := h
theorem g_notV {ta : TE} (h : ta σ H fun x H1 => ∃ c, x = .bl c ∧ Q (.bl (!c)) H1) : tNotV ta σ H Q := h
theorem g_cons {ta : TE} {tr : TA} {R : List V → Hp → Prop} (h : ta σ H fun x H1 => tr σ H1 fun xs H2 => R (x :: xs) H2) : tCons ta tr σ H R := h
theorem g_chain {r r' : R2} {ta tb tc : TE} (h : ta σ H fun x H1 => tb σ H1 fun y H2 => r x y H2 fun z H3 => ∃ k, z = .bl k ∧ (if k = true then tc σ H3 fun z' H4 => r' y z' H4 Q else Q (.bl false) H3)) : tChain r r' ta tb tc σ H Q := h
theorem g_nil {R : List V → Hp → Prop} (h : R [] H) : tNil σ H R := h
theorem g_call {sp : Sp} {dvs : List V} {E : XK} {t : TA} (h : t σ H fun vs H1 => sp (vs ++ dvs) H1 Q E) : tCall sp dvs E t σ H Q := h
theorem g_cb {r : List V → Hp → VK → Prop} {t : TA} (h : t σ H fun vs H1 => r vs H1 Q) : tCB r t σ H Q := h
theorem g_dget {td ty : TE} (h : td σ H fun x H1 => ty σ H1 fun y H2 => ∃ a v, x = .ref a ∧ DGet H2 a y (some v) ∧ Q v H2) : tDGet td ty σ H Q := h
theorem g_dput {td ty tv : TE} (h : tv σ H fun v H1 => td σ H1 fun x H2 => ty σ H2 fun y H3 => ∃ a H4, x = .ref a ∧ DPut H3 a y v H4 ∧ D.nx σ H4) : sDPut td ty tv D σ H := h
theorem g_tup {t : TA} (h : t σ H fun xs H1 => xs.length ≤ sizeLine ∧ ∀ p, H1 p = none → Q (.ref p) (upd H1 p (.tup xs))) : tTup t σ H Q := h
theorem g_lst {t : TA} (h : t σ H fun xs H1 => xs.length ≤ sizeLine ∧ ∀ p, H1 p = none → Q (.ref p) (upd H1 p (.lst xs))) : tLst t σ H Q := h
theorem g_for {wi : TI} {g : TG} {tb : TS} (h : wi σ H fun J H1 => ∃ W : Nat → Nat → L2.St → Hp → Prop, (∃ m, W 0 m σ H1) ∧ ∀ i m σ H, W i m σ H →
  (J.stop i H ∧ D.nx σ H) ∨ (J.go i H ∧ ∃ N : L2.St → Hp → Prop, (∀ σ' H', N σ' H' → ∃ m', m' < m ∧ W (i + 1) m' σ' H') ∧ ∀ x H', J.yld i H x H' → g x σ H' fun σ2 H2 => tb { D with nx := N, ct := N, bk := D.nx } σ2 H2)) : tFor wi g tb D σ H := h
theorem g_rng1 {ta : TA} {R : It → Hp → Prop} (h : ta σ H fun vs H1 => ∃ j : Int, vs = [.int j] ∧ -(2 ^ 62) ≤ j ∧ j < 2 ^ 62 ∧ R (Itr 0 j.toNat) H1) : iRng1 ta σ H R := h
theorem g_rng2 {ta : TA} {R : It → Hp → Prop} (h : ta σ H fun vs H1 => ∃ i j : Int, vs = [.int i, .int j] ∧ (-(2 ^ 62) ≤ i ∧ i < 2 ^ 62 ∧ -(2 ^ 62) ≤ j ∧ j < 2 ^ 62) ∧ R (Itr i (j - i).toNat) H1) : iRng2 ta σ H R := h
theorem g_ilist {K : PySem.W.Frag} {tl : TE} {R : It → Hp → Prop} (h : tl σ H fun x H1 => ∃ a, x = .ref a ∧ (∃ xs, SqL K H1 a xs) ∧ R (Itl K a) H1) : iList K tl σ H R := h
theorem g_itup {K : PySem.W.Frag} {tl : TE} {R : It → Hp → Prop} (h : tl σ H fun x H1 => ∃ a, x = .ref a ∧ (∃ xs, SqT K H1 a xs) ∧ R (Itt K a) H1) : iTup K tl σ H R := h
theorem g_lc {wi : TI} {g : TG} {tt : TT} {te : TE} {vs : List Nat} (h : wi σ H fun J H1 => ∀ D, H1 D = none → ∃ W : Nat → Nat → Hp → Prop, (∃ m, W 0 m (upd H1 D (.lst []))) ∧ ∀ i m H, W i m H →
  (J.stop i H ∧ Q (.ref D) H) ∨ (J.go i H ∧ ∃ Nx : Hp → Prop, (∀ H', Nx H' → ∃ m', m' < m ∧ W (i + 1) m' H') ∧ ∀ x H', J.yld i H x H' → g x (wipe σ vs) H' fun σ2 H2 => wipe σ2 vs = wipe σ vs ∧ tt σ2 H2 fun b H3 =>
    if b = true then te σ2 H3 fun y H4 => ∃ acc, H4 D = some (.lst acc) ∧ acc.length < sizeLine ∧ Nx (upd H4 D (.lst (acc ++ [y]))) else Nx H3)) : tLc wi g tt te vs σ H Q := h
theorem g_yes {R : Bool → Hp → Prop} (h : R true H) : tYes σ H R := h
theorem g_sl {r : V → Option Int → Option Int → Hp → VK → Prop} {te : TE} {tl th : TO} (h : te σ H fun x H1 => tl σ H1 fun l H2 => th σ H2 fun u H3 => r x l u H3 Q) : tSl r te tl th σ H Q := h
theorem g_nopart {R : Option Int → Hp → Prop} (h : R none H) : tNoPart σ H R := h
theorem g_part {t : TE} {R : Option Int → Hp → Prop} (h : t σ H fun x H1 => ∃ i, x = .int i ∧ R (some i) H1) : tPart t σ H R := h
theorem g_disp {trs : List (TE × TE)} (h : ∀ p, H p = none → tPairs trs σ (upd H p (.dK [])) fun ps H2 => H2 p = some (.dK []) ∧ ∃ kvs : List (Key × V), ps = kvs.map (fun kv => (kV kv.1, kv.2)) ∧ kvs.length ≤ 15 ∧ Q (.ref p) (upd H2 p (.dK (mergeK [] kvs)))) : tDisp trs σ H Q := h
theorem g_pairs0 {R : List (V × V) → Hp → Prop} (h : R [] H) : tPairs [] σ H R := h
theorem g_pairs {tk tv : TE} {r : List (TE × TE)} {R : List (V × V) → Hp → Prop} (h : tk σ H fun x H1 => tv σ H1 fun y H2 => tPairs r σ H2 fun ps H3 => R ((x, y) :: ps) H3) : tPairs ((tk, tv) :: r) σ H R := h
theorem g_gtup {K : PySem.W.Frag} {n : Nat} {t : TGs} {a : Addr} {xs : List V} {R : L2.St → Hp → Prop} (h : SqT K H a xs) (hl : xs.length = n) (q : t xs σ H R) : gTup K n t (.ref a) σ H R := ⟨a, xs, rfl, h, hl, q⟩
theorem g_gcons {t : TG} {u : TGs} {x : V} {r : List V} {R : L2.St → Hp → Prop} (q : t x σ H fun σ' H' => u r σ' H' R) : gCons t u (x :: r) σ H R := ⟨x, r, rfl, q⟩
theorem g_gnil {R : L2.St → Hp → Prop} (q : R σ H) : gNil [] σ H R := ⟨rfl, q⟩
theorem g_isN {x : V} {R : Bool → Hp → Prop} (h : R (decide (x = .non)) H) : ∃ k, V.bl (decide (x = .non)) = .bl k ∧ R k H := ⟨_, rfl, h⟩
theorem g_bm {K : PySem.W.Frag} {T : String} {r : V → List V → Hp → VK → Prop} {to : TE} {t : TA} (h : to σ H fun x H1 => tyV K T x H1 ∧ t σ H1 fun xs H2 => r x xs H2 Q) : tBM K T r to t σ H Q := h
theorem g_bm0 {K : PySem.W.Frag} {T : String} {r : V → List V → Hp → VK → Prop} {to : TE} (h : to σ H fun x H1 => tyV K T x H1 ∧ r x [] H1 Q) : tBM0 K T r to σ H Q := h
theorem ifd {p A B : Prop} [Decidable p] (h1 : p → A) (h2 : ¬ p → B) : if decide p = true then A else B := by
  by_cases h : p
  · rw [if_pos (decide_eq_true h)]; exact h1 h
  · rw [if_neg (by simp [h])]; exact h2 h
theorem ifdn {p A B : Prop} [Decidable p] (h1 : p → B) (h2 : ¬ p → A) : if (!decide p) = true then A else B := by
  by_cases h : p
  · rw [if_neg (by simp [h])]; exact h1 h
  · rw [if_pos (by simp [h])]; exact h2 h
theorem ifn {b : Bool} {A B : Prop} (h1 : b = true → B) (h2 : b = false → A) : if (!b) = true then A else B := by
  cases b
  · exact h2 rfl
  · exact h1 rfl
theorem ifb {b : Bool} {A B : Prop} (h1 : b = true → A) (h2 : b = false → B) : if b = true then A else B := by
  cases b
  · exact h2 rfl
  · exact h1 rfl
theorem iteNF {A B : Prop} (h : A) : if (!false) = true then A else B := h
theorem iteNT {A B : Prop} (h : B) : if (!true) = true then A else B := h
/-- a and b, a or b: the way that two tests may take is read once -/
theorem and_cut {p U F : Prop} [Decidable p] (q : Prop) (hF : ¬ (p ∧ q) → F) (hU : p → (¬ q → F) → U) : if decide p = true then U else F :=
  ifd (fun c => hU c fun z => hF fun y => z y.2) (fun c => hF fun y => c y.1)
theorem or_cut {p U T : Prop} [Decidable p] (q : Prop) (hT : p ∨ q → T) (hU : ¬ p → (q → T) → U) : if decide p = true then T else U :=
  ifd (fun c => hT (.inl c)) (fun c => hU c fun z => hT (.inr z))
/-- a key of a dict that stands at a -/
theorem g_key {a : Addr} {kvs : List (Key × V)} {k : Str} {w : V} {R : V → Prop} (hd : H a = some (.dK kvs)) (hv : valV kvs (.inr k) = some w) (h : R w) :
    ∃ b v, V.ref a = .ref b ∧ DGet H b (.str k) (some v) ∧ R v := ⟨a, w, rfl, .inl ⟨kvs, .inr k, .inl hd, rfl, hv.symm⟩, h⟩
theorem g_put {a : Addr} {kvs kvs' : List (Key × V)} {k : Str} {w : V} {R : Hp → Prop} (hd : H a = some (.dK kvs)) (hl : kvs.length < sizeLine) (hv : putK kvs (.inr k) w = kvs') (h : R (upd H a (.dK kvs'))) :
    ∃ b H4, V.ref a = .ref b ∧ DPut H b (.str k) w H4 ∧ R H4 := ⟨a, _, rfl, .inl ⟨kvs, .inr k, hd, rfl, hl, rfl⟩, by rw [hv]; exact h⟩
end steps

/-! ### what a def of the text is known to keep -/
structure Own (K : PySem.W.Frag) (mg : Str → Option Value) (x : Str) (st : Stmt) (ps : List Str) (f : Addr) (fd : FuncData) : Prop where
  F : Fun K x x st f fd
  g : mg x = some (.ref f)
  b : Binds K fd ps []
structure Has (P : Program) (w : World) (K : PySem.W.Frag) (mg : Str → Option Value) (base : Heap) (x : Str) (ps : List Str) (lv : Nat) (CX : CXT) (sp : Sp) (f : Addr) (fd : FuncData) : Prop where
  G : FnOk P w K mg base CX lv f fd ps sp
  g : mg x = some (.ref f)
  k : PySem.W.keepIn K (.ref f) = true
  b : Binds K fd ps []
theorem Has.mono {P : Program} {w : World} {K : PySem.W.Frag} {mg : Str → Option Value} {base : Heap} {x : Str} {ps : List Str} {j i : Nat} {CX : CXT} {sp : Sp} {f : Addr} {fd : FuncData} (D : Has P w K mg base x ps j CX sp f fd) (h : j ≤ i) :
    Has P w K mg base x ps i CX sp f fd := ⟨D.G.mono h, D.g, D.k, D.b⟩
theorem Own.has {P : Program} {w : World} {K : PySem.W.Frag} {mg : Str → Option Value} {base : Heap} {x : Str} {st : Stmt} {ps : List Str} {f : Addr} {fd : FuncData} {lv : Nat} {CX : CXT} {sp : Sp} (O : Own K mg x st ps f fd)
    (G : FnOk P w K mg base CX lv f fd ps sp) : Has P w K mg base x ps lv CX sp f fd := ⟨G, O.g, O.F.kp, O.b⟩

/-! ### what stays -/
/-- all stays but what stands at s -/
def KB (s : Addr) (H H' : Hp) : Prop := ∀ a o, a ≠ s → H a = some o → H' a = some o
theorem KB.refl (s : Addr) (H : Hp) : KB s H H := fun _ _ _ h => h
theorem KB.trans {s : Addr} {H H1 H2 : Hp} (a : KB s H H1) (b : KB s H1 H2) : KB s H H2 := fun x o n h => b x o n (a x o n h)
theorem KB.of {s : Addr} {H H' : Hp} (e : Same H H') : KB s H H' := fun a o _ h => e a o h
theorem KB.upd {s : Addr} {H : Hp} {o : HO} : KB s H (upd H s o) := fun a u n h => by rw [upd_ne n]; exact h
theorem same_new {H : Hp} {p : Addr} {o : HO} (h : H p = none) : Same H (upd H p o) := fun b x e => by
  rw [upd_ne (ne_of_none e h)]
  exact e
theorem Rd.same {H H' : Hp} {a : Addr} {u : HO} (e : Same H H') (h : Rd H a u) : Rd H' a u := by
  rcases h with h | ⟨o, h⟩
  · exact .inl (e _ _ h)
  · exact .inr ⟨o, e _ _ h⟩
theorem SqT.same {K : PySem.W.Frag} {H H' : Hp} {a : Addr} {xs : List V} (e : Same H H') (h : SqT K H a xs) : SqT K H' a xs := by
  rcases h with h | h
  · exact .inl (Rd.same e h)
  · exact .inr h
theorem sqt {K : PySem.W.Frag} {H : Hp} {a : Addr} {xs : List V} (h : H a = some (.tup xs)) : SqT K H a xs := .inl (.inl h)
theorem sql {K : PySem.W.Frag} {H : Hp} {a : Addr} {xs : List V} (h : H a = some (.lst xs)) : SqL K H a xs := .inl (.inl h)
theorem KB.rd {s : Addr} {H H' : Hp} {a : Addr} {u : HO} {kvs : List (Key × V)} (e : KB s H H') (hs : H s = some (.dK kvs)) (hu : ∀ k, u ≠ .dK k) (h : Rd H a u) : Rd H' a u := by
  rcases h with h | ⟨o, h⟩
  · exact .inl (e _ _ (fun z => by rw [z, hs] at h; exact hu _ (Option.some.inj h).symm) h)
  · exact .inr ⟨o, e _ _ (fun z => by rw [z, hs] at h; cases h) h⟩
theorem KB.seq {K : PySem.W.Frag} {s : Addr} {H H' : Hp} {a : Addr} {xs : List V} {kvs : List (Key × V)} (e : KB s H H') (hs : H s = some (.dK kvs)) (h : SqL K H a xs) : SqL K H' a xs := by
  rcases h with h | h
  · exact .inl (e.rd hs (fun _ z => by cases z) h)
  · exact .inr h
theorem KB.tup {K : PySem.W.Frag} {s : Addr} {H H' : Hp} {a : Addr} {xs : List V} {kvs : List (Key × V)} (e : KB s H H') (hs : H s = some (.dK kvs)) (h : SqT K H a xs) : SqT K H' a xs := by
  rcases h with h | h
  · exact .inl (e.rd hs (fun _ z => by cases z) h)
  · exact .inr h
/-- tuples stay -/
def TM (K : PySem.W.Frag) (H H' : Hp) : Prop := ∀ a xs, SqT K H a xs → SqT K H' a xs
theorem TM.refl {K : PySem.W.Frag} (H : Hp) : TM K H H := fun _ _ h => h
theorem TM.trans {K : PySem.W.Frag} {H H1 H2 : Hp} (a : TM K H H1) (b : TM K H1 H2) : TM K H H2 := fun x y h => b x y (a x y h)
theorem TM.of {K : PySem.W.Frag} {H H' : Hp} (e : Same H H') : TM K H H' := fun _ _ h => SqT.same e h
theorem KB.tm {K : PySem.W.Frag} {s : Addr} {H H' : Hp} {kvs : List (Key × V)} (e : KB s H H') (hs : H s = some (.dK kvs)) : TM K H H' := fun _ _ h => e.tup hs h
theorem sz {n : Nat} (h : n ≤ 1000) : n ≤ sizeLine := Nat.le_of_lt (small1000 h)

theorem at_any {α : Type} {xs : List α} {z : Int} {j : Nat} {v : α} (e : z = (j : Int)) (h : xs[j]? = some v) : atI xs z = some v := by
  rw [e]
  exact atI_nat h

/-! ### a text told n times -/
/-- one sign, n times -/
def rp (c : Nat) (n : Int) : Str := ⟨(List.replicate n.toNat c).toArray⟩
theorem rp_fold (c : Nat) : ∀ (k : Nat) (a : Array Nat), (List.replicate k (#[c] : Array Nat)).foldl (· ++ ·) a = a ++ (List.replicate k c).toArray
  | 0, a => by simp
  | k + 1, a => by
    rw [List.replicate_succ, List.foldl_cons, rp_fold c k, List.replicate_succ]
    apply Array.ext'
    simp
theorem rp_len {c : Nat} {n : Int} : (rp c n).length = n.toNat := by
  show ((List.replicate n.toNat c).toArray).size = n.toNat
  simp
def rRepS : R2 := fun x y H Q => ∃ (c : Nat) (n : Int), x = .str ⟨#[c]⟩ ∧ y = .int n ∧ 0 ≤ n ∧ n ≤ 1000 ∧ Q (.str (rp c n)) H
theorem op_rep_str {X : Cx} : OpR X (binaryOp .Mult) rRepS := by
  intro pins s σ H x y v u Q I rx ry h
  obtain ⟨c, n, rfl, rfl, h0, h1, q⟩ := h
  obtain ⟨t, rfl⟩ := rx
  obtain ⟨t', rfl⟩ := ry
  have hz : (1000 : Nat) ≤ sizeLine := by decide
  refine PySem.P.mul_str (by simp; omega) (fun h2 h3 => ?_) (fun h2 h3 => ?_) ?_
  · have : (1 : Int) ≤ (2 ^ 63 - 1) / n := by
      apply (Int.le_ediv_iff_mul_le (by omega)).mpr
      omega
    show ¬ ((1 : Nat) : Int) > _
    omega
  · show decide _ = false
    refine decide_eq_false ?_
    show ¬ (1 * n.toNat > _)
    have : n.toNat ≤ 1000 := by omega
    omega
  · by_cases h2 : n < 1
    · rw [if_pos h2]
      have e : rp c n = Str.empty := by
        unfold rp
        rw [show n.toNat = 0 by omega]
        rfl
      rw [e] at q
      exact ⟨by decide, ⟨.str Str.empty, H, I.tok _, ⟨_, rfl⟩, q⟩⟩
    · rw [if_neg h2]
      by_cases h3 : n = 1
      · subst h3
        rw [if_pos (by rfl)]
        have e : rp c 1 = ⟨#[c]⟩ := rfl
        rw [e] at q
        exact ⟨.str ⟨#[c]⟩, H, I, ⟨_, rfl⟩, q⟩
      · rw [if_neg (by simp [h3]; intro z; cases z)]
        have e : (⟨(List.replicate n.toNat (#[c] : Array Nat)).foldl (· ++ ·) #[]⟩ : Str) = rp c n := by
          rw [rp_fold]
          simp [rp]
        rw [e]
        refine ⟨?_, ⟨.str (rp c n), H, I.tok _, ⟨_, rfl⟩, q⟩⟩
        rw [rp_len]
        omega
end Bk

set_option Elab.async false
set_option linter.all false
set_option maxRecDepth 100000
set_option maxHeartbeats 2000000
namespace Bk
open PySem PySem.Spec PyProof.Rows L2 GxR
/-! ### all(.. for x in text) where the element reads the module's names -/
/-- an element, with the module's names at hand -/
def Elm (prog : Program) (w : World) (mg : Str → Option Value) (sc : Scope) (x : Str) (elt : Expr) (pb : Nat → Bool) : Prop :=
  ∀ (en : Env) (B : Around) (Er : Value → Shared → Prop) (c : Nat) (t : Tok) (u : Shared) (m : Str → Option Value), en.scope = sc → en.globals = mainGlobals →
    u.heap.Ns mainGlobals mg → u.heap.Ns en.locals m → m x = some (.str ⟨#[c]⟩ t) → wpAny (model prog w) B (eval elt en) (fun y u' => y = .bool (pb c) ∧ Keeps u u') Er u
/-- x in NAME, a text of the module -/
theorem elm_in {prog : Program} {w : World} {mg : Str → Option Value} {sc : Scope} {x n : Str} {z : Str} {tz : Tok} {p1 p2 p3 : Pos} (hk : sc.kind = .function) (hl : sc.names.lookup x = some .local) (hn : sc.names.lookup n = some .globalImplicit)
    (hz : mg n = some (.str z tz)) (dx : (x == ("__debug__" : Str)) = false := by decide) (dn : (n == ("__debug__" : Str)) = false := by decide) :
    Elm prog w mg sc x (.Compare (.Name x p1) [.In] [.Name n p2] p3) (fun c => decide (c ∈ z.cps.toList)) := by
  intro en B Er c t u m es eg hg hloc hm
  refine wpAny_Compare1 (wpAny_Name (wpAny_loadName_local (by rw [es]; exact hk) (show en.scope.names.lookup x = some .local by rw [es]; exact hl) hloc hm ?_) dx)
  refine Calls.Name_function_global (by rw [es]; exact hk) (show en.scope.names.lookup n = some .globalImplicit by rw [es]; exact hn) (Calls.loadGlobal_global (by rw [eg]; exact hg) hz ?_) dn
  exact PyProof.Rows.in_str ⟨congrArg Value.bool (PySem.StrLaws.found_one z c), keeps_tok _ _⟩
/-- the code of a generator expression is found or made: the def's table may grow -/
theorem code_any {prog : Program} {w : World} {A : Around} {Er : Value → Shared → Prop} {env : Env} {c P : Addr} {u : Shared} {ps : Array Value} {sc : Scope} {q : Str} {gpos : Pos} {Q : Value → Shared → Prop}
    (hc : env.code = .ref c) (cd : PySem.W.CodeHd u.heap c P) (hP : u.heap.get? P = some { cls := .none, data := .fields ps }) (ht : TriplesOk ps.toList)
    (h : ∀ (code : Value) (g : Heap) (tk : Nat) (more : Array Value), Heap.ExtBut P u.heap g → u.heap.objs.size ≤ g.objs.size → g.get? P = some { cls := .none, data := .fields (ps ++ more) } → TriplesOk (ps ++ more).toList → Q code { u with heap := g, toks := tk }) :
    wpAny (model prog w) A (genexprCode env gpos q sc) Q Er u := by
  cases hf : codeAmong gpos ps.toList with
  | some cv => exact wpAny_genexprCode_hit hc (cd.code hP ht) hf (h cv u.heap u.toks #[] (Heap.ExtBut.refl _ _) (Nat.le_refl _) (by simpa using hP) (by simpa using ht))
  | none =>
    refine wpAny_genexprCodeX hc (cd.code hP ht) (cd.tab hP) hf fun c' g tk gx gge glt gco _ gtab _ => ?_
    obtain ⟨_, _, _, _, _, _, _, _, _, _, _, _, _, _, _, _, _, _, _, tr, _⟩ := gco
    exact h _ g tk _ gx (Nat.le_trans gge (Nat.le_of_lt glt)) gtab.2 tr
section
variable {X : Cx} {pins : List (Addr × Obj)} {σ : L2.St} {H : Hp} {s : Shared}
theorem gen_text {c P : Addr} {elt iter : Expr} {x : Str} {px gpos : Pos} {sc : Scope} {pb : Nat → Bool} {te : TE} {k : Nat} {W : Value → Shared → Prop} {R : Str → Hp → Prop}
    (hr : Room k X.A) (tb : TabB X.base X.mg c P) (hc : X.env.code = .ref c) (S : GenS X.env sc x) (hi : PE X iter te) (hel : Elm X.prog X.w X.mg sc x elt pb)
    (hs : ∀ v, genFold iter X.env v = pure v) (I : Inv X pins σ H s) (h : te σ H fun v H1 => ∃ a : Str, v = .str a ∧ TabG H1 P ∧ R a H1)
    (hW : ∀ (a : Str) (H1 : Hp) (g : Addr) (u : Shared), R a H1 → Ready X pins σ H1 P a pb g u → W (.ref g) u) :
    wpAny (model X.prog X.w) X.A (eval (.GeneratorExp elt [⟨.Name x px, iter, [], 0⟩] sc gpos) X.env) W X.xe s := by
  refine wpAny_GeneratorExp_walksQ hr.hd S.co (closure_ok S.free) S.cell S.dot S.loc S.kind (by have := hr.dp; omega) (thn (hi.run pins s σ H _ I h) ?_) hs
  rintro xv u ⟨v, H1, I1, r1, a, rfl, ⟨ps, hP, ht⟩, hR⟩
  obtain ⟨t, rfl⟩ := _root_.id r1
  refine wpAny_pyIter_str fun o St Wk st0 => ?_
  have atP : u.heap.get? P = some { cls := .none, data := .fields ps } := I1.hok P _ hP
  have atP2 := Heap.get?_push_of_some o atP
  have free := I1.nolimit
  have free2 := free.push o
  have old : ∀ b v, X.base.get? b = some v → (u.heap.push o).get? b = some v := fun b v e => Heap.get?_push_of_some _ (I1.bk b v e)
  refine ⟨free2, code_any hc (tb.code.keeps old) atP2 ht fun code g tk more gx gge gP gt => ?_⟩
  have hsz : (u.heap.push o).objs.size = u.heap.objs.size + 1 := Heap.size_push ..
  have hg : u.heap.objs.size < g.objs.size := by
    have gge : (u.heap.push o).objs.size ≤ g.objs.size := gge
    omega
  have ltP : P < u.heap.objs.size := Heap.lt_size atP
  have stat : cStatics ≠ P ∧ cStatics < u.heap.objs.size := by
    obtain ⟨_, ns, _⟩ := free
    refine ⟨fun e => ?_, ns.lt⟩
    obtain ⟨ob, es, ep, ho, hd, _⟩ := ns
    rw [e, atP] at ho
    cases ho
    cases hd
  obtain ⟨bm, ob, b1, b2, b3, b4, b5, b6, b7, b8⟩ := tb.bm
  have toG : ∀ b v, b ≠ P → u.heap.get? b = some v → g.get? b = some v := fun b v n e => gx b v n (Heap.get?_push_of_some _ e)
  have names : g.Ns mainGlobals X.mg := ((I1.mod.glob.keeps I1.bk).push o).extBut gx tb.gP
  have notW : ∀ b v, u.heap.get? b = some v → b ≠ u.heap.objs.size := fun b v e => Nat.ne_of_lt (Heap.lt_size e)
  refine wpAny_builtinsFor (m := X.mg) (by rw [I1.ok.glob]; exact names) b1 b2 (toG _ _ b4 (I1.bk _ _ b5)) b6 b7 b8 ?_
  refine ⟨u.heap.objs.size, [u.heap.objs.size], [u.heap.objs.size], a.cps.size, SignAt a, St, fun _ => true, fun i y => ∃ z, a.cps[i]? = some z ∧ y = .bool (pb z), rfl, Wk,
    (Wk X.A hr.hd).frame _ _ _ st0 fun b hb v e => gx b v (fun q => ?_) e, fun b hb => ?_, free2.extBut gx stat.1, fun q => ?_, fun hf hhf => ⟨?_, ?_⟩, ?_⟩
  · rw [List.mem_singleton.mp hb] at q
    exact Nat.ne_of_lt ltP q.symm
  · rw [List.mem_singleton.mp hb]
    exact hg
  · exact Nat.ne_of_lt stat.2 (List.mem_singleton.mp q)
  · intro A' E' i v s2 m2 _ _ _ _ _
    simp only [List.forIn_nil]
    exact wpAny_pure ⟨rfl, keeps_refl _⟩
  · intro A' E' i v s2 m2 _ hv _ hloc hm hk
    obtain ⟨z, tz, hz, rfl⟩ := hv
    have names2 : s2.heap.Ns mainGlobals X.mg := by
      obtain ⟨og, es, ep, e0, rr⟩ := names
      refine ⟨og, es, ep, hk mainGlobals (List.mem_range.mpr (Heap.lt_size e0)) (fun q => ?_) og (hhf _ _ e0), rr⟩
      obtain ⟨o3, _, _, e3, _⟩ := I1.mod.glob
      exact notW _ _ (I1.bk _ _ e3) (List.mem_singleton.mp q)
    refine wpAny_mono (hel _ A' E' z tz s2 m2 rfl I1.ok.glob names2 hloc hm) (fun y s3 r => ⟨⟨z, hz, r.1⟩, r.2⟩) fun _ _ e => e
  · intro q h5 tk5 gs bare ltq sz5 to5 W5 st5
    simp only [GxR.passing_true, List.length_range] at W5
    refine hW a H1 q _ hR ⟨_, _, _, _, _, W5.in4_1, st5, ?_, fun s' hm => ?_⟩
    · intro j y sj Qj Ej hy hQj
      obtain ⟨i, hi, z, hz, rfl⟩ := hy
      obtain ⟨hj, ej⟩ := List.getElem?_eq_some_iff.mp hi
      rw [List.getElem_range] at ej
      subst ej
      have ez : a.cps.toList[j]? = some z := by rw [Array.getElem?_toList]; exact hz
      have q2 : Qj (trF pb a.cps.toList j) sj := hQj
      rw [trF_some ez] at q2
      exact wpAny_truthy_bool q2
    · have out : ∀ b v, u.heap.get? b = some v → b ∉ g.objs.size :: [u.heap.objs.size] := fun b v e hb => by
        have hl := Heap.lt_size e
        rcases List.mem_cons.mp hb with z | z
        · rw [z] at hl
          exact absurd hl (Nat.not_lt.mpr (Nat.le_of_lt hg))
        · exact notW b v e (List.mem_singleton.mp z)
      have J := inv_tab (more := more) (h' := s'.heap) (g' := s'.gens) (d' := s'.drawn) (t' := s'.toks) I1 hP (fun b v n e => hm.heap b v (out b v e) (to5 b v (toG b v n e))) (hm.heap P _ (out P _ atP) (to5 P _ gP)) (AllBare.movedS (I1.bare.push bare) hm)
      rw [sh_eta u s' hm.os] at J
      exact ⟨_, ⟨⟨_, upd_same, gt⟩, fun b n => upd_ne n⟩, J⟩
/-- all(element for x in text) -/
theorem pe_allG {c P : Addr} {elt iter : Expr} {x : Str} {px p pos gpos : Pos} {sc : Scope} {pb : Nat → Bool} {te : TE} {k : Nat}
    (hr : Room k X.A) (gl : Gl X "all") (hm : X.mg "all" = none) (hb : bootBuiltins "all" = some (.builtin "all")) (tb : TabB X.base X.mg c P) (hc : X.env.code = .ref c) (S : GenS X.env sc x) (hi : PE X iter te) (hel : Elm X.prog X.w X.mg sc x elt pb)
    (hs : ∀ v, genFold iter X.env v = pure v)
    (he : starEach [.GeneratorExp elt [⟨.Name x px, iter, [], 0⟩] sc gpos] X.env = (false, eval (.GeneratorExp elt [⟨.Name x px, iter, [], 0⟩] sc gpos) X.env) :: starEach [] X.env := by rfl) :
    PE X (.Call (.Name "all" p) [.GeneratorExp elt [⟨.Name x px, iter, [], 0⟩] sc gpos] [] pos) (tAllS P pb te) := by
  refine ⟨fun pins s σ H Q I h => wpAny_Call_Name_kw (ld_blt (u := .builtin "all") I gl hm hb (PyProof.Rows.callWith_builtin1 ?_ he (by rfl)))⟩
  rw [he]
  refine Calls.spliced_cons (gen_text (R := fun a H1 => ∀ H2, Tabbed P H1 H2 → Q (.bl (a.cps.toList.all pb)) H2) hr tb hc S hi hel hs I h fun a H1 g u hR ⟨fp, wr, G, F, Sw, W, st, tr, hI⟩ => Calls.spliced_nil ?_)
  refine call_all_walkS (W.self 0 _ _ _ st ⟨g, fp, wr, G, _, F, Sw, _, rfl, W, st, tr, fun s' mv => ?_⟩)
  obtain ⟨H2, hT, J⟩ := hI s' mv
  exact ⟨.bl _, H2, J, rfl, by rw [all_signs a pb]; exact hR H2 hT⟩
end
end Bk

set_option Elab.async false
set_option linter.all false
set_option maxRecDepth 100000
set_option maxHeartbeats 2000000
namespace Bk
open PySem PySem.Spec PyProof.Rows L2
/-! ### NAME.get(key): a dict of the module whose keys are texts -/
def tKGet (K : PySem.W.Frag) (d : Addr) (ty : TE) : TE := fun σ H Q => ty σ H fun y H1 => ∃ (z : Str) (r : Option Value) (v : V), y = .str z ∧ PySem.W.nsIn K d z = some r ∧ RelV v (r.getD .none) ∧ Q v H1
theorem pe_kget {X : Cx} {n : Str} {p apos cpos : Pos} {e : Expr} {ty : TE} {d : Addr} {es : Array DictEntry} {c : Nat} (D : KDict X.K X.w d es c) (hg : Gl X n) (hm : X.mg n = some (.ref d)) (he : PE X e ty) (m : M1 X (.Name n p) "get" apos e cpos)
    (dn : (n == ("__debug__" : Str)) = false := by decide) : PE X (.Call (.Attribute (.Name n p) "get" apos) [e] [] cpos) (tKGet X.K d ty) := by
  refine ⟨fun pn u τ G W I h => wpAny_Call_method m.base m.few m.line PySem.F.plainAttrs_dict PySem.F.slot_dict_get PySem.F.type_dict_get (ld_glob I hg hm ?_ dn)⟩
  have M0 := PySem.W.mapOf_K (prog := X.prog) (w := X.w) I.kIn D.at_ D.lit
  refine ⟨M0.typeIs, M0.noDict, ?_⟩
  rw [m.trees]
  refine Calls.callWith_builtin rfl (Calls.evalArgs_plain (Calls.spliced_cons (thn (he.run pn u τ G _ I h) fun uv u1 hh => Calls.spliced_nil ?_)))
  obtain ⟨y, G1, I1, ry, z, r, v, ey, en, rv, q⟩ := hh
  subst ey
  obtain ⟨t, rfl⟩ := ry
  have M1 := PySem.W.mapOf_K (prog := X.prog) (w := X.w) I1.kIn D.at_ D.lit
  refine call_meetsIn PySem.F.slot_dict_get M1.typeIs PySem.F.entry_dict_get (PySem.F.args_dict_get_2 _ _) (meets_dict_get (strKind X.prog X.w) d (PySem.strKind_is X.prog X.w z t) D.low) ⟨_, M1, ?_⟩
  rw [PySem.W.find_K D.at_ en]
  exact ⟨v, G1, I1.tok _, rv, q⟩

/-! ### handed-in data -/
/-- what is told by tuples and lists stays -/
structure DM (K : PySem.W.Frag) (H H' : Hp) : Prop where
  t : ∀ a xs, SqT K H a xs → SqT K H' a xs
  l : ∀ a xs, SqL K H a xs → SqL K H' a xs
theorem DM.refl {K : PySem.W.Frag} (H : Hp) : DM K H H := ⟨fun _ _ h => h, fun _ _ h => h⟩
theorem DM.trans {K : PySem.W.Frag} {H H1 H2 : Hp} (a : DM K H H1) (b : DM K H1 H2) : DM K H H2 := ⟨fun x y h => b.t x y (a.t x y h), fun x y h => b.l x y (a.l x y h)⟩
theorem DM.of {K : PySem.W.Frag} {H H' : Hp} (e : Same H H') : DM K H H' := ⟨fun _ _ h => SqT.same e h, fun _ _ h => e.seq h⟩
theorem DM.tm {K : PySem.W.Frag} {H H' : Hp} (d : DM K H H') : TM K H H' := d.t
theorem KB.dm {K : PySem.W.Frag} {s : Addr} {H H' : Hp} {kvs : List (Key × V)} (e : KB s H H') (hs : H s = some (.dK kvs)) : DM K H H' := ⟨fun _ _ h => e.tup hs h, fun _ _ h => e.seq hs h⟩
mutual
theorem Dp.dm {K : PySem.W.Frag} {H H' : Hp} (m : DM K H H') : ∀ {d : PyData} {v : V}, Dp K H v d → Dp K H' v d
  | .none, _, .non => .non
  | .bool _, _, .bl b => .bl b
  | .int _, _, .int i => .int i
  | .str _, _, .str x => .str x
  | .list _, _, .lst h r => .lst (m.l _ _ h) (DpAll.dm m r)
  | .tuple _, _, .tup h r => .tup (m.t _ _ h) (DpAll.dm m r)
theorem DpAll.dm {K : PySem.W.Frag} {H H' : Hp} (m : DM K H H') : ∀ {ds : List PyData} {vs : List V}, DpAll K H vs ds → DpAll K H' vs ds
  | [], _, .nil => .nil
  | _ :: _, _, .cons h r => .cons (Dp.dm m h) (DpAll.dm m r)
end
theorem DpAll.len {K : PySem.W.Frag} {H : Hp} : ∀ {ds : List PyData} {vs : List V}, DpAll K H vs ds → vs.length = ds.length
  | [], _, .nil => rfl
  | _ :: _, _, .cons _ r => by rw [List.length_cons, List.length_cons, DpAll.len r]
theorem DpAll.at {K : PySem.W.Frag} {H : Hp} : ∀ {ds : List PyData} {vs : List V} {i : Nat} {d : PyData}, DpAll K H vs ds → ds[i]? = some d → ∃ v, vs[i]? = some v ∧ Dp K H v d
  | [], _, i, d, .nil, h => by simp at h
  | e :: ds, v :: vs, 0, d, .cons a r, h => by
    simp only [List.getElem?_cons_zero, Option.some.injEq] at h
    subst h
    exact ⟨v, rfl, a⟩
  | e :: ds, v :: vs, i + 1, d, .cons a r, h => by
    simp only [List.getElem?_cons_succ] at h
    obtain ⟨u, h1, h2⟩ := DpAll.at r h
    exact ⟨u, by simpa using h1, h2⟩
theorem DpAll.app {K : PySem.W.Frag} {H : Hp} : ∀ {ds es : List PyData} {vs us : List V}, DpAll K H vs ds → DpAll K H us es → DpAll K H (vs ++ us) (ds ++ es)
  | [], _, _, _, .nil, s => s
  | _ :: _, _, _, _, .cons a r, s => .cons a (DpAll.app r s)
theorem DpAll.drop {K : PySem.W.Frag} {H : Hp} : ∀ (n : Nat) {ds : List PyData} {vs : List V}, DpAll K H vs ds → DpAll K H (vs.drop n) (ds.drop n)
  | 0, _, _, r => r
  | _ + 1, [], _, .nil => .nil
  | n + 1, _ :: _, _, .cons _ r => DpAll.drop n r
theorem DpAll.take {K : PySem.W.Frag} {H : Hp} : ∀ (n : Nat) {ds : List PyData} {vs : List V}, DpAll K H vs ds → DpAll K H (vs.take n) (ds.take n)
  | 0, _, _, _ => .nil
  | _ + 1, [], _, .nil => .nil
  | n + 1, _ :: _, _, .cons a r => .cons a (DpAll.take n r)
/-- the built-in type's name -/
def tyn : PyData → String
  | .none => "NoneType"
  | .bool _ => "bool"
  | .int _ => "int"
  | .str _ => "str"
  | .list _ => "list"
  | .tuple _ => "tuple"
  | .dict _ => "dict"
theorem ty_of {K : PySem.W.Frag} {H : Hp} {v : V} {d : PyData} (h : Dp K H v d) : TyX K H v (.type (tyn d)) := by
  cases h with
  | non => exact .base .non
  | bl b => exact .base (.bl b)
  | int i => exact .base (.int i)
  | str x => exact .base (.str x)
  | lst a r =>
    rcases a with (a | ⟨o, a⟩) | ⟨o, its, n, a, c, _⟩
    · exact .base (.lst a)
    · exact .base (.frz a)
    · exact .kList a c
  | tup a r =>
    rcases a with (a | ⟨o, a⟩) | ⟨o, its, n, a, c, _⟩
    · exact .base (.tup a)
    · exact .fTuple a
    · exact .kTuple a c
def isStr : PyData → Bool
  | .str _ => true
  | _ => false
def isTup : PyData → Bool
  | .tuple _ => true
  | _ => false
def isLst : PyData → Bool
  | .list _ => true
  | _ => false
def isInt : PyData → Bool
  | .int _ => true
  | .bool _ => true
  | _ => false
def isBool : PyData → Bool
  | .bool _ => true
  | _ => false
section
variable {K : PySem.W.Frag} {H : Hp} {v : V} {d : PyData} {Q : VK}
theorem use_isStr (h : Dp K H v d) (q : Q (.bl (isStr d)) H) : rIsi K [v, .ty "str"] H Q := ⟨v, .ty "str", _, _, isStr d, rfl, .ty _, ty_of h, kit_ty (by cases h with | non => exact (by decide +kernel : kitB "NoneType" "str" = some false) | bl _ => exact (by decide +kernel : kitB "bool" "str" = some false) | int _ => exact (by decide +kernel : kitB "int" "str" = some false) | str _ => exact (by decide +kernel : kitB "str" "str" = some true) | lst _ _ => exact (by decide +kernel : kitB "list" "str" = some false) | tup _ _ => exact (by decide +kernel : kitB "tuple" "str" = some false)), q⟩
theorem use_isTup (h : Dp K H v d) (q : Q (.bl (isTup d)) H) : rIsi K [v, .ty "tuple"] H Q := ⟨v, .ty "tuple", _, _, isTup d, rfl, .ty _, ty_of h, kit_ty (by cases h with | non => exact (by decide +kernel : kitB "NoneType" "tuple" = some false) | bl _ => exact (by decide +kernel : kitB "bool" "tuple" = some false) | int _ => exact (by decide +kernel : kitB "int" "tuple" = some false) | str _ => exact (by decide +kernel : kitB "str" "tuple" = some false) | lst _ _ => exact (by decide +kernel : kitB "list" "tuple" = some false) | tup _ _ => exact (by decide +kernel : kitB "tuple" "tuple" = some true)), q⟩
theorem use_isLst (h : Dp K H v d) (q : Q (.bl (isLst d)) H) : rIsi K [v, .ty "list"] H Q := ⟨v, .ty "list", _, _, isLst d, rfl, .ty _, ty_of h, kit_ty (by cases h with | non => exact (by decide +kernel : kitB "NoneType" "list" = some false) | bl _ => exact (by decide +kernel : kitB "bool" "list" = some false) | int _ => exact (by decide +kernel : kitB "int" "list" = some false) | str _ => exact (by decide +kernel : kitB "str" "list" = some false) | lst _ _ => exact (by decide +kernel : kitB "list" "list" = some true) | tup _ _ => exact (by decide +kernel : kitB "tuple" "list" = some false)), q⟩
theorem use_isInt (h : Dp K H v d) (q : Q (.bl (isInt d)) H) : rIsi K [v, .ty "int"] H Q := ⟨v, .ty "int", _, _, isInt d, rfl, .ty _, ty_of h, kit_ty (by cases h with | non => exact (by decide +kernel : kitB "NoneType" "int" = some false) | bl _ => exact (by decide +kernel : kitB "bool" "int" = some true) | int _ => exact (by decide +kernel : kitB "int" "int" = some true) | str _ => exact (by decide +kernel : kitB "str" "int" = some false) | lst _ _ => exact (by decide +kernel : kitB "list" "int" = some false) | tup _ _ => exact (by decide +kernel : kitB "tuple" "int" = some false)), q⟩
theorem use_isBool (h : Dp K H v d) (q : Q (.bl (isBool d)) H) : rIsi K [v, .ty "bool"] H Q := ⟨v, .ty "bool", _, _, isBool d, rfl, .ty _, ty_of h, kit_ty (by cases h with | non => exact (by decide +kernel : kitB "NoneType" "bool" = some false) | bl _ => exact (by decide +kernel : kitB "bool" "bool" = some true) | int _ => exact (by decide +kernel : kitB "int" "bool" = some false) | str _ => exact (by decide +kernel : kitB "str" "bool" = some false) | lst _ _ => exact (by decide +kernel : kitB "list" "bool" = some false) | tup _ _ => exact (by decide +kernel : kitB "tuple" "bool" = some false)), q⟩
end
/-- all stays but a def's table at P, which may grow -/
structure Tb (P : Addr) (H H' : Hp) : Prop where
  g : GxR.TabG H' P
  k : ∀ a o, a ≠ P → H a = some o → H' a = some o
theorem Tb.refl {P : Addr} {H : Hp} (g : GxR.TabG H P) : Tb P H H := ⟨g, fun _ _ _ h => h⟩
theorem Tb.trans {P : Addr} {H H1 H2 : Hp} (a : Tb P H H1) (b : Tb P H1 H2) : Tb P H H2 := ⟨b.g, fun x o n h => b.k x o n (a.k x o n h)⟩
theorem tab_same {P : Addr} {H H' : Hp} (g : GxR.TabG H P) (e : Same H H') : GxR.TabG H' P := by
  obtain ⟨ps, h, t⟩ := g
  exact ⟨ps, e _ _ h, t⟩
theorem Tb.of {P : Addr} {H H' : Hp} (g : GxR.TabG H P) (e : Same H H') : Tb P H H' := ⟨tab_same g e, fun _ _ _ h => e _ _ h⟩
theorem Tb.grown {P : Addr} {H H' : Hp} (t : GxR.Tabbed P H H') : Tb P H H' := ⟨t.1, fun a o n h => by rw [t.2 a n]; exact h⟩
theorem Tb.rd {P : Addr} {H H' : Hp} {a : Addr} {u : HO} (g : GxR.TabG H P) (t : Tb P H H') (hu : ∀ ps, u ≠ .tbl ps) (h : Rd H a u) : Rd H' a u := by
  obtain ⟨ps, e, _⟩ := g
  rcases h with h | ⟨o, h⟩
  · exact .inl (t.k _ _ (fun z => by rw [z, e] at h; exact hu _ (Option.some.inj h).symm) h)
  · exact .inr ⟨o, t.k _ _ (fun z => by rw [z, e] at h; cases h) h⟩
theorem Tb.dm {K : PySem.W.Frag} {P : Addr} {H H' : Hp} (g : GxR.TabG H P) (t : Tb P H H') : DM K H H' := by
  refine ⟨fun a xs h => ?_, fun a xs h => ?_⟩
  · rcases h with h | h
    · exact .inl (t.rd g (fun _ z => by cases z) h)
    · exact .inr h
  · rcases h with h | h
    · exact .inl (t.rd g (fun _ z => by cases z) h)
    · exact .inr h
theorem tab_kb {P s : Addr} {H H' : Hp} {kvs : List (Key × V)} (g : GxR.TabG H P) (e : KB s H H') (hs : H s = some (.dK kvs)) : GxR.TabG H' P := by
  obtain ⟨ps, h, t⟩ := g
  exact ⟨ps, e _ _ (fun z => by rw [z, hs] at h; cases h) h, t⟩
/-! ### sizes -/
mutual
def szOk : PyData → Bool
  | .str x => decide (x.length ≤ 1000)
  | .list xs => szAll xs
  | .tuple xs => szAll xs
  | _ => true
def szAll : List PyData → Bool
  | [] => true
  | d :: ds => szOk d && szAll ds
end
theorem szAll_at : ∀ {ds : List PyData} {i : Nat} {d : PyData}, szAll ds = true → ds[i]? = some d → szOk d = true
  | [], i, d, _, h => by simp at h
  | e :: ds, 0, d, h, q => by
    simp only [List.getElem?_cons_zero, Option.some.injEq] at q
    subst q
    unfold szAll at h
    exact (Bool.and_eq_true_iff.mp h).1
  | e :: ds, i + 1, d, h, q => by
    simp only [List.getElem?_cons_succ] at q
    unfold szAll at h
    exact szAll_at (Bool.and_eq_true_iff.mp h).2 q
end Bk

set_option Elab.async false
set_option linter.all false
set_option maxRecDepth 100000
set_option maxHeartbeats 2000000
namespace Bk
open PySem PySem.Spec PyProof.Rows L2
/-! ### the forms -/
abbrev Forms := List (Str × List Str)
def numForms : Forms := [("num", ["amount"]), ("read", ["name"]), ("plus", ["number", "number"]), ("minus", ["number", "number"]), ("times", ["number", "number"]), ("most", ["number", "number"]), ("least", ["number", "number"])]
def condForms : Forms := [("below", ["number", "number"]), ("not", ["condition"]), ("all", ["condition", "condition"]), ("any", ["condition", "condition"])]
def ctrForms : Forms := [("none", []), ("give", ["side", "side", "good", "number"]), ("both", ["contract", "contract"]), ("turned", ["side", "side", "contract"]), ("later", ["wait", "contract"]), ("often", ["times", "gap", "contract"]),
  ("if", ["condition", "contract", "contract"]), ("when", ["condition", "contract"]), ("until", ["condition", "contract"])]
def strsAre : List Value → List Str → Bool
  | [], [] => true
  | .str x _ :: r, y :: s => decide (x = y) && strsAre r s
  | _, _ => false
theorem strsAre_vals : ∀ {us : List Value} {ks : List Str}, strsAre us ks = true → Vals (ks.map V.str) us
  | [], [], _ => .nil
  | .str x t :: r, y :: s, h => by
    have h' : (decide (x = y) && strsAre r s) = true := h
    rw [Bool.and_eq_true] at h'
    have e := of_decide_eq_true h'.1
    subst e
    exact .cons ⟨t, rfl⟩ (strsAre_vals h'.2)
def tupOk (K : PySem.W.Frag) (a : Addr) (ks : List Str) : Bool := match K.lookup a with
  | some ⟨.type c, _, .seq its _, _⟩ => decide (c = "tuple") && (decide (its.size ≤ 100) && strsAre its.toList ks)
  | _ => false
theorem tupOk_sq {K : PySem.W.Frag} {a : Addr} {ks : List Str} (h : tupOk K a ks = true) (H : Hp) : SqT K H a (ks.map V.str) := by
  unfold tupOk at h
  split at h
  · rename_i c dd its n sl e
    simp only [Bool.and_eq_true, decide_eq_true_eq] at h
    obtain ⟨h1, h2, h3⟩ := h
    subst h1
    exact .inr ⟨_, its, n, e, rfl, rfl, Nat.le_trans h2 (by decide), strsAre_vals h3⟩
  · cases h
def rowOk (K : PySem.W.Frag) (e : DictEntry) (p : Str × List Str) : Bool := match e.key, e.val with
  | .str x _, .ref a => decide (x = p.1) && tupOk K a p.2
  | _, _ => false
def rowsOk (K : PySem.W.Frag) : List DictEntry → Forms → Bool
  | [], [] => true
  | e :: r, p :: s => rowOk K e p && rowsOk K r s
  | _, _ => false
def formOf (L : Forms) (z : Str) : Option (List Str) := match L with
  | [] => none
  | p :: s => if p.1 = z then some p.2 else formOf s z
theorem rowsOk_find {K : PySem.W.Frag} {z : Str} : ∀ {es : List DictEntry} {L : Forms}, rowsOk K es L = true →
    match formOf L z with
    | none => es.find? (fun e => e.key.isStr z) = none
    | some ks => ∃ e a, es.find? (fun e => e.key.isStr z) = some e ∧ e.val = .ref a ∧ tupOk K a ks = true
  | [], [], _ => rfl
  | e :: r, p :: s, h => by
    have h' : (rowOk K e p && rowsOk K r s) = true := h
    rw [Bool.and_eq_true] at h'
    obtain ⟨h1, h2⟩ := h'
    have ih := rowsOk_find (z := z) h2
    unfold rowOk at h1
    split at h1
    · rename_i x t a ek ev
      rw [Bool.and_eq_true, decide_eq_true_eq] at h1
      obtain ⟨e1, e2⟩ := h1
      by_cases c : p.1 = z
      · have e3 : e.key.isStr z = true := by rw [ek, PySem.W.isStr_of, e1, c]; simp [Value.isStrOf]
        unfold formOf
        rw [if_pos c]
        exact ⟨e, a, by rw [List.find?_cons, e3], ev, e2⟩
      · have e3 : e.key.isStr z = false := by
          rw [ek, PySem.W.isStr_of, e1]
          simp only [Value.isStrOf]
          simpa using c
        unfold formOf
        rw [if_neg c, List.find?_cons, e3]
        exact ih
    · cases h1
def tabOk (K : PySem.W.Frag) (d : Addr) (L : Forms) : Bool := match K.lookup d with
  | some ⟨_, _, .dict es _, _⟩ => !(es.toList.any (·.refKey)) && rowsOk K es.toList L
  | _ => false
theorem tabOk_ns {K : PySem.W.Frag} {d : Addr} {L : Forms} (h : tabOk K d L = true) (z : Str) :
    match formOf L z with
    | none => PySem.W.nsIn K d z = some none
    | some ks => ∃ a, PySem.W.nsIn K d z = some (some (.ref a)) ∧ ∀ H, SqT K H a (ks.map V.str) := by
  unfold tabOk at h
  split at h
  · rename_i c dd es n sl e
    rw [Bool.and_eq_true] at h
    have q := rowsOk_find (z := z) h.2
    have r : es.toList.any (·.refKey) = false := by simpa using h.1
    unfold PySem.W.nsIn
    rw [e]
    cases hf : formOf L z with
    | none =>
      rw [hf] at q
      dsimp only at q ⊢
      rw [q, r]
      rfl
    | some ks =>
      rw [hf] at q
      obtain ⟨en, a, q1, q2, q3⟩ := q
      dsimp only
      rw [q1]
      dsimp only
      exact ⟨a, by rw [q2], tupOk_sq q3⟩
  · cases h
/-- a dict of the module that tells the forms of a kind -/
structure FTab (K : PySem.W.Frag) (w : World) (mg : Str → Option Value) (n : Str) (L : Forms) (d : Addr) : Prop where
  g : mg n = some (.ref d)
  kd : ∃ es c, KDict K w d es c
  ok : tabOk K d L = true
/-! ### what a contract is -/
def kindsOf (kind w : Str) : Option (List Str) := if kind = "contract" then formOf ctrForms w else if kind = "condition" then formOf condForms w else formOf numForms w
def isDeep (k : Str) : Bool := decide (k = "contract") || (decide (k = "condition") || decide (k = "number"))
def isW' : PyData → Bool
  | .str x => decide (1 ≤ x.length) && (decide (x.length ≤ 8) && x.cps.toList.all fun c => decide (97 ≤ c) && decide (c ≤ 122))
  | _ => false
def inB (lo hi : Int) : PyData → Bool
  | .int i => decide (lo ≤ i) && decide (i ≤ hi)
  | _ => false
def plainOk (k : Str) (d : PyData) : Bool :=
  if k = "amount" then inB (-999999999999) 999999999999 d else if k = "wait" then inB 0 99 d else if k = "times" then inB 1 9 d else if k = "gap" then inB 1 99 d else isW' d
def sameSides : List PyData → Bool
  | .str a :: .str b :: _ => decide (a = b)
  | _ => false
def twoSides (ks : List Str) : Bool := decide (ks.take 2 = [("side" : Str), ("side" : Str)])
/-- a contract, condition or number (by its kind) of at most so many levels -/
def wf : Nat → Str → PyData → Bool
  | 0, _, _ => false
  | n + 1, kind, .tuple (.str w :: ds) => match kindsOf kind w with
    | none => false
    | some ks => decide (ks.length = ds.length) && ((List.zip ks ds).all (fun p => if isDeep p.1 = true then wf n p.1 p.2 else plainOk p.1 p.2) && !(twoSides ks && sameSides ds))
  | _ + 1, _, _ => false
theorem wf_tup {n : Nat} {kind w : Str} {ds : List PyData} : wf (n + 1) kind (.tuple (.str w :: ds)) = match kindsOf kind w with
    | none => false
    | some ks => decide (ks.length = ds.length) && ((List.zip ks ds).all (fun p => if isDeep p.1 = true then wf n p.1 p.2 else plainOk p.1 p.2) && !(twoSides ks && sameSides ds)) := rfl
theorem wf_not {n : Nat} {kind : Str} {d : PyData} (h : ∀ w ds, d ≠ .tuple (.str w :: ds)) : wf n kind d = false := by
  cases n with
  | zero => rfl
  | succ n =>
    cases d with
    | tuple ds =>
      cases ds with
      | nil => rfl
      | cons x r =>
        cases x with
        | str w => exact absurd rfl (h w r)
        | _ => rfl
    | _ => rfl
end Bk

set_option Elab.async false
set_option linter.all false
set_option maxRecDepth 100000
set_option maxHeartbeats 2000000
namespace Bk
open PySem PySem.Spec PyProof.Rows L2
/-! ### a def whose code object is known -/
structure FunC (c : Addr) (K : PySem.W.Frag) (x : Str) (st : Stmt) (f : Addr) (fd : FuncData) : Prop where
  ex : ∃ (oc : Value) (od : Option Addr) (kV doc pm : Value) (an : Option Addr) (ct : Value) (osl : Array (Option Value)),
    fd = PySem.W.fnOf x x (defArgs st) (defBody st) (defScope st) .none kV doc pm an (.ref c) ct ∧ K.lookup f = some ⟨oc, od, .func fd, osl⟩ ∧ PySem.W.codeIn K (.ref c) x = true
  kp : PySem.W.keepIn K (.ref f) = true
theorem FunC.ok {c : Addr} {P : Program} {w : World} {K : PySem.W.Frag} {mg : Str → Option Value} {base : Heap} {x : Str} {st : Stmt} {f : Addr} {fd : FuncData} {N ps : List Str} {k : Nat} {sp : Sp} (F : FunC c K x st f fd) (S : FnScope N ps (defScope st))
    (len : ∀ vs H Q E, sp vs H Q E → vs.length = ps.length)
    (hb : ∀ (A : Around) (outer : List Env) (s : Shared) (H : Hp) (vs : List V) (Q : VK) (E : XK), Room k (A.deeper (envOfC x (defScope st) s.heap.objs.size f (.ref c))) → sp vs H Q E →
      ∃ t, PSs (cxOf CX0 P w K mg base N x (defScope st) f (.ref c) A outer s H E).nox (defBody st) t ∧ t { nx := fun _ H' => Q .non H', rt := Q } (start N vs) H) : FnOk P w K mg base CX0 (k + 1) f fd ps sp := by
  obtain ⟨oc, od, kV, doc, pm, an, ct, osl, rfl, lk, hcd⟩ := F.ex
  refine fn_of lk hcd S len fun A outer s H vs Q E hr hsp => ?_
  obtain ⟨t, h, q⟩ := hb A outer s H vs Q E hr hsp
  exact ⟨t, h.nox, q⟩
structure OwnC (c : Addr) (K : PySem.W.Frag) (mg : Str → Option Value) (x : Str) (st : Stmt) (ps : List Str) (f : Addr) (fd : FuncData) : Prop where
  F : FunC c K x st f fd
  g : mg x = some (.ref f)
  b : Binds K fd ps []
theorem OwnC.has {c : Addr} {P : Program} {w : World} {K : PySem.W.Frag} {mg : Str → Option Value} {base : Heap} {x : Str} {st : Stmt} {ps : List Str} {f : Addr} {fd : FuncData} {lv : Nat} {CX : CXT} {sp : Sp} (O : OwnC c K mg x st ps f fd)
    (G : FnOk P w K mg base CX lv f fd ps sp) : Has P w K mg base x ps lv CX sp f fd := ⟨G, O.g, O.F.kp, O.b⟩
theorem OwnC.mk' {c : Addr} {K : PySem.W.Frag} {mg : Str → Option Value} {x : Str} {st : Stmt} {ps : List Str} {f : Addr} {oc : Value} {od an : Option Addr} {osl : Array (Option Value)} {kV doc pm ct : Value}
    (l : K.lookup f = some ⟨oc, od, .func (PySem.W.fnOf x x (defArgs st) (defBody st) (defScope st) .none kV doc pm an (.ref c) ct), osl⟩) (hc : PySem.W.codeIn K (.ref c) x = true) (kp : PySem.W.keepIn K (.ref f) = true) (g : mg x = some (.ref f))
    (b : Binds K (PySem.W.fnOf x x (defArgs st) (defBody st) (defScope st) .none kV doc pm an (.ref c) ct) ps []) : OwnC c K mg x st ps f (PySem.W.fnOf x x (defArgs st) (defBody st) (defScope st) .none kV doc pm an (.ref c) ct) :=
  ⟨⟨⟨oc, od, kV, doc, pm, an, ct, osl, rfl, l, hc⟩, kp⟩, g, b⟩
/-! ### the package's errors -/
structure ExcT (K : PySem.W.Frag) (mg : Str → Option Value) (x : Str) (C : Addr) : Prop where
  g : mg x = some (.ref C)
  x : PySem.W.excIn K C [.type "ValueError", .type "Exception", .type "BaseException", .type "object"] "ValueError.__new__" = true
  k : PySem.W.keepIn K (.ref C) = true
  s : PySem.W.subIn K (.ref C) (.type "BaseException") = some true
  t : PySem.W.typeIn K (.ref C) = some (.type "type")
/-- isinstance(e, c) in a suite: the reading asks of what class e is -/
def rIsX (K : PySem.W.Frag) (a : Addr) (cls : Value) (d : Option Addr) : List V → Hp → VK → Prop := fun xs H Q => ∃ D, cls = .ref D ∧ d = none ∧ ExcC K D ∧ rIsE K D a xs H Q
theorem call_isX {X : Cx} {a : Addr} {cls : Value} {d : Option Addr} {oe : Obj} {pn : List (Addr × Obj)} (hz : Zc cls d oe) (hf : ∃ vs, oe.data = .fields vs) : CallR (X.suite a ((a, oe) :: pn)) (.builtin "isinstance") (rIsX X.K a cls d) := by
  intro pins s τ G xs us W I r h
  obtain ⟨D, rfl, rfl, C, h⟩ := h
  exact call_isE C hz hf pins s τ G xs us W I r h
/-! ### a raised text -/
theorem str_app_len (a b : Str) : (a ++ b).length = a.length + b.length := by
  show (a.cps ++ b.cps).size = a.cps.size + b.cps.size
  simp
theorem five_k : (5000 : Nat) ≤ sizeLine := by decide
section
variable {σ : L2.St} {H : Hp} {R : List V → Hp → Prop} {a b x : Str} {i : Nat}
theorem fs3 (hx : σ[i]? = some (some (.str x))) (lx : x.length ≤ 1000) (la : a.length ≤ 1000) (lb : b.length ≤ 1000) (h : ∀ z, R [.str z] H) :
    tCons (fun σ H Q => tJs [tC (.str a), tFmt (tVar i), tC (.str b)] Str.empty σ H fun out H1 => Q (.str out) H1) tNil σ H R := by
  have e0 : (Str.empty : Str).length = 0 := rfl
  have z := five_k
  refine ⟨a, rfl, by rw [str_app_len]; omega, _, hx, .inl ⟨x, rfl, by omega, x, rfl, by rw [str_app_len, str_app_len]; omega, b, rfl, by rw [str_app_len, str_app_len, str_app_len]; omega, h _⟩⟩
theorem fs2 (hx : σ[i]? = some (some (.str x))) (lx : x.length ≤ 1000) (la : a.length ≤ 1000) (h : ∀ z, R [.str z] H) :
    tCons (fun σ H Q => tJs [tC (.str a), tFmt (tVar i)] Str.empty σ H fun out H1 => Q (.str out) H1) tNil σ H R := by
  have e0 : (Str.empty : Str).length = 0 := rfl
  have z := five_k
  refine ⟨a, rfl, by rw [str_app_len]; omega, _, hx, .inl ⟨x, rfl, by omega, x, rfl, by rw [str_app_len, str_app_len]; omega, h _⟩⟩
end
theorem inDeep (k : Str) : inV (.str k) [.str "contract", .str "condition", .str "number"] = isDeep k := by
  have e : ∀ a b : Str, (a == b) = decide (b = a) := fun a b => by
    by_cases c : a = b
    · subst c; simp
    · rw [decide_eq_false (fun z => c z.symm)]
      simpa using c
  simp only [inV, List.any_cons, List.any_nil, eqV, isDeep, e, Bool.or_false]
theorem cut1 (x : V) (xs : List V) : cutV (x :: xs) (some 1) none = xs := by
  have e : HT.sIx (xs.length + 1) 0 (some 1) = 1 := by
    have q := HT.sIx_nat (xs.length + 1) 0 1
    refine q.trans ?_
    omega
  unfold cutV
  rw [List.length_cons, HT.sIx_none, e]
  simp
theorem not_whole1 (x : V) (xs : List V) : ¬ (HT.sIx (x :: xs).length 0 (some 1) = 0 ∧ HT.sIx (x :: xs).length (x :: xs).length none = (x :: xs).length) := by
  rintro ⟨h, _⟩
  have e : HT.sIx (xs.length + 1) 0 (some 1) = 1 := by
    have q := HT.sIx_nat (xs.length + 1) 0 1
    refine q.trans ?_
    omega
  rw [List.length_cons, e] at h
  cases h
theorem formOf_mem {z : Str} {ks : List Str} : ∀ {L : Forms}, formOf L z = some ks → ∃ p ∈ L, p.2 = ks
  | [], h => by cases h
  | p :: s, h => by
    unfold formOf at h
    split at h
    · exact ⟨p, List.mem_cons_self, Option.some.inj h⟩
    · obtain ⟨q, hq, e⟩ := formOf_mem h
      exact ⟨q, List.mem_cons_of_mem _ hq, e⟩
def allKinds : List (List Str) := (ctrForms ++ condForms ++ numForms).map (·.2)
theorem kinds_mem {kind z : Str} {ks : List Str} (h : kindsOf kind z = some ks) : ks ∈ allKinds := by
  unfold kindsOf at h
  unfold allKinds
  rw [List.mem_map]
  split at h
  · obtain ⟨p, hp, e⟩ := formOf_mem h
    exact ⟨p, List.mem_append_left _ (List.mem_append_left _ hp), e⟩
  · split at h
    · obtain ⟨p, hp, e⟩ := formOf_mem h
      exact ⟨p, List.mem_append_left _ (List.mem_append_right _ hp), e⟩
    · obtain ⟨p, hp, e⟩ := formOf_mem h
      exact ⟨p, List.mem_append_right _ hp, e⟩
theorem kinds_short : ∀ ks ∈ allKinds, ∀ k ∈ ks, k.length ≤ 100 := by decide +kernel
theorem kinds_two : ∀ ks ∈ allKinds, twoSides ks = true → ∃ s, ks = ("side" : Str) :: ("side" : Str) :: s := by
  intro ks h e
  unfold twoSides at e
  have e := of_decide_eq_true e
  cases ks with
  | nil => cases e
  | cons x r =>
    cases r with
    | nil => cases e
    | cons y s =>
      injection e with e1 e2
      injection e2 with e2 e3
      exact ⟨s, by rw [e1, e2]⟩
/-- the parts, so far -/
def partOk (n : Nat) (p : Str × PyData) : Bool := if isDeep p.1 = true then wf n p.1 p.2 else plainOk p.1 p.2
theorem zip_at {ks : List Str} {ds : List PyData} {i : Nat} {k : Str} {d : PyData} (h1 : ks[i]? = some k) (h2 : ds[i]? = some d) : (List.zip ks ds)[i]? = some (k, d) := by
  rw [List.getElem?_zip_eq_some]
  exact ⟨h1, h2⟩
theorem all_not {α : Type} {f : α → Bool} {l : List α} {i : Nat} {x : α} (h : l[i]? = some x) (e : f x = false) : l.all f = false := by
  rw [Bool.eq_false_iff]
  intro z
  have := List.all_eq_true.mp z x (List.mem_of_getElem? h)
  rw [e] at this
  cases this
theorem take_all {α : Type} {f : α → Bool} {l : List α} {i : Nat} {x : α} (h : l[i]? = some x) (e : f x = true) (q : (l.take i).all f = true) : (l.take (i + 1)).all f = true := by
  have hi : i < l.length := (List.getElem?_eq_some_iff.mp h).1
  have hx : l[i] = x := (List.getElem?_eq_some_iff.mp h).2
  rw [List.take_succ_eq_append_getElem hi, List.all_append, q, hx]
  simp [e]
theorem g_zipA {K : PySem.W.Frag} {ta : TA} {σ : L2.St} {H : Hp} {R : It → Hp → Prop} (h : ta σ H fun vs H1 => ∃ a b xs ys, vs = [.ref a, .ref b] ∧ ((SqL K H1 a xs ∧ SqL K H1 b ys ∧ R (Itz K a b) H1) ∨ (SqT K H1 a xs ∧ SqT K H1 b ys ∧ R (RZ.ItzT K a b) H1))) : RZ.iZipA K ta σ H R := h
theorem wf_tup' {n : Nat} {kind w : Str} {ds : List PyData} : wf (n + 1) kind (.tuple (.str w :: ds)) = match kindsOf kind w with
    | none => false
    | some ks => decide (ks.length = ds.length) && ((List.zip ks ds).all (partOk n) && !(twoSides ks && sameSides ds)) := rfl
theorem two_shaped : ∀ ks ∈ allKinds, SeqAt.shaped (.tuple ((ks.take 2).map PyData.str)) = true := by decide +kernel
theorem two_eqv : ∀ ks ∈ allKinds, PyData.eqv (.tuple ((ks.take 2).map PyData.str)) (.tuple [.str "side", .str "side"]) = twoSides ks := by decide +kernel
theorem dpStrs {K : PySem.W.Frag} {H : Hp} : ∀ ks : List Str, DpAll K H (ks.map V.str) (ks.map PyData.str)
  | [] => .nil
  | k :: ks => .cons (.str k) (dpStrs ks)
theorem word_str {m : Nat} {d : PyData} (h : partOk m ("side", d) = true) : ∃ x, d = .str x := by
  have e : partOk m ("side", d) = isW' d := by
    have e1 : isDeep "side" = false := by decide +kernel
    unfold partOk
    rw [if_neg (by rw [e1]; exact Bool.false_ne_true)]
    show plainOk "side" d = isW' d
    have e1 : ¬ ("side" : Str) = "amount" := by decide +kernel
    have e2 : ¬ ("side" : Str) = "wait" := by decide +kernel
    have e3 : ¬ ("side" : Str) = "times" := by decide +kernel
    have e4 : ¬ ("side" : Str) = "gap" := by decide +kernel
    unfold plainOk
    rw [if_neg e1, if_neg e2, if_neg e3, if_neg e4]
  rw [e] at h
  cases d with
  | str x => exact ⟨x, rfl⟩
  | _ => cases h
end Bk

set_option Elab.async false
set_option linter.all false
set_option maxRecDepth 100000
set_option maxHeartbeats 2000000
namespace Bk
open PySem PySem.Spec PyProof.Rows L2
/-! ### what displays evaluate to -/
abbrev Env4 := Nat → Option PyData
def SlotsOk (K : PySem.W.Frag) (Γ : Env4) (σ : L2.St) (H : Hp) : Prop := ∀ i d, Γ i = some d → ∃ v, σ[i]? = some (some v) ∧ Dp K H v d
theorem SlotsOk.same {K : PySem.W.Frag} {Γ : Env4} {σ : L2.St} {H H' : Hp} (s : SlotsOk K Γ σ H) (e : Same H H') : SlotsOk K Γ σ H' := fun i d h => by
  obtain ⟨v, h1, h2⟩ := s i d h
  exact ⟨v, h1, Dp.dm (.of e) h2⟩
def EvD (K : PySem.W.Frag) (Γ : Env4) (t : TE) (d : PyData) : Prop := ∀ (σ : L2.St) (H : Hp) (Q : VK), SlotsOk K Γ σ H → (∀ v H', Same H H' → Dp K H' v d → Q v H') → t σ H Q
def EvA (K : PySem.W.Frag) (Γ : Env4) (t : TA) (ds : List PyData) : Prop := ∀ (σ : L2.St) (H : Hp) (Q : List V → Hp → Prop), SlotsOk K Γ σ H → (∀ vs H', Same H H' → DpAll K H' vs ds → Q vs H') → t σ H Q
section
variable {K : PySem.W.Frag} {Γ : Env4}
theorem evd_str (x : Str) : EvD K Γ (tC (.str x)) (.str x) := fun σ H Q _ q => q _ _ (Same.refl H) (.str x)
theorem evd_int (x : Int) : EvD K Γ (tC (.int x)) (.int x) := fun σ H Q _ q => q _ _ (Same.refl H) (.int x)
theorem evd_bl (x : Bool) : EvD K Γ (tC (.bl x)) (.bool x) := fun σ H Q _ q => q _ _ (Same.refl H) (.bl x)
theorem evd_non : EvD K Γ (tC .non) .none := fun σ H Q _ q => q _ _ (Same.refl H) .non
theorem evd_var {i : Nat} {d : PyData} (h : Γ i = some d) : EvD K Γ (tVar i) d := fun σ H Q s q => by
  obtain ⟨v, h1, h2⟩ := s i d h
  exact ⟨v, h1, q _ _ (Same.refl H) h2⟩
theorem eva_nil : EvA K Γ tNil [] := fun σ H Q _ q => q _ _ (Same.refl H) .nil
theorem eva_cons {t : TE} {r : TA} {d : PyData} {ds : List PyData} (h : EvD K Γ t d) (hr : EvA K Γ r ds) : EvA K Γ (tCons t r) (d :: ds) := fun σ H Q s q =>
  h σ H _ s fun v H1 e1 d1 => hr σ H1 _ (s.same e1) fun vs H2 e2 d2 => q _ _ (e1.trans e2) (.cons (Dp.dm (.of e2) d1) d2)
theorem evd_tup {t : TA} {ds : List PyData} (h : EvA K Γ t ds) (hl : ds.length ≤ 1000) : EvD K Γ (tTup t) (.tuple ds) := fun σ H Q s q =>
  h σ H _ s fun vs H1 e1 d1 => ⟨sz (by rw [DpAll.len d1]; exact hl), fun p np => q _ _ (e1.trans (same_new np)) (.tup (sqt upd_same) (DpAll.dm (.of (same_new np)) d1))⟩
theorem evd_lst {t : TA} {ds : List PyData} (h : EvA K Γ t ds) (hl : ds.length ≤ 1000) : EvD K Γ (tLst t) (.list ds) := fun σ H Q s q =>
  h σ H _ s fun vs H1 e1 d1 => ⟨sz (by rw [DpAll.len d1]; exact hl), fun p np => q _ _ (e1.trans (same_new np)) (.lst (sql upd_same) (DpAll.dm (.of (same_new np)) d1))⟩
theorem evd_I0 {f : Int → Int → Int} {ta tb : TE} {i j : Int} (ha : EvD K Γ ta (.int i)) (hb : EvD K Γ tb (.int j)) : EvD K Γ (tOp (rI0 fun i j => .int (f i j)) ta tb) (.int (f i j)) := fun σ H Q s q =>
  ha σ H _ s fun v H1 e1 d1 => hb σ H1 _ (s.same e1) fun u H2 e2 d2 => by
    cases d1
    cases d2
    exact ⟨i, j, rfl, rfl, q _ _ (e1.trans e2) (.int _)⟩
theorem evd_I {C : Int → Int → Prop} {f : Int → Int → Int} {ta tb : TE} {i j : Int} (ha : EvD K Γ ta (.int i)) (hb : EvD K Γ tb (.int j)) (hc : C i j) : EvD K Γ (tOp (rI C fun i j => .int (f i j)) ta tb) (.int (f i j)) := fun σ H Q s q =>
  ha σ H _ s fun v H1 e1 d1 => hb σ H1 _ (s.same e1) fun u H2 e2 d2 => by
    cases d1
    cases d2
    exact ⟨i, j, rfl, rfl, hc, q _ _ (e1.trans e2) (.int _)⟩
theorem evd_neg {f : Int → Int} {ta : TE} {i : Int} (ha : EvD K Γ ta (.int i)) : EvD K Γ (tUn (rU fun i => .int (f i)) ta) (.int (f i)) := fun σ H Q s q =>
  ha σ H _ s fun v H1 e1 d1 => by
    cases d1
    exact ⟨i, rfl, q _ _ e1 (.int _)⟩
/-- a list that is laid anew -/
theorem ev_lst {t : TA} {ds : List PyData} {σ : L2.St} {H : Hp} {Q : VK} (h : EvA K Γ t ds) (hl : ds.length ≤ 1000) (s : SlotsOk K Γ σ H) (q : ∀ p xs H1, Same H H1 → H1 p = none → DpAll K H1 xs ds → Q (.ref p) (upd H1 p (.lst xs))) : tLst t σ H Q :=
  h σ H _ s fun vs H1 e1 d1 => ⟨sz (by rw [DpAll.len d1]; exact hl), fun p np => q p vs H1 e1 np d1⟩
end
/-! ### fewer levels tell no more -/
theorem wf_more : ∀ {n m : Nat} {kind : Str} {d : PyData}, n ≤ m → wf n kind d = true → wf m kind d = true
  | 0, _, _, _, _, h => by cases h
  | n + 1, 0, _, _, hl, _ => by omega
  | n + 1, m + 1, kind, d, hl, h => by
    have hl : n ≤ m := by omega
    cases d with
    | tuple ds =>
      cases ds with
      | nil => cases h
      | cons x r =>
        cases x with
        | str w =>
          rw [wf_tup'] at h ⊢
          split at h
          · cases h
          · rename_i ks hk
            rw [Bool.and_eq_true, Bool.and_eq_true] at h ⊢
            refine ⟨h.1, ?_, h.2.2⟩
            rw [List.all_eq_true] at *
            intro p hp
            have z := h.2.1 p hp
            unfold partOk at z ⊢
            split
            · rename_i c
              rw [if_pos c] at z
              exact wf_more hl z
            · rename_i c
              rw [if_neg c] at z
              exact z
        | _ => cases h
    | _ => cases h
theorem wf_fewer {n m : Nat} {kind : Str} {d : PyData} (hl : n ≤ m) (h : wf m kind d = false) : wf n kind d = false := by
  cases e : wf n kind d with
  | false => rfl
  | true =>
    rw [wf_more hl e] at h
    cases h
theorem g_callS {sp : Sp} {E : L2.St → XK} {t : TA} {σ : L2.St} {H : Hp} {Q : VK} (h : t σ H fun vs H1 => sp vs H1 Q (E σ)) : tCallS sp E t σ H Q := h
/-- what the classes of the errors are to one another, C being raised -/
structure Errs (K : PySem.W.Frag) (B C M X T : Addr) : Prop where
  exm : PySem.W.exmOne K (.ref C) (.ref B) = some true
  ec : ExcC K C
  iM : PySem.W.kitOne K (.ref C) (.ref M) = some false
  iX : PySem.W.kitOne K (.ref C) (.ref X) = some false
  iT : PySem.W.kitOne K (.ref C) (.ref T) = some false
  iC : PySem.W.kitOne K (.ref C) (.ref C) = some true
  iV : PySem.W.kitOne K (.ref C) (.type "ValueError") = some true
theorem use_isX {K : PySem.W.Frag} {a D : Addr} {c : V} {cv : Value} {b : Bool} {H : Hp} {Q : VK} (ec : ExcC K D) (hc : ∀ u, RelV c u → u = cv) (h : PySem.W.kitOne K (.ref D) cv = some b) (q : Q (.bl b) H) : rIsX K a (.ref D) none [.ref a, c] H Q :=
  ⟨D, rfl, rfl, ec, c, cv, b, rfl, hc, h, q⟩
end Bk

set_option Elab.async false
set_option linter.all false
set_option maxRecDepth 100000
set_option maxHeartbeats 2000000
namespace Bk
open PySem PySem.Spec PyProof.Rows L2
/-! ### the end: a law over a package with tables of code objects -/
/-- what the top tells of a def's table -/
def TabsOf (q : Program) (K : PySem.W.Frag) (h : Heap) : Prop := ∀ (x : Str) (c P : Addr), ((recsOf q).find? (fun e => e.name == x)).isSome = true → PySem.W.tabIn K x = some (c, P) → PySem.W.CodeHd h c P ∧ h.get? P = some (PySem.W.tabObj #[])
theorem walk_tabs {l : PySem.W.OpenLaw} {n k : Nat} {q : Program} {loose : List Str} {XP : (Str → Option Value) → Heap → Prop} {YP : World → Heap → Prop} {d : DefRec} {K : Params → PySem.W.Frag} {CX : World → CXT} {x : Str}
    (hn : l.most = some n) (hn2 : n ≤ sizeLine) (hdf : d.params.defaults = []) (hr : Room k callerA) (hY : ∀ (w : World) (h : Heap), YP w h → (K w.params).In h)
    (F : ∀ (w : World) (mg : Str → Option Value) (fa : Addr) (h : Heap), (K w.params).In h → h.Ns mainGlobals mg → mg d.name = some (.ref fa) → TabsOf q (K w.params) h → LamX.LawAtS l w (K w.params) (CX w) k n x mg fa h)
    (hCX : ∀ (w : World) (H : Hp) (s : Shared) (e : Value) (s' : Shared), CX w [] H s (fun _ _ _ => False) e s' → False) :
    PySem.W.WalkO q loose XP YP l.row.toRowW d [] (fun f vs => PySem.call f vs) :=
  Att.attach_callB hn hdf fun w u u1 mg mb fa ob pm cd doc a vs ns gr yp hob hda hco hmg hls hin hlen hbits hge => by
    have kin := hY w _ yp
    obtain ⟨fd, cs, sp, c1, c2, c3, c4, c5, c6⟩ := F w mg fa _ kin gr.T.g hmg fun z c P hs ht => by
      obtain ⟨e, he⟩ := Option.isSome_iff_exists.mp hs
      exact PySem.W.tab_of gr.T kin he ht
    exact LamX.law_callTs kin gr.T.g gr.T.b gr.T.builtins gr.T.nolimit hge c1 c2 c3 gr.T.bmain hls hin (Nat.le_trans hlen hn2) hr c6 c4 (fun G g1 g2 => c5 G a ns hlen hbits g1 g2) fun G e u2 => hCX w G u1 e u2
theorem tabIn_of {K : PySem.W.Frag} {x : Str} {f c P : Addr} {oc oc2 : Value} {od od2 : Option Addr} {sl sl2 : Array (Option Value)} {fd : FuncData} {vs : Array Value} (a : PySem.W.nsIn K mainGlobals x = some (some (.ref f))) (l : K.lookup f = some ⟨oc, od, .func fd, sl⟩)
    (hc : fd.code = .ref c) (cc : K.lookup c = some ⟨oc2, od2, .fields vs, sl2⟩) (v : (vs[11]? : Option Value) = some (.ref P)) : PySem.W.tabIn K x = some (c, P) := by
  unfold PySem.W.tabIn
  rw [a]
  dsimp only
  rw [l]
  dsimp only
  rw [hc]
  dsimp only
  rw [cc]
  dsimp only
  rw [v]
theorem FTab.of {K : PySem.W.Frag} {w : World} {mg : Str → Option Value} {n : Str} {L : Forms} {d : Addr} (g : mg n = some (.ref d)) (k : He.dicW K d = some (He.keysIn w.params (L.map (·.1)))) (ok : tabOk K d L = true) : FTab K w mg n L d := ⟨g, He.dicW_ok k, ok⟩
end Bk

set_option Elab.async false
set_option linter.all false
set_option maxRecDepth 100000
/-! len(set(xs)), xs a list of texts or of whole numbers, alike ones among them. -/
namespace BkS
open PySem PySem.Spec PyProof.Rows

section
variable {K : Type} [DecidableEq K]
/-- the unlike ones, each where it is first met, behind these -/
def metA : List K → List K → List K
  | ys, [] => ys
  | ys, x :: xs => metA (if x ∈ ys then ys else ys ++ [x]) xs
def met (xs : List K) : List K := metA [] xs
theorem metA_snoc : ∀ (xs ys : List K) (x : K), metA ys (xs ++ [x]) = if x ∈ metA ys xs then metA ys xs else metA ys xs ++ [x]
  | [], _, _ => rfl
  | _ :: xs, _, x => metA_snoc xs _ x
theorem mem_metA : ∀ (xs ys : List K) (y : K), y ∈ metA ys xs ↔ y ∈ ys ∨ y ∈ xs
  | [], ys, y => by simp [metA]
  | x :: xs, ys, y => by
    show y ∈ metA _ xs ↔ _
    rw [mem_metA xs _ y]
    by_cases h : x ∈ ys
    · rw [if_pos h, List.mem_cons]
      exact ⟨fun q => q.elim .inl fun z => .inr (.inr z), fun q => q.elim .inl fun z => z.elim (fun e => .inl (e ▸ h)) .inr⟩
    · rw [if_neg h]
      simp [or_assoc]
theorem metA_le : ∀ (xs ys : List K), (metA ys xs).length ≤ ys.length + xs.length
  | [], ys => Nat.le_refl _
  | x :: xs, ys => by
    have h := metA_le xs (if x ∈ ys then ys else ys ++ [x])
    show (metA _ xs).length ≤ _
    split at h <;> simp at h ⊢ <;> split <;> simp_all <;> omega
theorem met_mem (xs : List K) (y : K) : y ∈ met xs ↔ y ∈ xs := by
  rw [met, mem_metA]; simp
theorem met_le (xs : List K) : (met xs).length ≤ xs.length := by
  have h := metA_le xs []
  simpa [met] using h
theorem met_snoc (xs : List K) (x : K) : met (xs ++ [x]) = if x ∈ xs then met xs else met xs ++ [x] := by
  unfold met
  rw [metA_snoc]
  by_cases h : x ∈ xs
  · rw [if_pos h]; exact if_pos ((met_mem xs x).mpr h)
  · rw [if_neg h]; exact if_neg fun z => h ((met_mem xs x).mp z)
theorem metA_eq : ∀ (xs ys : List K), (ys ++ xs).Nodup → metA ys xs = ys ++ xs
  | [], ys, _ => by simp [metA]
  | x :: xs, ys, h => by
    have hx : x ∉ ys := fun z => (List.pairwise_append.mp h).2.2 x z x (by simp) rfl
    show metA _ xs = _
    rw [if_neg hx, metA_eq xs (ys ++ [x]) (by simpa using h)]
    simp
theorem metA_lt : ∀ (xs ys : List K), ys.Nodup → ¬ (ys ++ xs).Nodup → (metA ys xs).length < ys.length + xs.length
  | [], ys, h, n => absurd (by simpa using h) n
  | x :: xs, ys, h, n => by
    show (metA _ xs).length < _
    by_cases hx : x ∈ ys
    · rw [if_pos hx]
      have := metA_le xs ys
      simp; omega
    · rw [if_neg hx]
      have z := metA_lt xs (ys ++ [x]) (List.pairwise_append.mpr ⟨h, by simp, fun a ha b hb => by simp at hb; subst hb; exact fun e => hx (e ▸ ha)⟩) (by simpa using n)
      simp at z ⊢
      omega
theorem met_eq {xs : List K} (h : xs.Nodup) : (met xs).length = xs.length := by rw [met, metA_eq xs [] (by simpa using h)]; simp
theorem met_lt {xs : List K} (h : ¬ xs.Nodup) : (met xs).length < xs.length := by
  have z := metA_lt xs [] (by simp) (by simpa using h)
  simpa [met] using z
end

section
variable {prog : Program} {w : World} {K : Type} [DecidableEq K] {knd : KeyKind prog w K}
theorem setOf_to {h : Heap} {a : Addr} {S S' : K → Bool} {n n' : Nat} (hS : h.SetOf knd a S n) (e : ∀ k, S k = S' k) (en : n = n') : h.SetOf knd a S' n' := by
  have : S = S' := funext e
  subst this; subst en; exact hS
variable {A : Around} {R : Result → Shared → Prop} {I : Addr} {fp wr : List Addr} {G : Array GenState → Array GenState → Prop} {n : Nat} {P : Nat → Value → Prop} {St : Nat → Shared → Prop}
/-- the set takes the iterator's items, one by one -/
theorem taken_all (W : WalksS prog w A.in1 I fp wr G n P St) (S : Addr) (hSf : S ∉ fp) (xs : List K) (hn : xs.length = n) (hb : n + 1 < scanBound)
    (hv : ∀ i v, P i v → ∃ k, xs[i]? = some k ∧ knd.is k v = true ∧ v.scannable = true) :
    ∀ (k i : Nat) (s : Shared), n - i = k → i ≤ n → St i s → s.heap.SetOf knd S (fun k => decide (k ∈ xs.take i)) (met (xs.take i)).length →
      (∀ s', Moved (S :: wr) G s s' → s'.heap.SetOf knd S (fun k => decide (k ∈ xs)) (met xs).length → R (.ok (.ret .none)) s') →
      codeAny (model prog w) A (.builtin "set.update.loop" ⟨[.ref S, .ref I], []⟩) R s := by
  have hSw : S ∉ wr := fun h => hSf (W.sub _ h)
  have up : ∀ b ∈ wr, b ∈ S :: wr := fun b hb => List.mem_cons_of_mem _ hb
  intro k
  induction k with
  | zero =>
    intro i s hk hi hst hS hq
    obtain rfl : i = n := by omega
    refine codeAny_builtin PyProof.Rows.F.entry_set_update_loop ?_
    rw [Around.under_plainId PyProof.Rows.F.plain_set_update_loop _]
    show wpAny _ A.in1 (pyNext (.ref I) >>= _) _ _ s
    refine wpAny_bind (W.done s _ _ hst fun s' hm => ?_)
    show wpAny _ A.in1 (ret Value.none) _ _ s'
    refine wpAny_pure (hq s' (hm.mono up) ?_)
    rw [← hn, List.take_length] at hS
    obtain ⟨o, es, ep, t, ho, z⟩ := hS
    exact ⟨o, es, ep, t, hm.heap S _ hSw ho, z⟩
  | succ k ih =>
    intro i s hk hi hst hS hq
    have hlt : i < n := by omega
    refine codeAny_builtin PyProof.Rows.F.entry_set_update_loop ?_
    rw [Around.under_plainId PyProof.Rows.F.plain_set_update_loop _]
    show wpAny _ A.in1 (pyNext (.ref I) >>= _) _ _ s
    refine wpAny_bind (W.item i s _ _ hlt hst fun v s' hP hst' hm => ?_)
    obtain ⟨x, ex, hx, hs⟩ := hv i v hP
    have et : xs.take (i + 1) = xs.take i ++ [x] := by rw [List.take_add_one, ex]; rfl
    have hS' : s'.heap.SetOf knd S (fun k => decide (k ∈ xs.take i)) (met (xs.take i)).length := by
      obtain ⟨o, es, ep, t, ho, z⟩ := hS
      exact ⟨o, es, ep, t, hm.heap S _ hSw ho, z⟩
    show wpAny _ A.in1 (holding [v] (setAdd S v) >>= _) _ _ s'
    refine wpAny_bind (wpAny_holding ?_)
    unfold setAdd
    refine wpAny_holding ?_
    refine wpAny_bind (knd.pyHash (k := x) hx ?_)
    have room : (met (xs.take i)).length + 1 < scanBound := by
      have h1 := met_le (xs.take i)
      have h2 : (xs.take i).length ≤ i := by rw [List.length_take]; omega
      omega
    refine wpAny_setAddHashed_of (knd := knd) (s := { s' with toks := s'.toks + 1 }) hx hs hS' room fun h' hsb hS2 => ?_
    have hSi : h'.SetOf knd S (fun k => decide (k ∈ xs.take (i + 1))) (met (xs.take (i + 1))).length := by
      refine setOf_to hS2 (fun k' => ?_) ?_
      · rw [et]; simp
      · rw [et, met_snoc]
        by_cases h : x ∈ xs.take i
        · rw [if_pos (by simpa using h), if_pos h]
        · rw [if_neg (by simpa using h), if_neg h]; simp
    refine wpAny_pure ⟨plainId_quiet PyProof.Rows.F.plain_set_update_loop _, ih (i + 1) _ (by omega) hlt (W.frame _ s' _ _ hst' (Nat.le_succ _) fun b hb o e => ?_) hSi fun s'' hm'' hS'' => ?_⟩
    · rw [hsb.2 b (fun h : b = S => hSf (by rw [← h]; exact hb))]; exact e
    · refine hq s'' (Moved.trans W.gtrans ((hm.mono up).then_heap (Nat.le_succ _) fun b o hb e => ?_) hm'') hS''
      rw [hsb.2 b (fun h : b = S => hb (by rw [h]; exact List.mem_cons_self))]; exact e
end

section
variable {prog : Program} {w : World} {A : Around} {E : Value → Shared → Prop} {s : Shared} {K : Type} [DecidableEq K] {knd : KeyKind prog w K}
set_option maxHeartbeats 3200000 in
/-- set(l) of a list whose items tell these keys -/
theorem call_set_keys {l : Addr} {items : Array Value} {xs : List K} {Q : Value → Shared → Prop} (hh : A.handled = none) (hl : s.heap.IsList l items) (hn : xs.length = items.size)
    (hv : ∀ (i : Nat) v, items[i]? = some v → ∃ k, xs[i]? = some k ∧ knd.is k v = true ∧ v.scannable = true) (hb : items.size + 1 < scanBound)
    (h : ∀ (h' : Heap) (tk : Nat), h'.SetOf knd s.heap.objs.size (fun k => decide (k ∈ xs)) (met xs).length → (∀ b o, b < s.heap.objs.size → s.heap.get? b = some o → h'.get? b = some o) →
      Q (.ref s.heap.objs.size) { s with heap := h', toks := tk }) :
    wpAny (model prog w) A (call (.type "set") [.ref l]) Q E s := by
  have hc := PySem.F.called_set
  obtain ⟨_, _, hmro⟩ := hc.mro
  have hmade := hc.made
  have hsub := hc.sub
  have h1 := hc.notType
  have h2 := hc.canCreate
  have h3 := PySem.F.typeCall_set_1 (.ref l)
  refine wpAny_call (codeAny_of_tree ?_)
  show wpAny _ _ (callAny (.type "set") _) _ _ _
  refine wpAny_pure ⟨Code.quiet_builtin _ (by decide +kernel), codeAny_builtin PySem.F.entry_type_call ?_⟩
  rw [Around.under_plain (weight_type_call_type "set" [.ref l] []) rfl]
  repeat (any_goals (first | assumption | wp_step))
  let ob : Bool → Obj := fun led => { cls := .type "set", dict := none, data := .set #[] 0 (.fresh 0 0 led) }
  refine codeAny_mono (code_set_new_1 (.ref l) (E := E) (Q₁ := fun v t => ∃ led : Bool, v = .ref s.heap.objs.size ∧ t = { s with heap := s.heap.push (ob led) }) fun led => ⟨led, rfl, rfl⟩) fun r t hr => ?_
  rcases r with e | fl
  · exact hr
  cases fl with
  | ret v =>
    obtain ⟨led, rfl, rfl⟩ := hr
    have hS : (s.heap.push (ob led)).get? s.heap.objs.size = some (ob led) := Heap.get?_push_size _ rfl
    have hT : Shared.TypeIs { s with heap := s.heap.push (ob led) } (.ref s.heap.objs.size) "set" := ⟨_, hS, rfl⟩
    have hli := hc.init.lookup
    have hbi := hc.init.bind (.ref s.heap.objs.size)
    repeat (any_goals (first | assumption | wp_step))
    let After : Value → Shared → Prop := fun r t => r = .none ∧ ∃ h' tk, t = { s with heap := h', toks := tk } ∧ h'.SetOf knd s.heap.objs.size (fun k => decide (k ∈ xs)) (met xs).length ∧
      (∀ b o, b < s.heap.objs.size → s.heap.get? b = some o → h'.get? b = some o)
    refine codeAny_mono (codeAny_call_builtin (R := wants After E) hc.init.plain PySem.F.entry_set_init (check_set_init_1 hT ?_)) fun r t hr => ?_
    · obtain ⟨⟨oc, od, ot, os⟩, hol, hcl, nl, hdl⟩ := hl
      obtain rfl : oc = _ := hcl
      obtain rfl : ot = _ := hdl
      have hol2 : (s.heap.push (ob led)).get? l = _ := Heap.get?_push_of_some _ hol
      have hl1 : (s.heap.push (ob led)).IsList l items := ⟨_, hol2, rfl, nl, rfl⟩
      have hs1 := PySem.F.sub_list_set
      have hs2 := PySem.F.sub_list_frozenset
      have hne : (Value.type "list" == Value.type "dict") = false := by decide
      have hlS : l < s.heap.objs.size := Heap.lt_size hol
      have h5 : A.in1.in1.in1.handled = none := by simp [hh]
      have z1 : (s.heap.push (ob led)).objs.size = s.heap.objs.size + 1 := Heap.size_push _ _
      have hI : l ≠ (s.heap.push (ob led)).objs.size := by rw [z1]; exact Nat.ne_of_lt (Nat.lt_succ_of_lt hlS)
      have hSf : s.heap.objs.size ∉ [(s.heap.push (ob led)).objs.size, l] := by
        rw [z1]; simp only [List.mem_cons, List.not_mem_nil, or_false, not_or]
        exact ⟨Nat.ne_of_lt (Nat.lt_succ_self _), Nat.ne_of_gt hlS⟩
      unfold Builtin.«set.__init__» noKeywords Builtin.Frozenset.updateFrom
      generalize hPI : pyIter = PI
      wp_walk
      subst hPI
      refine wpAny_pyIter_list hl1 ?_
      refine wpAny_bind (wpAny_runValue ?_)
      refine taken_all ((Walks.list h5 _ l hI items).toS) s.heap.objs.size hSf xs hn hb (fun i v hp => hv i v hp) (items.size - 0) 0 _ (by omega) (Nat.zero_le _) ⟨⟨_, Heap.get?_push_size _ rfl, rfl, rfl⟩, (hl1.push _)⟩ ?hS0 ?hR
      case hS0 =>
        have hget : ((s.heap.push (ob led)).push { cls := .type "list_iterator", data := .fields #[.ref l, .int 0 0] }).get? s.heap.objs.size = some (ob led) := Heap.get?_push_of_some _ hS
        exact setOf_to ((PyProof.Rows.setObjOf_fresh (knd := knd) led).setOf hget (by unfold scanBound; omega)) (fun _ => by simp) rfl
      case hR =>
        intro t hm hS'
        obtain ⟨h', g', d', tk', os'⟩ := t
        obtain rfl : g' = s.gens := hm.gens
        obtain rfl : d' = s.drawn := hm.drawn
        obtain rfl : os' = s.os := hm.os
        show wpAny _ _ _ _ _ _
        refine wpAny_pure ?_
        show wpAny _ _ (ret Value.none) _ _ _
        refine wpAny_pure ⟨rfl, h', tk', rfl, hS', fun b o hb e => hm.heap b o ?_ (Heap.get?_push_of_some _ (Heap.get?_push_of_some _ e))⟩
        simp only [List.mem_cons, List.not_mem_nil, or_false, not_or]
        exact ⟨Nat.ne_of_lt hb, by rw [z1]; exact Nat.ne_of_lt (Nat.lt_succ_of_lt hb)⟩
    · rcases r with e | fl
      · exact hr
      cases fl with
      | ret r =>
        obtain ⟨rfl, h', tk, rfl, hS', hk'⟩ := hr
        repeat (any_goals (first | assumption | wp_step))
        exact h _ _ hS' hk'
      | _ => exact hr.elim
  | _ => exact hr.elim
end

section
open L2
theorem strs_of : ∀ {ys : List Str} {us : List Value}, Vals (ys.map V.str) us → ∀ (i : Nat) v, us[i]? = some v → ∃ x t, ys[i]? = some x ∧ v = .str x t
  | [], _, .nil, i, v, h => by simp at h
  | y :: ys, _, .cons r t, 0, v, h => by
    obtain ⟨k, rfl⟩ := r
    simp at h
    exact ⟨y, k, rfl, h.symm⟩
  | y :: ys, _, .cons r t, i + 1, v, h => strs_of t i v (by simpa using h)
theorem ints_of : ∀ {ys : List Int} {us : List Value}, Vals (ys.map V.int) us → ∀ (i : Nat) v, us[i]? = some v → ∃ x t, ys[i]? = some x ∧ v = .int x t
  | [], _, .nil, i, v, h => by simp at h
  | y :: ys, _, .cons r t, 0, v, h => by
    obtain ⟨k, rfl⟩ := r
    simp at h
    exact ⟨y, k, rfl, h.symm⟩
  | y :: ys, _, .cons r t, i + 1, v, h => ints_of t i v (by simpa using h)
/-- how many unlike ones there are: all, or fewer -/
def Unlike {K : Type} (xs : List K) (Q : V → Prop) : Prop := ∀ m : Nat, (xs.Nodup → m = xs.length) → (¬ xs.Nodup → m < xs.length) → Q (.int (m : Nat))
def tLenU (K : PySem.W.Frag) (ta : TE) : TE := fun σ H Q => ta σ H fun x H1 => ∃ l, x = .ref l ∧
  ((∃ ns : List Int, SqL K H1 l (ns.map V.int) ∧ ns.length ≤ 4000 ∧ Unlike ns fun v => Q v H1) ∨ (∃ xs : List Str, SqL K H1 l (xs.map V.str) ∧ xs.length ≤ 4000 ∧ Unlike xs fun v => Q v H1))
theorem pe_lenU {X : Cx} {a : Expr} {ta : TE} {p p2 q pos : Pos} (hc : X.calm = true) (hg : Gl X "len") (hm : X.mg "len" = none) (hg2 : Gl X "set") (hm2 : X.mg "set" = none) (ha : PE X a ta)
    (na : starEach [a] X.env = (false, eval a X.env) :: starEach [] X.env := by rfl) : PE X (.Call (.Name "len" p) [.Call (.Name "set" p2) [a] [] q] [] pos) (tLenU X.K ta) := by
  refine ⟨fun pins s σ H Q I h => ?_⟩
  refine Call_ (ld_blt I hg hm PySem.boot_len ?_)
  refine PyProof.Rows.callWith_builtin1 (PyProof.Rows.args_cons ?_ rfl) rfl rfl
  refine Call_ (ld_blt I hg2 hm2 PyProof.Rows.boot_set ?_)
  refine PyProof.Rows.callWith_type1 (PyProof.Rows.args_cons (thn (ha.run pins s σ H _ I h) fun v s1 ⟨x, H1, I1, r1, q1⟩ => PyProof.Rows.args_nil ?_) na) na rfl
  obtain ⟨l, rfl, q1⟩ := q1
  cases r1
  have fin : ∀ {K : Type} [DecidableEq K] {knd : KeyKind X.prog X.w K} {xs : List K}, xs.length ≤ 4000 → Unlike xs (fun v => Q v H1) → ∀ (h' : Heap) (tk : Nat),
      h'.SetOf knd s1.heap.objs.size (fun k => decide (k ∈ xs)) (met xs).length → (∀ b o, b < s1.heap.objs.size → s1.heap.get? b = some o → h'.get? b = some o) →
      wpAny (model X.prog X.w) X.A (spliced (backTo pos (starEach [] X.env))) (fun vs s₂ => wpAny (model X.prog X.w) X.A (call (.builtin "len") (Value.ref s1.heap.objs.size :: vs)) (EP X pins σ Q) X.xe s₂) X.xe { s1 with heap := h', toks := tk } := fun {K} _ {knd xs} hl q h' tk hS hk => by
    refine PyProof.Rows.args_nil ?_
    have hle := met_le xs
    obtain ⟨o, es, ep, t, ho, hex, hd, _, _, _, hf, hn⟩ := hS
    have I2 : Inv X pins σ H1 { s1 with heap := h', toks := tk } := I1.kept fun b o e => hk b o (Heap.lt_size e) e
    refine call_len_set ho hex hd hf (by rw [hn] <;> omega) ⟨.int (met xs).length, H1, I2.tok _, ⟨_, by rw [hn]⟩, q _ met_eq met_lt⟩
  rcases q1 with ⟨ns, hq, hl, q⟩ | ⟨xs, hq, hl, q⟩
  · obtain ⟨its, r, pl, hz⟩ := I1.list hq
    have e : ns.length = its.toArray.size := by rw [List.size_toArray, ← r.length, List.length_map]
    exact call_set_keys (knd := intKind X.prog X.w) (I1.ok.hd hc) pl.isList e (fun i v hv => by
      obtain ⟨x, t, ex, rfl⟩ := ints_of r i v (by simpa using hv)
      exact ⟨x, ex, intKind_is _ _ _ _, rfl⟩) (by rw [← e]; unfold scanBound; omega) fun h' tk hS hk => fin hl q h' tk hS hk
  · obtain ⟨its, r, pl, hz⟩ := I1.list hq
    have e : xs.length = its.toArray.size := by rw [List.size_toArray, ← r.length, List.length_map]
    exact call_set_keys (knd := strKind X.prog X.w) (I1.ok.hd hc) pl.isList e (fun i v hv => by
      obtain ⟨x, t, ex, rfl⟩ := strs_of r i v (by simpa using hv)
      exact ⟨x, ex, strKind_is _ _ _ _, rfl⟩) (by rw [← e]; unfold scanBound; omega) fun h' tk hS hk => fin hl q h' tk hS hk
end
end BkS

set_option Elab.async false
set_option linter.all false
set_option maxRecDepth 100000
set_option maxHeartbeats 2000000
namespace Bk
open PySem PySem.Spec PyProof.Rows L2
/-! ### a class of the package: made within a try -/
structure OwnM (K : PySem.W.Frag) (m q : Str) (st : Stmt) (ps : List Str) (f : Addr) (fd : FuncData) : Prop where
  F : Fun K m q st f fd
  b : Binds K fd ps []
structure ClsT (K : PySem.W.Frag) (mg : Str → Option Value) (x : Str) (C f : Addr) : Prop where
  g : mg x = some (.ref C)
  M : Mk K C f
  cl : Cls K C
/-- the class, and what its __init__ promises -/
structure HasM (P : Program) (w : World) (K : PySem.W.Frag) (mg : Str → Option Value) (base : Heap) (x : Str) (ps : List Str) (lv : Nat) (CX : CXT) (sp : Sp) (C f : Addr) (fd : FuncData) : Prop where
  G : ∃ k, lv = k + 1 ∧ FnOk P w K mg base CX k f fd ps sp
  g : mg x = some (.ref C)
  M : Mk K C f
  b : Binds K fd ps []
section
variable {P : Program} {w : World} {K : PySem.W.Frag} {mg : Str → Option Value} {base : Heap} {x : Str} {ps : List Str} {C f : Addr} {fd : FuncData} {CX : CXT} {sp : Sp}
theorem HasM.mono {j i : Nat} (D : HasM P w K mg base x ps j CX sp C f fd) (h : j ≤ i) : HasM P w K mg base x ps i CX sp C f fd := by
  obtain ⟨⟨k, e, G⟩, g, M, b⟩ := D
  exact ⟨⟨i - 1, by omega, G.mono (by omega)⟩, g, M, b⟩
theorem HasM.of {k : Nat} {m q : Str} {st : Stmt} (T : ClsT K mg x C f) (O : OwnM K m q st ps f fd) (G : FnOk P w K mg base CX k f fd ps sp) : HasM P w K mg base x ps (k + 1) CX sp C f fd := ⟨⟨k, rfl, G⟩, T.g, T.M, O.b⟩
end
section
variable {X : Cx} {CX : CXT} {f C : Addr} {fd : FuncData} {ps : List Str} {sp : Sp} {E : L2.St → XK} {x : Str} {p pos : Pos} {e : Expr} {es : List Expr} {t : TA}
/-- what the new object's __init__ is handed: a bare object first -/
def spNew (C : Addr) (sp : Sp) : Sp := fun vs H Q E => ∀ a dx, H a = none → H dx = none → dx ≠ a → sp (.ref a :: vs) (upd (upd H dx (.own a)) a (.ins C dx [])) (fun v H2 => v = .non ∧ Q (.ref a) H2) E
theorem new_at {k : Nat} {pins : List (Addr × Obj)} {σ : L2.St} {H : Hp} {s : Shared} {Q : VK} {us : List Value} {vs : List V} (M : Mk X.K C f) (F : FnOk X.prog X.w X.K X.mg X.base CX k f fd ps sp) (hr : Room (k + 1) X.A) (hb : Binds X.K fd ps [])
    (hx : PassesAt CX X σ (E σ)) (I : Inv X pins σ H s) (r : Vals vs us) (h : spNew C sp vs H Q (E σ)) : wpAny (model X.prog X.w) X.A (call (.ref C) us) (EP X pins σ Q) X.xe s := by
  have q := h (s.heap.objs.size + 1) s.heap.objs.size (I.hok.fresh (Nat.le_succ _)) (I.hok.fresh (Nat.le_refl _)) (Nat.ne_of_lt (Nat.lt_succ_self _))
  have J := Inv.made (C := C) I
  have rr : Vals (V.ref (s.heap.objs.size + 1) :: vs) (Value.ref (s.heap.objs.size + 1) :: us) := .cons rfl r
  have hl : (Value.ref (s.heap.objs.size + 1) :: us).length = ps.length := rr.length.symm.trans (F.len _ _ _ _ q)
  have b := hb _ (Value.ref (s.heap.objs.size + 1) :: us) J.kIn (by rw [List.append_nil]; exact hl)
  rw [List.append_nil] at b
  have go := F.run _ X.stack _ _ ⟨Value.ref (s.heap.objs.size + 1) :: us, []⟩ _ _ _ (E σ) (hr.make C us []) (J.env0.make C us []) b rr q
  refine wpAny_call (make_map (f := f) I.kIn M.makes M.init (beq_iff_eq.mp M.fn) (codeAny_mono go fun r s' hq => ?_))
  rcases r with e | fl
  · exact hx pins _ _ e s' J hq
  cases fl with
  | ret u =>
    obtain ⟨v, H', I3, rv, ev, z⟩ := J.after hq
    subst ev
    exact ⟨rv, ⟨.ref (s.heap.objs.size + 1), H', I3, rfl, z⟩⟩
  | _ => exact False.elim hq
theorem pe_new {lv : Nat} (D : HasM X.prog X.w X.K X.mg X.base x ps lv CX sp C f fd) (hr : Room lv X.A) (hg : Gl X x) (hx : ∀ σ, PassesAt CX X σ (E σ)) (ha : PA X (e :: es) t)
    (hdb : (x == ("__debug__" : Str)) = false := by decide) (he : starEach (e :: es) X.env = (false, eval e X.env) :: starEach es X.env := by rfl) (hpl : (backTo pos (starEach es X.env)).any (·.1) = false := by rfl) :
    PE X (.Call (.Name x p) (e :: es) [] pos) (tCallS (spNew C sp) E t) := by
  obtain ⟨⟨k, rfl, G⟩, g, M, b⟩ := D
  refine ⟨fun pins s σ H Q I h => ?_⟩
  refine wpAny_Call_Name_kw (ld_glob I hg g ?_ hdb)
  exact PySem.W.callWith_K (h₀ := X.base) I.ok.mod.kin M.kp (thn (ha.run pos pins s σ H _ I h) fun us s1 ⟨vs, H1, I1, r, q⟩ => ⟨I1.kIn, new_at M G hr b (hx σ) I1 r q⟩) he hpl
end
/-! ### comprehensions over a list that stays -/
/-- so far fs of the xs stand in the new list, and all else as it stood -/
structure Comp (H0 : Hp) (D : Addr) (R : Nat → V → Hp → Prop) (i : Nat) (H : Hp) : Prop where
  e : Same H0 H
  n : H0 D = none
  acc : ∃ ys, H D = some (.lst ys) ∧ ys.length = i ∧ ∀ j y, ys[j]? = some y → R j y H
theorem Comp.start {H : Hp} {D : Addr} {R : Nat → V → Hp → Prop} (n : H D = none) : Comp H D R 0 (upd H D (.lst [])) := ⟨same_new n, n, [], upd_same, rfl, fun j y h => by simp at h⟩
theorem Comp.next {H0 H H' : Hp} {D : Addr} {R : Nat → V → Hp → Prop} {i : Nat} {y : V} (hR : ∀ j y Ha Hb, R j y Ha → (∀ b o, b ≠ D → Ha b = some o → Hb b = some o) → R j y Hb) (c : Comp H0 D R i H) (e : Same H H') (hi : i < 4000) (q : R i y H') :
    ∃ acc, H' D = some (.lst acc) ∧ acc.length < sizeLine ∧ Comp H0 D R (i + 1) (upd H' D (.lst (acc ++ [y]))) := by
  obtain ⟨e0, n, ys, h, hl, hy⟩ := c
  have k1 : ∀ b o, b ≠ D → H b = some o → upd H' D (.lst (ys ++ [y])) b = some o := fun b o hb z => by rw [upd_ne hb]; exact e _ _ z
  have k2 : ∀ b o, b ≠ D → H' b = some o → upd H' D (.lst (ys ++ [y])) b = some o := fun b o hb z => by rw [upd_ne hb]; exact z
  refine ⟨ys, e _ _ h, Nat.lt_of_lt_of_le (show ys.length < 4000 by omega) (by decide), fun b o z => ?_, n, ys ++ [y], upd_same, by rw [List.length_append, hl]; rfl, fun j v z => ?_⟩
  · have hb : b ≠ D := fun h => by rw [h, n] at z; cases z
    exact k1 b o hb (e0 _ _ z)
  · rcases Nat.lt_or_ge j ys.length with lt | ge
    · rw [List.getElem?_append_left lt] at z
      exact hR j v H _ (hy j v z) k1
    · rw [List.getElem?_append_right ge] at z
      obtain ⟨rfl, rfl⟩ : j = i ∧ v = y := by
        rcases Nat.eq_zero_or_pos (j - ys.length) with h0 | h0
        · rw [h0] at z
          exact ⟨by omega, (Option.some.inj z).symm⟩
        · rw [List.getElem?_eq_none (by simp; omega)] at z; cases z
      exact hR _ _ H' _ q k2
def rTupOf (K : PySem.W.Frag) : List V → Hp → VK → Prop := fun xs H Q => ∃ p ys, xs = [.ref p] ∧ ((SqL K H p ys ∧ ∀ l, H l = none → Q (.ref l) (upd H l (.tup ys))) ∨ (SqT K H p ys ∧ Q (.ref p) H))
def rLstOf (K : PySem.W.Frag) : List V → Hp → VK → Prop := fun xs H Q => ∃ p ys, xs = [.ref p] ∧ (SqL K H p ys ∨ SqT K H p ys) ∧ ∀ l, H l = none → Q (.ref l) (upd H l (.lst ys))
theorem callTupOf {X : Cx} : CallR X (.type "tuple") (rTupOf X.K) := call_tuple_of
theorem callLstOf {X : Cx} : CallR X (.type "list") (rLstOf X.K) := call_list_of
end Bk

set_option Elab.async false
set_option linter.all false
set_option maxRecDepth 100000
set_option maxHeartbeats 2000000
namespace Bk
open PySem PySem.Spec PyProof.Rows L2
def isx (i : Int) : Str := toString i
def rStrA : List V → Hp → VK → Prop := fun xs H Q => (∃ i, xs = [.int i] ∧ i.natAbs.log2 < 1920 ∧ Q (.str (isx i)) H) ∨ (∃ a, xs = [.str a] ∧ Q (.str a) H)
theorem call_strA {X : Cx} : CallR X (.type "str") rStrA := by
  intro pins s τ G xs us W I r h
  rcases h with h | h
  · exact call_str_int pins s τ G xs us W I r h
  · exact SkE.call_str_str pins s τ G xs us W I r h
end Bk

set_option Elab.async false
set_option linter.all false
set_option maxRecDepth 100000
set_option maxHeartbeats 2000000
namespace Bk
open PySem PySem.Spec PyProof.Rows L2
/-- zip of two tuples -/
theorem walk_zipT {K : PySem.W.Frag} {a b : Addr} {xs ys : List V} {n : Nat} (hn : n = min xs.length ys.length) : Walk (RZ.ItzT K a b) n (fun H => SqT K H a xs ∧ SqT K H b ys) (YPair (fun i => xs[i]?) (fun i => ys[i]?)) := by
  subst hn
  refine ⟨fun i _ hi q => ?_, fun _ q => ⟨xs, ys, q.1, q.2, by omega⟩, fun i H v H' _ q y => ?_⟩
  · have h1 : i < xs.length := by omega
    have h2 : i < ys.length := by omega
    exact ⟨xs, ys, xs[i], ys[i], q.1, q.2, by simp [h1], by simp [h2]⟩
  · obtain ⟨T, x, z, h1, h2, h3, h4, h5⟩ := y
    exact ⟨T, x, z, h1, h2, h3, h4 xs q.1, h5 ys q.2⟩
/-- a dict of the module that tells the forms: read at a word -/
theorem FTab.at {K : PySem.W.Frag} {w : World} {mg : Str → Option Value} {n : Str} {L : Forms} {d : Addr} (F : FTab K w mg n L d) {z : Str} {ks : List Str} (h : formOf L z = some ks) :
    ∃ a : Addr, KDct K w d z (.ref a) ∧ ∀ H, SqT K H a (ks.map V.str) := by
  obtain ⟨g, ⟨es, c, k⟩, ok⟩ := F
  have q := tabOk_ns ok z
  rw [h] at q
  obtain ⟨a, q1, q2⟩ := q
  exact ⟨a, ⟨es, c, _, k.at_, k.lit, q1, rfl⟩, q2⟩
/-- a tuple of texts of the module -/
structure TupC (K : PySem.W.Frag) (mg : Str → Option Value) (n : Str) (ks : List Str) (d : Addr) : Prop where
  g : mg n = some (.ref d)
  ok : tupOk K d ks = true
theorem TupC.sq {K : PySem.W.Frag} {mg : Str → Option Value} {n : Str} {ks : List Str} {d : Addr} (T : TupC K mg n ks d) (H : Hp) : SqT K H d (ks.map V.str) := tupOk_sq T.ok H
theorem use_isDict {K : PySem.W.Frag} {H : Hp} {v : V} {d : PyData} {Q : VK} (h : Dp K H v d) (q : Q (.bl false) H) : rIsi K [v, .ty "dict"] H Q := ⟨v, .ty "dict", _, _, false, rfl, .ty _, ty_of h, kit_ty (by cases h with | non => exact (by decide +kernel : kitB "NoneType" "dict" = some false) | bl _ => exact (by decide +kernel : kitB "bool" "dict" = some false) | int _ => exact (by decide +kernel : kitB "int" "dict" = some false) | str _ => exact (by decide +kernel : kitB "str" "dict" = some false) | lst _ _ => exact (by decide +kernel : kitB "list" "dict" = some false) | tup _ _ => exact (by decide +kernel : kitB "tuple" "dict" = some false)), q⟩
theorem inTwo (s a b : Str) : inV (.str s) [.str a, .str b] = decide (s = a ∨ s = b) := by
  have e : ∀ a b : Str, (a == b) = decide (b = a) := fun a b => by
    by_cases c : a = b
    · subst c; simp
    · rw [decide_eq_false (fun z => c z.symm)]
      simpa using c
  simp only [inV, List.any_cons, List.any_nil, eqV, e, Bool.or_false, Bool.decide_or]
/-! ### data that are alike -/
def aOk : Nat → PyData → Prop
  | _ + 1, .none => True
  | _ + 1, .bool _ => True
  | _ + 1, .int _ => True
  | _ + 1, .str _ => True
  | n + 1, .list ds => ds.length ≤ 2000 ∧ ∀ d ∈ ds, aOk n d
  | n + 1, .tuple ds => ds.length ≤ 2000 ∧ ∀ d ∈ ds, aOk n d
  | _, _ => False
def spAlike (K : PySem.W.Frag) (n : Nat) : Sp := fun vs H Q _ => ∃ (v u : V) (d : PyData), vs = [v, u] ∧ Dp K H v d ∧ Dp K H u d ∧ aOk n d ∧ ∀ H', Same H H' → Q (.bl true) H'
theorem use_alike {K : PySem.W.Frag} {n : Nat} {v u : V} {d : PyData} {H : Hp} {Q : VK} {E : XK} (h1 : Dp K H v d) (h2 : Dp K H u d) (k : aOk n d) (q : ∀ H', Same H H' → Q (.bl true) H') : spAlike K n ([v, u] ++ []) H Q E := ⟨v, u, d, rfl, h1, h2, k, q⟩
theorem none_alike {P : Program} {w : World} {K : PySem.W.Frag} {mg : Str → Option Value} {base : Heap} {f : Addr} {fd : FuncData} {ps : List Str} : FnOk P w K mg base CX0 0 f fd ps (spAlike K 0) := by
  have no : ∀ vs H Q E, ¬ spAlike K 0 vs H Q E := fun vs H Q E h => by
    obtain ⟨v, u, d, _, _, _, h1, _⟩ := h
    cases d <;> exact h1
  exact ⟨fun vs H Q E h => absurd h (no vs H Q E), fun A outer s H args us vs Q E _ _ _ _ h => absurd h (no vs H Q E)⟩
/-! ### lists told item by item -/
def All2 {α β : Type} (R : α → β → Prop) : List α → List β → Prop
  | [], [] => True
  | a :: as, b :: bs => R a b ∧ All2 R as bs
  | _, _ => False
theorem All2.len {α β : Type} {R : α → β → Prop} : ∀ {as : List α} {bs : List β}, All2 R as bs → as.length = bs.length
  | [], [], _ => rfl
  | _ :: _, _ :: _, h => by rw [List.length_cons, List.length_cons, All2.len h.2]
  | [], _ :: _, h => h.elim
  | _ :: _, [], h => h.elim
theorem All2.mono {α β : Type} {R S : α → β → Prop} (m : ∀ a b, R a b → S a b) : ∀ {as : List α} {bs : List β}, All2 R as bs → All2 S as bs
  | [], [], _ => trivial
  | _ :: _, _ :: _, h => ⟨m _ _ h.1, All2.mono m h.2⟩
  | [], _ :: _, h => h.elim
  | _ :: _, [], h => h.elim
theorem All2.at {α β : Type} {R : α → β → Prop} : ∀ {as : List α} {bs : List β} {i : Nat} {a : α}, All2 R as bs → as[i]? = some a → ∃ b, bs[i]? = some b ∧ R a b
  | a :: as, b :: bs, 0, x, h, e => by
    simp only [List.getElem?_cons_zero, Option.some.injEq] at e
    exact ⟨b, rfl, e ▸ h.1⟩
  | a :: as, b :: bs, i + 1, x, h, e => by
    simp only [List.getElem?_cons_succ] at e
    obtain ⟨c, h1, h2⟩ := All2.at h.2 e
    exact ⟨c, by simpa using h1, h2⟩
  | [], [], i, x, h, e => by simp at e
  | [], _ :: _, _, _, h, _ => h.elim
  | _ :: _, [], _, _, h, _ => h.elim
theorem All2.snoc {α β : Type} {R : α → β → Prop} : ∀ {as : List α} {bs : List β} {a : α} {b : β}, All2 R as bs → R a b → All2 R (as ++ [a]) (bs ++ [b])
  | [], [], _, _, _, r => ⟨r, trivial⟩
  | _ :: _, _ :: _, _, _, h, r => ⟨h.1, All2.snoc h.2 r⟩
  | [], _ :: _, _, _, h, _ => h.elim
  | _ :: _, [], _, _, h, _ => h.elim
theorem All2.nil_r {α β : Type} {R : α → β → Prop} {bs : List β} (h : All2 R ([] : List α) bs) : bs = [] := by
  cases bs with
  | nil => rfl
  | cons _ _ => exact h.elim
theorem tm_lst {K : PySem.W.Frag} {H : Hp} {D : Addr} {xs ys : List V} (h : H D = some (.lst xs)) : TM K H (upd H D (.lst ys)) := fun a zs q => by
  rcases q with (q | ⟨o, q⟩) | q
  · exact .inl (.inl (by rw [upd_ne (fun z => by rw [z, h] at q; cases q)]; exact q))
  · exact .inl (.inr ⟨o, by rw [upd_ne (fun z => by rw [z, h] at q; cases q)]; exact q⟩)
  · exact .inr q
theorem take_map_snoc {α β : Type} {f : α → β} {l : List α} {i : Nat} {c : α} (h : l[i]? = some c) : (l.take (i + 1)).map f = (l.take i).map f ++ [f c] := by
  rw [List.take_succ, h, List.map_append]
  rfl
theorem fresh_same {H H' : Hp} {p : Addr} (e : Same H H') (h : H' p = none) : H p = none := by
  cases h1 : H p with
  | none => rfl
  | some o =>
    rw [e p o h1] at h
    cases h
end Bk

set_option Elab.async false
set_option linter.all false
set_option maxRecDepth 100000
set_option maxHeartbeats 2000000
namespace Bk
open PySem PySem.Spec PyProof.Rows L2
/-! ### a method of a class of the package -/
structure HasMeth (P : Program) (w : World) (K : PySem.W.Frag) (mg : Str → Option Value) (base : Heap) (C : Addr) (m : Str) (ps : List Str) (lv : Nat) (CX : CXT) (sp : Sp) (f : Addr) (fd : FuncData) : Prop where
  G : FnOk P w K mg base CX lv f fd ps sp
  M : Meth K C m f
  b : Binds K fd ps []
  cl : Cls K C
section
variable {P : Program} {w : World} {K : PySem.W.Frag} {mg : Str → Option Value} {base : Heap} {m q : Str} {ps : List Str} {C f : Addr} {fd : FuncData} {CX : CXT} {sp : Sp} {st : Stmt}
theorem HasMeth.mono {j i : Nat} (D : HasMeth P w K mg base C m ps j CX sp f fd) (h : j ≤ i) : HasMeth P w K mg base C m ps i CX sp f fd := ⟨D.G.mono h, D.M, D.b, D.cl⟩
theorem HasMeth.of {k : Nat} (cl : Cls K C) (M : Meth K C m f) (O : OwnM K m q st ps f fd) (G : FnOk P w K mg base CX k f fd ps sp) : HasMeth P w K mg base C m ps k CX sp f fd := ⟨G, M, O.b, cl⟩
end
section
variable {D : Ends} {σ : L2.St} {H : Hp} {Q : VK} {v : V}
theorem g_rfld {K : PySem.W.Frag} {ta : TE} {f : Str} (h : ta σ H fun x H1 => ∃ a C dx fs v, x = .ref a ∧ H1 a = some (.ins C dx fs) ∧ Cls K C ∧ NoAttr K C f ∧ fs.lookup f = some v ∧ Q v H1) : tFld K ta f σ H Q := h
theorem g_meth {C : Addr} {m : Str} {sp : Sp} {dvs : List V} {E : XK} {ta : TE} {t : TA} (h : ta σ H fun x H1 => ∃ a dx fs, x = .ref a ∧ H1 a = some (.ins C dx fs) ∧ fs.lookup m = none ∧ t σ H1 fun vs H2 => sp (x :: (vs ++ dvs)) H2 Q E) : tMeth C m sp dvs E ta t σ H Q := h
end
end Bk

set_option Elab.async false
set_option linter.all false
set_option maxRecDepth 100000
set_option maxHeartbeats 4000000
namespace Bk
open PySem PySem.Spec PyProof.Rows L2
/-! ### zip of a tuple and a list: what zip draws from is told by a feed -/
structure Feed (St : Heap → Nat → Prop) (Src : Heap → Prop) (it src : Addr) (its : Array Value) : Prop where
  item : ∀ {p : Program} {w : World} {A : Around} {E : Value → Shared → Prop} {s : Shared} {i : Nat} {x : Value} {Q : Value → Shared → Prop}, St s.heap i → Src s.heap → its[i]? = some x →
    (∀ g, St g (i + 1) → Heap.SameBut it s.heap g → Q x { s with heap := g }) → wpAny (model p w) A (Builtin.SmallTypes.nextOf (.ref it)) Q E s
  fin : ∀ {p : Program} {w : World} {A : Around} {E : Value → Shared → Prop} {s : Shared} {i : Nat} {Q : Value → Shared → Prop}, A.handled = none → St s.heap i → Src s.heap → its[i]? = none →
    (∀ g e, Heap.ExtBut it s.heap g → (∃ o, g.get? e = some o ∧ o.cls = .type "StopIteration") → E (.ref e) { s with heap := g }) → wpAny (model p w) A (Builtin.SmallTypes.nextOf (.ref it)) Q E s
  on : ∀ {c : Addr} {h g : Heap} {i : Nat}, St h i → Heap.ExtBut c h g → it ≠ c → St g i
  src : ∀ {c : Addr} {h g : Heap}, Src h → Heap.ExtBut c h g → src ≠ c → Src g
  atI : ∀ {h g : Heap} {i : Nat}, St h i → (∀ o, h.get? it = some o → g.get? it = some o) → St g i
  has : ∀ {h : Heap} {i : Nat}, St h i → ∃ o, h.get? it = some o ∧ ∀ v, o.data ≠ .cell v
theorem feed_list (it l : Addr) (its : Array Value) : Feed (fun h i => h.IsListIter it l i) (fun h => h.IsList l its) it l its where
  item := fun a b c q => wpAny_nextOf_list_item a b c q
  fin := fun hh a b c q => wpAny_nextOf_list_end hh a b c q
  on := fun a e n => a.extBut e n
  src := fun a e n => a.extBut e n
  atI := fun a e => a.at e
  has := fun ⟨o, e, _, d⟩ => ⟨o, e, fun v q => by rw [d] at q; cases q⟩
theorem feed_tup (it l : Addr) (its : Array Value) : Feed (fun h i => h.IsTupleIter it l i) (fun h => h.IsTuple l its) it l its where
  item := fun a b c q => RZ.nextOf_tuple_item a b c q
  fin := fun hh a b c q => RZ.nextOf_tuple_end hh a b c q
  on := fun a e n => a.extBut e n
  src := fun a e n => a.extBut e n
  atI := fun a e => a.at e
  has := fun ⟨o, e, _, d⟩ => ⟨o, e, fun v q => by rw [d] at q; cases q⟩
section
variable {p : Program} {w : World} {A : Around} {E : Value → Shared → Prop} {s : Shared} {S1 S2 : Heap → Nat → Prop} {R1 R2 : Heap → Prop} {z TI TO i1 i2 l1 l2 : Addr} {k : Nat} {xs ys : Array Value} {x y a b : Value}
/-- what stands apart from the zip's own objects stays -/
def Still (z TO i1 i2 : Addr) (h g : Heap) : Prop := ∀ c o, c ≠ z → c ≠ TO → c ≠ i1 → c ≠ i2 → h.get? c = some o → g.get? c = some o
theorem feed_next {Q : Value → Shared → Prop} (F1 : Feed S1 R1 i1 l1 xs) (F2 : Feed S2 R2 i2 l2 ys) (D : ZipApart z TI TO i1 i2 l1 l2) (zz : IsZip s.heap z TI TO .none) (zi : IsPair s.heap TI (.ref i1) (.ref i2)) (zo : IsPair s.heap TO a b)
    (s1 : S1 s.heap k) (s2 : S2 s.heap k) (r1 : R1 s.heap) (r2 : R2 s.heap) (ex : xs[k]? = some x) (ey : ys[k]? = some y)
    (q : ∀ g, IsZip g z TI TO (rawInt s.heap.objs.size) → IsPair g TO x y → S1 g (k + 1) → S2 g (k + 1) → IsPair g s.heap.objs.size x y → g.objs.size = s.heap.objs.size + 1 → Still z TO i1 i2 s.heap g → Q (.ref s.heap.objs.size) { s with heap := g }) :
    wpAny (model p w) A (Builtin.«zip.__next__» ⟨[.ref z], []⟩) (fun fin t => ∃ v, fin = .done (.ret v) ∧ Q v t) E s := by
  show wpAny _ _ (field (.ref z) 2 >>= _) _ _ s
  refine wpAny_bind (wpAny_field zz rfl (x := .bool false) rfl (?_ : wpAny _ _ (field (.ref z) 3 >>= _) _ _ s))
  refine wpAny_bind (wpAny_field zz rfl (x := .ref TI) rfl (wpAny_bind (wpAny_seqItems zi rfl (?_ : wpAny _ _ (Builtin.SmallTypes.ownedTupleIsFree (.ref z) >>= _) _ _ s))))
  refine wpAny_bind (?_ : wpAny _ _ (Builtin.SmallTypes.ownedTupleIsFree (.ref z)) _ _ s)
  unfold Builtin.SmallTypes.ownedTupleIsFree
  refine wpAny_bind (wpAny_field zz rfl (x := .none) rfl (wpAny_pure ?_)); simp only [if_true]
  refine wpAny_bind (wpAny_rule (wpAny_bind (wpAny_field zz rfl (x := .ref TO) rfl (wpAny_bind (wpAny_setField_rec zz (by simp) fun g1 z1 t1 => ?_)))))
  have z1 : IsZip g1 z TI TO .ellipsis := z1
  refine wpAny_bind ?_; simp only [List.zipIdx_cons, List.zipIdx_nil, List.forIn_cons, List.forIn_nil]
  refine wpAny_bind (wpAny_bind (wpAny_onRaise (?_ : wpAny _ _ (Builtin.SmallTypes.nextOf (.ref i1) >>= _) _ _ _)))
  refine wpAny_bind (F1.item (F1.on s1 t1.extBut D.i1z) (F1.src r1 t1.extBut D.l1z) ex fun g2 a2 t2 => wpAny_pure ?_)
  have o2 : IsPair g2 TO a b := t2.extBut _ _ D.TOi1 (t1.extBut _ _ D.TOz zo)
  refine wpAny_bind (wpAny_seqItems o2 rfl (wpAny_bind (wpAny_updateSeq_pair o2 fun g3 o3 t3 => wpAny_bind (wpAny_letGo (wpAny_pure ?_)))))
  have o3 : IsPair g3 TO x b := o3
  refine wpAny_bind (wpAny_bind (wpAny_onRaise (?_ : wpAny _ _ (Builtin.SmallTypes.nextOf (.ref i2) >>= _) _ _ _)))
  refine wpAny_bind (F2.item (F2.on (F2.on (F2.on s2 t1.extBut D.i2z) t2.extBut D.i12.symm) t3.extBut D.TOi2.symm) (F2.src (F2.src (F2.src r2 t1.extBut D.l2z) t2.extBut D.l2i1) t3.extBut D.l2TO) ey fun g4 b4 t4 => wpAny_pure ?_)
  have o4 : IsPair g4 TO x b := t4.extBut _ _ D.TOi2 o3
  refine wpAny_bind (wpAny_seqItems o4 rfl (wpAny_bind (wpAny_updateSeq_pair o4 fun g5 o5 t5 => wpAny_bind (wpAny_letGo (wpAny_pure (wpAny_pure ?_))))))
  have o5 : IsPair g5 TO x y := o5
  refine wpAny_bind (wpAny_seqItems o5 rfl (wpAny_bind (wpAny_newTuple ?_)))
  have n5 : g5.objs.size = s.heap.objs.size := by rw [t5.1, t4.1, t3.1, t2.1, t1.1]
  have z5 : IsZip g5 z TI TO .ellipsis := t5.extBut _ _ D.TOz.symm (t4.extBut _ _ D.i2z.symm (t3.extBut _ _ D.TOz.symm (t2.extBut _ _ D.i1z.symm z1)))
  have k5 : Still z TO i1 i2 s.heap g5 := fun c o c1 c2 c3 c4 e => t5.extBut _ _ c2 (t4.extBut _ _ c4 (t3.extBut _ _ c2 (t2.extBut _ _ c3 (t1.extBut _ _ c1 e))))
  have a5 : S1 g5 (k + 1) := F1.on (F1.on (F1.on a2 t3.extBut D.TOi1.symm) t4.extBut D.i12) t5.extBut D.TOi1.symm
  have b5 : S2 g5 (k + 1) := F2.on b4 t5.extBut D.TOi2.symm
  have zl : z < g5.objs.size := Heap.lt_size z5
  refine (?_ : wpAny _ _ (Builtin.SmallTypes.ownedTupleHandOut (.ref z) (.ref g5.objs.size) >>= _) _ _ _)
  refine wpAny_bind ?_
  unfold Builtin.SmallTypes.ownedTupleHandOut
  have z6 : IsZip (g5.push { cls := .type "tuple", data := .seq #[x, y] }) z TI TO .ellipsis := Heap.get?_push_of_some _ z5
  refine wpAny_bind (wpAny_setField_rec z6 (by simp) fun g7 z7 t7 => ?_)
  have z7 : IsZip g7 z TI TO (rawInt g5.objs.size) := z7
  refine wpAny_setField_rec z7 (by simp) fun g8 z8 t8 => ?_
  have z8 : IsZip g8 z TI TO (rawInt g5.objs.size) := z8
  have up : ∀ c o, c ≠ z → g5.get? c = some o → g8.get? c = some o := fun c o c1 e => t8.extBut _ _ c1 (t7.extBut _ _ c1 (Heap.get?_push_of_some _ e))
  have T8 : IsPair g8 g5.objs.size x y := t8.extBut _ _ (Nat.ne_of_gt zl) (t7.extBut _ _ (Nat.ne_of_gt zl) (Heap.get?_push_size _ rfl))
  have n8 : g8.objs.size = g5.objs.size + 1 := by rw [t8.1, t7.1, Heap.size_push]
  rw [n5] at z8 T8 n8
  refine wpAny_pure ⟨_, rfl, (?_ : Q (.ref g5.objs.size) _)⟩
  rw [n5]
  exact q g8 z8 (up _ _ D.TOz o5) (F1.atI a5 fun o e => up _ o D.i1z e) (F2.atI b5 fun o e => up _ o D.i2z e) T8 n8 fun c o c1 c2 c3 c4 e => up c o c1 (k5 c o c1 c2 c3 c4 e)
theorem feed_end {Q : Fin → Shared → Prop} (hh : A.handled = none) (F1 : Feed S1 R1 i1 l1 xs) (F2 : Feed S2 R2 i2 l2 ys) (D : ZipApart z TI TO i1 i2 l1 l2) (zz : IsZip s.heap z TI TO .none) (zi : IsPair s.heap TI (.ref i1) (.ref i2)) (zo : IsPair s.heap TO a b)
    (s1 : S1 s.heap k) (s2 : S2 s.heap k) (r1 : R1 s.heap) (r2 : R2 s.heap) (over : xs[k]? = none ∨ ys[k]? = none)
    (q : ∀ g e, Still z TO i1 i2 s.heap g → (∃ o, g.get? e = some o ∧ o.cls = .type "StopIteration") → E (.ref e) { s with heap := g }) : wpAny (model p w) A (Builtin.«zip.__next__» ⟨[.ref z], []⟩) Q E s := by
  show wpAny _ _ (field (.ref z) 2 >>= _) _ _ s
  refine wpAny_bind (wpAny_field zz rfl (x := .bool false) rfl (?_ : wpAny _ _ (field (.ref z) 3 >>= _) _ _ s))
  refine wpAny_bind (wpAny_field zz rfl (x := .ref TI) rfl (wpAny_bind (wpAny_seqItems zi rfl (?_ : wpAny _ _ (Builtin.SmallTypes.ownedTupleIsFree (.ref z) >>= _) _ _ s))))
  refine wpAny_bind (?_ : wpAny _ _ (Builtin.SmallTypes.ownedTupleIsFree (.ref z)) _ _ s)
  unfold Builtin.SmallTypes.ownedTupleIsFree
  refine wpAny_bind (wpAny_field zz rfl (x := .none) rfl (wpAny_pure ?_)); simp only [if_true]
  refine wpAny_bind (wpAny_rule (wpAny_bind (wpAny_field zz rfl (x := .ref TO) rfl (wpAny_bind (wpAny_setField_rec zz (by simp) fun g1 z1 t1 => ?_)))))
  have z1 : IsZip g1 z TI TO .ellipsis := z1
  refine wpAny_bind ?_; simp only [List.zipIdx_cons, List.zipIdx_nil, List.forIn_cons, List.forIn_nil]
  refine wpAny_bind (wpAny_bind (wpAny_onRaise (?_ : wpAny _ _ (Builtin.SmallTypes.nextOf (.ref i1) >>= _) _ _ _)))
  cases ex : xs[k]? with
  | none =>
    refine wpAny_bind (F1.fin hh (F1.on s1 t1.extBut D.i1z) (F1.src r1 t1.extBut D.l1z) ex fun g2 e t2 ⟨oe, e1, e2⟩ => ?_)
    have z2 : IsZip g2 z TI TO .ellipsis := t2 _ _ D.i1z.symm z1
    have ez : e ≠ z := fun c => by rw [c, z2] at e1; cases e1; simp at e2
    exact wpAny_setField_rec z2 (by simp) fun g3 _ t3 => q g3 e (fun c o c1 _ c3 _ h => t3.extBut _ _ c1 (t2 _ _ c3 (t1.extBut _ _ c1 h))) ⟨oe, t3.extBut _ _ ez e1, e2⟩
  | some x =>
    have ey : ys[k]? = none := over.resolve_left (by rw [ex]; exact fun c => nomatch c)
    refine wpAny_bind (F1.item (F1.on s1 t1.extBut D.i1z) (F1.src r1 t1.extBut D.l1z) ex fun g2 a2 t2 => wpAny_pure ?_)
    have o2 : IsPair g2 TO a b := t2.extBut _ _ D.TOi1 (t1.extBut _ _ D.TOz zo)
    refine wpAny_bind (wpAny_seqItems o2 rfl (wpAny_bind (wpAny_updateSeq_pair o2 fun g3 o3 t3 => wpAny_bind (wpAny_letGo (wpAny_pure ?_)))))
    refine wpAny_bind (wpAny_bind (wpAny_onRaise (?_ : wpAny _ _ (Builtin.SmallTypes.nextOf (.ref i2) >>= _) _ _ _)))
    refine wpAny_bind (F2.fin hh (F2.on (F2.on (F2.on s2 t1.extBut D.i2z) t2.extBut D.i12.symm) t3.extBut D.TOi2.symm) (F2.src (F2.src (F2.src r2 t1.extBut D.l2z) t2.extBut D.l2i1) t3.extBut D.l2TO) ey fun g4 e t4 ⟨oe, e1, e2⟩ => ?_)
    have z4 : IsZip g4 z TI TO .ellipsis := t4 _ _ D.i2z.symm (t3.extBut _ _ D.TOz.symm (t2.extBut _ _ D.i1z.symm z1))
    have ez : e ≠ z := fun c => by rw [c, z4] at e1; cases e1; simp at e2
    exact wpAny_setField_rec z4 (by simp) fun g5 _ t5 => q g5 e (fun c o c1 c2 c3 c4 h => t5.extBut _ _ c1 (t4 _ _ c4 (t3.extBut _ _ c2 (t2.extBut _ _ c3 (t1.extBut _ _ c1 h))))) ⟨oe, t5.extBut _ _ ez e1, e2⟩
end
section
variable {p : Program} {w : World} {A : Around} {E : Value → Shared → Prop} {s : Shared} {S1 S2 : Heap → Nat → Prop} {R1 R2 : Heap → Prop} {z TI TO i1 i2 l1 l2 : Addr} {k : Nat} {xs ys : Array Value} {x y a b : Value}
theorem feed_py_next {Q : Option Value → Shared → Prop} (F1 : Feed S1 R1 i1 l1 xs) (F2 : Feed S2 R2 i2 l2 ys) (D : ZipApart z TI TO i1 i2 l1 l2) (zz : IsZip s.heap z TI TO .none) (zi : IsPair s.heap TI (.ref i1) (.ref i2)) (zo : IsPair s.heap TO a b)
    (s1 : S1 s.heap k) (s2 : S2 s.heap k) (r1 : R1 s.heap) (r2 : R2 s.heap) (ex : xs[k]? = some x) (ey : ys[k]? = some y)
    (q : ∀ g, IsZip g z TI TO (rawInt s.heap.objs.size) → IsPair g TO x y → S1 g (k + 1) → S2 g (k + 1) → IsPair g s.heap.objs.size x y → g.objs.size = s.heap.objs.size + 1 → Still z TO i1 i2 s.heap g → Q (some (.ref s.heap.objs.size)) { s with heap := g }) :
    wpAny (model p w) A (pyNext (.ref z)) Q E s := by
  have T : s.TypeIs (.ref z) "zip" := ⟨_, zz, rfl⟩
  unfold pyNext
  exact wpAny_bind (wpAny_attempt (wpAny_callSpecial?_slot (name := Str.ofString "__next__") T F.slot_zip_next (wpAny_call_entry F.slot_zip_next T F.entry_zip_next
    (feed_next F1 F2 D zz zi zo s1 s2 r1 r2 ex ey fun g b1 b2 b3 b4 b5 b6 b7 => wpAny_pure (q g b1 b2 b3 b4 b5 b6 b7)) (F.args_zip_next_1 _))))
theorem feed_py_end {Q : Option Value → Shared → Prop} (hh : A.handled = none) (F1 : Feed S1 R1 i1 l1 xs) (F2 : Feed S2 R2 i2 l2 ys) (D : ZipApart z TI TO i1 i2 l1 l2) (zz : IsZip s.heap z TI TO .none) (zi : IsPair s.heap TI (.ref i1) (.ref i2)) (zo : IsPair s.heap TO a b)
    (s1 : S1 s.heap k) (s2 : S2 s.heap k) (r1 : R1 s.heap) (r2 : R2 s.heap) (over : xs[k]? = none ∨ ys[k]? = none) (q : ∀ g, Still z TO i1 i2 s.heap g → Q none { s with heap := g }) : wpAny (model p w) A (pyNext (.ref z)) Q E s := by
  have T : s.TypeIs (.ref z) "zip" := ⟨_, zz, rfl⟩
  unfold pyNext
  refine wpAny_bind (wpAny_attempt (wpAny_callSpecial?_slot (name := Str.ofString "__next__") T F.slot_zip_next (wpAny_call_entry F.slot_zip_next T F.entry_zip_next
    (feed_end hh F1 F2 D zz zi zo s1 s2 r1 r2 over fun g e st ⟨o, e1, e2⟩ => ?_) (F.args_zip_next_1 _))))
  exact wpAny_bind (wpAny_isInstance (T := "StopIteration") (b := true) ⟨o, e1, e2⟩ isSubtype_stop (wpAny_pure (q _ st)))
end
/-- a tuple and a list, as they stand at each turn, the items in new pairs -/
def ItzM (K : PySem.W.Frag) (a b : Addr) : It :=
  ⟨fun i H => ∃ (xs ys : List V) (x y : V), SqT K H a xs ∧ SqL K H b ys ∧ xs[i]? = some x ∧ ys[i]? = some y,
   fun i H v G => ∃ (T : Addr) (x y : V), v = .ref T ∧ H T = none ∧ G = upd H T (.tup [x, y]) ∧ (∀ xs, SqT K H a xs → xs[i]? = some x) ∧ (∀ ys, SqL K H b ys → ys[i]? = some y),
   fun i H => ∃ xs ys : List V, SqT K H a xs ∧ SqL K H b ys ∧ (xs.length ≤ i ∨ ys.length ≤ i)⟩
theorem walk_zipM {K : PySem.W.Frag} {a b : Addr} {xs ys : List V} {n : Nat} (hn : n = min xs.length ys.length) : Walk (ItzM K a b) n (fun H => SqT K H a xs ∧ SqL K H b ys) (YPair (fun i => xs[i]?) (fun i => ys[i]?)) := by
  subst hn
  refine ⟨fun i H hi q => ?_, fun H q => ⟨xs, ys, q.1, q.2, by omega⟩, fun i H v G _ q y => ?_⟩
  · have h1 : i < xs.length := by omega
    have h2 : i < ys.length := by omega
    exact ⟨xs, ys, xs[i], ys[i], q.1, q.2, List.getElem?_eq_getElem h1, List.getElem?_eq_getElem h2⟩
  · obtain ⟨T, x, u, h1, h2, h3, h4, h5⟩ := y
    exact ⟨T, x, u, h1, h2, h3, h4 xs q.1, h5 ys q.2⟩
theorem turn_zipM {P : Program} {w : World} {K : PySem.W.Frag} {es : List Expr} {kk : Nat} {tp : Pos} {a b z TI TO i1 i2 : Addr} (D : ZipApart z TI TO i1 i2 a b) :
    Turn P w K (.Tuple es kk tp) (ItzM K a b) [z, TI, TO, i1, i2] z (fun i h => (IsZip h z TI TO .none ∧ IsPair h TI (.ref i1) (.ref i2) ∧ ∃ x y, IsPair h TO x y) ∧ h.IsTupleIter i1 a i ∧ h.IsListIter i2 b i) where
  mem := List.mem_cons_self
  obj := fun i h ⟨⟨e1, e2, x, y, e3⟩, e4, e5⟩ c hc => by
    simp only [List.mem_cons, List.not_mem_nil, or_false] at hc
    rcases hc with rfl | rfl | rfl | rfl | rfl
    · exact ⟨_, e1, fun v q => nomatch q⟩
    · exact ⟨_, e2, fun v q => nomatch q⟩
    · exact ⟨_, e3, fun v q => nomatch q⟩
    · exact (feed_tup _ a #[]).has e4
    · exact (feed_list _ b #[]).has e5
  keep := fun i h g ⟨⟨e1, e2, x, y, e3⟩, e4, e5⟩ k => ⟨⟨k z (by simp) _ e1, k TI (by simp) _ e2, x, y, k TO (by simp) _ e3⟩, e4.at fun o e => k i1 (by simp) o e, e5.at fun o e => k i2 (by simp) o e⟩
  item := by
    intro X eP ew eK calm i pins s σ H E I hf st go
    subst eP ew eK
    obtain ⟨⟨e1, e2, x0, y0, e3⟩, e4, e5⟩ := st
    obtain ⟨xs, ys, x, y, qx, qy, hx, hy⟩ := go
    obtain ⟨us, ru, pu, _⟩ := I.tuple qx
    obtain ⟨vs, rv, pv, _⟩ := I.list qy
    obtain ⟨u, hu, xu⟩ := ru.get hx
    obtain ⟨v, hv, yv⟩ := rv.get hy
    have zl : z < s.heap.objs.size := Heap.lt_size e1
    refine feed_py_next (feed_tup i1 a us.toArray) (feed_list i2 b vs.toArray) D e1 e2 e3 e4 e5 pu pv.isList (x := u) (y := v) (by simpa using hu) (by simpa using hv) fun g z' o' a' b' T' n' k' => ⟨_, rfl, ?_⟩
    refine wpAny_letOwnedTupleGo_zip (s := { s with heap := g }) z' fun g2 z2 same => ?_
    have T2 : g2.get? s.heap.objs.size = some { cls := .type "tuple", data := .seq #[u, v] } := (same.2 _ (Nat.ne_of_gt zl)).trans T'
    have J : Inv X pins σ (upd H s.heap.objs.size (.tup [x, y])) { s with heap := g2 } :=
      I.turnedNew (t' := s.toks) (ch := [z, TI, TO, i1, i2]) (fun c o hb q => (same.2 c (fun e => hb (by simp [e]))).trans (k' c o (fun e => hb (by simp [e])) (fun e => hb (by simp [e])) (fun e => hb (by simp [e])) (fun e => hb (by simp [e])) q)) hf (Nat.le_refl _)
        ⟨by show 2 ≤ sizeLine; decide, [u, v], .cons xu (.cons yv .nil), ⟨_, T2, rfl, _, rfl⟩⟩
    refine ⟨.ref s.heap.objs.size, _, J, rfl, ⟨_, x, y, rfl, I.hok.fresh (Nat.le_refl _), rfl, fun l hl => by rw [I.tuple_inj hl qx]; exact hx, fun l hl => by rw [I.list_inj hl qy]; exact hy⟩, ?_, fun c hc => ?_⟩
    · exact ⟨⟨z2, (same.2 _ D.TIz).trans (k' _ _ D.TIz D.TITO D.TIi1 D.TIi2 e2), u, v, (same.2 _ D.TOz).trans o'⟩, a'.at fun o e => (same.2 _ D.i1z).trans e, b'.at fun o e => (same.2 _ D.i2z).trans e⟩
    · have lt : c < s.heap.objs.size := by
        simp only [List.mem_cons, List.not_mem_nil, or_false] at hc
        rcases hc with rfl | rfl | rfl | rfl | rfl
        · exact zl
        · exact Heap.lt_size e2
        · exact Heap.lt_size e3
        · exact Heap.lt_size e4.choose_spec.1
        · exact Heap.lt_size e5.choose_spec.1
      rw [upd_ne (Nat.ne_of_lt lt)]
      exact (hf c hc).1
  done := by
    intro X eP ew eK calm i pins s σ H E I hf st go
    subst eP ew eK
    obtain ⟨⟨e1, e2, x0, y0, e3⟩, e4, e5⟩ := st
    obtain ⟨xs, ys, qx, qy, over⟩ := go
    obtain ⟨us, ru, pu, _⟩ := I.tuple qx
    obtain ⟨vs, rv, pv, _⟩ := I.list qy
    have n1 := ru.length
    have n2 := rv.length
    have no : us.toArray[i]? = none ∨ vs.toArray[i]? = none := over.imp (fun e => by simp; omega) (fun e => by simp; omega)
    exact feed_py_end (I.ok.hd calm) (feed_tup i1 a us.toArray) (feed_list i2 b vs.toArray) D e1 e2 e3 e4 e5 pu pv.isList no fun g k' => ⟨rfl, I.turnedL (t' := s.toks) (ch := [z, TI, TO, i1, i2])
      (fun c o hb q => k' c o (fun e => hb (by simp [e])) (fun e => hb (by simp [e])) (fun e => hb (by simp [e])) (fun e => hb (by simp [e])) q) hf⟩
  self := fun A i s Q E st h => wpAny_pyIter_zip st.1.1 h
/-- the five new objects of zip(tuple, list) -/
def zm1 (h : Heap) (a : Addr) : Heap := h.push { cls := .type "tuple_iterator", data := .fields #[.ref a, .int 0 0] }
def zm2 (h : Heap) (a b : Addr) : Heap := (zm1 h a).push { cls := .type "list_iterator", data := .fields #[.ref b, .int 0 0] }
def zm3 (h : Heap) (a b : Addr) : Heap := (zm2 h a b).push { cls := .type "tuple", data := .seq #[.ref h.objs.size, .ref (zm1 h a).objs.size] }
def zm4 (h : Heap) (a b : Addr) : Heap := (zm3 h a b).push { cls := .type "tuple", data := .seq #[.none, .none] }
def zm5 (h : Heap) (a b : Addr) : Heap := (zm4 h a b).push { cls := .type "zip", data := .fields #[.none, .bool false, .bool false, .ref (zm2 h a b).objs.size, .ref (zm3 h a b).objs.size] }
theorem meets_zipM (a b : Addr) (xs ys : Array Value) : Meets (Builtin.«zip.__new__» ⟨[.type "zip", .ref a, .ref b], []⟩) (fun _ R s => s.heap.IsTuple a xs ∧ s.heap.IsList b ys ∧ R (.ok (.ret (.ref (zm4 s.heap a b).objs.size))) { s with heap := zm5 s.heap a b }) :=
  .of_wp fun prog w A R s ⟨ha, hb, h⟩ => by
    obtain ⟨hp, gs, dr, tk, os⟩ := s
    have sz := sub_zip
    have t1 : Heap.IsTuple (Shared.heap ⟨hp, gs, dr, tk, os⟩) a xs := ha
    have t2 : Heap.IsList (Shared.heap ⟨hp.push { cls := .type "tuple_iterator", data := .fields #[.ref a, .int 0 0] }, gs, dr, tk, os⟩) b ys := Heap.IsList.push hb _
    wp_walk using wpAny_pyIter_tuple t1, wpAny_pyIter_list t2
    exact ⟨_, rfl, h⟩
theorem call_zipM {p : Program} {w : World} {A : Around} {E : Value → Shared → Prop} {s : Shared} {a b : Addr} {xs ys : Array Value} {Q : Value → Shared → Prop} (ha : s.heap.IsTuple a xs) (hb : s.heap.IsList b ys)
    (q : ∀ g, IsZip g (s.heap.objs.size + 4) (s.heap.objs.size + 2) (s.heap.objs.size + 3) .none → IsPair g (s.heap.objs.size + 2) (.ref s.heap.objs.size) (.ref (s.heap.objs.size + 1)) → IsPair g (s.heap.objs.size + 3) .none .none →
      g.IsTupleIter s.heap.objs.size a 0 → g.IsListIter (s.heap.objs.size + 1) b 0 → (∀ c o, s.heap.get? c = some o → g.get? c = some o) → Q (.ref (s.heap.objs.size + 4)) { s with heap := g }) : wpAny (model p w) A (call (.type "zip") [.ref a, .ref b]) Q E s := by
  refine callType_new F.called_zip (by decide) (F.typeCall_zip_2 _ _) (F.newCall_zip_2 _ _) (fun obj => F.args_object_init_3 obj _ _) F.entry_zip_new (meets_zipM a b xs ys) ⟨ha, hb, ?_⟩
  have n1 : (zm1 s.heap a).objs.size = s.heap.objs.size + 1 := Heap.size_push ..
  have n2 : (zm2 s.heap a b).objs.size = s.heap.objs.size + 2 := (Heap.size_push ..).trans (by rw [n1])
  have n3 : (zm3 s.heap a b).objs.size = s.heap.objs.size + 3 := (Heap.size_push ..).trans (by rw [n2])
  have n4 : (zm4 s.heap a b).objs.size = s.heap.objs.size + 4 := (Heap.size_push ..).trans (by rw [n3])
  have up : ∀ {c o}, (zm2 s.heap a b).get? c = some o → (zm5 s.heap a b).get? c = some o := fun e => Heap.get?_push_of_some _ (Heap.get?_push_of_some _ (Heap.get?_push_of_some _ e))
  have f5 : (zm5 s.heap a b).get? (zm4 s.heap a b).objs.size = some { cls := .type "zip", data := .fields #[.none, .bool false, .bool false, .ref (zm2 s.heap a b).objs.size, .ref (zm3 s.heap a b).objs.size] } := Heap.get?_push_size _ rfl
  have f4 : (zm5 s.heap a b).get? (zm3 s.heap a b).objs.size = some { cls := .type "tuple", data := .seq #[.none, .none] } := Heap.get?_push_of_some _ (Heap.get?_push_size _ rfl)
  have f3 : (zm5 s.heap a b).get? (zm2 s.heap a b).objs.size = some { cls := .type "tuple", data := .seq #[.ref s.heap.objs.size, .ref (zm1 s.heap a).objs.size] } := Heap.get?_push_of_some _ (Heap.get?_push_of_some _ (Heap.get?_push_size _ rfl))
  have f2 : (zm5 s.heap a b).get? (zm1 s.heap a).objs.size = some { cls := .type "list_iterator", data := .fields #[.ref b, .int 0 0] } := up (Heap.get?_push_size _ rfl)
  have f1 : (zm5 s.heap a b).get? s.heap.objs.size = some { cls := .type "tuple_iterator", data := .fields #[.ref a, .int 0 0] } := up (Heap.get?_push_of_some _ (Heap.get?_push_size _ rfl))
  rw [n2, n3, n4] at f5
  rw [n1, n2] at f3
  rw [n3] at f4
  rw [n1] at f2
  show _ ∧ _
  rw [n4]
  exact ⟨⟨_, f5, rfl⟩, q _ f5 f3 f4 ⟨_, f1, rfl, rfl⟩ ⟨_, f2, rfl, rfl⟩ fun c o e => up (Heap.get?_push_of_some _ (Heap.get?_push_of_some _ e))⟩
def iZipM (K : PySem.W.Frag) (ta : TA) : TI := fun σ H R => ta σ H fun vs H1 => ∃ (a b : Addr) (xs ys : List V), vs = [.ref a, .ref b] ∧ SqT K H1 a xs ∧ SqL K H1 b ys ∧ R (ItzM K a b) H1
theorem g_zipM {K : PySem.W.Frag} {ta : TA} {σ : L2.St} {H : Hp} {R : It → Hp → Prop} (h : ta σ H fun vs H1 => ∃ (a b : Addr) (xs ys : List V), vs = [.ref a, .ref b] ∧ SqT K H1 a xs ∧ SqL K H1 b ys ∧ R (ItzM K a b) H1) : iZipM K ta σ H R := h
theorem pi_zipM {X : Cx} {e e2 : Expr} {ta : TA} {p pos tp : Pos} {es : List Expr} {kk : Nat} (hg : Gl X "zip") (hm : X.mg "zip" = none) (ha : PA X [e, e2] ta)
    (hs : starEach [e, e2] X.env = (false, eval e X.env) :: starEach [e2] X.env := by rfl) (hpl : (backTo pos (starEach [e2] X.env)).any (·.1) = false := by rfl) : PI X (.Tuple es kk tp) (.Call (.Name "zip" p) [e, e2] [] pos) (iZipM X.K ta) := by
  refine ⟨fun pins s σ H R I h => Call_ (ld_blt I hg hm PyProof.Rows.boot_zip (PyProof.Rows.callWith_type1 (thn (ha.run pos pins s σ H _ I h) fun us s1 ⟨vs, H1, I1, r1, a, b, xs, ys, ev, qx, qy, q⟩ => ?_) hs hpl))⟩
  subst ev
  cases r1 with
  | cons ra rr =>
  cases rr with
  | cons rb rr =>
  cases rr
  cases ra
  cases rb
  obtain ⟨us, ru, pu, _⟩ := I1.tuple qx
  obtain ⟨vs, rv, pv, _⟩ := I1.list qy
  obtain ⟨oa, la, _⟩ := id pu
  have fresh : ∀ c, c ∈ [s1.heap.objs.size + 4, s1.heap.objs.size + 2, s1.heap.objs.size + 3, s1.heap.objs.size, s1.heap.objs.size + 1] → FpOk X pins H1 c := fun c hc => by
    have le : s1.heap.objs.size ≤ c := by
      simp only [List.mem_cons, List.not_mem_nil, or_false] at hc
      omega
    exact I1.fpOk le (I1.hok.fresh le)
  refine call_zipM pu pv.isList fun g z' t' o' a' b' k' => wpAny_pyIter_zip z' ?_
  exact ⟨s1.heap.objs.size + 4, [s1.heap.objs.size + 4, s1.heap.objs.size + 2, s1.heap.objs.size + 3, s1.heap.objs.size, s1.heap.objs.size + 1], _, _, H1, rfl, I1.kept (t' := s1.toks) k',
    turn_zipM (PySem.W.ktu_apart s1.heap.objs.size a b (Heap.lt_size la) pv.lt), ⟨⟨z', t', _, _, o'⟩, a', b'⟩, fresh, q⟩
end Bk

set_option Elab.async false
set_option linter.all false
set_option maxRecDepth 100000
set_option maxHeartbeats 2000000
namespace Bk
open PySem PySem.Spec PyProof.Rows L2
/-! ### rows compared, either way -/
def IntVals (ks : List (Key × V)) : Prop := ∀ p ∈ ks, ∃ i : Int, p.2 = .int i
def sameRows (ks ls : List (Key × V)) : Bool := (ks.length == ls.length) && ks.all fun p => decide (valV ls p.1 = some p.2)
theorem valV_in {kvs : List (Key × V)} {k : Key} {v : V} (h : valV kvs k = some v) : (k, v) ∈ kvs := by
  unfold valV at h
  obtain ⟨⟨a, b⟩, h1, h2⟩ := Option.map_eq_some_iff.mp h
  have e : a = k := of_decide_eq_true (List.find?_some (p := fun kv : Key × V => decide (kv.1 = k)) h1)
  have h2 : b = v := h2
  subst e
  subst h2
  exact List.mem_of_find?_eq_some h1
theorem hits_ints {A : Around} {s : Shared} {ls : List (Key × V)} {vb : List (Key × Value)} (rb : KV ls vb) (hb : IntVals ls) : ∀ {ks : List (Key × V)} {va : List (Key × Value)}, KV ks va → IntVals ks → PySem.W.KeqHits A s vb va (ks.all fun p => decide (valV ls p.1 = some p.2)) := by
  intro ks va ra
  unfold KV at ra
  induction ra with
  | nil => exact fun _ => .nil
  | @cons p q ps qs h t ih =>
    intro hp
    obtain ⟨pk, pv⟩ := p
    obtain ⟨qk, qv⟩ := q
    obtain ⟨h1, h2⟩ := h
    have h1 : pk = qk := h1
    subst h1
    obtain ⟨i, hi⟩ := hp _ List.mem_cons_self
    have hi : pv = .int i := hi
    subst hi
    obtain ⟨t1, e1⟩ := (show ∃ t, qv = Value.int i t from h2)
    subst e1
    have rr : RelO (valV ls pk) (valueAt vb pk) := rb.val pk
    have rest := ih fun p' hm => hp p' (List.mem_cons_of_mem _ hm)
    rw [List.all_cons]
    cases hv : valV ls pk with
    | none =>
      rw [hv] at rr
      rw [show decide ((none : Option V) = some (.int i)) = false from decide_eq_false (fun z => nomatch z), Bool.false_and]
      exact .miss rr.none_of
    | some y =>
      rw [hv] at rr
      obtain ⟨u, hu, ru⟩ := rr.some_of
      obtain ⟨j, hj⟩ := hb _ (valV_in hv)
      have hj : y = .int j := hj
      subst hj
      obtain ⟨t2, e2⟩ := (show ∃ t, u = Value.int j t from ru)
      subst e2
      have q := SeqAt.EqAt.int_int (A := A) (s := s) i t1 j t2
      have e : (i == j) = decide (some (V.int j) = some (V.int i)) := by
        by_cases c : i = j
        · subst c; simp
        · rw [decide_eq_false (fun z => c (V.int.inj (Option.some.inj z)).symm)]
          simpa using c
      rw [e] at q
      exact .hit hu q rest
def rNeDI : R2 := fun x y H Q => ∃ a b ks ls, x = .ref a ∧ y = .ref b ∧ H a = some (.dK ks) ∧ H b = some (.dK ls) ∧ IntVals ks ∧ IntVals ls ∧ Q (.bl (!sameRows ks ls)) H
theorem op_neDI {X : Cx} (hu : X.A.units < cLine) : OpR X (compareOp .NotEq) rNeDI := by
  intro pins s σ H x y v u Q I rx ry h
  obtain ⟨a, b, ks, ls, rfl, rfl, ea, eb, ha, hb, q⟩ := h
  obtain rfl : v = Value.ref a := rx
  obtain rfl : u = Value.ref b := ry
  obtain ⟨_, ya, va, ra, da⟩ := (show ObjOk X.prog X.w H s.heap a (.dK ks) from I.hok a _ ea)
  obtain ⟨_, yb, vb, rb, db⟩ := (show ObjOk X.prog X.w H s.heap b (.dK ls) from I.hok b _ eb)
  have l1 : ks.length = va.length := ra.length
  have l2 : ls.length = vb.length := rb.length
  refine PySem.W.keq_ne (knd := mixKind X.prog X.w) (r := ks.all fun p => decide (valV ls p.1 = some p.2)) ya yb da db hu (fun _ => hits_ints rb hb ra ha) ?_
  rw [← l1, ← l2]
  exact fin_bl I q rfl
def rEqDI : R2 := fun x y H Q => ∃ a b ks ls, x = .ref a ∧ y = .ref b ∧ H a = some (.dK ks) ∧ H b = some (.dK ls) ∧ IntVals ks ∧ IntVals ls ∧ Q (.bl (sameRows ks ls)) H
theorem op_eqDI {X : Cx} (hu : X.A.units < cLine) : OpR X (compareOp .Eq) rEqDI := by
  intro pins s σ H x y v u Q I rx ry h
  obtain ⟨a, b, ks, ls, rfl, rfl, ea, eb, ha, hb, q⟩ := h
  obtain rfl : v = Value.ref a := rx
  obtain rfl : u = Value.ref b := ry
  obtain ⟨_, ya, va, ra, da⟩ := (show ObjOk X.prog X.w H s.heap a (.dK ks) from I.hok a _ ea)
  obtain ⟨_, yb, vb, rb, db⟩ := (show ObjOk X.prog X.w H s.heap b (.dK ls) from I.hok b _ eb)
  have l1 : ks.length = va.length := ra.length
  have l2 : ls.length = vb.length := rb.length
  refine PySem.W.keq_eq (knd := mixKind X.prog X.w) (r := ks.all fun p => decide (valV ls p.1 = some p.2)) ya yb da db hu (fun _ => hits_ints rb hb ra ha) ?_
  rw [← l1, ← l2]
  exact fin_bl I q rfl
/-! ### a dict comprehension over any walk -/
theorem g_dc {wi : TI} {g : TG} {tt : TT} {tk tv : TE} {vs : List Nat} {σ : L2.St} {H : Hp} {Q : VK} (h : wi σ H fun J H1 => ∀ D, H1 D = none → ∃ W : Nat → Nat → Hp → Prop, (∃ m, W 0 m (upd H1 D (.dK []))) ∧ ∀ i m H, W i m H →
    (J.stop i H ∧ Q (.ref D) H) ∨ (J.go i H ∧ ∃ Nx : Hp → Prop, (∀ H', Nx H' → ∃ m', m' < m ∧ W (i + 1) m' H') ∧ ∀ x H', J.yld i H x H' → g x (wipe σ vs) H' fun σ2 H2 => wipe σ2 vs = wipe σ vs ∧ tt σ2 H2 fun b H3 =>
      if b = true then tk σ2 H3 fun y H4 => tv σ2 H4 fun z H5 => ∃ kvs k, y = kV k ∧ H5 D = some (.dK kvs) ∧ kvs.length < sizeLine ∧ Nx (upd H5 D (.dK (putK kvs k z))) else Nx H3)) : tDc wi g tt tk tv vs σ H Q := h
theorem dc_it {J : It} {n : Nat} {G : Hp → Prop} {Y : Nat → Hp → V → Hp → Prop} (w : Walk J n G Y) {g : TG} {tt : TT} {tk tv : TE} {vs : List Nat} {σ : L2.St} {H1 : Hp} {D : Addr} {Qd : Hp → Prop} (Pv : Nat → Hp → Prop) (h0 : Pv 0 (upd H1 D (.dK []))) (hG : ∀ i H, i ≤ n → Pv i H → G H)
    (hs : ∀ i x H H', i < n → Pv i H → Y i H x H' → g x (wipe σ vs) H' fun σ2 H2 => wipe σ2 vs = wipe σ vs ∧ tt σ2 H2 fun b H3 =>
      if b = true then tk σ2 H3 fun y H4 => tv σ2 H4 fun z H5 => ∃ kvs k, y = kV k ∧ H5 D = some (.dK kvs) ∧ kvs.length < sizeLine ∧ Pv (i + 1) (upd H5 D (.dK (putK kvs k z))) else Pv (i + 1) H3) (hd : ∀ H, Pv n H → Qd H) :
    ∃ W : Nat → Nat → Hp → Prop, (∃ m, W 0 m (upd H1 D (.dK []))) ∧ ∀ i m H, W i m H →
      (J.stop i H ∧ Qd H) ∨ (J.go i H ∧ ∃ Nx : Hp → Prop, (∀ H', Nx H' → ∃ m', m' < m ∧ W (i + 1) m' H') ∧ ∀ x H', J.yld i H x H' → g x (wipe σ vs) H' fun σ2 H2 => wipe σ2 vs = wipe σ vs ∧ tt σ2 H2 fun b H3 =>
        if b = true then tk σ2 H3 fun y H4 => tv σ2 H4 fun z H5 => ∃ kvs k, y = kV k ∧ H5 D = some (.dK kvs) ∧ kvs.length < sizeLine ∧ Nx (upd H5 D (.dK (putK kvs k z))) else Nx H3) := by
  refine ⟨fun i m H => m = n - i ∧ (i ≤ n ∧ Pv i H), ⟨n - 0, rfl, Nat.zero_le _, h0⟩, fun i m H ⟨em, le, pv⟩ => ?_⟩
  have gg := hG i H le pv
  rcases Nat.lt_or_ge i n with lt | ge
  · exact .inr ⟨w.goes i H lt gg, Pv (i + 1), fun G' p' => ⟨n - (i + 1), by omega, rfl, lt, p'⟩, fun x G' y => hs i x H G' lt pv (w.yields i H x G' lt gg y)⟩
  · have e : i = n := Nat.le_antisymm le ge
    subst e
    exact .inl ⟨w.stops H gg, hd H pv⟩
theorem g_din {ty td : TE} {σ : L2.St} {H : Hp} {Q : VK} (h : ty σ H fun y H1 => td σ H1 fun x H2 => ∃ a o, x = .ref a ∧ DGet H2 a y o ∧ Q (.bl o.isSome) H2) : tDIn ty td σ H Q := h
theorem g_dnotin {ty td : TE} {σ : L2.St} {H : Hp} {Q : VK} (h : ty σ H fun y H1 => td σ H1 fun x H2 => ∃ a o, x = .ref a ∧ DGet H2 a y o ∧ Q (.bl (!o.isSome)) H2) : tDNotIn ty td σ H Q := h
theorem g_has {H : Hp} {d : Addr} {kvs : List (Key × V)} {x : Str} {R : Bool → Prop} (hd : H d = some (.dK kvs)) (h : R (valV kvs (.inr x)).isSome) : ∃ a o, V.ref d = .ref a ∧ DGet H a (.str x) o ∧ R o.isSome :=
  ⟨d, _, rfl, .inl ⟨kvs, .inr x, .inl hd, rfl, rfl⟩, h⟩
/-! ### the same rules with the frag's own name (within comprehensions) -/
theorem pi_tupK {X : Cx} {K : PySem.W.Frag} {tg l : Expr} {tl : TE} (h : X.K = K) (he : PE X l tl) : PI X tg l (iTup K tl) := by
  subst h
  exact pi_tup he
theorem pi_listK {X : Cx} {K : PySem.W.Frag} {tg l : Expr} {tl : TE} (h : X.K = K) (he : PE X l tl) : PI X tg l (iList K tl) := by
  subst h
  exact pi_list he
theorem op_inK {X : Cx} {K : PySem.W.Frag} (h : X.K = K) : OpR X (compareOp .In) (rIn K false) := by
  subst h
  exact op_in_seq
theorem op_notInK {X : Cx} {K : PySem.W.Frag} (h : X.K = K) : OpR X (compareOp .NotIn) (rIn K true) := by
  subst h
  exact op_notIn_seq
theorem g_dpop {td ty : TE} {σ : L2.St} {H : Hp} {Q : VK} (h : td σ H fun x H1 => ∃ a, x = .ref a ∧ IsD H1 a ∧ ty σ H1 fun y H2 => ∃ kvs k v, H2 a = some (.dK kvs) ∧ y = kV k ∧ valV kvs k = some v ∧ Q v (upd H2 a (.dK (dropK kvs k)))) : tDPop1 td ty σ H Q := h
end Bk

set_option Elab.async false
set_option linter.all false
set_option maxRecDepth 100000
set_option maxHeartbeats 2000000
namespace Bk
open PySem PySem.Spec PyProof.Rows L2
/-! ### texts in order -/
theorem rising_pw : ∀ (p : Str) (l : List Str), risingS p l = true → (p :: l).Pairwise fun a b => a.cps.toList ≤ b.cps.toList
  | p, [], _ => List.pairwise_singleton _ _
  | p, x :: r, h => by
    have h : (!ltCps x.cps.toList p.cps.toList && risingS x r) = true := h
    rw [Bool.and_eq_true, Bool.not_eq_true', ltCps_eq, decide_eq_false_iff_not] at h
    have ih := rising_pw x r h.2
    have px : p.cps.toList ≤ x.cps.toList := h.1
    refine List.pairwise_cons.mpr ⟨fun b hb => ?_, ih⟩
    rcases List.mem_cons.mp hb with rfl | hb
    · exact px
    · exact List.le_trans px (List.rel_of_pairwise_cons ih hb)
theorem sorted_pw {l : List Str} (h : sortedS l = true) : l.Pairwise fun a b => a.cps.toList ≤ b.cps.toList := by
  cases l with
  | nil => exact .nil
  | cons x r => exact rising_pw x r h
theorem str_ext {a b : Str} (h : a.cps.toList = b.cps.toList) : a = b := by
  obtain ⟨x⟩ := a
  obtain ⟨y⟩ := b
  have : x = y := Array.ext' h
  rw [this]
theorem sorted_one {xs ys : List Str} (p : xs.Perm ys) (hx : sortedS xs = true) (hy : sortedS ys = true) : xs = ys :=
  List.Perm.eq_of_pairwise (fun a b _ _ h1 h2 => str_ext (List.le_antisymm h1 h2)) (sorted_pw hx) (sorted_pw hy) p
/-- two lists of unlike words: the same words -/
theorem nodup_perm {xs ys : List Str} (nx : xs.Nodup) (ny : ys.Nodup) (hl : xs.length = ys.length) (h : ∀ y ∈ ys, y ∈ xs) : xs.Perm ys := by
  refine (List.perm_ext_iff_of_nodup nx ny).mpr fun a => ⟨fun ha => ?_, h a⟩
  refine Decidable.byContradiction fun hn => ?_
  have n2 : (a :: ys).Nodup := List.nodup_cons.mpr ⟨hn, ny⟩
  have := List.Nodup.length_le_of_subset n2 (l₂ := xs) (fun b hb => by
    rcases List.mem_cons.mp hb with rfl | hb
    · exact ha
    · exact h b hb)
  rw [List.length_cons] at this
  omega
theorem eqv_strs : ∀ xs ys : List Str, PyData.eqv (.list (xs.map PyData.str)) (.list (ys.map PyData.str)) = decide (xs = ys)
  | [], [] => rfl
  | [], y :: ys => rfl
  | x :: xs, [] => rfl
  | x :: xs, y :: ys => by
    have ih : PyData.eqvAll (xs.map PyData.str) (ys.map PyData.str) = decide (xs = ys) := eqv_strs xs ys
    show ((x == y) && PyData.eqvAll (xs.map PyData.str) (ys.map PyData.str)) = _
    rw [ih]
    by_cases c : x = y
    · subst c
      simp
    · have e : (x == y) = false := by rw [beq_eq_false_iff_ne]; exact c
      rw [e, Bool.false_and, decide_eq_false (fun z => c (List.cons.inj z).1)]
theorem inV_intL {b : Int} {ns : List Int} : inV (.int b) (ns.map V.int) = decide (b ∈ ns) := by
  unfold inV
  rw [List.any_map, Bool.eq_iff_iff, List.any_eq_true, decide_eq_true_eq]
  constructor
  · rintro ⟨x, hx, e⟩
    have e' : (x == b) = true := by
      first
        | exact e
        | (have z : (b == x) = true := e; simpa [eq_comm] using z)
    rw [← eq_of_beq e']
    exact hx
  · intro h
    exact ⟨b, h, by show (b == b) = true; simp⟩
theorem inV_strL {b : Str} {ns : List Str} : inV (.str b) (ns.map V.str) = decide (b ∈ ns) := by
  unfold inV
  rw [List.any_map, Bool.eq_iff_iff, List.any_eq_true, decide_eq_true_eq]
  constructor
  · rintro ⟨x, hx, e⟩
    have e' : (x == b) = true := by
      first
        | exact e
        | (have z : (b == x) = true := e; simpa [eq_comm] using z)
    rw [← eq_of_beq e']
    exact hx
  · intro h
    exact ⟨b, h, by show (b == b) = true; simp⟩
end Bk

set_option Elab.async false
set_option linter.all false
set_option maxRecDepth 100000
namespace Bk
open PySem PySem.Spec PyProof.Rows L2
/-! ### == of nested lists, tuples and dicts -/
def EqRT (K : PySem.W.Frag) (H : Hp) (E : V → V → Prop) (x y : V) : Prop :=
  EqR K H E x y ∨ ∃ a b xs ys, x = .ref a ∧ y = .ref b ∧ SqT K H a xs ∧ SqT K H b ys ∧ Paired E xs ys
def EqVT (K : PySem.W.Frag) (H : Hp) : Nat → V → V → Prop
  | 0 => fun _ _ => False
  | n + 1 => fun x y => (x = y ∧ flatB x = true) ∨ (∃ a, x = .ref a ∧ y = .ref a) ∨ EqRT K H (EqVT K H n) x y
section
variable {X : Cx} {pins : List (Addr × Obj)} {σ : L2.St} {H : Hp} {s : Shared}
theorem eqRT_run (I : Inv X pins σ H s) {A : Around} {F : V → V → Prop} (hu : A.units < cLine) (ih : ∀ x y v u, F x y → RelV x v → RelV y u → SeqAt.EqP X.prog X.w A.in1 s v u true) {x y : V} {v u : Value} (h : EqRT X.K H F x y) (rx : RelV x v) (ry : RelV y u)
    (E Q : Value → Shared → Prop) (q : Q (.bool true) s) : wpAny (model X.prog X.w) A (richCompare .Eq v u) Q E s := by
  rcases h with h | ⟨a, b, xs, ys, rfl, rfl, ha, hb, hp⟩
  · exact eqR_run I hu ih h rx ry E Q q
  · cases (show v = Value.ref a from rx)
    cases (show u = Value.ref b from ry)
    obtain ⟨us, r1, p1, _⟩ := I.tuple ha
    obtain ⟨ws, r2, p2, _⟩ := I.tuple hb
    have hsz : us.toArray.size = ws.toArray.size := by
      rw [List.size_toArray, List.size_toArray, ← r1.length, ← r2.length]
      exact Paired.length hp
    refine SeqAt.rcIn_tuples (e := fun _ => true) p1 p2 hu (fun j h1 h2 => ?_) ?_
    · have k := items_run ih hp r1 r2 j (by simpa using h1) (by simpa using h2)
      have k' : SeqAt.EqIn X.prog X.w A.in1 s us[j] ws[j] true := k
      simpa using k'
    · rw [hsz]
      simp only [BEq.rfl, Bool.and_true]
      rw [show ((List.range (min ws.toArray.size ws.toArray.size)).all fun _ => true) = true from List.all_eq_true.mpr fun _ _ => rfl]
      exact q
theorem eqVT_run (I : Inv X pins σ H s) : ∀ (n : Nat) (A : Around), A.units + n < cLine → ∀ (x y : V) (v u : Value), EqVT X.K H n x y → RelV x v → RelV y u → SeqAt.EqP X.prog X.w A s v u true
  | 0, _, _, _, _, _, _, h, _, _ => (show False from h).elim
  | n + 1, A, hu, x, y, v, u, h, rx, ry => by
    rcases h with ⟨rfl, f⟩ | ⟨a, rfl, rfl⟩ | h
    · exact (eqAt_same rx ry f).eqP
    · cases (show v = Value.ref a from rx)
      cases (show u = Value.ref a from ry)
      exact (SeqAt.EqAt.same _).eqP
    · have step := eqRT_run I (A := A) (by omega) (eqVT_run I n A.in1 (by show A.units + 1 + n < cLine; omega)) h rx ry
      obtain ⟨a, b, rfl, rfl⟩ : ∃ a b, x = .ref a ∧ y = .ref b := by
        rcases h with (⟨a, b, _, _, e1, e2, _⟩ | ⟨a, b, _, _, e1, e2, _⟩) | ⟨a, b, _, _, e1, e2, _⟩
        · exact ⟨a, b, e1, e2⟩
        · exact ⟨a, b, e1, e2⟩
        · exact ⟨a, b, e1, e2⟩
      cases (show v = Value.ref a from rx)
      cases (show u = Value.ref b from ry)
      by_cases e : a = b
      · subst e
        exact (SeqAt.EqAt.same _).eqP
      · exact SeqAt.eqP_refs e step
end
section
variable {X : Cx}
/-- a == b, two lists, tuples or dicts that are equal -/
def rEqVT (K : PySem.W.Frag) : R2 := fun x y H Q => ∃ n, n ≤ 60 ∧ EqRT K H (EqVT K H n) x y ∧ Q (.bl true) H
theorem op_eqVT (hu : X.A.units + 64 < cLine) : OpR X (compareOp .Eq) (rEqVT X.K) := by
  intro pins s σ H x y v u Q I rx ry h
  obtain ⟨n, hn, h, q⟩ := h
  exact eqRT_run I (A := X.A) (by omega) (eqVT_run I n X.A.in1 (by show X.A.units + 1 + n < cLine; omega)) h rx ry _ _ ⟨.bl true, H, I, rfl, q⟩
end
end Bk

set_option maxHeartbeats 4000000
namespace Bk
open PySem PySem.Spec PyProof.Rows L2
local macro_rules
  | `(tactic| walk_at "go") => `(tactic| repeat (first
      | with_reducible refine g_seq ?_
      | with_reducible refine g_next ?_
      | with_reducible refine g_asg ?_
      | with_reducible refine g_name ?_
      | with_reducible refine g_ret ?_
      | with_reducible refine g_drop ?_
      | with_reducible refine g_ifs ?_
      | with_reducible refine g_if ?_
      | with_reducible refine g_c ?_
      | ((with_reducible refine (?_ : tVar _ _ _ _)); refine ⟨_, rfl, ?_⟩)
      | with_reducible refine g_op ?_
      | with_reducible refine g_un ?_
      | with_reducible refine g_I0 ?_
      | with_reducible refine g_neg ?_
      | with_reducible refine g_eqI ?_
      | with_reducible refine g_eqS ?_
      | with_reducible refine g_neI ?_
      | with_reducible refine g_neS ?_
      | with_reducible refine g_eqB ?_
      | with_reducible refine g_neB ?_
      | with_reducible refine g_test ?_
      | with_reducible refine g_b ?_
      | with_reducible refine g_and ?_
      | with_reducible refine g_or ?_
      | with_reducible refine g_not ?_
      | with_reducible refine g_andV ?_
      | with_reducible refine g_orV ?_
      | with_reducible refine g_notV ?_
      | with_reducible refine iteT ?_
      | with_reducible refine iteF ?_
      | with_reducible refine iteNF ?_
      | with_reducible refine iteNT ?_
      | with_reducible refine ⟨_, rfl, ?_⟩
      | with_reducible refine ⟨rfl, ?_⟩
      | with_reducible refine ⟨_, _, rfl, rfl, ?_⟩
      | with_reducible refine ⟨_, _, rfl, ?_⟩
      | with_reducible refine g_call ?_
      | with_reducible refine g_cb ?_
      | with_reducible refine g_cons ?_
      | with_reducible refine g_nil ?_
      | with_reducible refine g_chain ?_
      | with_reducible refine g_dget ?_
      | with_reducible refine g_dput ?_
      | with_reducible refine g_tup ?_
      | with_reducible refine g_lst ?_
      | with_reducible refine g_bm ?_
      | with_reducible refine g_disp ?_
      | with_reducible refine g_pairs0 ?_
      | with_reducible refine g_pairs ?_
      | with_reducible refine g_for ?_
      | with_reducible refine g_gcons ?_
      | with_reducible refine g_gnil ?_
      | with_reducible refine g_rng1 ?_
      | with_reducible refine g_rng2 ?_
      | with_reducible refine g_ilist ?_
      | with_reducible refine g_itup ?_
      | with_reducible refine g_lc ?_
      | with_reducible refine g_yes ?_
      | with_reducible refine g_sl ?_
      | with_reducible refine g_nopart ?_
      | with_reducible refine g_part ?_
      | with_reducible refine g_bm0 ?_
      ))

local macro_rules
  | `(tactic| walk_at "ev") => `(tactic| repeat' (first
      | exact eva_nil
      | apply eva_cons
      | exact evd_str _
      | exact evd_int _
      | exact evd_bl _
      | exact evd_non
      | exact evd_var rfl
      | apply evd_tup
      | apply evd_lst
      | apply evd_I0
      | apply evd_I
      | apply evd_neg
      | exact Nat.le_of_ble_eq_true rfl
      | decide
      | exact ⟨by decide, by decide, by decide⟩))
def topS (i : Nat) : Stmt := PySem.Challenge.pw_contractbook_k33_whole_markets_that_are.main.body.getD i (.Pass ⟨0, 0, 0, 0⟩)
/-! ### the law's own drawing: what stands in the dict of the script -/
structure Cfg where
  sz : Int
  pl : Int
  tu : Int
  ta : Int
  od : Option Int
structure Cfg.Ok (c : Cfg) : Prop where
  sz1 : 1 ≤ c.sz
  sz8 : c.sz ≤ 8
  pl0 : 0 ≤ c.pl
  plz : c.pl < c.sz
  tu0 : 0 ≤ c.tu
  tuz : c.tu < 26
  ta : c.ta = 0 ∨ c.ta = 1
  od : ∀ o, c.od = some o → 0 ≤ o ∧ o ≤ 1000
def oddL : Option Int → List (Key × V)
  | none => []
  | some o => [(.inr "odd", .int o)]
def sd (c : Cfg) (na nm : Addr) (n re mx : Int) : List (Key × V) :=
  (.inr "numbers", .ref na) :: (.inr "at", .int n) :: (.inr "size", .int c.sz) :: (.inr "place", .int c.pl) :: (.inr "turn", .int c.tu) :: (.inr "talk", .int c.ta) :: (.inr "rest", .int re) :: (.inr "names", .ref nm) :: (.inr "mixed", .int mx) :: oddL c.od
theorem sd_lt {c : Cfg} {na nm : Addr} {n re mx : Int} : (sd c na nm n re mx).length < sizeLine := by
  have h : (oddL c.od).length ≤ 1 := by
    cases c.od with
    | none => decide
    | some o => exact Nat.le_refl 1
  have e : (sd c na nm n re mx).length = (oddL c.od).length + 9 := rfl
  have z : (10 : Nat) < sizeLine := by decide
  omega
theorem put_at {c : Cfg} {na nm : Addr} {n re mx z : Int} : putK (sd c na nm n re mx) (.inr "at") (.int z) = sd c na nm z re mx := by
  obtain ⟨a, b, d, e, od⟩ := c
  cases od <;> rfl
theorem put_rest {c : Cfg} {na nm : Addr} {n re mx z : Int} : putK (sd c na nm n re mx) (.inr "rest") (.int z) = sd c na nm n z mx := by
  obtain ⟨a, b, d, e, od⟩ := c
  cases od <;> rfl
theorem put_mixed {c : Cfg} {na nm : Addr} {n re mx z : Int} : putK (sd c na nm n re mx) (.inr "mixed") (.int z) = sd c na nm n re z := by
  obtain ⟨a, b, d, e, od⟩ := c
  cases od <;> rfl
theorem put_names {c : Cfg} {na nm nn : Addr} {n re mx : Int} : putK (sd c na nm n re mx) (.inr "names") (.ref nn) = sd c na nn n re mx := by
  obtain ⟨a, b, d, e, od⟩ := c
  cases od <;> rfl
theorem put_talk {c : Cfg} {na nm : Addr} {n re mx z : Int} : putK (sd c na nm n re mx) (.inr "talk") (.int z) = sd { c with ta := z } na nm n re mx := by
  obtain ⟨a, b, d, e, od⟩ := c
  cases od <;> rfl
theorem put_odd {c : Cfg} {na nm : Addr} {n re mx z : Int} (h : c.od = none) : putK (sd c na nm n re mx) (.inr "odd") (.int z) = sd { c with od := some z } na nm n re mx := by
  obtain ⟨a, b, d, e, od⟩ := c
  cases h
  rfl
structure LS (K : PySem.W.Frag) (c : Cfg) (ns : List Int) (xs : List Str) (s na nm : Addr) (H : Hp) : Prop where
  st : ∃ n re mx : Int, H s = some (.dK (sd c na nm n re mx)) ∧ 0 ≤ n ∧ 0 ≤ re ∧ 0 ≤ mx ∧ mx < 2147483647
  num : SqL K H na (ns.map V.int)
  nms : SqL K H nm (xs.map V.str)
  ok : c.Ok
  len : ns.length ≤ 63
  few : xs.length ≤ 8
theorem LS.same {K : PySem.W.Frag} {c : Cfg} {ns : List Int} {xs : List Str} {s na nm : Addr} {H H' : Hp} (L : LS K c ns xs s na nm H) (e : Same H H') : LS K c ns xs s na nm H' := by
  obtain ⟨⟨n, re, mx, h, r⟩, h1, h2, h3, h4, h5⟩ := L
  exact ⟨⟨n, re, mx, e _ _ h, r⟩, e.seq h1, e.seq h2, h3, h4, h5⟩
theorem LS.put {K : PySem.W.Frag} {c : Cfg} {ns : List Int} {xs : List Str} {s na nm : Addr} {H : Hp} (L : LS K c ns xs s na nm H) {n re mx : Int} (h0 : 0 ≤ n) (h1 : 0 ≤ re) (h2 : 0 ≤ mx) (h3 : mx < 2147483647) :
    LS K c ns xs s na nm (upd H s (.dK (sd c na nm n re mx))) := by
  obtain ⟨⟨n', re', mx', h, r⟩, g1, g2, g3, g4, g5⟩ := L
  exact ⟨⟨n, re, mx, upd_same, h0, h1, h2, h3⟩, KB.seq KB.upd h g1, KB.seq KB.upd h g2, g3, g4, g5⟩
theorem LS.tm {K : PySem.W.Frag} {c : Cfg} {ns : List Int} {xs : List Str} {s na nm : Addr} {H H' : Hp} (L : LS K c ns xs s na nm H) (e : KB s H H') : TM K H H' := by
  obtain ⟨⟨n, re, mx, h, r⟩, _⟩ := L
  exact e.tm h
/-- a number is taken: 0 up to m -/
def spTaken (K : PySem.W.Frag) : Sp := fun vs H Q _ => ∃ (c : Cfg) (ns : List Int) (xs : List Str) (s na nm : Addr) (m : Int), vs = [.ref s, .int m] ∧ LS K c ns xs s na nm H ∧ 0 < m ∧ m ≤ 10000000000000 ∧
  ∀ (r : Int) (H' : Hp), 0 ≤ r → r < m → KB s H H' → LS K c ns xs s na nm H' → Q (.int r) H'
theorem use_taken {K : PySem.W.Frag} {c : Cfg} {ns : List Int} {xs : List Str} {s na nm : Addr} {m : Int} {H : Hp} {Q : VK} {E : XK} (L : LS K c ns xs s na nm H) (h0 : 0 < m) (h1 : m ≤ 10000000000000)
    (q : ∀ (r : Int) (H' : Hp), 0 ≤ r → r < m → KB s H H' → LS K c ns xs s na nm H' → Q (.int r) H') : spTaken K ([.ref s, .int m] ++ []) H Q E := ⟨c, ns, xs, s, na, nm, m, rfl, L, h0, h1, q⟩
theorem log_small {i m : Int} (h0 : 0 < m) (h1 : m ≤ 10000000000000) : CDivW i m := wide_div (b := 64) h0 (by omega) (by decide) (by decide)
section
variable {P : Program} {w : World} {K : PySem.W.Frag} {mg : Str → Option Value} {base : Heap}
abbrev s__law_taken : Stmt := topS 25
theorem sc__law_taken : FnScope ["_law_s", "_law_most", "_law_found", "_law_number_here"] ["_law_s", "_law_most"] (defScope s__law_taken) := ⟨rfl, rfl, rfl, by decide +kernel, rfl, by decide +kernel, by decide +kernel⟩
theorem h__law_taken {k : Nat} {f : Addr} {fd : FuncData} (O : Own K mg "_law_taken" s__law_taken ["_law_s", "_law_most"] f fd)  (m_len : mg "len" = none) (m_int : mg "int" = none) : Has P w K mg base "_law_taken" ["_law_s", "_law_most"] (k + 1) CX0 (spTaken K) f fd := by
  refine O.has (O.F.ok sc__law_taken (fun vs H Q E h => ?_) (fun cdv A outer s H vs Q E hr h => ?_))
  · obtain ⟨c, ns, xs, s, na, nm, m, rfl, _⟩ := h
    rfl
  obtain ⟨c, ns, xs, s, na, nm, m, rfl, L, h0, h1, q⟩ := h
  obtain ⟨n, re, mx, hs, g0, g1, g2, g3⟩ := L.st
  refine ⟨_, (pss_cons (ps_if (pt_cmpR op_gt (pe_dget (hu_of hr) (pv 0) pe_str (fun _ _ => rfl)) pe_int (nomark _)) (pss_cons (ps_set (i := 2) sc__law_taken.nd rfl (.inl rfl) (pe_op op_mod (pe_dget (hu_of hr) (pv 0) pe_str (fun _ _ => rfl)) (pv 1))) (pss_cons (ps_dput (hu_of hr) (pv 0) pe_str (pe_op op_fdivW (pe_dget (hu_of hr) (pv 0) pe_str (fun _ _ => rfl)) (pv 1)) (by rfl)) (pss_one (ps_ret (pv 2))))) pss_nil) (pss_cons (ps_dput (hu_of hr) (pv 0) pe_str (pe_op op_add (pe_dget (hu_of hr) (pv 0) pe_str (fun _ _ => rfl)) pe_int) (by rfl)) (pss_cons (ps_if (pt_cmpR op_le (pe_dget (hu_of hr) (pv 0) pe_str (fun _ _ => rfl)) (pe_callB call_len_seq (by rfl) m_len (by decide +kernel) (pa_cons (pe_dget (hu_of hr) (pv 0) pe_str (fun _ _ => rfl)) pa_nil)) (nomark _)) (pss_cons (ps_set (i := 3) sc__law_taken.nd rfl (.inl rfl) (pe_ix ix_list (pe_dget (hu_of hr) (pv 0) pe_str (fun _ _ => rfl)) (pe_op op_sub (pe_dget (hu_of hr) (pv 0) pe_str (fun _ _ => rfl)) pe_int) (fun _ _ => rfl))) (pss_cons (ps_dput (hu_of hr) (pv 0) pe_str (pe_op op_mul (pe_op op_fdivW (pv 3) (pv 1)) (pe_callTy call_int1 (by rfl) m_int (by decide +kernel) (pa_cons (pe_cmpR op_ge (pv 3) (pe_op op_pow pe_int pe_int) (nomark _)) pa_nil))) (by rfl)) (pss_one (ps_ret (pe_op op_mod (pv 3) (pv 1)))))) pss_nil) (pss_cons (ps_dput (hu_of hr) (pv 0) pe_str (pe_op op_mod (pe_op op_mul (pe_dget (hu_of hr) (pv 0) pe_str (fun _ _ => rfl)) pe_int) pe_int) (by rfl)) (pss_one (ps_ret (pe_ifExp (pt_cmpR op_gt (pv 1) (pe_op op_pow pe_int pe_int) (nomark _)) (pe_op op_mod (pe_op op_pow (pe_op op_fdivW (pe_dget (hu_of hr) (pv 0) pe_str (fun _ _ => rfl)) pe_int) pe_int) (pv 1)) (pe_op op_mod (pe_op op_fdivW (pe_dget (hu_of hr) (pv 0) pe_str (fun _ _ => rfl)) pe_int) (pv 1))))))))), ?_⟩
  walk_at "go"
  refine g_key hs (by rfl) ?_
  walk_at "go"
  refine ifd (fun c1 => ?_) (fun c1 => ?_)
  · walk_at "go"
    refine g_key hs (by rfl) ?_
    walk_at "go"
    refine g_I h0 ?_
    walk_at "go"
    refine g_key hs (by rfl) ?_
    walk_at "go"
    refine g_I (log_small h0 h1) ?_
    walk_at "go"
    refine g_put hs sd_lt put_rest ?_
    walk_at "go"
    exact q _ _ (Int.emod_nonneg _ (by omega)) (Int.emod_lt_of_pos _ h0) KB.upd (L.put g0 (Int.ediv_nonneg g1 (by omega)) g2 g3)
  walk_at "go"
  refine g_key hs (by rfl) ?_
  walk_at "go"
  refine g_put hs sd_lt put_at ?_
  have L2 := L.put (n := n + 1) (re := re) (mx := mx) (by omega) g1 g2 g3
  have hs2 : (upd H s (.dK (sd c na nm (n + 1) re mx))) s = some (.dK (sd c na nm (n + 1) re mx)) := upd_same
  walk_at "go"
  refine g_key hs2 (by rfl) ?_
  walk_at "go"
  refine g_key hs2 (by rfl) ?_
  walk_at "go"
  refine ⟨_, _, rfl, .inl L2.num, ?_⟩
  walk_at "go"
  refine ifd (fun c2 => ?_) (fun c2 => ?_)
  · walk_at "go"
    refine g_key hs2 (by rfl) ?_
    walk_at "go"
    refine g_key hs2 (by rfl) ?_
    walk_at "go"
    rw [List.length_map] at c2
    have hk : n.toNat < ns.length := by omega
    refine ⟨_, _, _, .int ns[n.toNat], rfl, rfl, L2.num, at_of (j := n.toNat) (by omega) (by rw [List.getElem?_map, List.getElem?_eq_getElem hk]; rfl), ?_⟩
    generalize ns[n.toNat] = z
    walk_at "go"
    refine g_I (log_small h0 h1) ?_
    walk_at "go"
    refine g_I ⟨by decide, by decide, by decide⟩ ?_
    walk_at "go"
    refine .inr ⟨_, rfl, ?_⟩
    refine g_I (.inr (by split <;> decide)) ?_
    walk_at "go"
    refine g_put hs2 sd_lt put_rest ?_
    walk_at "go"
    refine g_I h0 ?_
    rw [upd_upd]
    refine q _ _ (Int.emod_nonneg _ (by omega)) (Int.emod_lt_of_pos _ h0) KB.upd (L.put (by omega) ?_ g2 g3)
    by_cases hz : (10 : Int) ^ (18 : Int).toNat ≤ z
    · rw [decide_eq_true hz]
      have : 0 ≤ z := Int.le_trans (by decide) hz
      exact Int.mul_nonneg (Int.ediv_nonneg this (by omega)) (by decide)
    · rw [decide_eq_false hz]
      simp
  walk_at "go"
  refine g_key hs2 (by rfl) ?_
  walk_at "go"
  refine g_I (.inl (by omega)) ?_
  walk_at "go"
  refine g_I (by decide) ?_
  walk_at "go"
  refine g_put hs2 sd_lt put_mixed ?_
  rw [upd_upd]
  have b0 : 0 ≤ mx * 48271 % 2147483647 := Int.emod_nonneg _ (by decide)
  have b1 : mx * 48271 % 2147483647 < 2147483647 := Int.emod_lt_of_pos _ (by decide)
  generalize mx * 48271 % 2147483647 = my at b0 b1 ⊢
  have L3 := L.put (n := n + 1) (re := re) (mx := my) (by omega) g1 b0 b1
  have hs3 : (upd H s (.dK (sd c na nm (n + 1) re my))) s = some (.dK (sd c na nm (n + 1) re my)) := upd_same
  walk_at "go"
  refine g_I ⟨by decide, by decide, by decide⟩ ?_
  walk_at "go"
  refine ifd (fun c3 => ?_) (fun c3 => ?_)
  · walk_at "go"
    refine g_key hs3 (by rfl) ?_
    walk_at "go"
    refine g_I ⟨by decide, by decide⟩ ?_
    walk_at "go"
    refine g_I ⟨by decide, by decide, by omega⟩ ?_
    walk_at "go"
    refine g_I h0 ?_
    exact q _ _ (Int.emod_nonneg _ (by omega)) (Int.emod_lt_of_pos _ h0) KB.upd L3
  · walk_at "go"
    refine g_key hs3 (by rfl) ?_
    walk_at "go"
    refine g_I ⟨by decide, by decide⟩ ?_
    walk_at "go"
    refine g_I h0 ?_
    exact q _ _ (Int.emod_nonneg _ (by omega)) (Int.emod_lt_of_pos _ h0) KB.upd L3
end

/-! ### words, numbers -/
def wordsL : List Str := ["none", "give", "both", "turned", "later", "often", "if", "num", "read", "plus", "below", "all"]
def wd (c : Cfg) (k : Int) : Str := if c.ta = 1 ∧ k < 12 then wordsL.getD k.toNat "none" else rp 113 c.pl ++ ⟨#[97 + ((k + c.tu) % 26).toNat]⟩ ++ rp 113 (c.sz - c.pl - 1)
theorem letters_at : ∀ j : Fin 26, (Str.ofString "abcdefghijklmnopqrstuvwxyz").cps.toList[j.val]? = some (97 + j.val) := by decide +kernel
theorem app_len (a b : Str) : (a ++ b).length = a.length + b.length := by
  show (a.cps ++ b.cps).size = a.cps.size + b.cps.size
  simp
def spWord (K : PySem.W.Frag) : Sp := fun vs H Q _ => ∃ (c : Cfg) (ns : List Int) (xs : List Str) (s na nm : Addr) (k : Int), vs = [.ref s, .int k] ∧ LS K c ns xs s na nm H ∧ 0 ≤ k ∧ k ≤ 1000 ∧ ∀ H', Same H H' → Q (.str (wd c k)) H'
theorem use_word {K : PySem.W.Frag} {c : Cfg} {ns : List Int} {xs : List Str} {s na nm : Addr} {k : Int} {H : Hp} {Q : VK} {E : XK} (L : LS K c ns xs s na nm H) (h0 : 0 ≤ k) (h1 : k ≤ 1000) (q : ∀ H', Same H H' → Q (.str (wd c k)) H') :
    spWord K ([.ref s, .int k] ++ []) H Q E := ⟨c, ns, xs, s, na, nm, k, rfl, L, h0, h1, q⟩
def spNumber (K : PySem.W.Frag) : Sp := fun vs H Q _ => ∃ (c : Cfg) (ns : List Int) (xs : List Str) (s na nm : Addr), vs = [.ref s] ∧ LS K c ns xs s na nm H ∧
  ∀ (r : Int) (H' : Hp), -1000000000000 < r → r < 1000000000000 → KB s H H' → LS K c ns xs s na nm H' → Q (.int r) H'
theorem use_number {K : PySem.W.Frag} {c : Cfg} {ns : List Int} {xs : List Str} {s na nm : Addr} {H : Hp} {Q : VK} {E : XK} (L : LS K c ns xs s na nm H)
    (q : ∀ (r : Int) (H' : Hp), -1000000000000 < r → r < 1000000000000 → KB s H H' → LS K c ns xs s na nm H' → Q (.int r) H') : spNumber K ([.ref s] ++ []) H Q E := ⟨c, ns, xs, s, na, nm, rfl, L, q⟩
section
variable {P : Program} {w : World} {K : PySem.W.Frag} {mg : Str → Option Value} {base : Heap}
abbrev s__law_word : Stmt := topS 26
theorem sc__law_word : FnScope ["_law_s", "_law_k", "_law_words", "_law_sign"] ["_law_s", "_law_k"] (defScope s__law_word) := ⟨rfl, rfl, rfl, by decide +kernel, rfl, by decide +kernel, by decide +kernel⟩
theorem h__law_word {k : Nat} {f : Addr} {fd : FuncData} (O : Own K mg "_law_word" s__law_word ["_law_s", "_law_k"] f fd)  : Has P w K mg base "_law_word" ["_law_s", "_law_k"] (k + 1) CX0 (spWord K) f fd := by
  refine O.has (O.F.ok sc__law_word (fun vs H Q E h => ?_) (fun cdv A outer s H vs Q E hr h => ?_))
  · obtain ⟨c, ns, xs, s, na, nm, k, rfl, _⟩ := h
    rfl
  obtain ⟨c, ns, xs, s, na, nm, k, rfl, L, h0, h1, q⟩ := h
  obtain ⟨n, re, mx, hs, g0, g1, g2, g3⟩ := L.st
  have c0 := L.ok
  refine ⟨_, (pss_cons (ps_if (PW.pt (pw_and (pt_cmpR op_eq (pe_dget (hu_of hr) (pv 0) pe_str (fun _ _ => rfl)) pe_int (nomark _)) (pw_and1 (pt_cmpR op_lt (pv 1) pe_int (nomark _))))) (pss_cons (ps_set (i := 2) sc__law_word.nd rfl (.inl rfl) (pe_lst (pa_cons pe_str (pa_cons pe_str (pa_cons pe_str (pa_cons pe_str (pa_cons pe_str (pa_cons pe_str (pa_cons pe_str (pa_cons pe_str (pa_cons pe_str (pa_cons pe_str (pa_cons pe_str (pa_cons pe_str pa_nil)))))))))))))) (pss_one (ps_ret (pe_ix ix_list (pv 2) (pv 1) (fun _ _ => rfl))))) pss_nil) (pss_cons (ps_set (i := 3) sc__law_word.nd rfl (.inl rfl) (pe_ix ix_str pe_str (pe_op op_mod (pe_op op_add (pv 1) (pe_dget (hu_of hr) (pv 0) pe_str (fun _ _ => rfl))) pe_int) (fun _ _ => rfl))) (pss_one (ps_ret (pe_op op_add_str (pe_op op_add_str (pe_op op_rep_str pe_str (pe_dget (hu_of hr) (pv 0) pe_str (fun _ _ => rfl))) (pv 3)) (pe_op op_rep_str pe_str (pe_op op_sub (pe_op op_sub (pe_dget (hu_of hr) (pv 0) pe_str (fun _ _ => rfl)) (pe_dget (hu_of hr) (pv 0) pe_str (fun _ _ => rfl))) pe_int))))))), ?_⟩
  have tail : ∀ (H1 : Hp), Same H H1 → ¬ (c.ta = 1 ∧ k < 12) → Q (.str (rp 113 c.pl ++ ⟨#[97 + ((k + c.tu) % 26).toNat]⟩ ++ rp 113 (c.sz - c.pl - 1))) H1 := fun H1 e hc => by
    have z := q H1 e
    unfold wd at z
    rw [if_neg hc] at z
    exact z
  walk_at "go"
  refine g_key hs (by rfl) ?_
  walk_at "go"
  refine and_cut (k < 12) (fun hc => ?_) (fun c1 back => ?_)
  · walk_at "go"
    refine g_key hs (by rfl) ?_
    walk_at "go"
    refine g_I (by decide) ?_
    have b0 : 0 ≤ (k + c.tu) % 26 := Int.emod_nonneg _ (by decide)
    have b1 : (k + c.tu) % 26 < 26 := Int.emod_lt_of_pos _ (by decide)
    have bn : ((k + c.tu) % 26).toNat < 26 := by omega
    refine ⟨_, (k + c.tu) % 26, 97 + ((k + c.tu) % 26).toNat, rfl, rfl, by decide +kernel, at_any (j := ((k + c.tu) % 26).toNat) (by omega) (letters_at ⟨((k + c.tu) % 26).toNat, bn⟩), ?_⟩
    walk_at "go"
    refine g_key hs (by rfl) ?_
    have p0 := c0.pl0
    have p1 := c0.plz
    have p2 := c0.sz8
    refine ⟨113, c.pl, rfl, rfl, p0, by omega, ?_⟩
    walk_at "go"
    have e1 : (rp 113 c.pl).length ≤ 8 := by rw [rp_len]; omega
    have e2 : (⟨#[97 + ((k + c.tu) % 26).toNat]⟩ : Str).length = 1 := rfl
    have hz : (1000 : Nat) ≤ sizeLine := by decide
    refine ⟨by omega, ?_⟩
    walk_at "go"
    refine g_key hs (by rfl) ?_
    walk_at "go"
    refine g_key hs (by rfl) ?_
    walk_at "go"
    refine ⟨113, c.sz - c.pl - 1, rfl, rfl, by omega, by omega, ?_⟩
    have e3 : (rp 113 (c.sz - c.pl - 1)).length ≤ 8 := by rw [rp_len]; omega
    walk_at "go"
    refine ⟨?_, ?_⟩
    · rw [app_len]; omega
    · exact tail H (Same.refl H) hc
  · walk_at "go"
    refine ifd (fun c2 => ?_) back
    walk_at "go"
    refine ⟨by show 12 ≤ sizeLine; decide, fun p hp => ?_⟩
    walk_at "go"
    have hk : k.toNat < wordsL.length := by show k.toNat < 12; omega
    have hi : (wordsL.map V.str)[k.toNat]? = some (.str (wordsL.getD k.toNat "none")) := by
      rw [List.getElem?_map, List.getD, List.getElem?_eq_getElem hk]
      rfl
    refine ⟨_, wordsL.map V.str, _, _, rfl, rfl, sql upd_same, at_of (j := k.toNat) (by omega) hi, ?_⟩
    have z := q _ (same_new (o := .lst (wordsL.map V.str)) hp)
    unfold wd at z
    rw [if_pos ⟨c1, c2⟩] at z
    exact z
abbrev s__law_number : Stmt := topS 27
theorem sc__law_number : FnScope ["_law_s"] ["_law_s"] (defScope s__law_number) := ⟨rfl, rfl, rfl, by decide +kernel, rfl, by decide +kernel, by decide +kernel⟩
theorem h__law_number {k : Nat} {f : Addr} {fd : FuncData} (O : Own K mg "_law_number" s__law_number ["_law_s"] f fd)  {f__law_taken : Addr} {fd__law_taken : FuncData} (D__law_taken : Has P w K mg base "_law_taken" ["_law_s", "_law_most"] k CX0 (spTaken K) f__law_taken fd__law_taken) : Has P w K mg base "_law_number" ["_law_s"] (k + 1) CX0 (spNumber K) f fd := by
  refine O.has (O.F.ok sc__law_number (fun vs H Q E h => ?_) (fun cdv A outer s H vs Q E hr h => ?_))
  · obtain ⟨c, ns, xs, s, na, nm, rfl, _⟩ := h
    rfl
  obtain ⟨c, ns, xs, s, na, nm, rfl, L, q⟩ := h
  refine ⟨_, (pss_cons (ps_if (pt_cmpR op_eq (pe_call D__law_taken.G hr (by rfl) D__law_taken.g D__law_taken.k D__law_taken.b .nil pass0 (pa_cons (pv 0) (pa_cons pe_int pa_nil))) pe_int (nomark _)) (pss_one (ps_ret (pe_op op_add (pe_op op_sub (pe_call D__law_taken.G hr (by rfl) D__law_taken.g D__law_taken.k D__law_taken.b .nil pass0 (pa_cons (pv 0) (pa_cons (pe_op op_sub (pe_op op_mul pe_int (pe_op op_pow pe_int pe_int)) pe_int) pa_nil))) (pe_op op_pow pe_int pe_int)) pe_int))) pss_nil) (pss_one (ps_ret (pe_op op_sub (pe_call D__law_taken.G hr (by rfl) D__law_taken.g D__law_taken.k D__law_taken.b .nil pass0 (pa_cons (pv 0) (pa_cons pe_int pa_nil))) pe_int)))), ?_⟩
  walk_at "go"
  refine use_taken L (by decide) (by decide) fun r H1 a0 a1 e1 L1 => ?_
  walk_at "go"
  refine ifd (fun c1 => ?_) (fun c1 => ?_)
  · walk_at "go"
    refine g_I ⟨by decide, by decide, by decide⟩ ?_
    walk_at "go"
    refine g_I (.inl ⟨by decide, by decide⟩) ?_
    walk_at "go"
    refine use_taken L1 (by decide) (by decide) fun r2 H2 b0 b1 e2 L2 => ?_
    walk_at "go"
    refine g_I ⟨by decide, by decide, by decide⟩ ?_
    walk_at "go"
    have e : (10 : Int) ^ (12 : Int).toNat = 1000000000000 := by decide
    rw [e] at b1 ⊢
    exact q _ _ (by omega) (by omega) (e1.trans e2) L2
  · walk_at "go"
    refine use_taken L1 (by decide) (by decide) fun r2 H2 b0 b1 e2 L2 => ?_
    walk_at "go"
    exact q _ _ (by omega) (by omega) (e1.trans e2) L2
end

/-! ### words are words, and differ -/
def isW (x : Str) : Bool := decide (1 ≤ x.length) && (decide (x.length ≤ 8) && x.cps.toList.all fun c => decide (97 ≤ c) && decide (c ≤ 122))
theorem wd_codes {c : Cfg} {k : Int} (h : ¬ (c.ta = 1 ∧ k < 12)) : (wd c k).cps.toList = List.replicate c.pl.toNat 113 ++ (97 + ((k + c.tu) % 26).toNat) :: List.replicate (c.sz - c.pl - 1).toNat 113 := by
  unfold wd
  rw [if_neg h]
  show ((rp 113 c.pl).cps ++ #[97 + ((k + c.tu) % 26).toNat] ++ (rp 113 (c.sz - c.pl - 1)).cps).toList = _
  simp [rp]
theorem talk_words : ∀ i : Fin 12, isW (wordsL.getD i.val "none") = true := by decide +kernel
theorem talk_ne : ∀ i j : Fin 12, wordsL.getD i.val "none" = wordsL.getD j.val "none" → i = j := by decide +kernel
theorem wd_word {c : Cfg} (ok : c.Ok) {k : Int} (h0 : 0 ≤ k) : isW (wd c k) = true := by
  by_cases h : c.ta = 1 ∧ k < 12
  · unfold wd
    rw [if_pos h]
    exact talk_words ⟨k.toNat, by omega⟩
  · have e := wd_codes h
    have h1 := ok.pl0
    have h2 := ok.plz
    have h3 := ok.sz8
    have l : (wd c k).length = c.pl.toNat + (1 + (c.sz - c.pl - 1).toNat) := by
      show (wd c k).cps.size = _
      rw [← Array.length_toList, e]
      simp
      omega
    unfold isW
    rw [l, e]
    have b0 : 0 ≤ (k + c.tu) % 26 := Int.emod_nonneg _ (by decide)
    have b1 : (k + c.tu) % 26 < 26 := Int.emod_lt_of_pos _ (by decide)
    simp only [Bool.and_eq_true, decide_eq_true_eq, List.all_eq_true, List.mem_append, List.mem_cons, List.mem_replicate]
    refine ⟨by omega, by omega, fun x hx => ?_⟩
    rcases hx with hx | hx | hx <;> omega
theorem wd_ne {c : Cfg} (ok : c.Ok) {i j : Int} (h0 : 0 ≤ i) (h1 : i < 12) (h2 : 0 ≤ j) (h3 : j < 12) (h : i ≠ j) : wd c i ≠ wd c j := fun e => by
  by_cases ht : c.ta = 1
  · have e1 : wd c i = wordsL.getD i.toNat "none" := by unfold wd; rw [if_pos ⟨ht, h1⟩]
    have e2 : wd c j = wordsL.getD j.toNat "none" := by unfold wd; rw [if_pos ⟨ht, h3⟩]
    rw [e1, e2] at e
    have := talk_ne ⟨i.toNat, by omega⟩ ⟨j.toNat, by omega⟩ e
    have := congrArg Fin.val this
    simp at this
    omega
  · have q := congrArg (fun z : Str => z.cps.toList) e
    simp only [wd_codes (fun z => ht z.1)] at q
    have q2 := List.append_cancel_left q
    have q3 := (List.cons.inj q2).1
    omega
theorem isW_short {x : Str} (h : isW x = true) : szOk (.str x) = true := by
  unfold isW at h
  simp only [Bool.and_eq_true, decide_eq_true_eq] at h
  show decide (x.length ≤ 1000) = true
  exact decide_eq_true (by omega)

/-! ### the drawing's beginning -/
def spBegun (K : PySem.W.Frag) : Sp := fun vs H Q _ => ∃ (ns : List Int) (na : Addr), vs = [.ref na] ∧ SqL K H na (ns.map V.int) ∧ ns.length ≤ 63 ∧
  ∀ (c : Cfg) (s nm : Addr) (H' : Hp), c.od = none → Same H H' → H s = none → LS K c ns [] s na nm H' → Q (.ref s) H'
theorem use_begun {K : PySem.W.Frag} {ns : List Int} {na : Addr} {H : Hp} {Q : VK} {E : XK} (h : SqL K H na (ns.map V.int)) (hl : ns.length ≤ 63)
    (q : ∀ (c : Cfg) (s nm : Addr) (H' : Hp), c.od = none → Same H H' → H s = none → LS K c ns [] s na nm H' → Q (.ref s) H') : spBegun K ([.ref na] ++ []) H Q E := ⟨ns, na, rfl, h, hl, q⟩
def sd0 (na : Addr) : List (Key × V) :=
  [(.inr "numbers", .ref na), (.inr "at", .int 0), (.inr "size", .int 1), (.inr "place", .int 0), (.inr "turn", .int 0), (.inr "talk", .int 0), (.inr "rest", .int 0)]
def cfg0 : Cfg := ⟨1, 0, 0, 0, none⟩
theorem cfg0_ok : cfg0.Ok := ⟨by decide, by decide, by decide, by decide, by decide, by decide, .inl rfl, fun _ h => by cases h⟩
/-- a number of the dict is set anew -/
theorem LS.cfg {K : PySem.W.Frag} {c c' : Cfg} {ns : List Int} {xs : List Str} {s na nm : Addr} {H : Hp} {n re mx : Int} (L : LS K c ns xs s na nm H) (h0 : 0 ≤ n) (h1 : 0 ≤ re) (h2 : 0 ≤ mx) (h3 : mx < 2147483647) (ok : c'.Ok) :
    LS K c' ns xs s na nm (upd H s (.dK (sd c' na nm n re mx))) := by
  obtain ⟨⟨n', re', mx', h, r⟩, g1, g2, g3, g4, g5⟩ := L
  exact ⟨⟨n, re, mx, upd_same, h0, h1, h2, h3⟩, KB.seq KB.upd h g1, KB.seq KB.upd h g2, ok, g4, g5⟩
theorem same_kb {s : Addr} {H H1 H2 : Hp} (a : Same H H1) (n : H s = none) (b : KB s H1 H2) : Same H H2 := fun x o h => b x o (ne_of_none h n) (a x o h)
section
variable {P : Program} {w : World} {K : PySem.W.Frag} {mg : Str → Option Value} {base : Heap}
abbrev s__law_begun : Stmt := topS 24
theorem sc__law_begun : FnScope ["_law_script", "_law_mixed", "_law_cell", "_law_s"] ["_law_script"] (defScope s__law_begun) := ⟨rfl, rfl, rfl, by decide +kernel, rfl, by decide +kernel, by decide +kernel⟩
theorem h__law_begun {k : Nat} {f : Addr} {fd : FuncData} (O : Own K mg "_law_begun" s__law_begun ["_law_script"] f fd)  {f__law_taken : Addr} {fd__law_taken : FuncData} (D__law_taken : Has P w K mg base "_law_taken" ["_law_s", "_law_most"] k CX0 (spTaken K) f__law_taken fd__law_taken) (m_int : mg "int" = none) (m_len : mg "len" = none) : Has P w K mg base "_law_begun" ["_law_script"] (k + 1) CX0 (spBegun K) f fd := by
  refine O.has (O.F.ok sc__law_begun (fun vs H Q E h => ?_) (fun cdv A outer s H vs Q E hr h => ?_))
  · obtain ⟨ns, na, rfl, _⟩ := h
    rfl
  obtain ⟨ns, na, rfl, hS, h63, q⟩ := h
  refine ⟨_, (pss_cons (ps_set (i := 1) sc__law_begun.nd rfl (.inl rfl) pe_int) (pss_cons (ps_for PassesOwn.never rfl (pi_list (pv 0)) (pg_name (i := 2) sc__law_begun.nd rfl (.inl rfl)) (pss_one (ps_set (i := 1) sc__law_begun.nd rfl (.inl rfl) (pe_op op_mod (pe_op op_add (pe_op op_add (pe_op op_mul (pv 1) pe_int) (pe_op op_mul (pv 2) pe_int)) pe_int) pe_int)))) (pss_cons (ps_set (i := 3) sc__law_begun.nd rfl (.inl rfl) (pe_disp (pps_cons pe_str (pv 0) (pps_cons pe_str pe_int (pps_cons pe_str pe_int (pps_cons pe_str pe_int (pps_cons pe_str pe_int (pps_cons pe_str pe_int (pps_cons pe_str pe_int pps_nil))))))) (by rfl) (by rfl) (fun z => by cases z) (by decide))) (pss_cons (ps_dput (hu_of hr) (pv 3) pe_str (pe_lst pa_nil) (by rfl)) (pss_cons (ps_dput (hu_of hr) (pv 3) pe_str (pe_op op_mul (pv 1) (pe_callTy call_int1 (by rfl) m_int (by decide +kernel) (pa_cons (pe_cmpR op_gt (pe_callB call_len_seq (by rfl) m_len (by decide +kernel) (pa_cons (pv 0) pa_nil)) pe_int (nomark _)) pa_nil))) (by rfl)) (pss_cons (ps_dput (hu_of hr) (pv 3) pe_str (pe_op op_add pe_int (pe_call D__law_taken.G hr (by rfl) D__law_taken.g D__law_taken.k D__law_taken.b .nil pass0 (pa_cons (pv 3) (pa_cons pe_int pa_nil)))) (by rfl)) (pss_cons (ps_dput (hu_of hr) (pv 3) pe_str (pe_call D__law_taken.G hr (by rfl) D__law_taken.g D__law_taken.k D__law_taken.b .nil pass0 (pa_cons (pv 3) (pa_cons (pe_dget (hu_of hr) (pv 3) pe_str (fun _ _ => rfl)) pa_nil))) (by rfl)) (pss_cons (ps_dput (hu_of hr) (pv 3) pe_str (pe_call D__law_taken.G hr (by rfl) D__law_taken.g D__law_taken.k D__law_taken.b .nil pass0 (pa_cons (pv 3) (pa_cons pe_int pa_nil))) (by rfl)) (pss_cons (ps_dput (hu_of hr) (pv 3) pe_str (pe_callTy call_int1 (by rfl) m_int (by decide +kernel) (pa_cons (pe_cmpR op_eq (pe_call D__law_taken.G hr (by rfl) D__law_taken.g D__law_taken.k D__law_taken.b .nil pass0 (pa_cons (pv 3) (pa_cons pe_int pa_nil))) pe_int (nomark _)) pa_nil)) (by rfl)) (pss_one (ps_ret (pv 3)))))))))))), ?_⟩
  walk_at "go"
  refine ⟨⟨_, hS⟩, for_list (xs := ns.map V.int) (fun i σ H3 => H3 = H ∧ ∃ (m : Int) (y : Option V), σ = [some (.ref na), some (.int m), y, none] ∧ 0 ≤ m ∧ m < 2147483647)
    ⟨rfl, 0, none, rfl, by decide, by decide⟩ (fun i σ H3 hi hW => ?_) (fun i x σ H3 hx hW => ?_) (fun σ H3 hW => ?_)⟩
  · obtain ⟨rfl, _⟩ := hW
    exact hS
  · obtain ⟨rfl, m, y, rfl, m0, m1⟩ := hW
    rw [List.getElem?_map] at hx
    obtain ⟨z, hz, rfl⟩ := Option.map_eq_some_iff.mp hx
    walk_at "go"
    refine g_I (.inl (by omega)) ?_
    walk_at "go"
    refine g_I (.inr (by decide)) ?_
    walk_at "go"
    refine g_I (by decide) ?_
    walk_at "go"
    exact ⟨Int.emod_nonneg _ (by decide), Int.emod_lt_of_pos _ (by decide)⟩
  obtain ⟨rfl, m, y, rfl, m0, m1⟩ := hW
  walk_at "go"
  intro s nsn
  walk_at "go"
  refine ⟨upd_same, sd0 na, rfl, by show 7 ≤ 15; decide, ?_⟩
  rw [upd_upd]
  have s1 := same_new (o := .dK (sd0 na)) nsn
  have hs1 : (upd H3 s (.dK (sd0 na))) s = some (.dK (sd0 na)) := upd_same
  show _
  walk_at "go"
  refine ⟨by show 0 ≤ sizeLine; decide, fun nm nn => ?_⟩
  walk_at "go"
  have s2 := same_new (o := .lst []) nn
  have hsn : s ≠ nm := ne_of_none hs1 nn
  refine g_put (s2 _ _ hs1) (by show 7 < sizeLine; decide) (by rfl) ?_
  walk_at "go"
  refine ⟨_, _, rfl, .inl (KB.seq KB.upd (s2 _ _ hs1) ((s1.trans s2).seq hS)), ?_⟩
  walk_at "go"
  refine .inr ⟨_, rfl, ?_⟩
  refine g_I (.inl (by omega)) ?_
  walk_at "go"
  refine g_put upd_same (by show 8 < sizeLine; decide) (by rfl) ?_
  rw [upd_upd]
  have hmx : 0 ≤ m * (if decide (2 < (((ns.map V.int).length : Nat) : Int)) = true then 1 else 0) ∧ m * (if decide (2 < (((ns.map V.int).length : Nat) : Int)) = true then 1 else 0) < 2147483647 := by
    split <;> omega
  generalize m * (if decide (2 < (((ns.map V.int).length : Nat) : Int)) = true then 1 else 0) = mx at hmx ⊢
  have L1 : LS K cfg0 ns [] s na nm (upd (upd (upd H3 s (.dK (sd0 na))) nm (.lst [])) s (.dK (sd cfg0 na nm 0 0 mx))) :=
    ⟨⟨0, 0, mx, upd_same, by decide, by decide, hmx.1, hmx.2⟩, KB.seq KB.upd (s2 _ _ hs1) ((s1.trans s2).seq hS), sql (by rw [upd_ne hsn.symm]; exact upd_same), cfg0_ok, h63, by decide⟩
  have e1 : Same H3 (upd (upd (upd H3 s (.dK (sd0 na))) nm (.lst [])) s (.dK (sd cfg0 na nm 0 0 mx))) := same_kb (s1.trans s2) nsn KB.upd
  show tSeq _ _ _ _ (upd (upd (upd H3 s (.dK (sd0 na))) nm (.lst [])) s (.dK (sd cfg0 na nm 0 0 mx)))
  generalize upd (upd (upd H3 s (.dK (sd0 na))) nm (.lst [])) s (.dK (sd cfg0 na nm 0 0 mx)) = H4 at L1 e1 ⊢
  -- size
  walk_at "go"
  refine use_taken L1 (by decide) (by decide) fun a H5 a0 a1 e5 L5 => ?_
  walk_at "go"
  obtain ⟨n5, re5, mx5, hs5, g0, g1, g2, g3⟩ := L5.st
  refine g_put hs5 sd_lt (by rfl) ?_
  have L6 := L5.cfg (c' := ⟨1 + a, 0, 0, 0, none⟩) g0 g1 g2 g3 ⟨by show 1 ≤ 1 + a; omega, by show 1 + a ≤ 8; omega, Int.le_refl 0, by show 0 < 1 + a; omega, Int.le_refl 0, (by decide : (0 : Int) < 26), .inl rfl, fun _ h => by cases h⟩
  have hs6 : upd H5 s (.dK (sd ⟨1 + a, 0, 0, 0, none⟩ na nm n5 re5 mx5)) s = some (.dK (sd ⟨1 + a, 0, 0, 0, none⟩ na nm n5 re5 mx5)) := upd_same
  have e6 : KB s H4 (upd H5 s (.dK (sd ⟨1 + a, 0, 0, 0, none⟩ na nm n5 re5 mx5))) := e5.trans KB.upd
  -- place
  walk_at "go"
  refine g_key hs6 (by rfl) ?_
  walk_at "go"
  refine use_taken L6 (by show 0 < 1 + a; omega) (by show 1 + a ≤ 10000000000000; omega) fun b H7 b0 b1 e7 L7 => ?_
  walk_at "go"
  obtain ⟨n7, re7, mx7, hs7, i0, i1, i2, i3⟩ := L7.st
  refine g_put hs7 sd_lt (by rfl) ?_
  have L8 := L7.cfg (c' := ⟨1 + a, b, 0, 0, none⟩) i0 i1 i2 i3 ⟨by show 1 ≤ 1 + a; omega, by show 1 + a ≤ 8; omega, b0, b1, Int.le_refl 0, (by decide : (0 : Int) < 26), .inl rfl, fun _ h => by cases h⟩
  -- turn
  walk_at "go"
  refine use_taken L8 (by decide) (by decide) fun t H9 t0 t1 e9 L9 => ?_
  walk_at "go"
  obtain ⟨n9, re9, mx9, hs9, j0, j1, j2, j3⟩ := L9.st
  refine g_put hs9 sd_lt (by rfl) ?_
  have L10 := L9.cfg (c' := ⟨1 + a, b, t, 0, none⟩) j0 j1 j2 j3 ⟨by show 1 ≤ 1 + a; omega, by show 1 + a ≤ 8; omega, b0, b1, t0, t1, .inl rfl, fun _ h => by cases h⟩
  -- talk
  walk_at "go"
  refine use_taken L10 (by decide) (by decide) fun u H11 u0 u1 e11 L11 => ?_
  walk_at "go"
  refine .inr ⟨_, rfl, ?_⟩
  walk_at "go"
  obtain ⟨n11, re11, mx11, hs11, k0, k1, k2, k3⟩ := L11.st
  refine g_put hs11 sd_lt (by rfl) ?_
  have L12 := L11.cfg (c' := ⟨1 + a, b, t, if decide (u = 8) = true then 1 else 0, none⟩) k0 k1 k2 k3 ⟨by show 1 ≤ 1 + a; omega, by show 1 + a ≤ 8; omega, b0, b1, t0, t1, by
    show (if decide (u = 8) = true then (1 : Int) else 0) = 0 ∨ (if decide (u = 8) = true then (1 : Int) else 0) = 1
    split
    · exact .inr rfl
    · exact .inl rfl, fun _ h => by cases h⟩
  walk_at "go"
  refine q _ s nm _ rfl (same_kb e1 nsn ?_) nsn L12
  exact ((((((e6.trans e7).trans KB.upd).trans e9).trans KB.upd).trans e11).trans KB.upd)
end

/-! ### words and whole numbers -/
def isWh : PyData → Bool
  | .int _ => true
  | _ => false
def spIsWord (K : PySem.W.Frag) (PT : Addr) : Sp := fun vs H Q _ => ∃ (v : V) (d : PyData), vs = [v] ∧ Dp K H v d ∧ szOk d = true ∧ GxR.TabG H PT ∧ ∀ H', Tb PT H H' → Q (.bl (isW' d)) H'
def spWhole (K : PySem.W.Frag) : Sp := fun vs H Q _ => ∃ (v : V) (d : PyData), vs = [v] ∧ Dp K H v d ∧ Q (.bl (isWh d)) H
def spBetween (K : PySem.W.Frag) : Sp := fun vs H Q _ => ∃ (v : V) (d : PyData) (lo hi : Int), vs = [v, .int lo, .int hi] ∧ Dp K H v d ∧ Q (.bl (inB lo hi d)) H
def spAmount (K : PySem.W.Frag) : Sp := fun vs H Q _ => ∃ (v : V) (d : PyData), vs = [v] ∧ Dp K H v d ∧ Q (.bl (inB (-999999999999) 999999999999 d)) H
theorem in_letters (c : Nat) : decide (c ∈ (Str.ofString "abcdefghijklmnopqrstuvwxyz").cps.toList) = (decide (97 ≤ c) && decide (c ≤ 122)) := by
  have e : (Str.ofString "abcdefghijklmnopqrstuvwxyz").cps.toList = (List.range 26).map (97 + ·) := by decide +kernel
  rw [e, Bool.eq_iff_iff]
  simp only [decide_eq_true_eq, List.mem_map, List.mem_range, Bool.and_eq_true]
  constructor
  · rintro ⟨i, h, rfl⟩
    omega
  · intro h
    exact ⟨c - 97, by omega, by omega⟩
theorem use_whole {K : PySem.W.Frag} {H : Hp} {v : V} {d : PyData} {Q : VK} {E : XK} (h : Dp K H v d) (q : Q (.bl (isWh d)) H) : spWhole K ([v] ++ []) H Q E := ⟨v, d, rfl, h, q⟩
theorem use_isWord {K : PySem.W.Frag} {PT : Addr} {H : Hp} {v : V} {d : PyData} {Q : VK} {E : XK} (h : Dp K H v d) (z : szOk d = true) (t : GxR.TabG H PT) (q : ∀ H', Tb PT H H' → Q (.bl (isW' d)) H') : spIsWord K PT ([v] ++ []) H Q E := ⟨v, d, rfl, h, z, t, q⟩
theorem use_between {K : PySem.W.Frag} {H : Hp} {v : V} {d : PyData} {lo hi : Int} {Q : VK} {E : XK} (h : Dp K H v d) (q : Q (.bl (inB lo hi d)) H) : spBetween K ([v, .int lo, .int hi] ++ []) H Q E := ⟨v, d, lo, hi, rfl, h, q⟩
theorem use_amount {K : PySem.W.Frag} {H : Hp} {v : V} {d : PyData} {Q : VK} {E : XK} (h : Dp K H v d) (q : Q (.bl (inB (-999999999999) 999999999999 d)) H) : spAmount K ([v] ++ []) H Q E := ⟨v, d, rfl, h, q⟩
theorem thousand : (1000 : Nat) ≤ sizeLine := by decide
section
variable {P : Program} {w : World} {K : PySem.W.Frag} {mg : Str → Option Value} {base : Heap}
abbrev s_is_word : Stmt := topS 10
theorem sc_is_word : FnScope ["told"] ["told"] (defScope s_is_word) := ⟨rfl, rfl, rfl, by decide +kernel, rfl, by decide +kernel, by decide +kernel⟩
theorem h_is_word {cT PT : Addr} (tb : GxR.TabB base mg cT PT) {k : Nat} {f : Addr} {fd : FuncData} (O : OwnC cT K mg "is_word" s_is_word ["told"] f fd)  (m_all : mg "all" = none) {t_LETTERS : Tok} (m_LETTERS : mg "LETTERS" = some (.str "abcdefghijklmnopqrstuvwxyz" t_LETTERS)) (m_len : mg "len" = none) {t_LONGEST_WORD : Tok} (m_LONGEST_WORD : mg "LONGEST_WORD" = some (.int 8 t_LONGEST_WORD)) (m_isinstance : mg "isinstance" = none) (m_str : mg "str" = none) : Has P w K mg base "is_word" ["told"] (k + 1) CX0 (spIsWord K PT) f fd := by
  refine O.has (O.F.ok sc_is_word (fun vs H Q E h => ?_) (fun A outer s H vs Q E hr h => ?_))
  · obtain ⟨v, d, rfl, _⟩ := h
    rfl
  obtain ⟨v, d, rfl, hd, hz, ht, q⟩ := h
  refine ⟨_, (pss_cons (ps_if (PW.pt (pw_or (pt_not (pt_val (pe_callB call_isi (by rfl) m_isinstance (by decide +kernel) (pa_cons (pv 0) (pa_cons (pe_bltn (v := .ty "str") (by rfl) m_str (by decide +kernel) rfl) pa_nil))))) (pw_or1 (pt_not (pt_chain op_le op_le pe_int (pe_callB call_len_str (by rfl) m_len (by decide +kernel) (pa_cons (pv 0) pa_nil)) (pe_glob (v := .int (8)) (by rfl) m_LONGEST_WORD ⟨_, rfl⟩)))))) (pss_one (ps_ret pe_bl)) pss_nil) (pss_one (ps_ret (pe_allG hr rfl m_all (by decide +kernel) tb rfl ⟨rfl, rfl, by decide +kernel, rfl, rfl, fun y hy hf => absurd hf ((by decide +kernel : ∀ z ∈ _, z.2 ≠ NameKind.free) y hy)⟩ (pv 0) (elm_in rfl rfl rfl m_LETTERS) (fun _ => rfl))))), ?_⟩
  walk_at "go"
  refine use_isStr hd ?_
  cases hd with
  | str x =>
    have e : ∀ H', Tb PT H H' → isW' (.str x) = false → Q (.bl false) H' := fun H' t e => by
      have z := q H' t
      rw [e] at z
      exact z
    have hz : x.length ≤ 1000 := of_decide_eq_true hz
    dsimp only [isStr]
    walk_at "go"
    refine ⟨Nat.le_trans hz thousand, ?_⟩
    walk_at "go"
    refine ifd (fun c => ?_) (fun c => ?_)
    · walk_at "go"
      refine ifdn (fun c2 => ?_) (fun c2 => ?_)
      · walk_at "go"
        refine ⟨_, rfl, x, rfl, ht, fun H2 t => ?_⟩
        have z := q H2 (.grown t)
        have e : (fun c => decide (c ∈ (Str.ofString "abcdefghijklmnopqrstuvwxyz").cps.toList)) = fun c => decide (97 ≤ c) && decide (c ≤ 122) := funext in_letters
        rw [e]
        have e1 : isW' (.str x) = (x.cps.toList.all fun c => decide (97 ≤ c) && decide (c ≤ 122)) := by
          dsimp only [isW']
          rw [decide_eq_true (show 1 ≤ x.length by omega), decide_eq_true (show x.length ≤ 8 by omega)]
          rfl
        rw [e1] at z
        exact z
      · walk_at "go"
        refine e _ (.refl ht) ?_
        dsimp only [isW']
        rw [decide_eq_false (show ¬ x.length ≤ 8 by omega)]
        simp
    · walk_at "go"
      refine e _ (.refl ht) ?_
      dsimp only [isW']
      rw [decide_eq_false (show ¬ 1 ≤ x.length by omega)]
      rfl
  | _ =>
    dsimp only [isStr]
    walk_at "go"
    exact q _ (.refl ht)
abbrev s_is_whole : Stmt := topS 11
theorem sc_is_whole : FnScope ["told"] ["told"] (defScope s_is_whole) := ⟨rfl, rfl, rfl, by decide +kernel, rfl, by decide +kernel, by decide +kernel⟩
theorem h_is_whole {k : Nat} {f : Addr} {fd : FuncData} (O : Own K mg "is_whole" s_is_whole ["told"] f fd)  (m_isinstance : mg "isinstance" = none) (m_bool : mg "bool" = none) (m_int : mg "int" = none) : Has P w K mg base "is_whole" ["told"] (k + 1) CX0 (spWhole K) f fd := by
  refine O.has (O.F.ok sc_is_whole (fun vs H Q E h => ?_) (fun cdv A outer s H vs Q E hr h => ?_))
  · obtain ⟨v, d, rfl, _⟩ := h
    rfl
  obtain ⟨v, d, rfl, hd, q⟩ := h
  refine ⟨_, (pss_one (ps_ret (pe_and (pe_callB call_isi (by rfl) m_isinstance (by decide +kernel) (pa_cons (pv 0) (pa_cons (pe_bltn (v := .ty "int") (by rfl) m_int (by decide +kernel) rfl) pa_nil))) (pe_one (pe_not (pe_callB call_isi (by rfl) m_isinstance (by decide +kernel) (pa_cons (pv 0) (pa_cons (pe_bltn (v := .ty "bool") (by rfl) m_bool (by decide +kernel) rfl) pa_nil)))))))), ?_⟩
  walk_at "go"
  refine use_isInt hd ?_
  refine ⟨_, rfl, ?_⟩
  cases hd with
  | int i =>
    dsimp only [isInt]
    refine iteT ?_
    walk_at "go"
    refine use_isBool (.int i) ?_
    walk_at "go"
    exact q
  | bl i =>
    dsimp only [isInt]
    refine iteT ?_
    walk_at "go"
    refine use_isBool (.bl i) ?_
    walk_at "go"
    exact q
  | _ =>
    dsimp only [isInt]
    walk_at "go"
    exact q
abbrev s_is_between : Stmt := topS 12
theorem sc_is_between : FnScope ["told", "low", "high"] ["told", "low", "high"] (defScope s_is_between) := ⟨rfl, rfl, rfl, by decide +kernel, rfl, by decide +kernel, by decide +kernel⟩
theorem h_is_between {k : Nat} {f : Addr} {fd : FuncData} (O : Own K mg "is_between" s_is_between ["told", "low", "high"] f fd)  {f_is_whole : Addr} {fd_is_whole : FuncData} (D_is_whole : Has P w K mg base "is_whole" ["told"] k CX0 (spWhole K) f_is_whole fd_is_whole) : Has P w K mg base "is_between" ["told", "low", "high"] (k + 1) CX0 (spBetween K) f fd := by
  refine O.has (O.F.ok sc_is_between (fun vs H Q E h => ?_) (fun cdv A outer s H vs Q E hr h => ?_))
  · obtain ⟨v, d, lo, hi, rfl, _⟩ := h
    rfl
  obtain ⟨v, d, lo, hi, rfl, hd, q⟩ := h
  refine ⟨_, (pss_one (ps_ret (pe_and (pe_call D_is_whole.G hr (by rfl) D_is_whole.g D_is_whole.k D_is_whole.b .nil pass0 (pa_cons (pv 0) pa_nil)) (pe_one (pe_chain op_le op_le (pv 1) (pv 0) (pv 2)))))), ?_⟩
  walk_at "go"
  refine use_whole hd ?_
  refine ⟨_, rfl, ?_⟩
  cases hd with
  | int i =>
    have e : inB lo hi (.int i) = (decide (lo ≤ i) && decide (i ≤ hi)) := rfl
    rw [e] at q
    dsimp only [isWh]
    refine iteT ?_
    walk_at "go"
    refine ifd (fun c => ?_) (fun c => ?_)
    · rw [decide_eq_true c] at q
      walk_at "go"
      exact q
    · rw [decide_eq_false c] at q
      exact q
  | _ =>
    dsimp only [isWh]
    refine iteF ?_
    exact q
abbrev s_is_amount : Stmt := topS 13
theorem sc_is_amount : FnScope ["told"] ["told"] (defScope s_is_amount) := ⟨rfl, rfl, rfl, by decide +kernel, rfl, by decide +kernel, by decide +kernel⟩
theorem h_is_amount {k : Nat} {f : Addr} {fd : FuncData} (O : Own K mg "is_amount" s_is_amount ["told"] f fd)  {f_is_whole : Addr} {fd_is_whole : FuncData} (D_is_whole : Has P w K mg base "is_whole" ["told"] k CX0 (spWhole K) f_is_whole fd_is_whole) {t_TOO_LARGE : Tok} (m_TOO_LARGE : mg "TOO_LARGE" = some (.int 1000000000000 t_TOO_LARGE)) : Has P w K mg base "is_amount" ["told"] (k + 1) CX0 (spAmount K) f fd := by
  refine O.has (O.F.ok sc_is_amount (fun vs H Q E h => ?_) (fun cdv A outer s H vs Q E hr h => ?_))
  · obtain ⟨v, d, rfl, _⟩ := h
    rfl
  obtain ⟨v, d, rfl, hd, q⟩ := h
  refine ⟨_, (pss_one (ps_ret (pe_and (pe_call D_is_whole.G hr (by rfl) D_is_whole.g D_is_whole.k D_is_whole.b .nil pass0 (pa_cons (pv 0) pa_nil)) (pe_one (pe_chain op_lt op_lt (pe_un un_neg (pe_glob (v := .int (1000000000000)) (by rfl) m_TOO_LARGE ⟨_, rfl⟩)) (pv 0) (pe_glob (v := .int (1000000000000)) (by rfl) m_TOO_LARGE ⟨_, rfl⟩)))))), ?_⟩
  walk_at "go"
  refine use_whole hd ?_
  refine ⟨_, rfl, ?_⟩
  cases hd with
  | int i =>
    have e : inB (-999999999999) 999999999999 (.int i) = (decide (-1000000000000 < i) && decide (i < 1000000000000)) := by
      unfold inB
      rw [Bool.eq_iff_iff]
      simp only [Bool.and_eq_true, decide_eq_true_eq]
      omega
    rw [e] at q
    dsimp only [isWh]
    refine iteT ?_
    walk_at "go"
    refine ifd (fun c => ?_) (fun c => ?_)
    · have c : -1000000000000 < i := c
      rw [decide_eq_true c] at q
      walk_at "go"
      exact q
    · have c : ¬ -1000000000000 < i := c
      rw [decide_eq_false c] at q
      exact q
  | _ =>
    dsimp only [isWh]
    refine iteF ?_
    exact q
end

/-! ### what a market is -/
def amt (d : PyData) : Bool := inB (-999999999999) 999999999999 d
def okStep : PyData → Bool
  | .tuple [a, b] => amt a && inB 1 999 b
  | _ => false
def byOf : PyData → Int
  | .tuple (.int i :: _) => i
  | _ => 0
def okSteps : PyData → Bool
  | .list ds => decide (1 ≤ ds.length) && (decide (ds.length ≤ 4) && (ds.all okStep && decide (ds.map byOf).Nodup))
  | _ => false
def wordOf : PyData → Str
  | .tuple (.str x :: _) => x
  | _ => Str.empty
def okName : PyData → Bool
  | .tuple [n, b, s] => isW' n && (amt b && okSteps s)
  | _ => false
def okNames : PyData → Bool
  | .list ds => decide (ds.length ≤ 3) && (ds.all okName && decide (ds.map wordOf).Nodup)
  | _ => false
def okMk (l n : PyData) : Bool := inB 0 12 l && okNames n
theorem okStep_tup {d : PyData} (h : okStep d = true) : ∃ i b, d = .tuple [.int i, b] := by
  unfold okStep at h
  split at h
  · rename_i a b
    rw [Bool.and_eq_true] at h
    cases a with
    | int i => exact ⟨i, b, rfl⟩
    | _ => cases h.1
  · cases h
theorem isW_str {d : PyData} (h : isW' d = true) : ∃ x, d = .str x := by
  cases d with
  | str x => exact ⟨x, rfl⟩
  | _ => cases h
theorem okName_tup {d : PyData} (h : okName d = true) : ∃ x b s, d = .tuple [.str x, b, s] ∧ okSteps s = true := by
  unfold okName at h
  split at h
  · rename_i a b s
    rw [Bool.and_eq_true, Bool.and_eq_true] at h
    obtain ⟨x, rfl⟩ := isW_str h.1
    exact ⟨x, b, s, rfl, h.2.2⟩
  · cases h
theorem okSteps_lst {d : PyData} (h : okSteps d = true) : ∃ ds, d = .list ds ∧ ds.length ≤ 4 := by
  unfold okSteps at h
  split at h
  · rename_i ds
    simp only [Bool.and_eq_true, decide_eq_true_eq] at h
    exact ⟨ds, rfl, h.2.1⟩
  · cases h
theorem all_take {f : PyData → Bool} {ds : List PyData} {i : Nat} {d : PyData} (h : ds[i]? = some d) (ok : f d = true) (al : (ds.take i).all f = true) : (ds.take (i + 1)).all f = true := by
  rw [List.take_add_one, h, List.all_append, al]
  simp [ok]
theorem all_no {f : PyData → Bool} {ds : List PyData} {i : Nat} {d : PyData} (h : ds[i]? = some d) (no : f d = false) : ds.all f = false := by
  cases e : ds.all f with
  | false => rfl
  | true => rw [List.all_eq_true.mp e d (List.mem_of_getElem? h)] at no; cases no
def spNSteps (K : PySem.W.Frag) (C : Addr) : Sp := fun vs H Q E => ∃ (v : V) (d : PyData), vs = [v] ∧ Dp K H v d ∧ (okSteps d = true → ∀ H', Same H H' → Q .non H') ∧ (okSteps d = false → ∀ H', Same H H' → E (.ref C) none H')
theorem use_nsteps {K : PySem.W.Frag} {C : Addr} {v : V} {d : PyData} {H : Hp} {Q : VK} {E : XK} (h : Dp K H v d) (q0 : okSteps d = true → ∀ H', Same H H' → Q .non H') (q1 : okSteps d = false → ∀ H', Same H H' → E (.ref C) none H') : spNSteps K C ([v] ++ []) H Q E := ⟨v, d, rfl, h, q0, q1⟩
theorem g_lenU {K : PySem.W.Frag} {ta : TE} {σ : L2.St} {H : Hp} {Q : VK} (h : ta σ H fun x H1 => ∃ l, x = .ref l ∧
  ((∃ ns : List Int, SqL K H1 l (ns.map V.int) ∧ ns.length ≤ 4000 ∧ BkS.Unlike ns fun v => Q v H1) ∨ (∃ xs : List Str, SqL K H1 l (xs.map V.str) ∧ xs.length ≤ 4000 ∧ BkS.Unlike xs fun v => Q v H1))) : BkS.tLenU K ta σ H Q := h
section
variable {P : Program} {w : World} {K : PySem.W.Frag} {mg : Str → Option Value} {base : Heap}
abbrev s__need_steps : Stmt := topS 22
theorem sc__need_steps : FnScope ["steps", "told", "number", "weight"] ["steps"] (defScope s__need_steps) := ⟨rfl, rfl, rfl, by decide +kernel, rfl, by decide +kernel, by decide +kernel⟩
theorem h__need_steps {k : Nat} {f : Addr} {fd : FuncData} (O : Own K mg "_need_steps" s__need_steps ["steps"] f fd) {C_BadMarket : Addr} (X_BadMarket : ExcT K mg "BadMarket" C_BadMarket)  {f_is_between : Addr} {fd_is_between : FuncData} (D_is_between : Has P w K mg base "is_between" ["told", "low", "high"] k CX0 (spBetween K) f_is_between fd_is_between) {f_is_amount : Addr} {fd_is_amount : FuncData} (D_is_amount : Has P w K mg base "is_amount" ["told"] k CX0 (spAmount K) f_is_amount fd_is_amount) (m_len : mg "len" = none) (m_set : mg "set" = none) {t_MOST_WEIGHT : Tok} (m_MOST_WEIGHT : mg "MOST_WEIGHT" = some (.int 999 t_MOST_WEIGHT)) (m_isinstance : mg "isinstance" = none) (m_tuple : mg "tuple" = none) {t_MOST_STEPS : Tok} (m_MOST_STEPS : mg "MOST_STEPS" = some (.int 4 t_MOST_STEPS)) (m_list : mg "list" = none) : Has P w K mg base "_need_steps" ["steps"] (k + 1) (L2.CX P w) (spNSteps K C_BadMarket) f fd := by
  refine O.has (O.F.okX sc__need_steps (fun vs H Q E h => ?_) (fun cdv A outer s H vs Q E hr h => ?_))
  · obtain ⟨v, d, rfl, _⟩ := h
    rfl
  obtain ⟨v, d, rfl, hd, q0, q1⟩ := h
  refine ⟨_, (pss_cons (ps_if (PW.pt (pw_or (pt_not (pt_val (pe_callB call_isi (by rfl) m_isinstance (by decide +kernel) (pa_cons (pv 0) (pa_cons (pe_bltn (v := .ty "list") (by rfl) m_list (by decide +kernel) rfl) pa_nil))))) (pw_or1 (pt_not (pt_chain op_le op_le pe_int (pe_callB call_len_seq (by rfl) m_len (by decide +kernel) (pa_cons (pv 0) pa_nil)) (pe_glob (v := .int (4)) (by rfl) m_MOST_STEPS ⟨_, rfl⟩)))))) (pss_one (ps_raise rfl (takes_of rfl rfl rfl rfl) (pmk_own PySem.F.excBase_ValueError X_BadMarket.x X_BadMarket.g X_BadMarket.k (raises_own X_BadMarket.s X_BadMarket.t) rfl))) pss_nil) (pss_cons (ps_for (passes_of rfl) rfl (pi_list (pv 0)) (pg_name (i := 1) sc__need_steps.nd rfl (.inl rfl)) (pss_cons (ps_if (PW.pt (pw_or (pt_not (pt_val (pe_callB call_isi (by rfl) m_isinstance (by decide +kernel) (pa_cons (pv 1) (pa_cons (pe_bltn (v := .ty "tuple") (by rfl) m_tuple (by decide +kernel) rfl) pa_nil))))) (pw_or1 (pt_cmpR op_ne (pe_callB call_len_seq (by rfl) m_len (by decide +kernel) (pa_cons (pv 1) pa_nil)) pe_int (nomark _))))) (pss_one (ps_raise rfl (takes_of rfl rfl rfl rfl) (pmk_own PySem.F.excBase_ValueError X_BadMarket.x X_BadMarket.g X_BadMarket.k (raises_own X_BadMarket.s X_BadMarket.t) rfl))) pss_nil) (pss_cons (ps_asg (pv 1) (pg_tup rfl (pgs_cons (pg_name (i := 2) sc__need_steps.nd rfl (.inl rfl)) (pgs_cons (pg_name (i := 3) sc__need_steps.nd rfl (.inl rfl)) pgs_nil)))) (pss_one (ps_if (PW.pt (pw_or (pt_not (pt_val (pe_call D_is_amount.G hr (by rfl) D_is_amount.g D_is_amount.k D_is_amount.b .nil pass0 (pa_cons (pv 2) pa_nil)))) (pw_or1 (pt_not (pt_val (pe_call D_is_between.G hr (by rfl) D_is_between.g D_is_between.k D_is_between.b .nil pass0 (pa_cons (pv 3) (pa_cons pe_int (pa_cons (pe_glob (v := .int (999)) (by rfl) m_MOST_WEIGHT ⟨_, rfl⟩) pa_nil))))))))) (pss_one (ps_raise rfl (takes_of rfl rfl rfl rfl) (pmk_own PySem.F.excBase_ValueError X_BadMarket.x X_BadMarket.g X_BadMarket.k (raises_own X_BadMarket.s X_BadMarket.t) rfl))) pss_nil))))) (pss_one (ps_if (pt_cmpR op_lt (BkS.pe_lenU rfl (by rfl) m_len (by rfl) m_set (pe_lc (own := [("told", 1)]) (g := gName 1) rfl sc__need_steps.nd (pi_list (pv 0)) (blkOk_by (own := [("told", 1)]) (N := ["steps", "told", "number", "weight"]) (sc := defScope s__need_steps) (by decide +kernel)) (fun _ _ _ _ _ => pg_name (i := 1) sc__need_steps.nd rfl (.inl rfl)) (fun _ _ _ _ _ => pts_nil) (fun _ _ _ _ _ => (pe_ix (r := rIxT K) ix_tup (pv 1) pe_int (fun _ _ => rfl))))) (pe_callB call_len_seq (by rfl) m_len (by decide +kernel) (pa_cons (pv 0) pa_nil)) (nomark _)) (pss_one (ps_raise rfl (takes_of rfl rfl rfl rfl) (pmk_own PySem.F.excBase_ValueError X_BadMarket.x X_BadMarket.g X_BadMarket.k (raises_own X_BadMarket.s X_BadMarket.t) rfl))) pss_nil)))), ?_⟩
  walk_at "go"
  refine use_isLst hd ?_
  cases hd with
  | @lst a vs ds ha hall =>
    dsimp only [isLst]
    have hlen := DpAll.len hall
    have bad : ∀ {H'}, okSteps (.list ds) = false → Same H H' → E (.ref C_BadMarket) none H' := fun e s => q1 e _ s
    refine ⟨_, rfl, iteNT ?_⟩
    walk_at "go"
    refine ⟨_, _, rfl, .inl ha, ?_⟩
    walk_at "go"
    refine ifd (fun c1 => ?_) (fun c1 => ?_)
    · walk_at "go"
      refine ifdn (fun c2 => ?_) (fun c2 => ?_)
      · walk_at "go"
        refine ⟨⟨_, ha⟩, for_list (xs := vs) (fun i σ H2 => ∃ y1 y2 y3, σ = [some (.ref a), y1, y2, y3] ∧ Same H H2 ∧ (ds.take i).all okStep = true) ⟨_, _, _, rfl, .refl _, rfl⟩ (fun i σ H2 _ h => by
          obtain ⟨_, _, _, _, s2, _⟩ := h
          exact s2.seq ha) (fun i x σ H2 hx h => ?_) (fun σ H2 h => ?_)⟩
        · obtain ⟨y1, y2, y3, rfl, s2, al⟩ := h
          have hi : i < ds.length := by have := (List.getElem?_eq_some_iff.mp hx).1; omega
          have hdi : ds[i]? = some ds[i] := List.getElem?_eq_getElem hi
          obtain ⟨x', hx', hD⟩ := DpAll.at hall hdi
          obtain rfl : x' = x := Option.some.inj (hx'.symm.trans hx)
          have no : okStep ds[i] = false → okSteps (.list ds) = false := fun e => by
            dsimp only [okSteps]
            rw [all_no hdi e]
            simp
          have yes := fun e => all_take (f := okStep) hdi e al
          generalize ds[i] = di at hD no yes
          replace hD := Dp.dm (.of s2) hD
          walk_at "go"
          refine use_isTup hD ?_
          cases hD with
          | @tup b us es hb he =>
            dsimp only [isTup]
            refine ⟨_, rfl, iteNT ?_⟩
            walk_at "go"
            refine ⟨_, _, rfl, .inr hb, ?_⟩
            walk_at "go"
            have le := DpAll.len he
            refine ifdn (fun c3 => ?_) (fun c3 => ?_)
            · obtain ⟨n, m, rfl⟩ : ∃ n m, us = [n, m] := by
                match us, (show us.length = 2 by have := c3; omega) with
                | [n, m], _ => exact ⟨n, m, rfl⟩
              cases he with
              | @cons _ _ d1 _ h1 he =>
              cases he with
              | @cons _ _ d2 _ h2 he =>
              cases he
              walk_at "go"
              refine g_gtup hb rfl ?_
              walk_at "go"
              refine use_amount h1 ?_
              walk_at "go"
              have e1 : okStep (.tuple [d1, d2]) = (amt d1 && inB 1 999 d2) := rfl
              refine ifn (fun c4 => ?_) (fun c4 => ?_)
              · walk_at "go"
                refine use_between h2 ?_
                walk_at "go"
                refine ifn (fun c5 => ?_) (fun c5 => ?_)
                · walk_at "go"
                  exact ⟨_, _, _, rfl, s2, yes (by rw [e1, c5]; unfold amt; rw [c4]; rfl)⟩
                · walk_at "go"
                  exact bad (no (by rw [e1, c5]; simp)) s2
              · walk_at "go"
                exact bad (no (by rw [e1]; unfold amt; rw [c4]; rfl)) s2
            · walk_at "go"
              refine bad (no ?_) s2
              unfold okStep
              split
              · rename_i u v e
                obtain rfl : es = [u, v] := by injection e
                exact absurd (show (us.length : Int) = 2 by rw [le]; rfl) c3
              · rfl
          | _ =>
            dsimp only [isTup]
            walk_at "go"
            exact bad (no rfl) s2
        · obtain ⟨y1, y2, y3, rfl, s2, al⟩ := h
          rw [hlen, List.take_length] at al
          walk_at "go"
          refine g_lenU ?_
          walk_at "go"
          refine ⟨⟨_, s2.seq ha⟩, fun D nD => lc_list (xs := vs) (Comp H2 D (fun j y H' => ∃ d, ds[j]? = some d ∧ y = .int (byOf d))) (.start nD) (fun i H' _ c => (s2.trans c.e).seq ha) (fun i x H' hx c => ?_) (fun H' c => ?_)⟩
          · have hi : i < ds.length := by have := (List.getElem?_eq_some_iff.mp hx).1; omega
            have hdi : ds[i]? = some ds[i] := List.getElem?_eq_getElem hi
            obtain ⟨x', hx', hD⟩ := DpAll.at hall hdi
            obtain rfl : x' = x := Option.some.inj (hx'.symm.trans hx)
            obtain ⟨n, b, ed⟩ := okStep_tup (List.all_eq_true.mp al _ (List.getElem_mem hi))
            rw [ed] at hdi hD
            replace hD := Dp.dm (.of (s2.trans c.e)) hD
            cases hD with
            | @tup b us es hb he =>
            cases he with
            | @cons _ _ d1 _ h1 he =>
            cases h1
            walk_at "go"
            refine ⟨_, _, _, _, rfl, rfl, hb, at_any (j := 0) rfl rfl, ?_⟩
            exact c.next (fun j y Ha Hb h _ => h) (.refl _) (by omega) ⟨_, hdi, rfl⟩
          · obtain ⟨e3, _, ys, hy, ly, ry⟩ := c
            have ey : ys = (ds.map byOf).map V.int := List.ext_getElem? fun j => by
              rcases Nat.lt_or_ge j ys.length with lt | ge
              · obtain ⟨d, hd1, e⟩ := ry j _ (List.getElem?_eq_getElem lt)
                rw [List.getElem?_eq_getElem lt, e, List.getElem?_map, List.getElem?_map, hd1]
                rfl
              · rw [List.getElem?_eq_none ge, List.getElem?_eq_none (by simp; omega)]
            rw [ey] at hy
            have s4 := s2.trans e3
            refine ⟨_, rfl, .inl ⟨ds.map byOf, sql hy, by rw [List.length_map]; omega, fun m u1 u2 => ?_⟩⟩
            rw [List.length_map] at u1 u2
            walk_at "go"
            refine ⟨_, _, rfl, .inl (s4.seq ha), ?_⟩
            walk_at "go"
            have okd : okSteps (.list ds) = decide (ds.map byOf).Nodup := by
              dsimp only [okSteps]
              rw [decide_eq_true (show 1 ≤ ds.length by omega), decide_eq_true (show ds.length ≤ 4 by omega), al]
              rfl
            by_cases nd : (ds.map byOf).Nodup
            · refine ifd (fun c6 => ?_) (fun c6 => ?_)
              · have := u1 nd
                omega
              · walk_at "go"
                exact q0 (by rw [okd]; exact decide_eq_true nd) _ s4
            · refine ifd (fun c6 => ?_) (fun c6 => ?_)
              · walk_at "go"
                exact bad (by rw [okd]; exact decide_eq_false nd) s4
              · have := u2 nd
                omega
      · walk_at "go"
        refine bad ?_ (.refl _)
        dsimp only [okSteps]
        rw [decide_eq_false (show ¬ ds.length ≤ 4 by omega)]
        simp
    · walk_at "go"
      refine bad ?_ (.refl _)
      dsimp only [okSteps]
      rw [decide_eq_false (show ¬ 1 ≤ ds.length by omega)]
      rfl
  | _ =>
    dsimp only [isLst]
    walk_at "go"
    exact q1 rfl _ (.refl _)
end
def spNNames (K : PySem.W.Frag) (C PT : Addr) : Sp := fun vs H Q E => ∃ (v : V) (d : PyData), vs = [v] ∧ Dp K H v d ∧ szOk d = true ∧ GxR.TabG H PT ∧ (okNames d = true → ∀ H', Tb PT H H' → Q .non H') ∧ (okNames d = false → ∀ H', Tb PT H H' → E (.ref C) none H')
theorem use_nnames {K : PySem.W.Frag} {C PT : Addr} {v : V} {d : PyData} {H : Hp} {Q : VK} {E : XK} (h : Dp K H v d) (z : szOk d = true) (t : GxR.TabG H PT) (q0 : okNames d = true → ∀ H', Tb PT H H' → Q .non H') (q1 : okNames d = false → ∀ H', Tb PT H H' → E (.ref C) none H') :
    spNNames K C PT ([v] ++ []) H Q E := ⟨v, d, rfl, h, z, t, q0, q1⟩
section
variable {P : Program} {w : World} {K : PySem.W.Frag} {mg : Str → Option Value} {base : Heap}
abbrev s__need_names : Stmt := topS 21
theorem sc__need_names : FnScope ["names", "told", "name", "number", "steps"] ["names"] (defScope s__need_names) := ⟨rfl, rfl, rfl, by decide +kernel, rfl, by decide +kernel, by decide +kernel⟩
theorem h__need_names {PT : Addr} {k : Nat} {f : Addr} {fd : FuncData} (O : Own K mg "_need_names" s__need_names ["names"] f fd) {C_BadMarket : Addr} (X_BadMarket : ExcT K mg "BadMarket" C_BadMarket)  {f__need_steps : Addr} {fd__need_steps : FuncData} (D__need_steps : Has P w K mg base "_need_steps" ["steps"] k (L2.CX P w) (spNSteps K C_BadMarket) f__need_steps fd__need_steps) {f_is_amount : Addr} {fd_is_amount : FuncData} (D_is_amount : Has P w K mg base "is_amount" ["told"] k CX0 (spAmount K) f_is_amount fd_is_amount) {f_is_word : Addr} {fd_is_word : FuncData} (D_is_word : Has P w K mg base "is_word" ["told"] k CX0 (spIsWord K PT) f_is_word fd_is_word) (m_len : mg "len" = none) (m_set : mg "set" = none) (m_isinstance : mg "isinstance" = none) (m_tuple : mg "tuple" = none) {t_MOST_NAMES : Tok} (m_MOST_NAMES : mg "MOST_NAMES" = some (.int 3 t_MOST_NAMES)) (m_list : mg "list" = none) : Has P w K mg base "_need_names" ["names"] (k + 1) (L2.CX P w) (spNNames K C_BadMarket PT) f fd := by
  refine O.has (O.F.okX sc__need_names (fun vs H Q E h => ?_) (fun cdv A outer s H vs Q E hr h => ?_))
  · obtain ⟨v, d, rfl, _⟩ := h
    rfl
  obtain ⟨v, d, rfl, hd, hz, ht, q0, q1⟩ := h
  refine ⟨_, (pss_cons (ps_if (PW.pt (pw_or (pt_not (pt_val (pe_callB call_isi (by rfl) m_isinstance (by decide +kernel) (pa_cons (pv 0) (pa_cons (pe_bltn (v := .ty "list") (by rfl) m_list (by decide +kernel) rfl) pa_nil))))) (pw_or1 (pt_cmpR op_gt (pe_callB call_len_seq (by rfl) m_len (by decide +kernel) (pa_cons (pv 0) pa_nil)) (pe_glob (v := .int (3)) (by rfl) m_MOST_NAMES ⟨_, rfl⟩) (nomark _))))) (pss_one (ps_raise rfl (takes_of rfl rfl rfl rfl) (pmk_own PySem.F.excBase_ValueError X_BadMarket.x X_BadMarket.g X_BadMarket.k (raises_own X_BadMarket.s X_BadMarket.t) rfl))) pss_nil) (pss_cons (ps_for (passes_of rfl) rfl (pi_list (pv 0)) (pg_name (i := 1) sc__need_names.nd rfl (.inl rfl)) (pss_cons (ps_if (PW.pt (pw_or (pt_not (pt_val (pe_callB call_isi (by rfl) m_isinstance (by decide +kernel) (pa_cons (pv 1) (pa_cons (pe_bltn (v := .ty "tuple") (by rfl) m_tuple (by decide +kernel) rfl) pa_nil))))) (pw_or1 (pt_cmpR op_ne (pe_callB call_len_seq (by rfl) m_len (by decide +kernel) (pa_cons (pv 1) pa_nil)) pe_int (nomark _))))) (pss_one (ps_raise rfl (takes_of rfl rfl rfl rfl) (pmk_own PySem.F.excBase_ValueError X_BadMarket.x X_BadMarket.g X_BadMarket.k (raises_own X_BadMarket.s X_BadMarket.t) rfl))) pss_nil) (pss_cons (ps_asg (pv 1) (pg_tup rfl (pgs_cons (pg_name (i := 2) sc__need_names.nd rfl (.inl rfl)) (pgs_cons (pg_name (i := 3) sc__need_names.nd rfl (.inl rfl)) (pgs_cons (pg_name (i := 4) sc__need_names.nd rfl (.inl rfl)) pgs_nil))))) (pss_cons (ps_if (PW.pt (pw_or (pt_not (pt_val (pe_call D_is_word.G hr (by rfl) D_is_word.g D_is_word.k D_is_word.b .nil pass0 (pa_cons (pv 2) pa_nil)))) (pw_or1 (pt_not (pt_val (pe_call D_is_amount.G hr (by rfl) D_is_amount.g D_is_amount.k D_is_amount.b .nil pass0 (pa_cons (pv 3) pa_nil))))))) (pss_one (ps_raise rfl (takes_of rfl rfl rfl rfl) (pmk_own PySem.F.excBase_ValueError X_BadMarket.x X_BadMarket.g X_BadMarket.k (raises_own X_BadMarket.s X_BadMarket.t) rfl))) pss_nil) (pss_one (ps_expr (pe_call D__need_steps.G hr (by rfl) D__need_steps.g D__need_steps.k D__need_steps.b .nil (passes_call (takes_of rfl rfl rfl rfl) (fun _ _ _ _ h => h)) (pa_cons (pv 4) pa_nil)))))))) (pss_one (ps_if (pt_cmpR op_lt (BkS.pe_lenU rfl (by rfl) m_len (by rfl) m_set (pe_lc (own := [("told", 1)]) (g := gName 1) rfl sc__need_names.nd (pi_list (pv 0)) (blkOk_by (own := [("told", 1)]) (N := ["names", "told", "name", "number", "steps"]) (sc := defScope s__need_names) (by decide +kernel)) (fun _ _ _ _ _ => pg_name (i := 1) sc__need_names.nd rfl (.inl rfl)) (fun _ _ _ _ _ => pts_nil) (fun _ _ _ _ _ => (pe_ix (r := rIxT K) ix_tup (pv 1) pe_int (fun _ _ => rfl))))) (pe_callB call_len_seq (by rfl) m_len (by decide +kernel) (pa_cons (pv 0) pa_nil)) (nomark _)) (pss_one (ps_raise rfl (takes_of rfl rfl rfl rfl) (pmk_own PySem.F.excBase_ValueError X_BadMarket.x X_BadMarket.g X_BadMarket.k (raises_own X_BadMarket.s X_BadMarket.t) rfl))) pss_nil)))), ?_⟩
  walk_at "go"
  refine use_isLst hd ?_
  cases hd with
  | @lst a vs ds ha hall =>
    dsimp only [isLst]
    have hlen := DpAll.len hall
    have bad : ∀ {H'}, okNames (.list ds) = false → Tb PT H H' → E (.ref C_BadMarket) none H' := fun e s => q1 e _ s
    have hzs : szAll ds = true := hz
    refine ⟨_, rfl, iteNT ?_⟩
    walk_at "go"
    refine ⟨_, _, rfl, .inl ha, ?_⟩
    walk_at "go"
    refine ifd (fun c1 => ?_) (fun c1 => ?_)
    · walk_at "go"
      refine bad ?_ (.refl ht)
      dsimp only [okNames]
      rw [decide_eq_false (show ¬ ds.length ≤ 3 by omega)]
      rfl
    walk_at "go"
    refine ⟨⟨_, ha⟩, for_list (xs := vs) (fun i σ H2 => ∃ y1 y2 y3 y4, σ = [some (.ref a), y1, y2, y3, y4] ∧ Tb PT H H2 ∧ (ds.take i).all okName = true) ⟨_, _, _, _, rfl, .refl ht, rfl⟩ (fun i σ H2 _ h => by
      obtain ⟨_, _, _, _, _, t2, _⟩ := h
      exact (t2.dm ht).l _ _ ha) (fun i x σ H2 hx h => ?_) (fun σ H2 h => ?_)⟩
    · obtain ⟨y1, y2, y3, y4, rfl, t2, al⟩ := h
      have hi : i < ds.length := by have := (List.getElem?_eq_some_iff.mp hx).1; omega
      have hdi : ds[i]? = some ds[i] := List.getElem?_eq_getElem hi
      obtain ⟨x', hx', hD⟩ := DpAll.at hall hdi
      obtain rfl : x' = x := Option.some.inj (hx'.symm.trans hx)
      have no : okName ds[i] = false → okNames (.list ds) = false := fun e => by
        dsimp only [okNames]
        rw [all_no hdi e]
        simp
      have yes := fun e => all_take (f := okName) hdi e al
      have hzi := szAll_at hzs hdi
      generalize ds[i] = di at hD no yes hzi
      replace hD := Dp.dm (t2.dm ht) hD
      walk_at "go"
      refine use_isTup hD ?_
      cases hD with
      | @tup b us es hb he =>
        dsimp only [isTup]
        refine ⟨_, rfl, iteNT ?_⟩
        walk_at "go"
        refine ⟨_, _, rfl, .inr hb, ?_⟩
        walk_at "go"
        have le := DpAll.len he
        refine ifdn (fun c3 => ?_) (fun c3 => ?_)
        · obtain ⟨n, m, r, rfl⟩ : ∃ n m r, us = [n, m, r] := by
            match us, (show us.length = 3 by have := c3; omega) with
            | [n, m, r], _ => exact ⟨n, m, r, rfl⟩
          cases he with
          | @cons _ _ d1 _ h1 he =>
          cases he with
          | @cons _ _ d2 _ h2 he =>
          cases he with
          | @cons _ _ d3 _ h3 he =>
          cases he
          have e1 : okName (.tuple [d1, d2, d3]) = (isW' d1 && (amt d2 && okSteps d3)) := rfl
          have hz1 : szOk d1 = true := by
            have z : (szOk d1 && szAll [d2, d3]) = true := hzi
            exact (Bool.and_eq_true_iff.mp z).1
          walk_at "go"
          refine g_gtup hb rfl ?_
          walk_at "go"
          refine use_isWord h1 hz1 t2.g fun H3 t3 => ?_
          have d23 : DM K H2 H3 := t3.dm t2.g
          have t23 := t2.trans t3
          walk_at "go"
          refine ifn (fun c4 => ?_) (fun c4 => ?_)
          · walk_at "go"
            refine use_amount (Dp.dm d23 h2) ?_
            walk_at "go"
            refine ifn (fun c5 => ?_) (fun c5 => ?_)
            · walk_at "go"
              refine use_nsteps (Dp.dm d23 h3) (fun c6 H4 s4 => ?_) (fun c6 H4 s4 => ?_)
              · exact ⟨_, _, _, _, rfl, t23.trans (.of t23.g s4), yes (by rw [e1, c4, c6]; unfold amt; rw [c5]; rfl)⟩
              · exact bad (no (by rw [e1, c6]; simp)) (t23.trans (.of t23.g s4))
            · walk_at "go"
              exact bad (no (by rw [e1]; unfold amt; rw [c5]; simp)) t23
          · walk_at "go"
            exact bad (no (by rw [e1, c4]; rfl)) t23
        · walk_at "go"
          refine bad (no ?_) t2
          unfold okName
          split
          · rename_i u v x e
            obtain rfl : es = [u, v, x] := by injection e
            exact absurd (show (us.length : Int) = 3 by rw [le]; rfl) c3
          · rfl
      | _ =>
        dsimp only [isTup]
        walk_at "go"
        exact bad (no rfl) t2
    · obtain ⟨y1, y2, y3, y4, rfl, t2, al⟩ := h
      rw [hlen, List.take_length] at al
      have ha2 : SqL K H2 a vs := (t2.dm ht).l _ _ ha
      walk_at "go"
      refine g_lenU ?_
      walk_at "go"
      refine ⟨⟨_, ha2⟩, fun D nD => lc_list (xs := vs) (Comp H2 D (fun j y H' => ∃ d, ds[j]? = some d ∧ y = .str (wordOf d))) (.start nD) (fun i H' _ c => c.e.seq ha2) (fun i x H' hx c => ?_) (fun H' c => ?_)⟩
      · have hi : i < ds.length := by have := (List.getElem?_eq_some_iff.mp hx).1; omega
        have hdi : ds[i]? = some ds[i] := List.getElem?_eq_getElem hi
        obtain ⟨x', hx', hD⟩ := DpAll.at hall hdi
        obtain rfl : x' = x := Option.some.inj (hx'.symm.trans hx)
        obtain ⟨n, b1, b2, ed, _⟩ := okName_tup (List.all_eq_true.mp al _ (List.getElem_mem hi))
        rw [ed] at hdi hD
        replace hD := Dp.dm ((t2.dm ht).trans (.of c.e)) hD
        cases hD with
        | @tup b us es hb he =>
        cases he with
        | @cons _ _ d1 _ h1 he =>
        cases h1
        walk_at "go"
        refine ⟨_, _, _, _, rfl, rfl, hb, at_any (j := 0) rfl rfl, ?_⟩
        exact c.next (fun j y Ha Hb h _ => h) (.refl _) (by omega) ⟨_, hdi, rfl⟩
      · obtain ⟨e3, _, ys, hy, ly, ry⟩ := c
        have ey : ys = (ds.map wordOf).map V.str := List.ext_getElem? fun j => by
          rcases Nat.lt_or_ge j ys.length with lt | ge
          · obtain ⟨d, hd1, e⟩ := ry j _ (List.getElem?_eq_getElem lt)
            rw [List.getElem?_eq_getElem lt, e, List.getElem?_map, List.getElem?_map, hd1]
            rfl
          · rw [List.getElem?_eq_none ge, List.getElem?_eq_none (by simp; omega)]
        rw [ey] at hy
        have t4 := t2.trans (.of t2.g e3)
        refine ⟨_, rfl, .inr ⟨ds.map wordOf, sql hy, by rw [List.length_map]; omega, fun m u1 u2 => ?_⟩⟩
        rw [List.length_map] at u1 u2
        walk_at "go"
        refine ⟨_, _, rfl, .inl (e3.seq ha2), ?_⟩
        walk_at "go"
        have okd : okNames (.list ds) = decide (ds.map wordOf).Nodup := by
          dsimp only [okNames]
          rw [decide_eq_true (show ds.length ≤ 3 by omega), al]
          rfl
        by_cases nd : (ds.map wordOf).Nodup
        · refine ifd (fun c6 => ?_) (fun c6 => ?_)
          · have := u1 nd
            omega
          · walk_at "go"
            exact q0 (by rw [okd]; exact decide_eq_true nd) _ t4
        · refine ifd (fun c6 => ?_) (fun c6 => ?_)
          · walk_at "go"
            exact bad (by rw [okd]; exact decide_eq_false nd) t4
          · have := u2 nd
            omega
  | _ =>
    dsimp only [isLst]
    walk_at "go"
    exact q1 rfl _ (.refl ht)
end

/-! ### a drawn market -/
/-- the heap without what stands at p -/
def er (p : Addr) (H : Hp) : Hp := fun b => if b = p then none else H b
theorem er_ne {p b : Addr} {H : Hp} (h : b ≠ p) : er p H b = H b := if_neg h
theorem er_sub {p : Addr} {H : Hp} : Same (er p H) H := fun b o h => by
  unfold er at h
  split at h
  · cases h
  · exact h
theorem er_new {p : Addr} {H : Hp} (n : H p = none) : er p H = H := funext fun b => by
  unfold er
  split
  · rename_i e
    rw [e, n]
  · rfl
theorem er_upd {p : Addr} {H : Hp} {o : HO} : er p (upd H p o) = er p H := funext fun b => by
  unfold er
  split
  · rfl
  · rename_i h
    exact upd_ne h
theorem er_same {p : Addr} {H H' : Hp} (e : Same H H') : Same (er p H) (er p H') := fun b o h => by
  unfold er at h ⊢
  split at h
  · cases h
  · rename_i n
    rw [if_neg n]
    exact e _ _ h
theorem er_kb {p s : Addr} {H H' : Hp} (e : KB s H H') : KB s (er p H) (er p H') := fun b o n h => by
  unfold er at h ⊢
  split at h
  · cases h
  · rename_i n2
    rw [if_neg n2]
    exact e _ _ n h
/-- the drawing's dict and its lists stand apart from p -/
theorem LS.er {K : PySem.W.Frag} {c : Cfg} {ns : List Int} {xs : List Str} {s na nm p : Addr} {H H' : Hp} (L : LS K c ns xs s na nm (er p H)) (e : KB s H H') (L' : LS K c ns xs s na nm H') : LS K c ns xs s na nm (er p H') := by
  obtain ⟨⟨n, re, mx, h, _⟩, h1, h2, h3, h4, h5⟩ := L
  obtain ⟨⟨n', re', mx', h', r'⟩, _⟩ := L'
  have np : s ≠ p := fun z => by
    rw [z] at h
    unfold Bk.er at h
    rw [if_pos rfl] at h
    cases h
  exact ⟨⟨n', re', mx', (er_ne np).trans h', r'⟩, KB.seq (er_kb e) h h1, KB.seq (er_kb e) h h2, h3, h4, h5⟩
theorem LS.dm {K : PySem.W.Frag} {c : Cfg} {ns : List Int} {xs : List Str} {s na nm : Addr} {H H' : Hp} (L : LS K c ns xs s na nm H) (e : KB s H H') : DM K H H' := by
  obtain ⟨⟨n, re, mx, h, _⟩, _⟩ := L
  exact e.dm h
theorem inV_int {b : Int} {ns : List Int} : inV (.int b) (ns.map V.int) = decide (b ∈ ns) := by
  unfold inV
  rw [List.any_map, Bool.eq_iff_iff, List.any_eq_true, decide_eq_true_eq]
  constructor
  · rintro ⟨x, hx, e⟩
    have e' : (x == b) = true := by
      first
        | exact e
        | (have z : (b == x) = true := e; simpa [eq_comm] using z)
    rw [← eq_of_beq e']
    exact hx
  · intro h
    refine ⟨b, h, ?_⟩
    show (b == b) = true
    simp

/-! ### loose drawing, for markets -/
mutual
def sOk : PyData → Bool
  | .list xs => sAll xs
  | .tuple xs => sAll xs
  | .str x => PyData.strOk x
  | _ => true
def sAll : List PyData → Bool
  | [] => true
  | d :: ds => sOk d && sAll ds
end
def dOk (d : PyData) : Bool := szOk d && sOk d
theorem dok_sz {d : PyData} (h : dOk d = true) : szOk d = true := (Bool.and_eq_true_iff.mp h).1
theorem dok_s {d : PyData} (h : dOk d = true) : sOk d = true := (Bool.and_eq_true_iff.mp h).2
theorem all_dok : ∀ {ds : List PyData}, ds.all dOk = true ↔ szAll ds = true ∧ sAll ds = true
  | [] => ⟨fun _ => ⟨rfl, rfl⟩, fun _ => rfl⟩
  | d :: ds => by
    have ih := all_dok (ds := ds)
    rw [List.all_cons, Bool.and_eq_true, ih, show dOk d = (szOk d && sOk d) from rfl, show szAll (d :: ds) = (szOk d && szAll ds) from rfl, show sAll (d :: ds) = (sOk d && sAll ds) from rfl]
    simp only [Bool.and_eq_true]
    exact ⟨fun ⟨⟨a, b⟩, c, d⟩ => ⟨⟨a, c⟩, b, d⟩, fun ⟨⟨a, c⟩, b, d⟩ => ⟨⟨a, b⟩, c, d⟩⟩
theorem dok_lst {ds : List PyData} : dOk (.list ds) = true ↔ ds.all dOk = true := by
  rw [all_dok]
  unfold dOk
  rw [Bool.and_eq_true]
  unfold szOk sOk
  exact Iff.rfl
theorem dok_tup {ds : List PyData} : dOk (.tuple ds) = true ↔ ds.all dOk = true := by
  rw [all_dok]
  unfold dOk
  rw [Bool.and_eq_true]
  unfold szOk sOk
  exact Iff.rfl
theorem dok_word {x : Str} (h : isW' (.str x) = true) : dOk (.str x) = true := by
  have z : (decide (1 ≤ x.length) && (decide (x.length ≤ 8) && x.cps.toList.all fun c => decide (97 ≤ c) && decide (c ≤ 122))) = true := h
  simp only [Bool.and_eq_true, decide_eq_true_eq, List.all_eq_true] at z
  unfold dOk
  rw [Bool.and_eq_true]
  refine ⟨decide_eq_true (by omega), ?_⟩
  show PyData.strOk x = true
  unfold PyData.strOk
  rw [Array.all_eq_true_iff_forall_mem]
  intro c hc
  have := z.2.2 c (by simpa using hc)
  exact decide_eq_true (by omega)
/-- one of some things -/
theorem pick_any {K : PySem.W.Frag} {H : Hp} {xs : List V} {ds : List PyData} (hx : DpAll K H xs ds) (ha : ds.all dOk = true) {i : Int} (i0 : 0 ≤ i) (i1 : i < ds.length) : ∃ v d, atI xs i = some v ∧ Dp K H v d ∧ dOk d = true := by
  have hi : i.toNat < ds.length := by omega
  have hd := List.getElem?_eq_getElem hi
  obtain ⟨v, hv, h⟩ := DpAll.at hx hd
  exact ⟨v, _, at_any (j := i.toNat) (by omega) hv, h, List.all_eq_true.mp ha _ (List.getElem_mem hi)⟩
theorem evd_rep {K : PySem.W.Frag} {Γ : Env4} {c : Nat} {n : Int} {ta tb : TE} (h0 : 0 ≤ n) (h1 : n ≤ 1000) (ha : EvD K Γ ta (.str ⟨#[c]⟩)) (hb : EvD K Γ tb (.int n)) : EvD K Γ (tOp rRepS ta tb) (.str (rp c n)) := fun σ H Q s q =>
  ha σ H _ s fun v H1 e1 d1 => hb σ H1 _ (s.same e1) fun u H2 e2 d2 => by
    cases d1
    cases d2
    exact ⟨c, n, rfl, rfl, h0, h1, q _ _ (e1.trans e2) (.str _)⟩
theorem ev_cat {K : PySem.W.Frag} {Γ : Env4} {σ : L2.St} {i : Nat} {p : Addr} {xs : List V} {H : Hp} {ts : TA} {d0 ds : List PyData} {Q : VK} (hσ : σ[i]? = some (some (.ref p))) (hp : H p = some (.lst xs)) (hx : DpAll K H xs d0) (e : EvA K Γ ts ds) (s : SlotsOk K Γ σ H) (h0 : d0.length ≤ 400) (hl : ds.length ≤ 400)
    (k : ∀ p' xs' H', Same H H' → H' p' = some (.lst xs') → DpAll K H' xs' (d0 ++ ds) → Q (.ref p') H') : tOp rCat (tVar i) (tLst ts) σ H Q := by
  refine ⟨_, hσ, ev_lst e (by omega) s fun q ys H1 e1 n1 d1 => ?_⟩
  have e2 : Same H (upd H1 q (.lst ys)) := e1.trans (same_new n1)
  have l1 := DpAll.len hx
  have l2 := DpAll.len d1
  refine ⟨p, q, xs, ys, rfl, rfl, e2 _ _ hp, upd_same, sz (by omega), fun r nr => ?_⟩
  have e3 : Same H (upd (upd H1 q (.lst ys)) r (.lst (xs ++ ys))) := e2.trans (same_new nr)
  have e4 : Same H1 (upd (upd H1 q (.lst ys)) r (.lst (xs ++ ys))) := (same_new n1).trans (same_new nr)
  exact k r (xs ++ ys) _ e3 upd_same (DpAll.app (DpAll.dm (.of e3) hx) (DpAll.dm (.of e4) d1))
/-- a list that was laid ahead of a drawing stands behind it -/
theorem LS.keepl {K : PySem.W.Frag} {c : Cfg} {ns : List Int} {xs : List Str} {s na nm p : Addr} {H H' : Hp} {zs : List V} (L : LS K c ns xs s na nm H) (e : KB s H H') (h : H p = some (.lst zs)) : H' p = some (.lst zs) := by
  obtain ⟨⟨n, re, mx, hs, r⟩, _⟩ := L
  exact e _ _ (ne_of h hs (fun z => by cases z)) h
/-- some data is handed back -/
def KA (K : PySem.W.Frag) (c : Cfg) (ns : List Int) (xs : List Str) (s na nm : Addr) (H : Hp) (Q : VK) : Prop := ∀ (v : V) (d : PyData) (H' : Hp), KB s H H' → LS K c ns xs s na nm H' → Dp K H' v d → dOk d = true → Q v H'
def spAmiss (K : PySem.W.Frag) : Sp := fun vs H Q _ => ∃ (c : Cfg) (ns : List Int) (xs : List Str) (s na nm : Addr) (o : Int), vs = [.ref s] ∧ LS K c ns xs s na nm H ∧ c.od = some o ∧ ∀ (b : Bool) (H' : Hp), KB s H H' → LS K c ns xs s na nm H' → Q (.bl b) H'
theorem use_amiss {K : PySem.W.Frag} {c : Cfg} {ns : List Int} {xs : List Str} {s na nm : Addr} {o : Int} {H : Hp} {Q : VK} {E : XK} (L : LS K c ns xs s na nm H) (ho : c.od = some o) (q : ∀ (b : Bool) (H' : Hp), KB s H H' → LS K c ns xs s na nm H' → Q (.bl b) H') : spAmiss K ([.ref s] ++ []) H Q E := ⟨c, ns, xs, s, na, nm, o, rfl, L, ho, q⟩
section
variable {P : Program} {w : World} {K : PySem.W.Frag} {mg : Str → Option Value} {base : Heap}
abbrev s__law_amiss : Stmt := topS 28
theorem sc__law_amiss : FnScope ["_law_s"] ["_law_s"] (defScope s__law_amiss) := ⟨rfl, rfl, rfl, by decide +kernel, rfl, by decide +kernel, by decide +kernel⟩
theorem h__law_amiss {k : Nat} {f : Addr} {fd : FuncData} (O : Own K mg "_law_amiss" s__law_amiss ["_law_s"] f fd)  {f__law_taken : Addr} {fd__law_taken : FuncData} (D__law_taken : Has P w K mg base "_law_taken" ["_law_s", "_law_most"] k CX0 (spTaken K) f__law_taken fd__law_taken) : Has P w K mg base "_law_amiss" ["_law_s"] (k + 1) CX0 (spAmiss K) f fd := by
  refine O.has (O.F.ok sc__law_amiss (fun vs H Q E h => ?_) (fun cdv A outer s H vs Q E hr h => ?_))
  · obtain ⟨c, ns, xs, s, na, nm, o, rfl, _⟩ := h
    rfl
  obtain ⟨c, ns, xs, s, na, nm, o, rfl, L, ho, q⟩ := h
  refine ⟨_, (pss_one (ps_ret (pe_and (pe_cmpR op_gt (pe_dget (hu_of hr) (pv 0) pe_str (fun _ _ => rfl)) pe_int (nomark _)) (pe_one (pe_cmpR op_eq (pe_call D__law_taken.G hr (by rfl) D__law_taken.g D__law_taken.k D__law_taken.b .nil pass0 (pa_cons (pv 0) (pa_cons (pe_dget (hu_of hr) (pv 0) pe_str (fun _ _ => rfl)) pa_nil))) pe_int (nomark _)))))), ?_⟩
  obtain ⟨n, re, mx, hs, g0, g1, g2, g3⟩ := L.st
  have bo := L.ok.od o ho
  have hv : ∀ {n re mx : Int}, valV (sd c na nm n re mx) (.inr "odd") = some (.int o) := by
    intro n re mx
    obtain ⟨a, b, d, e, od⟩ := c
    cases ho
    rfl
  walk_at "go"
  refine g_key hs hv ?_
  walk_at "go"
  refine ifd (fun c1 => ?_) (fun c1 => ?_)
  · walk_at "go"
    refine g_key hs hv ?_
    walk_at "go"
    refine use_taken L (by omega) (by omega) fun r H1 r0 r1 e1 L1 => ?_
    walk_at "go"
    exact q _ _ e1 L1
  · exact q _ _ (KB.refl _ _) L
end

/-! ### the law's own walk of a market -/
theorem g_istr {te : TE} {σ : L2.St} {H : Hp} {R : It → Hp → Prop} (h : te σ H fun v H1 => ∃ x, v = .str x ∧ R (Its x) H1) : iStr te σ H R := h
def small (c : Nat) : Bool := decide (97 ≤ c) && decide (c ≤ 122)
def spCCount (K : PySem.W.Frag) : Sp := fun vs H Q _ => ∃ (v : V) (d : PyData) (lo hi : Int), vs = [v, .int lo, .int hi] ∧ Dp K H v d ∧ Q (.bl (inB lo hi d)) H
theorem use_ccount {K : PySem.W.Frag} {v : V} {d : PyData} {lo hi : Int} {H : Hp} {Q : VK} {E : XK} (h : Dp K H v d) (q : Q (.bl (inB lo hi d)) H) : spCCount K ([v, .int lo, .int hi] ++ []) H Q E := ⟨v, d, lo, hi, rfl, h, q⟩
theorem strs_shapedS {xs : List Str} (h : ∀ x ∈ xs, PyData.strOk x = true) : SeqAt.shaped (.list (xs.map PyData.str)) = true := by
  have lay : PyData.canLayAll0 (xs.map PyData.str) = true ∧ PyData.depthAll (xs.map PyData.str) ≤ 1 := by
    induction xs with
    | nil => exact ⟨rfl, by show 0 ≤ 1; decide⟩
    | cons x r ih =>
      obtain ⟨a, b⟩ := ih fun y hy => h y (List.mem_cons_of_mem _ hy)
      exact ⟨by show (PyData.strOk x && PyData.canLayAll0 (r.map PyData.str)) = true; rw [h x List.mem_cons_self, a]; rfl, by show max 0 (PyData.depthAll (r.map PyData.str)) ≤ 1; omega⟩
  unfold SeqAt.shaped
  rw [Bool.and_eq_true, decide_eq_true_eq]
  exact ⟨lay.1, by show PyData.depthAll (xs.map PyData.str) + 1 ≤ 64; omega⟩
theorem dpAll_strs {K : PySem.W.Frag} {H : Hp} : ∀ xs : List Str, DpAll K H (xs.map V.str) (xs.map PyData.str)
  | [] => .nil
  | _ :: xs => .cons (.str _) (dpAll_strs xs)
def spASt (K : PySem.W.Frag) : Sp := fun vs H Q _ => ∃ (v : V) (d : PyData), vs = [v] ∧ Dp K H v d ∧ ∀ H', Same H H' → Q (.bl (okSteps d)) H'
theorem use_ast {K : PySem.W.Frag} {v : V} {d : PyData} {H : Hp} {Q : VK} {E : XK} (h : Dp K H v d) (q : ∀ H', Same H H' → Q (.bl (okSteps d)) H') : spASt K ([v] ++ []) H Q E := ⟨v, d, rfl, h, q⟩
section
variable {P : Program} {w : World} {K : PySem.W.Frag} {mg : Str → Option Value} {base : Heap}
abbrev s__law_is_count : Stmt := topS 32
theorem sc__law_is_count : FnScope ["_law_number_here", "_law_least", "_law_most"] ["_law_number_here", "_law_least", "_law_most"] (defScope s__law_is_count) := ⟨rfl, rfl, rfl, by decide +kernel, rfl, by decide +kernel, by decide +kernel⟩
theorem h__law_is_count {k : Nat} {f : Addr} {fd : FuncData} (O : Own K mg "_law_is_count" s__law_is_count ["_law_number_here", "_law_least", "_law_most"] f fd)  (m_isinstance : mg "isinstance" = none) (m_bool : mg "bool" = none) (m_int : mg "int" = none) : Has P w K mg base "_law_is_count" ["_law_number_here", "_law_least", "_law_most"] (k + 1) CX0 (spCCount K) f fd := by
  refine O.has (O.F.ok sc__law_is_count (fun vs H Q E h => ?_) (fun cdv A outer s H vs Q E hr h => ?_))
  · obtain ⟨v, d, lo, hi, rfl, _⟩ := h
    rfl
  obtain ⟨v, d, lo, hi, rfl, hd, q⟩ := h
  refine ⟨_, (pss_one (ps_ret (pe_and (pe_callB call_isi (by rfl) m_isinstance (by decide +kernel) (pa_cons (pv 0) (pa_cons (pe_bltn (v := .ty "int") (by rfl) m_int (by decide +kernel) rfl) pa_nil))) (pe_and (pe_not (pe_callB call_isi (by rfl) m_isinstance (by decide +kernel) (pa_cons (pv 0) (pa_cons (pe_bltn (v := .ty "bool") (by rfl) m_bool (by decide +kernel) rfl) pa_nil)))) (pe_and (pe_cmpR op_le (pv 1) (pv 0) (nomark _)) (pe_one (pe_cmpR op_le (pv 0) (pv 2) (nomark _)))))))), ?_⟩
  walk_at "go"
  refine use_isInt hd ?_
  refine ⟨_, rfl, ?_⟩
  cases hd with
  | int i =>
    have e : inB lo hi (.int i) = (decide (lo ≤ i) && decide (i ≤ hi)) := rfl
    rw [e] at q
    dsimp only [isInt]
    refine iteT ?_
    walk_at "go"
    refine use_isBool (.int i) ?_
    refine ⟨_, rfl, _, rfl, iteT ?_⟩
    walk_at "go"
    refine ifd (fun c => ?_) (fun c => ?_)
    · rw [decide_eq_true c, Bool.true_and] at q
      walk_at "go"
      exact q
    · rw [decide_eq_false c, Bool.false_and] at q
      exact q
  | bl i =>
    dsimp only [isInt]
    refine iteT ?_
    walk_at "go"
    refine use_isBool (.bl i) ?_
    refine ⟨_, rfl, _, rfl, iteF ?_⟩
    exact q
  | _ =>
    dsimp only [isInt]
    refine iteF ?_
    exact q
abbrev s__law_are_steps : Stmt := topS 33
theorem sc__law_are_steps : FnScope ["_law_steps", "_law_seen", "_law_step"] ["_law_steps"] (defScope s__law_are_steps) := ⟨rfl, rfl, rfl, by decide +kernel, rfl, by decide +kernel, by decide +kernel⟩
theorem h__law_are_steps {k : Nat} {f : Addr} {fd : FuncData} (O : Own K mg "_law_are_steps" s__law_are_steps ["_law_steps"] f fd)  {f__law_is_count : Addr} {fd__law_is_count : FuncData} (D__law_is_count : Has P w K mg base "_law_is_count" ["_law_number_here", "_law_least", "_law_most"] k CX0 (spCCount K) f__law_is_count fd__law_is_count) (m_len : mg "len" = none) (m_isinstance : mg "isinstance" = none) (m_tuple : mg "tuple" = none) (m_list : mg "list" = none) : Has P w K mg base "_law_are_steps" ["_law_steps"] (k + 1) CX0 (spASt K) f fd := by
  refine O.has (O.F.ok sc__law_are_steps (fun vs H Q E h => ?_) (fun cdv A outer s H vs Q E hr h => ?_))
  · obtain ⟨v, d, rfl, _⟩ := h
    rfl
  obtain ⟨v, d, rfl, hd, q⟩ := h
  refine ⟨_, (pss_cons (ps_if (PW.pt (pw_or (pt_not (pt_val (pe_callB call_isi (by rfl) m_isinstance (by decide +kernel) (pa_cons (pv 0) (pa_cons (pe_bltn (v := .ty "list") (by rfl) m_list (by decide +kernel) rfl) pa_nil))))) (pw_or1 (pt_not (pt_chain op_le op_le pe_int (pe_callB call_len_seq (by rfl) m_len (by decide +kernel) (pa_cons (pv 0) pa_nil)) pe_int))))) (pss_one (ps_ret pe_bl)) pss_nil) (pss_cons (ps_set (i := 1) sc__law_are_steps.nd rfl (.inl rfl) (pe_lst pa_nil)) (pss_cons (ps_for PassesOwn.never rfl (pi_list (pv 0)) (pg_name (i := 2) sc__law_are_steps.nd rfl (.inl rfl)) (pss_cons (ps_if (PW.pt (pw_or (pt_not (pt_val (pe_callB call_isi (by rfl) m_isinstance (by decide +kernel) (pa_cons (pv 2) (pa_cons (pe_bltn (v := .ty "tuple") (by rfl) m_tuple (by decide +kernel) rfl) pa_nil))))) (pw_or (pt_cmpR op_ne (pe_callB call_len_seq (by rfl) m_len (by decide +kernel) (pa_cons (pv 2) pa_nil)) pe_int (nomark _)) (pw_or1 (pt_not (pt_val (pe_call D__law_is_count.G hr (by rfl) D__law_is_count.g D__law_is_count.k D__law_is_count.b .nil pass0 (pa_cons (pe_ix ix_tup (pv 2) pe_int (fun _ _ => rfl)) (pa_cons pe_int (pa_cons pe_int pa_nil)))))))))) (pss_one (ps_ret pe_bl)) pss_nil) (pss_cons (ps_if (PW.pt (pw_or (pt_not (pt_val (pe_call D__law_is_count.G hr (by rfl) D__law_is_count.g D__law_is_count.k D__law_is_count.b .nil pass0 (pa_cons (pe_ix ix_tup (pv 2) pe_int (fun _ _ => rfl)) (pa_cons (pe_op op_sub pe_int (pe_op op_pow pe_int pe_int)) (pa_cons (pe_op op_sub (pe_op op_pow pe_int pe_int) pe_int) pa_nil)))))) (pw_or1 (pt_cmpR op_in_seq (pe_ix ix_tup (pv 2) pe_int (fun _ _ => rfl)) (pv 1) (by rfl))))) (pss_one (ps_ret pe_bl)) pss_nil) (pss_one (ps_expr (pe_bm PySem.F.plainAttrs_list PySem.F.slot_list_append PySem.F.type_list_append mt_append (pv 1) (pa_cons (pe_ix ix_tup (pv 2) pe_int (fun _ _ => rfl)) pa_nil))))))) (pss_one (ps_ret pe_bl))))), ?_⟩
  have no : okSteps d = false → ∀ H', Same H H' → Q (.bl false) H' := fun e H' s => by
    have z := q H' s
    rw [e] at z
    exact z
  walk_at "go"
  refine use_isLst hd ?_
  cases hd with
  | @lst a vs ds ha hall =>
    have hl := DpAll.len hall
    dsimp only [isLst]
    refine ⟨_, rfl, iteNT ?_⟩
    walk_at "go"
    refine ⟨_, _, rfl, .inl ha, ?_⟩
    walk_at "go"
    have bad : ¬ (1 ≤ ds.length ∧ ds.length ≤ 4) → okSteps (.list ds) = false := fun z => by
      dsimp only [okSteps]
      by_cases c : 1 ≤ ds.length
      · rw [decide_eq_false (show ¬ ds.length ≤ 4 by omega)]
        simp
      · rw [decide_eq_false c]
        rfl
    refine ifd (fun c1 => ?_) (fun c1 => ?_)
    rotate_left
    · walk_at "go"
      exact no (bad (by omega)) H (Same.refl H)
    walk_at "go"
    refine ifdn (fun c2 => ?_) (fun c2 => ?_)
    rotate_left
    · walk_at "go"
      exact no (bad (by omega)) H (Same.refl H)
    walk_at "go"
    refine ⟨by show 0 ≤ sizeLine; decide, fun S nS => ?_⟩
    have s1 := same_new (o := .lst []) nS
    walk_at "go"
    refine ⟨⟨_, s1.seq ha⟩, for_list (xs := vs) (fun i σ H3 => ∃ y, σ = [some (.ref a), some (.ref S), y] ∧ H3 S = some (.lst (((ds.take i).map byOf).map V.int)) ∧ Same H H3 ∧ (ds.take i).all okStep = true ∧ ((ds.take i).map byOf).Nodup) ⟨none, rfl, upd_same, s1, rfl, List.nodup_nil⟩ (fun i σ H3 _ hW => ?_) (fun i x σ H3 hx hW => ?_) (fun σ H3 hW => ?_)⟩
    · obtain ⟨y, rfl, _, e, _⟩ := hW
      exact e.seq ha
    · obtain ⟨y, rfl, hS, e3, al, nd⟩ := hW
      have hi : i < ds.length := by have := (List.getElem?_eq_some_iff.mp hx).1; omega
      have hdi : ds[i]? = some ds[i] := List.getElem?_eq_getElem hi
      obtain ⟨x', hx', hD⟩ := DpAll.at hall hdi
      obtain rfl : x' = x := Option.some.inj (hx'.symm.trans hx)
      have hno : okStep ds[i] = false → okSteps (.list ds) = false := fun e => by
        dsimp only [okSteps]
        rw [all_no hdi e]
        simp
      have hdup : byOf ds[i] ∈ (ds.take i).map byOf → okSteps (.list ds) = false := fun m => by
        have nn : ¬ (ds.map byOf).Nodup := fun z => by
          obtain ⟨d', hd', e⟩ := List.mem_map.mp m
          obtain ⟨j, hj, ej⟩ := List.mem_take_iff_getElem.mp hd'
          have ne := List.pairwise_iff_getElem.mp z j i (by rw [List.length_map]; omega) (by rw [List.length_map]; exact hi) (by omega)
          simp only [List.getElem_map] at ne
          exact ne (by rw [ej, e])
        dsimp only [okSteps]
        rw [decide_eq_false nn]
        simp
      have yes := fun e => all_take (f := okStep) hdi e al
      have tk := take_map_snoc (f := byOf) hdi
      generalize ds[i] = di at hD hno hdup yes tk
      replace hD := Dp.dm (.of e3) hD
      walk_at "go"
      refine use_isTup hD ?_
      cases hD with
      | @tup b us es hb he =>
        dsimp only [isTup]
        refine ⟨_, rfl, iteNT ?_⟩
        walk_at "go"
        refine ⟨_, _, rfl, .inr hb, ?_⟩
        walk_at "go"
        have le := DpAll.len he
        refine ifdn (fun c3 => ?_) (fun c3 => ?_)
        rotate_left
        · walk_at "go"
          refine no (hno ?_) _ e3
          unfold okStep
          split
          · rename_i u v e
            obtain rfl : es = [u, v] := by injection e
            exact absurd (show (us.length : Int) = 2 by rw [le]; rfl) c3
          · rfl
        obtain ⟨n, m, rfl⟩ : ∃ n m, us = [n, m] := by
          match us, (show us.length = 2 by have := c3; omega) with
          | [n, m], _ => exact ⟨n, m, rfl⟩
        cases he with
        | @cons _ _ d1 _ h1 he =>
        cases he with
        | @cons _ _ d2 _ h2 he =>
        cases he
        have e1 : okStep (.tuple [d1, d2]) = (amt d1 && inB 1 999 d2) := rfl
        walk_at "go"
        refine ⟨_, _, _, _, rfl, rfl, hb, at_any (j := 1) rfl rfl, ?_⟩
        walk_at "go"
        refine use_ccount h2 ?_
        refine ⟨_, rfl, ifn (fun c4 => ?_) (fun c4 => ?_)⟩
        rotate_left
        · walk_at "go"
          exact no (hno (by rw [e1, c4]; simp)) _ e3
        walk_at "go"
        refine ⟨_, _, _, _, rfl, rfl, hb, at_any (j := 0) rfl rfl, ?_⟩
        walk_at "go"
        refine g_I ⟨by decide, by decide, by decide⟩ ?_
        walk_at "go"
        refine g_I ⟨by decide, by decide, by decide⟩ ?_
        walk_at "go"
        have e10 : (10 : Int) ^ (12 : Int).toNat = 1000000000000 := by decide
        rw [e10]
        refine use_ccount h1 ?_
        have ea : inB (1 - 1000000000000) (1000000000000 - 1) d1 = amt d1 := rfl
        rw [ea]
        refine ⟨_, rfl, ifn (fun c5 => ?_) (fun c5 => ?_)⟩
        rotate_left
        · walk_at "go"
          exact no (hno (by rw [e1, c5]; rfl)) _ e3
        cases h1 with
        | int z =>
          walk_at "go"
          refine ⟨_, _, _, _, rfl, rfl, hb, at_any (j := 0) rfl rfl, ?_⟩
          walk_at "go"
          refine ⟨S, _, rfl, .inl (sql hS), rfl, by rw [List.all_map]; exact List.all_eq_true.mpr fun _ _ => rfl, ?_⟩
          rw [if_neg Bool.false_ne_true, inV_intL]
          refine ⟨_, rfl, ifd (fun c6 => ?_) (fun c6 => ?_)⟩
          · walk_at "go"
            exact no (hdup c6) _ e3
          · walk_at "go"
            refine ⟨.inl ⟨rfl, _, sql hS⟩, ?_⟩
            walk_at "go"
            refine ⟨_, _, _, _, rfl, rfl, hb, at_any (j := 0) rfl rfl, ?_⟩
            walk_at "go"
            refine ⟨S, _, _, rfl, rfl, hS, by rw [List.length_map, List.length_map, List.length_take]; exact small1000 (by omega), ?_⟩
            refine ⟨_, rfl, ?_, fun q o h => by rw [upd_ne (ne_of_none h nS)]; exact e3 _ _ h, yes (by rw [e1, c5, c4]; rfl), ?_⟩
            · rw [upd_same, tk, List.map_append]
              rfl
            · rw [tk]
              exact List.nodup_append.mpr ⟨nd, by simp, fun a ha b hb => by
                rw [List.mem_singleton.mp hb]
                exact fun e => c6 (by have e : a = z := e; rw [← e]; exact ha)⟩
        | _ => cases c5
      | _ =>
        dsimp only [isTup]
        refine ⟨_, rfl, iteNF (iteT ?_)⟩
        walk_at "go"
        exact no (hno rfl) _ e3
    · obtain ⟨y, rfl, hS, e3, al, nd⟩ := hW
      rw [List.take_of_length_le (by omega)] at al nd
      walk_at "go"
      have z := q H3 e3
      have e : okSteps (.list ds) = true := by
        dsimp only [okSteps]
        rw [al, decide_eq_true nd, decide_eq_true (show 1 ≤ ds.length by omega), decide_eq_true (show ds.length ≤ 4 by omega)]
        rfl
      rw [e] at z
      exact z
  | _ =>
    dsimp only [isLst]
    refine ⟨_, rfl, iteNF (iteT ?_)⟩
    walk_at "go"
    exact no rfl H (Same.refl _)
end

/-! ### a market, by the law's own walk -/
def spIsMk (K : PySem.W.Frag) : Sp := fun vs H Q _ => ∃ (v u : V) (dl dn : PyData), vs = [v, u] ∧ Dp K H v dl ∧ Dp K H u dn ∧ dOk dn = true ∧ ∀ H', Same H H' → Q (.bl (okMk dl dn)) H'
theorem use_ismk {K : PySem.W.Frag} {v u : V} {dl dn : PyData} {H : Hp} {Q : VK} {E : XK} (h1 : Dp K H v dl) (h2 : Dp K H u dn) (z : dOk dn = true) (q : ∀ H', Same H H' → Q (.bl (okMk dl dn)) H') : spIsMk K ([v, u] ++ []) H Q E := ⟨v, u, dl, dn, rfl, h1, h2, z, q⟩
/-- the signs of a text that are no letters -/
def badS (x : Str) (i : Nat) : List Str := ((x.cps.toList.take i).filter fun c => !small c).map fun c => ⟨#[c]⟩
theorem badS_none {x : Str} : badS x x.cps.size = [] ↔ x.cps.toList.all small = true := by
  unfold badS
  rw [List.take_of_length_le (by simp), List.map_eq_nil_iff, List.filter_eq_nil_iff, List.all_eq_true]
  constructor
  · intro h c hc
    have := h c hc
    simpa using this
  · intro h c hc
    rw [h c hc]
    decide
section
variable {P : Program} {w : World} {K : PySem.W.Frag} {mg : Str → Option Value} {base : Heap}
abbrev s__law_is_market : Stmt := topS 34
theorem sc__law_is_market : FnScope ["_law_last", "_law_names", "_law_seen", "_law_one", "_law_sign"] ["_law_last", "_law_names"] (defScope s__law_is_market) := ⟨rfl, rfl, rfl, by decide +kernel, rfl, by decide +kernel, by decide +kernel⟩
theorem h__law_is_market {k : Nat} {f : Addr} {fd : FuncData} (O : Own K mg "_law_is_market" s__law_is_market ["_law_last", "_law_names"] f fd)  {f__law_are_steps : Addr} {fd__law_are_steps : FuncData} (D__law_are_steps : Has P w K mg base "_law_are_steps" ["_law_steps"] k CX0 (spASt K) f__law_are_steps fd__law_are_steps) {f__law_is_count : Addr} {fd__law_is_count : FuncData} (D__law_is_count : Has P w K mg base "_law_is_count" ["_law_number_here", "_law_least", "_law_most"] k CX0 (spCCount K) f__law_is_count fd__law_is_count) (m_len : mg "len" = none) (m_isinstance : mg "isinstance" = none) (m_str : mg "str" = none) (m_tuple : mg "tuple" = none) (m_list : mg "list" = none) : Has P w K mg base "_law_is_market" ["_law_last", "_law_names"] (k + 1) CX0 (spIsMk K) f fd := by
  refine O.has (O.F.ok sc__law_is_market (fun vs H Q E h => ?_) (fun cdv A outer s H vs Q E hr h => ?_))
  · obtain ⟨v, u, dl, dn, rfl, _⟩ := h
    rfl
  obtain ⟨v, u, dl, dn, rfl, hdl, hdn, hz, q⟩ := h
  refine ⟨_, (pss_cons (ps_if (PW.pt (pw_or (pt_not (pt_val (pe_call D__law_is_count.G hr (by rfl) D__law_is_count.g D__law_is_count.k D__law_is_count.b .nil pass0 (pa_cons (pv 0) (pa_cons pe_int (pa_cons pe_int pa_nil)))))) (pw_or (pt_not (pt_val (pe_callB call_isi (by rfl) m_isinstance (by decide +kernel) (pa_cons (pv 1) (pa_cons (pe_bltn (v := .ty "list") (by rfl) m_list (by decide +kernel) rfl) pa_nil))))) (pw_or1 (pt_cmpR op_gt (pe_callB call_len_seq (by rfl) m_len (by decide +kernel) (pa_cons (pv 1) pa_nil)) pe_int (nomark _)))))) (pss_one (ps_ret pe_bl)) pss_nil) (pss_cons (ps_set (i := 2) sc__law_is_market.nd rfl (.inl rfl) (pe_lst pa_nil)) (pss_cons (ps_for PassesOwn.never rfl (pi_list (pv 1)) (pg_name (i := 3) sc__law_is_market.nd rfl (.inl rfl)) (pss_cons (ps_if (PW.pt (pw_or (pt_not (pt_val (pe_callB call_isi (by rfl) m_isinstance (by decide +kernel) (pa_cons (pv 3) (pa_cons (pe_bltn (v := .ty "tuple") (by rfl) m_tuple (by decide +kernel) rfl) pa_nil))))) (pw_or (pt_cmpR op_ne (pe_callB call_len_seq (by rfl) m_len (by decide +kernel) (pa_cons (pv 3) pa_nil)) pe_int (nomark _)) (pw_or (pt_not (pt_val (pe_callB call_isi (by rfl) m_isinstance (by decide +kernel) (pa_cons (pe_ix ix_tup (pv 3) pe_int (fun _ _ => rfl)) (pa_cons (pe_bltn (v := .ty "str") (by rfl) m_str (by decide +kernel) rfl) pa_nil))))) (pw_or1 (pt_cmpR op_in_seq (pe_ix ix_tup (pv 3) pe_int (fun _ _ => rfl)) (pv 2) (by rfl))))))) (pss_one (ps_ret pe_bl)) pss_nil) (pss_cons (ps_if (PW.pt (pw_or (pt_not (pt_chain op_le op_le pe_int (pe_callB call_len_str (by rfl) m_len (by decide +kernel) (pa_cons (pe_ix ix_tup (pv 3) pe_int (fun _ _ => rfl)) pa_nil)) pe_int)) (pw_or1 (pt_cmpR (op_neD hr.units) (pe_lc (own := [("_law_sign", 4)]) (g := gName 4) rfl sc__law_is_market.nd (pi_str (pe_ix ix_tup (pv 3) pe_int (fun _ _ => rfl))) (blkOk_by (own := [("_law_sign", 4)]) (N := ["_law_last", "_law_names", "_law_seen", "_law_one", "_law_sign"]) (sc := defScope s__law_is_market) (by decide +kernel)) (fun _ _ _ _ _ => pg_name (i := 4) sc__law_is_market.nd rfl (.inl rfl)) (fun _ _ _ _ _ => pts_one (pt_cmpR op_notIn_sign (pv 4) pe_str (by rfl))) (fun _ _ _ _ _ => (pv 4))) (pe_lst pa_nil) (nomark _))))) (pss_one (ps_ret pe_bl)) pss_nil) (pss_cons (ps_if (PW.pt (pw_or (pt_not (pt_val (pe_call D__law_is_count.G hr (by rfl) D__law_is_count.g D__law_is_count.k D__law_is_count.b .nil pass0 (pa_cons (pe_ix ix_tup (pv 3) pe_int (fun _ _ => rfl)) (pa_cons (pe_op op_sub pe_int (pe_op op_pow pe_int pe_int)) (pa_cons (pe_op op_sub (pe_op op_pow pe_int pe_int) pe_int) pa_nil)))))) (pw_or1 (pt_not (pt_val (pe_call D__law_are_steps.G hr (by rfl) D__law_are_steps.g D__law_are_steps.k D__law_are_steps.b .nil pass0 (pa_cons (pe_ix ix_tup (pv 3) pe_int (fun _ _ => rfl)) pa_nil))))))) (pss_one (ps_ret pe_bl)) pss_nil) (pss_one (ps_expr (pe_bm PySem.F.plainAttrs_list PySem.F.slot_list_append PySem.F.type_list_append mt_append (pv 2) (pa_cons (pe_ix ix_tup (pv 3) pe_int (fun _ _ => rfl)) pa_nil)))))))) (pss_one (ps_ret pe_bl))))), ?_⟩
  have no : okMk dl dn = false → ∀ H', Same H H' → Q (.bl false) H' := fun e H' s => by
    have z := q H' s
    rw [e] at z
    exact z
  walk_at "go"
  refine use_ccount hdl ?_
  refine ⟨_, rfl, ifn (fun c1 => ?_) (fun c1 => ?_)⟩
  rotate_left
  · walk_at "go"
    exact no (by unfold okMk; rw [c1]; rfl) H (Same.refl H)
  walk_at "go"
  refine use_isLst hdn ?_
  cases hdn with
  | @lst a vs ds ha hall =>
    have hl := DpAll.len hall
    have hno : okNames (.list ds) = false → okMk dl (.list ds) = false := fun e => by unfold okMk; rw [e, Bool.and_false]
    have szd := dok_lst.mp hz
    dsimp only [isLst]
    refine ⟨_, rfl, iteNT ?_⟩
    walk_at "go"
    refine ⟨_, _, rfl, .inl ha, ?_⟩
    walk_at "go"
    refine ifd (fun c2 => ?_) (fun c2 => ?_)
    · walk_at "go"
      refine no (hno ?_) H (Same.refl H)
      dsimp only [okNames]
      rw [decide_eq_false (show ¬ ds.length ≤ 3 by omega)]
      rfl
    walk_at "go"
    refine ⟨by show 0 ≤ sizeLine; decide, fun S nS => ?_⟩
    have s1 := same_new (o := .lst []) nS
    walk_at "go"
    refine ⟨⟨_, s1.seq ha⟩, for_list (xs := vs) (fun i σ H3 => ∃ y, σ = [some v, some (.ref a), some (.ref S), y, none] ∧ H3 S = some (.lst (((ds.take i).map wordOf).map V.str)) ∧ Same H H3 ∧ (ds.take i).all okName = true ∧ ((ds.take i).map wordOf).Nodup) ⟨none, rfl, upd_same, s1, rfl, List.nodup_nil⟩ (fun i σ H3 _ hW => ?_) (fun i x σ H3 hx hW => ?_) (fun σ H3 hW => ?_)⟩
    · obtain ⟨y, rfl, _, e, _⟩ := hW
      exact e.seq ha
    · obtain ⟨y, rfl, hS, e3, al, nd⟩ := hW
      have hi : i < ds.length := by have := (List.getElem?_eq_some_iff.mp hx).1; omega
      have hdi : ds[i]? = some ds[i] := List.getElem?_eq_getElem hi
      obtain ⟨x', hx', hD⟩ := DpAll.at hall hdi
      obtain rfl : x' = x := Option.some.inj (hx'.symm.trans hx)
      have hni : okName ds[i] = false → okMk dl (.list ds) = false := fun e => hno (by
        dsimp only [okNames]
        rw [all_no hdi e]
        simp)
      have hdup : wordOf ds[i] ∈ (ds.take i).map wordOf → okMk dl (.list ds) = false := fun m => hno (by
        have nn : ¬ (ds.map wordOf).Nodup := fun z => by
          obtain ⟨d', hd', e⟩ := List.mem_map.mp m
          obtain ⟨j, hj, ej⟩ := List.mem_take_iff_getElem.mp hd'
          have ne := List.pairwise_iff_getElem.mp z j i (by rw [List.length_map]; omega) (by rw [List.length_map]; exact hi) (by omega)
          simp only [List.getElem_map] at ne
          exact ne (by rw [ej, e])
        dsimp only [okNames]
        rw [decide_eq_false nn]
        simp)
      have yes := fun e => all_take (f := okName) hdi e al
      have tk := take_map_snoc (f := wordOf) hdi
      have dki := List.all_eq_true.mp szd _ (List.getElem_mem hi)
      generalize ds[i] = di at hD hni hdup yes tk dki
      replace hD := Dp.dm (.of e3) hD
      walk_at "go"
      refine use_isTup hD ?_
      cases hD with
      | @tup b us es hb he =>
        dsimp only [isTup]
        refine ⟨_, rfl, iteNT ?_⟩
        walk_at "go"
        refine ⟨_, _, rfl, .inr hb, ?_⟩
        walk_at "go"
        have le := DpAll.len he
        refine ifdn (fun c3 => ?_) (fun c3 => ?_)
        rotate_left
        · walk_at "go"
          refine no (hni ?_) _ e3
          unfold okName
          split
          · rename_i u v w e
            obtain rfl : es = [u, v, w] := by injection e
            exact absurd (show (us.length : Int) = 3 by rw [le]; rfl) c3
          · rfl
        obtain ⟨n, m, o, rfl⟩ : ∃ n m o, us = [n, m, o] := by
          match us, (show us.length = 3 by have := c3; omega) with
          | [n, m, o], _ => exact ⟨n, m, o, rfl⟩
        cases he with
        | @cons _ _ d1 _ h1 he =>
        cases he with
        | @cons _ _ d2 _ h2 he =>
        cases he with
        | @cons _ _ d3 _ h3 he =>
        cases he
        have e1 : okName (.tuple [d1, d2, d3]) = (isW' d1 && (amt d2 && okSteps d3)) := rfl
        have dk1 : dOk d1 = true := List.all_eq_true.mp (dok_tup.mp dki) d1 List.mem_cons_self
        walk_at "go"
        refine ⟨_, _, _, _, rfl, rfl, hb, at_any (j := 0) rfl rfl, ?_⟩
        walk_at "go"
        refine use_isStr h1 ?_
        cases h1 with
        | str w =>
          dsimp only [isStr]
          refine ⟨_, rfl, iteNT ?_⟩
          walk_at "go"
          refine ⟨_, _, _, _, rfl, rfl, hb, at_any (j := 0) rfl rfl, ?_⟩
          walk_at "go"
          refine ⟨S, _, rfl, .inl (sql hS), rfl, by rw [List.all_map]; exact List.all_eq_true.mpr fun _ _ => rfl, ?_⟩
          rw [if_neg Bool.false_ne_true, inV_strL]
          refine ⟨_, rfl, ifd (fun c4 => ?_) (fun c4 => ?_)⟩
          · walk_at "go"
            exact no (hdup c4) _ e3
          have wl : w.length ≤ 1000 := of_decide_eq_true (dok_sz dk1)
          have ws : PyData.strOk w = true := dok_s dk1
          have ew : isW' (.str w) = (decide (1 ≤ w.length) && (decide (w.length ≤ 8) && w.cps.toList.all small)) := rfl
          walk_at "go"
          refine ⟨_, _, _, _, rfl, rfl, hb, at_any (j := 0) rfl rfl, ?_⟩
          walk_at "go"
          refine ⟨Nat.le_trans wl (by decide), ?_⟩
          walk_at "go"
          refine ifd (fun c5 => ?_) (fun c5 => ?_)
          rotate_left
          · walk_at "go"
            exact no (hni (by rw [e1, ew, decide_eq_false (show ¬ 1 ≤ w.length by omega)]; rfl)) _ e3
          walk_at "go"
          refine ifdn (fun c6 => ?_) (fun c6 => ?_)
          rotate_left
          · walk_at "go"
            exact no (hni (by rw [e1, ew, decide_eq_false (show ¬ w.length ≤ 8 by omega)]; simp)) _ e3
          walk_at "go"
          refine g_istr ?_
          walk_at "go"
          refine ⟨_, _, _, _, rfl, rfl, hb, at_any (j := 0) rfl rfl, ?_⟩
          walk_at "go"
          refine fun D nD => lc_it walk_str (fun k H4 => H4 D = some (.lst ((badS w k).map V.str)) ∧ Same H3 H4) ⟨by rw [upd_same]; rfl, same_new nD⟩ (fun _ _ _ _ => trivial) (fun k y H4 H5 hk hW hy => ?_) (fun H4 hW => ?_)
          · obtain ⟨rfl, cc, hcc, rfl⟩ := hy
            obtain ⟨hD, e4⟩ := hW
            have hl4 : k < w.cps.toList.length := by simpa using hk
            have hce : w.cps.toList[k] = cc := by
              have : w.cps.toList[k]? = some cc := by rw [Array.getElem?_toList]; exact hcc
              rw [List.getElem?_eq_getElem hl4] at this
              exact Option.some.inj this
            have bs : badS w (k + 1) = badS w k ++ (if small cc = true then [] else [(⟨#[cc]⟩ : Str)]) := by
              unfold badS
              rw [List.take_succ_eq_append_getElem hl4, List.filter_append, List.map_append, hce]
              congr 1
              by_cases h : small cc = true
              · rw [if_pos h]
                simp [h]
              · rw [if_neg h]
                simp [h]
            walk_at "go"
            have dc : decide (cc ∈ (Str.ofString "abcdefghijklmnopqrstuvwxyz").cps.toList) = small cc := in_letters cc
            rw [dc, bs]
            by_cases hs : small cc = true
            · rw [hs, if_neg (by decide), if_pos rfl, List.append_nil]
              exact ⟨hD, e4⟩
            · rw [Bool.not_eq_true] at hs
              rw [hs, if_pos (by decide), if_neg (by decide)]
              refine ⟨_, rfl, _, hD, ?_, by rw [upd_same, List.map_append]; rfl, fun b o h => by rw [upd_ne (ne_of_none h nD)]; exact e4 _ _ h⟩
              have f1 : (badS w k).length ≤ k := by
                unfold badS
                rw [List.length_map]
                exact Nat.le_trans (List.length_filter_le _ _) (by rw [List.length_take]; omega)
              have : (1000 : Nat) < sizeLine := by decide
              have : w.cps.size = w.length := rfl
              rw [List.length_map]
              omega
          obtain ⟨hD, e4⟩ := hW
          have okb : ∀ x ∈ badS w w.cps.size, PyData.strOk x = true := fun x hx => by
            unfold badS at hx
            obtain ⟨cc, hcc, rfl⟩ := List.mem_map.mp hx
            have hm := List.mem_of_mem_take (List.mem_filter.mp hcc).1
            unfold PyData.strOk at ws ⊢
            rw [Array.all_eq_true_iff_forall_mem] at ws ⊢
            intro c hc
            rw [List.mem_toArray, List.mem_singleton] at hc
            subst hc
            exact ws _ (by simpa using hm)
          walk_at "go"
          refine ⟨by show 0 ≤ sizeLine; decide, fun Z nZ => ?_⟩
          walk_at "go"
          have e5 : Same H3 (upd H4 Z (.lst [])) := e4.trans (same_new nZ)
          have hD5 : upd H4 Z (HO.lst []) D = some (.lst ((badS w w.cps.size).map V.str)) := (same_new nZ) _ _ hD
          have nn : Dp K (upd H4 Z (HO.lst [])) (.ref Z) (.list (([] : List Str).map PyData.str)) := .lst (sql upd_same) .nil
          refine ⟨_, _, .lst (sql hD5) (dpAll_strs _), nn, strs_shapedS okb, strs_shapedS (fun _ h => absurd h List.not_mem_nil), ?_⟩
          rw [eqv_strs]
          refine ⟨_, rfl, ifdn (fun c7 => ?_) (fun c7 => ?_)⟩
          rotate_left
          · walk_at "go"
            exact no (hni (by rw [e1, ew, show w.cps.toList.all small = false from Bool.eq_false_iff.mpr fun z => c7 (badS_none.mpr z)]; simp)) _ (e3.trans e5)
          have iw : isW' (.str w) = true := by
            rw [ew, badS_none.mp c7, decide_eq_true (show 1 ≤ w.length by omega), decide_eq_true (show w.length ≤ 8 by omega)]
            rfl
          replace h2 := Dp.dm (.of e5) h2
          replace h3 := Dp.dm (.of e5) h3
          replace hb := SqT.same e5 hb
          have e6 := e3.trans e5
          have hS6 := e5 _ _ hS
          generalize upd H4 Z (HO.lst []) = H6 at h2 h3 hb e6 hS6 ⊢
          have iwb : okName (.tuple [.str w, d2, d3]) = (amt d2 && okSteps d3) := by rw [e1, iw]; rfl
          walk_at "go"
          refine ⟨_, _, _, _, rfl, rfl, hb, at_any (j := 1) rfl rfl, ?_⟩
          walk_at "go"
          refine g_I ⟨by decide, by decide, by decide⟩ ?_
          walk_at "go"
          refine g_I ⟨by decide, by decide, by decide⟩ ?_
          walk_at "go"
          have e10 : (10 : Int) ^ (12 : Int).toNat = 1000000000000 := by decide
          rw [e10]
          refine use_ccount h2 ?_
          have ea : inB (1 - 1000000000000) (1000000000000 - 1) d2 = amt d2 := rfl
          rw [ea]
          refine ⟨_, rfl, ifn (fun c8 => ?_) (fun c8 => ?_)⟩
          rotate_left
          · walk_at "go"
            exact no (hni (by rw [iwb, c8]; rfl)) _ e6
          walk_at "go"
          refine ⟨_, _, _, _, rfl, rfl, hb, at_any (j := 2) rfl rfl, ?_⟩
          walk_at "go"
          refine use_ast h3 fun H7 e7 => ?_
          refine ⟨_, rfl, ifn (fun c9 => ?_) (fun c9 => ?_)⟩
          rotate_left
          · walk_at "go"
            exact no (hni (by rw [iwb, c9]; simp)) _ (e6.trans e7)
          replace hb := SqT.same e7 hb
          replace hS6 := e7 _ _ hS6
          replace e6 := e6.trans e7
          walk_at "go"
          refine ⟨.inl ⟨rfl, _, sql hS6⟩, ?_⟩
          walk_at "go"
          refine ⟨_, _, _, _, rfl, rfl, hb, at_any (j := 0) rfl rfl, ?_⟩
          walk_at "go"
          refine ⟨S, _, _, rfl, rfl, hS6, by rw [List.length_map, List.length_map, List.length_take]; exact small1000 (by omega), ?_⟩
          refine ⟨_, rfl, ?_, fun q o h => by rw [upd_ne (ne_of_none h nS)]; exact e6 _ _ h, yes (by rw [iwb, c8, c9]; rfl), ?_⟩
          · rw [upd_same, tk, List.map_append]
            rfl
          · rw [tk]
            exact List.nodup_append.mpr ⟨nd, by simp, fun a ha b hb => by
              rw [List.mem_singleton.mp hb]
              exact fun e => c4 (by have e : a = w := e; rw [← e]; exact ha)⟩
        | _ =>
          dsimp only [isStr]
          refine ⟨_, rfl, iteNF (iteT ?_)⟩
          walk_at "go"
          exact no (hni (by rw [e1]; rfl)) _ e3
      | _ =>
        dsimp only [isTup]
        refine ⟨_, rfl, iteNF (iteT ?_)⟩
        walk_at "go"
        exact no (hni rfl) _ e3
    · obtain ⟨y, rfl, hS, e3, al, nd⟩ := hW
      rw [List.take_of_length_le (by omega)] at al nd
      walk_at "go"
      have z := q H3 e3
      have e : okMk dl (.list ds) = true := by
        have e2 : okNames (.list ds) = true := by
          dsimp only [okNames]
          rw [al, decide_eq_true nd, decide_eq_true (show ds.length ≤ 3 by omega)]
          rfl
        unfold okMk
        rw [c1, e2]
        rfl
      rw [e] at z
      exact z
  | _ =>
    dsimp only [isLst]
    refine ⟨_, rfl, iteNF (iteT ?_)⟩
    walk_at "go"
    exact no (by unfold okMk; rw [show okNames _ = false from rfl, Bool.and_false]) H (Same.refl _)
end

/-! ### what was laid since -/
theorem call_isiK {X : Cx} {K : PySem.W.Frag} (h : X.K = K) : CallR X (.builtin "isinstance") (rIsi K) := by
  subst h
  exact call_isi
def flatD : PyData → Bool
  | .none => true
  | .bool _ => true
  | .int _ => true
  | .str _ => true
  | _ => false
theorem flat_dp {K : PySem.W.Frag} {H : Hp} {v : V} {d : PyData} (h : Dp K H v d) (f : flatD d = true) : ∀ Hx, Dp K Hx v d := fun Hx => by
  cases h with
  | int i => exact .int i
  | bl b => exact .bl b
  | str x => exact .str x
  | non => exact .non
  | _ => cases f
/-- a tuple begins with a flat thing -/
def hdF : PyData → Bool
  | .tuple [] => false
  | .tuple (x :: _) => flatD x
  | _ => true
/-- the part of a heap that an earlier one did not hold -/
def nw (H0 H : Hp) : Hp := fun b => if (H0 b).isNone = true then H b else none
theorem nw_sub {H0 H : Hp} : Same (nw H0 H) H := fun b o h => by
  unfold nw at h
  split at h
  · exact h
  · cases h
theorem nw_mono {H0 H1 H : Hp} (m : ∀ b, H1 b = none → H0 b = none) : Same (nw H1 H) (nw H0 H) := fun b o h => by
  unfold nw at h ⊢
  split at h
  · rename_i c
    rw [if_pos (by rw [m b (Option.isNone_iff_eq_none.mp c)]; rfl)]
    exact h
  · cases h
theorem nw_same {H0 H H' : Hp} (e : Same H H') : Same (nw H0 H) (nw H0 H') := fun b o h => by
  unfold nw at h ⊢
  split at h
  · rename_i c
    rw [if_pos c]
    exact e _ _ h
  · cases h
theorem nw_kb {s : Addr} {o : HO} {H0 H H' : Hp} (e : KB s H H') (hs : H0 s = some o) : Same (nw H0 H) (nw H0 H') := fun b o' h => by
  unfold nw at h ⊢
  split at h
  · rename_i c
    rw [if_pos c]
    exact e _ _ (fun z => by rw [z, hs] at c; cases c) h
  · cases h
theorem nw_upd {p : Addr} {H0 H : Hp} {o o' : HO} (h : H0 p = some o') : nw H0 (upd H p o) = nw H0 H := funext fun b => by
  unfold nw
  split
  · rename_i c
    exact upd_ne fun z => by rw [z, h] at c; cases c
  · rfl
theorem nw_at {p : Addr} {H0 H : Hp} (h : H0 p = none) : nw H0 H p = H p := if_pos (by rw [h]; rfl)
theorem nw_sqt {K : PySem.W.Frag} {p : Addr} {H0 H : Hp} {vs : List V} (h : H0 p = none) (e : H p = some (.tup vs)) : SqT K (nw H0 H) p vs := sqt ((nw_at h).trans e)
theorem nw_sql {K : PySem.W.Frag} {p : Addr} {H0 H : Hp} {vs : List V} (h : H0 p = none) (e : H p = some (.lst vs)) : SqL K (nw H0 H) p vs := sql ((nw_at h).trans e)
theorem LS.older {K : PySem.W.Frag} {c : Cfg} {ns : List Int} {xs : List Str} {s na nm : Addr} {H H' : Hp} (e : KB s H H') (L' : LS K c ns xs s na nm H') {p : Addr} (n : H' p = none) : H p = none := by
  cases h : H p with
  | none => rfl
  | some o' =>
    by_cases z : p = s
    · subst z
      obtain ⟨_, _, _, h', _⟩ := L'.st
      rw [h'] at n
      cases n
    · rw [e _ _ z h] at n
      cases n
/-- a list of drawn things, being filled -/
structure G9 (K : PySem.W.Frag) (c : Cfg) (ns : List Int) (xs : List Str) (s na nm T : Addr) (H0 Hb : Hp) (vs : List V) (ds : List PyData) (H : Hp) : Prop where
  at_ : H T = some (.lst vs)
  ls : LS K c ns xs s na nm (er T H)
  kb : KB s H0 H
  dp : DpAll K (nw Hb H) vs ds
  ok : ds.all dOk = true
  hd : ds.all hdF = true
  hT : ∃ o, Hb T = some o
  hs : ∃ o, Hb s = some o
  nT : H0 T = none
  sT : T ≠ s
  old : ∀ b, H b = none → Hb b = none
  old0 : ∀ b, Hb b = none → H0 b = none
section
variable {K : PySem.W.Frag} {c : Cfg} {ns : List Int} {xs : List Str} {s na nm T : Addr} {H0 Hb H H' : Hp} {vs : List V} {ds : List PyData}
theorem G9.start (L : LS K c ns xs s na nm H0) (n : H0 T = none) : G9 K c ns xs s na nm T H0 (upd H0 T (.lst [])) [] [] (upd H0 T (.lst [])) := by
  obtain ⟨_, _, _, hs, _⟩ := L.st
  have ne : T ≠ s := fun z => by rw [z, hs] at n; cases n
  refine ⟨upd_same, ?_, .of (same_new n), .nil, rfl, rfl, ⟨_, upd_same⟩, ⟨_, (same_new n) _ _ hs⟩, n, ne, fun _ h => h, fun b h => ?_⟩
  · rw [er_upd, er_new n]
    exact L
  · cases e : H0 b with
    | none => rfl
    | some o => rw [(same_new n) _ _ e] at h; cases h
theorem G9.L (g : G9 K c ns xs s na nm T H0 Hb vs ds H) : LS K c ns xs s na nm H := g.ls.same er_sub
theorem G9.move (g : G9 K c ns xs s na nm T H0 Hb vs ds H) (e : KB s H H') (L' : LS K c ns xs s na nm H') : G9 K c ns xs s na nm T H0 Hb vs ds H' := by
  obtain ⟨o, hs⟩ := g.hs
  exact ⟨e _ _ g.sT g.at_, g.ls.er e L', g.kb.trans e, DpAll.dm (.of (nw_kb e hs)) g.dp, g.ok, g.hd, g.hT, g.hs, g.nT, g.sT, fun b h => g.old b (L'.older e h), g.old0⟩
theorem G9.same (g : G9 K c ns xs s na nm T H0 Hb vs ds H) (e : Same H H') : G9 K c ns xs s na nm T H0 Hb vs ds H' := g.move (.of e) (g.L.same e)
theorem G9.push {v : V} {d : PyData} (g : G9 K c ns xs s na nm T H0 Hb vs ds H) (hv : Dp K (nw Hb H) v d) (hk : dOk d = true) (hh : hdF d = true) : G9 K c ns xs s na nm T H0 Hb (vs ++ [v]) (ds ++ [d]) (upd H T (.lst (vs ++ [v]))) := by
  obtain ⟨o, hT⟩ := g.hT
  have e : nw Hb (upd H T (.lst (vs ++ [v]))) = nw Hb H := nw_upd hT
  refine ⟨upd_same, ?_, fun b o' n h => ?_, ?_, by rw [List.all_append, g.ok]; simp [hk], by rw [List.all_append, g.hd]; simp [hh], g.hT, g.hs, g.nT, g.sT, fun b h => ?_, g.old0⟩
  · rw [er_upd]
    exact g.ls
  · rw [upd_ne (fun z => by rw [z, g.nT] at h; cases h)]
    exact g.kb _ _ n h
  · rw [e]
    exact DpAll.app g.dp (.cons hv .nil)
  · by_cases z : b = T
    · rw [z, upd_same] at h
      cases h
    · rw [upd_ne z] at h
      exact g.old b h
/-- what stands new in the heap is new since -/
theorem G9.new {p : Addr} (g : G9 K c ns xs s na nm T H0 Hb vs ds H) (n : H p = none) : Hb p = none := g.old p n
theorem G9.dpH (g : G9 K c ns xs s na nm T H0 Hb vs ds H) : DpAll K H vs ds := DpAll.dm (.of nw_sub) g.dp
end
/-- flat data is handed back -/
def KF (K : PySem.W.Frag) (c : Cfg) (ns : List Int) (xs : List Str) (s na nm : Addr) (H : Hp) (Q : VK) : Prop := ∀ (v : V) (d : PyData) (H' : Hp), KB s H H' → LS K c ns xs s na nm H' → (∀ Hx, Dp K Hx v d) → flatD d = true → dOk d = true → Q v H'
def spLCnt (K : PySem.W.Frag) : Sp := fun vs H Q _ => ∃ (c : Cfg) (ns : List Int) (xs : List Str) (s na nm : Addr) (o lo hi : Int), vs = [.ref s, .int lo, .int hi] ∧ LS K c ns xs s na nm H ∧ c.od = some o ∧ lo ≤ hi ∧ 0 ≤ lo ∧ hi ≤ 1000 ∧ KF K c ns xs s na nm H Q
theorem use_lcnt {K : PySem.W.Frag} {c : Cfg} {ns : List Int} {xs : List Str} {s na nm : Addr} {o lo hi : Int} {H : Hp} {Q : VK} {E : XK} (L : LS K c ns xs s na nm H) (ho : c.od = some o) (h0 : lo ≤ hi) (h1 : 0 ≤ lo) (h2 : hi ≤ 1000) (q : KF K c ns xs s na nm H Q) : spLCnt K ([.ref s, .int lo, .int hi] ++ []) H Q E := ⟨c, ns, xs, s, na, nm, o, lo, hi, rfl, L, ho, h0, h1, h2, q⟩
/-- a flat item of a list that was laid ahead, one that is drawn -/
theorem pick_flat {K : PySem.W.Frag} {zs : List V} {ds : List PyData} {p : Addr} {H H1 : Hp} {r : Int} {Q : VK} (hp : H p = some (.lst zs)) (hd : DpAll K H1 zs ds) (ha : ds.all dOk = true) (hf : ds.all flatD = true) (r0 : 0 ≤ r) (r1 : r < ds.length) (q : ∀ v d, (∀ Hx, Dp K Hx v d) → flatD d = true → dOk d = true → Q v H) : rIxL K (.ref p) (.int r) H Q := by
  have hi : r.toNat < ds.length := by omega
  obtain ⟨v, hv, h⟩ := DpAll.at hd (List.getElem?_eq_getElem hi)
  have fl := List.all_eq_true.mp hf _ (List.getElem_mem hi)
  exact ⟨_, _, _, _, rfl, rfl, sql hp, at_any (j := r.toNat) (by omega) hv, q v _ (flat_dp h fl) fl (List.all_eq_true.mp ha _ (List.getElem_mem hi))⟩
def G12 (a b : PyData) : Env4
  | 1 => some a
  | 2 => some b
  | _ => none
theorem G12.ok {K : PySem.W.Frag} {a b : PyData} {x y : V} {z : Option V} {r : L2.St} {H : Hp} (ha : Dp K H x a) (hb : Dp K H y b) : SlotsOk K (G12 a b) (z :: some x :: some y :: r) H := by
  intro i d h
  match i, h with
  | 1, h => cases h; exact ⟨_, rfl, ha⟩
  | 2, h => cases h; exact ⟨_, rfl, hb⟩
section
variable {P : Program} {w : World} {K : PySem.W.Frag} {mg : Str → Option Value} {base : Heap}
abbrev s__law_loose_count : Stmt := topS 29
theorem sc__law_loose_count : FnScope ["_law_s", "_law_least", "_law_most"] ["_law_s", "_law_least", "_law_most"] (defScope s__law_loose_count) := ⟨rfl, rfl, rfl, by decide +kernel, rfl, by decide +kernel, by decide +kernel⟩
theorem h__law_loose_count {k : Nat} {f : Addr} {fd : FuncData} (O : Own K mg "_law_loose_count" s__law_loose_count ["_law_s", "_law_least", "_law_most"] f fd)  {f__law_taken : Addr} {fd__law_taken : FuncData} (D__law_taken : Has P w K mg base "_law_taken" ["_law_s", "_law_most"] k CX0 (spTaken K) f__law_taken fd__law_taken) {f__law_amiss : Addr} {fd__law_amiss : FuncData} (D__law_amiss : Has P w K mg base "_law_amiss" ["_law_s"] k CX0 (spAmiss K) f__law_amiss fd__law_amiss) : Has P w K mg base "_law_loose_count" ["_law_s", "_law_least", "_law_most"] (k + 1) CX0 (spLCnt K) f fd := by
  refine O.has (O.F.ok sc__law_loose_count (fun vs H Q E h => ?_) (fun cdv A outer s H vs Q E hr h => ?_))
  · obtain ⟨c, ns, xs, s, na, nm, o, lo, hi, rfl, _⟩ := h
    rfl
  obtain ⟨c, ns, xs, s, na, nm, o, lo, hi, rfl, L, ho, h0, h1, h2, q⟩ := h
  refine ⟨_, (pss_cons (ps_if (pt_val (pe_call D__law_amiss.G hr (by rfl) D__law_amiss.g D__law_amiss.k D__law_amiss.b .nil pass0 (pa_cons (pv 0) pa_nil))) (pss_one (ps_ret (pe_ix ix_list (pe_lst (pa_cons (pe_op op_sub (pv 1) pe_int) (pa_cons (pe_op op_add (pv 2) pe_int) (pa_cons pe_bl (pa_cons pe_non (pa_cons pe_str (pa_cons (pe_op op_add (pv 2) pe_int) pa_nil))))))) (pe_call D__law_taken.G hr (by rfl) D__law_taken.g D__law_taken.k D__law_taken.b .nil pass0 (pa_cons (pv 0) (pa_cons pe_int pa_nil))) (fun _ _ => rfl)))) pss_nil) (pss_one (ps_ret (pe_ix ix_list (pe_lst (pa_cons (pv 1) (pa_cons (pv 2) (pa_cons (pe_op op_add (pv 1) (pe_call D__law_taken.G hr (by rfl) D__law_taken.g D__law_taken.k D__law_taken.b .nil pass0 (pa_cons (pv 0) (pa_cons (pe_op op_add (pe_op op_sub (pv 2) (pv 1)) pe_int) pa_nil)))) (pa_cons pe_int pa_nil))))) (pe_call D__law_taken.G hr (by rfl) D__law_taken.g D__law_taken.k D__law_taken.b .nil pass0 (pa_cons (pv 0) (pa_cons pe_int pa_nil))) (fun _ _ => rfl))))), ?_⟩
  walk_at "go"
  refine use_amiss L ho fun b H1 e1 L1 => ?_
  refine ⟨_, rfl, ifb (fun _ => ?_) (fun _ => ?_)⟩
  · with_reducible refine g_ret ?_
    with_reducible refine g_op ?_
    refine ev_lst (K := K) (Γ := G12 (.int lo) (.int hi)) (ds := [.int (lo - 1), .int (hi + 1), .bool true, .none, .str "1", .int (hi + 900)]) (by walk_at "ev") (Nat.le_of_ble_eq_true rfl) (G12.ok (.int _) (.int _)) fun p zs H2 e2 n2 d2 => ?_
    have sn := e2.trans (same_new (o := .lst zs) n2)
    have L2 := L1.same sn
    walk_at "go"
    refine use_taken L2 (by decide) (by decide) fun r H3 r0 r1 e3 L3 => ?_
    exact pick_flat (L2.keepl e3 upd_same) d2 (by simp [dOk, szOk, sOk]; decide +kernel) rfl r0 r1 fun v d hd hf hz => q v d _ ((e1.trans (.of sn)).trans e3) L3 hd hf hz
  · walk_at "go"
    refine use_taken L1 (by omega) (by omega) fun r H2 r0 r1 e2 L2 => ?_
    walk_at "go"
    refine ⟨by show 4 ≤ sizeLine; decide, fun p np => ?_⟩
    have sn := same_new (o := .lst [.int lo, .int hi, .int (lo + r), .int 1]) np
    have L3 := L2.same sn
    walk_at "go"
    refine use_taken L3 (by decide) (by decide) fun j H4 j0 j1 e4 L4 => ?_
    exact pick_flat (ds := [.int lo, .int hi, .int (lo + r), .int 1]) (H1 := H4) (L3.keepl e4 upd_same) (.cons (.int _) (.cons (.int _) (.cons (.int _) (.cons (.int _) .nil)))) (by simp [dOk, szOk, sOk]) rfl j0 j1 fun v d hd hf hz => q v d _ (((e1.trans e2).trans (.of sn)).trans e4) L4 hd hf hz
end

theorem pick2i {i : Int} (x y : V) (h0 : 0 ≤ i) (h1 : i < 2) : atI [x, y] i = some x ∨ atI [x, y] i = some y := by
  have : i = 0 ∨ i = 1 := by omega
  rcases this with rfl | rfl
  · exact .inl (at_any (j := 0) rfl rfl)
  · exact .inr (at_any (j := 1) rfl rfl)
/-- a tuple told by two tuples put together -/
theorem cat2 {K : PySem.W.Frag} {H : Hp} {Q : VK} {a b : Addr} {xs ys : List V} (h1 : SqT K H a xs) (h2 : SqT K H b ys) (n1 : xs ≠ []) (n2 : ys ≠ []) (hl : xs.length + ys.length ≤ 1000) (q : ∀ p, H p = none → Q (.ref p) (upd H p (.tup (xs ++ ys)))) :
    rCatA K (.ref a) (.ref b) H Q := ⟨a, b, xs, ys, rfl, rfl, h1, h2, sz hl, fun z => absurd z n1, fun _ z => absurd z n2, fun _ _ => q⟩

/-! ### loose steps -/
def spLSteps (K : PySem.W.Frag) : Sp := fun vs H Q _ => ∃ (c : Cfg) (ns : List Int) (xs : List Str) (s na nm : Addr) (o : Int), vs = [.ref s] ∧ LS K c ns xs s na nm H ∧ c.od = some o ∧
  ∀ (v : V) (d : PyData) (H' : Hp), KB s H H' → LS K c ns xs s na nm H' → Dp K (nw H H') v d → dOk d = true → Q v H'
theorem use_lsteps {K : PySem.W.Frag} {c : Cfg} {ns : List Int} {xs : List Str} {s na nm : Addr} {o : Int} {H : Hp} {Q : VK} {E : XK} (L : LS K c ns xs s na nm H) (ho : c.od = some o)
    (q : ∀ (v : V) (d : PyData) (H' : Hp), KB s H H' → LS K c ns xs s na nm H' → Dp K (nw H H') v d → dOk d = true → Q v H') : spLSteps K ([.ref s] ++ []) H Q E := ⟨c, ns, xs, s, na, nm, o, rfl, L, ho, q⟩
section
variable {P : Program} {w : World} {K : PySem.W.Frag} {mg : Str → Option Value} {base : Heap}
abbrev s__law_loose_steps : Stmt := topS 30
theorem sc__law_loose_steps : FnScope ["_law_s", "_law_steps", "_law_many", "_law_k", "_law_by", "_law_step", "_law_earlier", "_law_one"] ["_law_s"] (defScope s__law_loose_steps) := ⟨rfl, rfl, rfl, by decide +kernel, rfl, by decide +kernel, by decide +kernel⟩
theorem h__law_loose_steps {k : Nat} {f : Addr} {fd : FuncData} (O : Own K mg "_law_loose_steps" s__law_loose_steps ["_law_s"] f fd)  {f__law_amiss : Addr} {fd__law_amiss : FuncData} (D__law_amiss : Has P w K mg base "_law_amiss" ["_law_s"] k CX0 (spAmiss K) f__law_amiss fd__law_amiss) {f__law_taken : Addr} {fd__law_taken : FuncData} (D__law_taken : Has P w K mg base "_law_taken" ["_law_s", "_law_most"] k CX0 (spTaken K) f__law_taken fd__law_taken) {f__law_loose_count : Addr} {fd__law_loose_count : FuncData} (D__law_loose_count : Has P w K mg base "_law_loose_count" ["_law_s", "_law_least", "_law_most"] k CX0 (spLCnt K) f__law_loose_count fd__law_loose_count) (m_tuple : mg "tuple" = none) (m_range : mg "range" = none) (m_list : mg "list" = none) (m_len : mg "len" = none) (m_isinstance : mg "isinstance" = none) : Has P w K mg base "_law_loose_steps" ["_law_s"] (k + 1) CX0 (spLSteps K) f fd := by
  refine O.has (O.F.ok sc__law_loose_steps (fun vs H Q E h => ?_) (fun cdv A outer s H vs Q E hr h => ?_))
  · obtain ⟨c, ns, xs, s, na, nm, o, rfl, _⟩ := h
    rfl
  obtain ⟨c, ns, xs, s, na, nm, o, rfl, L, ho, q⟩ := h
  refine ⟨_, (pss_cons (ps_set (i := 1) sc__law_loose_steps.nd rfl (.inl rfl) (pe_lst pa_nil)) (Evl.pss_cut (ps_set (i := 2) sc__law_loose_steps.nd rfl (.inl rfl) (pe_ifExp (pt_not (pt_val (pe_call D__law_amiss.G hr (by rfl) D__law_amiss.g D__law_amiss.k D__law_amiss.b .nil pass0 (pa_cons (pv 0) pa_nil)))) (pe_op op_add pe_int (pe_call D__law_taken.G hr (by rfl) D__law_taken.g D__law_taken.k D__law_taken.b .nil pass0 (pa_cons (pv 0) (pa_cons pe_int pa_nil)))) (pe_ix ix_list (pe_lst (pa_cons pe_int (pa_cons pe_int pa_nil))) (pe_call D__law_taken.G hr (by rfl) D__law_taken.g D__law_taken.k D__law_taken.b .nil pass0 (pa_cons (pv 0) (pa_cons pe_int pa_nil))) (fun _ _ => rfl)))) (pss_cons (ps_for PassesOwn.never rfl (pi_range1 (by rfl) m_range (pa_cons (pv 2) pa_nil)) (pg_name (i := 3) sc__law_loose_steps.nd rfl (.inl rfl)) (pss_cons (ps_set (i := 4) sc__law_loose_steps.nd rfl (.inl rfl) (pe_ix ix_list (pe_lst (pa_cons (pv 3) (pa_cons (pe_op op_sub (pv 3) pe_int) (pa_cons (pe_op op_mul (pe_op op_sub (pv 3) pe_int) (pe_op op_sub (pe_op op_pow pe_int pe_int) pe_int)) (pa_cons (pe_op op_add (pe_op op_mul (pe_call D__law_taken.G hr (by rfl) D__law_taken.g D__law_taken.k D__law_taken.b .nil pass0 (pa_cons (pv 0) (pa_cons (pe_op op_pow pe_int pe_int) pa_nil))) pe_int) (pv 3)) pa_nil))))) (pe_call D__law_taken.G hr (by rfl) D__law_taken.g D__law_taken.k D__law_taken.b .nil pass0 (pa_cons (pv 0) (pa_cons pe_int pa_nil))) (fun _ _ => rfl))) (Evl.pss_cut (ps_if (pt_cmpR op_eq (pv 3) pe_int (nomark _)) (pss_one (ps_set (i := 4) sc__law_loose_steps.nd rfl (.inl rfl) (pe_op op_add (pe_op op_pow pe_int pe_int) (pv 3)))) pss_nil) (Evl.pss_cut (ps_if (pt_val (pe_call D__law_amiss.G hr (by rfl) D__law_amiss.g D__law_amiss.k D__law_amiss.b .nil pass0 (pa_cons (pv 0) pa_nil))) (pss_one (ps_set (i := 4) sc__law_loose_steps.nd rfl (.inl rfl) (pe_ix ix_list (pe_lst (pa_cons (pe_op op_pow pe_int pe_int) (pa_cons (pe_op op_sub pe_int (pe_op op_pow pe_int pe_int)) (pa_cons pe_bl (pa_cons pe_str (pa_cons pe_non pa_nil)))))) (pe_call D__law_taken.G hr (by rfl) D__law_taken.g D__law_taken.k D__law_taken.b .nil pass0 (pa_cons (pv 0) (pa_cons pe_int pa_nil))) (fun _ _ => rfl)))) pss_nil) (pss_cons (ps_set (i := 5) sc__law_loose_steps.nd rfl (.inl rfl) (pe_tup (pa_cons (pv 4) (pa_cons (pe_call D__law_loose_count.G hr (by rfl) D__law_loose_count.g D__law_loose_count.k D__law_loose_count.b .nil pass0 (pa_cons (pv 0) (pa_cons pe_int (pa_cons pe_int pa_nil)))) pa_nil)))) (pss_cons (ps_setLc (i := 6) (own := [("_law_one", 7)]) (g := gName 7) rfl sc__law_loose_steps.nd rfl rfl (sw_true rfl rfl rfl (by decide +kernel)) (pi_list (pv 1)) (blkOk_by (own := [("_law_one", 7)]) (N := ["_law_s", "_law_steps", "_law_many", "_law_k", "_law_by", "_law_step", "_law_earlier", "_law_one"]) (sc := defScope s__law_loose_steps) (by decide +kernel)) (fun _ _ _ _ _ => pg_name (i := 7) sc__law_loose_steps.nd rfl (.inl rfl)) (fun _ _ _ _ _ => pts_one (pt_val (pe_callB (call_isiK (K := K) rfl) (by rfl) m_isinstance (by decide +kernel) (pa_cons (pv 7) (pa_cons (pe_bltn (v := .ty "tuple") (by rfl) m_tuple (by decide +kernel) rfl) pa_nil))))) (fun _ _ _ _ _ => (pv 7))) (Evl.pss_cut (ps_if (PW.pt (pw_and (pt_cmpR op_gt (pe_callB call_len_seq (by rfl) m_len (by decide +kernel) (pa_cons (pv 6) pa_nil)) pe_int (nomark _)) (pw_and1 (pt_val (pe_call D__law_amiss.G hr (by rfl) D__law_amiss.g D__law_amiss.k D__law_amiss.b .nil pass0 (pa_cons (pv 0) pa_nil)))))) (pss_one (ps_set (i := 5) sc__law_loose_steps.nd rfl (.inl rfl) (pe_tup (pa_cons (pe_ix ix_tup (pe_ix ix_list (pv 6) (pe_call D__law_taken.G hr (by rfl) D__law_taken.g D__law_taken.k D__law_taken.b .nil pass0 (pa_cons (pv 0) (pa_cons (pe_callB call_len_seq (by rfl) m_len (by decide +kernel) (pa_cons (pv 6) pa_nil)) pa_nil))) (fun _ _ => rfl)) pe_int (fun _ _ => rfl)) (pa_cons (pe_ix ix_tup (pv 5) pe_int (fun _ _ => rfl)) pa_nil))))) pss_nil) (Evl.pss_cut (ps_if (pt_val (pe_call D__law_amiss.G hr (by rfl) D__law_amiss.g D__law_amiss.k D__law_amiss.b .nil pass0 (pa_cons (pv 0) pa_nil))) (pss_one (ps_set (i := 5) sc__law_loose_steps.nd rfl (.inl rfl) (pe_ix ix_list (pe_lst (pa_cons (pe_slice sl_tup (pv 5) po_none (po_some pe_int)) (pa_cons (pe_callTy call_list_of (by rfl) m_list (by decide +kernel) (pa_cons (pv 5) pa_nil)) (pa_cons (pe_op op_catA (pv 5) (pe_tup (pa_cons pe_int pa_nil))) (pa_cons pe_int pa_nil))))) (pe_call D__law_taken.G hr (by rfl) D__law_taken.g D__law_taken.k D__law_taken.b .nil pass0 (pa_cons (pv 0) (pa_cons pe_int pa_nil))) (fun _ _ => rfl)))) pss_nil) (pss_one (ps_expr (pe_bm PySem.F.plainAttrs_list PySem.F.slot_list_append PySem.F.type_list_append mt_append (pv 1) (pa_cons (pv 5) pa_nil)))))))))))) (pss_one (ps_ret (pe_ifExp (pt_val (pe_call D__law_amiss.G hr (by rfl) D__law_amiss.g D__law_amiss.k D__law_amiss.b .nil pass0 (pa_cons (pv 0) pa_nil))) (pe_callTy call_tuple_of (by rfl) m_tuple (by decide +kernel) (pa_cons (pv 1) pa_nil)) (pv 1))))))), ?_⟩
  walk_at "go"
  refine ⟨by show 0 ≤ sizeLine; decide, fun T nT => ?_⟩
  have g := G9.start L nT
  generalize hb : upd H T (.lst []) = Hb at g
  walk_at "go"
  refine ⟨fun σ' H' => ∃ m : Int, 0 ≤ m ∧ m ≤ 5 ∧ σ' = [some (.ref s), some (.ref T), some (.int m), none, none, none, none, none] ∧ G9 K c ns xs s na nm T H Hb [] [] H', ?_, fun σ' H' hM => ?_⟩
  · walk_at "go"
    refine use_amiss g.L ho fun b H1 e1 L1 => ?_
    replace g := g.move e1 L1
    refine ⟨_, rfl, ifn (fun _ => ?_) (fun _ => ?_)⟩
    · walk_at "go"
      refine ⟨by show 2 ≤ sizeLine; decide, fun p np => ?_⟩
      have hp : (upd H1 p (.lst [.int 0, .int 5])) p = some (.lst [.int 0, .int 5]) := upd_same
      replace g := g.same (same_new (o := .lst [.int 0, .int 5]) np)
      generalize upd H1 p (.lst [.int 0, .int 5]) = H2 at hp g ⊢
      walk_at "go"
      refine use_taken g.L (by decide) (by decide) fun r H3 r0 r1 e3 L3 => ?_
      have hit : ∃ z : Int, 0 ≤ z ∧ z ≤ 5 ∧ atI [V.int 0, .int 5] r = some (.int z) := by
        have : r = 0 ∨ r = 1 := by omega
        rcases this with rfl | rfl
        · exact ⟨0, by decide, by decide, at_any (j := 0) rfl rfl⟩
        · exact ⟨5, by decide, by decide, at_any (j := 1) rfl rfl⟩
      obtain ⟨z, z0, z1, hz⟩ := hit
      refine ⟨_, _, _, _, rfl, rfl, sql (g.L.keepl e3 hp), hz, ?_⟩
      walk_at "go"
      exact ⟨z, z0, z1, rfl, g.move e3 L3⟩
    · walk_at "go"
      refine use_taken g.L (by decide) (by decide) fun r H2 r0 r1 e2 L2 => ?_
      walk_at "go"
      exact ⟨_, by omega, by omega, rfl, g.move e2 L2⟩
  obtain ⟨m, m0, m1, rfl, g⟩ := hM
  walk_at "go"
  refine ⟨by omega, by omega, for_range (lo := 0) (n := m.toNat) (fun i σ H3 => ∃ y3 y4 y5 y6, σ = [some (.ref s), some (.ref T), some (.int m), y3, y4, y5, y6, none] ∧ ∃ vs ds, vs.length = i ∧ G9 K c ns xs s na nm T H Hb vs ds H3)
    ⟨_, _, _, _, rfl, [], [], rfl, g⟩ (fun i σ H3 hi hW => ?_) (fun σ H3 hW => ?_)⟩
  · obtain ⟨y3, y4, y5, y6, rfl, vs, ds, hl, g⟩ := hW
    walk_at "go"
    refine g_I ⟨by decide, by decide, by decide⟩ ?_
    walk_at "go"
    refine g_I (.inl ⟨by omega, by omega⟩) ?_
    walk_at "go"
    refine g_I ⟨by decide, by decide, by decide⟩ ?_
    walk_at "go"
    refine use_taken g.L (by decide) (by decide) fun r H4 r0 r1 e4 L4 => ?_
    replace g := g.move e4 L4
    walk_at "go"
    refine g_I (.inr ⟨by decide, by decide⟩) ?_
    walk_at "go"
    refine ⟨by show 4 ≤ sizeLine; decide, fun p np => ?_⟩
    have hp : (upd H4 p (.lst [.int (0 + ↑i), .int (0 + ↑i - 2), .int ((0 + ↑i - 1) * (10 ^ Int.toNat 12 - 1)), .int (r * 5 + (0 + ↑i))])) p = some (.lst [.int (0 + ↑i), .int (0 + ↑i - 2), .int ((0 + ↑i - 1) * (10 ^ Int.toNat 12 - 1)), .int (r * 5 + (0 + ↑i))]) := upd_same
    replace g := g.same (same_new (o := .lst [.int (0 + ↑i), .int (0 + ↑i - 2), .int ((0 + ↑i - 1) * (10 ^ Int.toNat 12 - 1)), .int (r * 5 + (0 + ↑i))]) np)
    generalize upd H4 p (.lst [.int (0 + ↑i), .int (0 + ↑i - 2), .int ((0 + ↑i - 1) * (10 ^ Int.toNat 12 - 1)), .int (r * 5 + (0 + ↑i))]) = H5 at hp g ⊢
    walk_at "go"
    refine use_taken g.L (by decide) (by decide) fun r' H6 r0' r1' e6 L6 => ?_
    have hp6 := g.L.keepl e6 hp
    replace g := g.move e6 L6
    obtain ⟨z, hz⟩ : ∃ z : Int, atI [V.int (0 + ↑i), .int (0 + ↑i - 2), .int ((0 + ↑i - 1) * (10 ^ Int.toNat 12 - 1)), .int (r * 5 + (0 + ↑i))] r' = some (.int z) := by
      have : r' = 0 ∨ r' = 1 ∨ r' = 2 ∨ r' = 3 := by omega
      rcases this with rfl | rfl | rfl | rfl
      · exact ⟨_, at_any (j := 0) rfl rfl⟩
      · exact ⟨_, at_any (j := 1) rfl rfl⟩
      · exact ⟨_, at_any (j := 2) rfl rfl⟩
      · exact ⟨_, at_any (j := 3) rfl rfl⟩
    refine ⟨_, _, _, _, rfl, rfl, sql hp6, hz, ?_⟩
    walk_at "go"
    refine ⟨fun σ' H' => ∃ z : Int, σ' = [some (.ref s), some (.ref T), some (.int m), some (.int (0 + ↑i)), some (.int z), y5, y6, none] ∧ G9 K c ns xs s na nm T H Hb vs ds H', ?_, fun σ' H' hM => ?_⟩
    · walk_at "go"
      refine ifd (fun _ => ?_) (fun _ => ?_)
      · walk_at "go"
        refine g_I ⟨by decide, by decide, by decide⟩ ?_
        walk_at "go"
        exact g
      · exact ⟨_, rfl, g⟩
    clear hz hp6 g
    obtain ⟨z, rfl, g⟩ := hM
    walk_at "go"
    refine ⟨fun σ' H' => ∃ y d, σ' = [some (.ref s), some (.ref T), some (.int m), some (.int (0 + ↑i)), some y, y5, y6, none] ∧ (∀ Hx, Dp K Hx y d) ∧ flatD d = true ∧ dOk d = true ∧ G9 K c ns xs s na nm T H Hb vs ds H', ?_, fun σ' H' hM => ?_⟩
    · walk_at "go"
      refine use_amiss g.L ho fun b H1 e1 L1 => ?_
      replace g := g.move e1 L1
      refine ⟨_, rfl, ifb (fun _ => ?_) (fun _ => ?_)⟩
      · with_reducible refine g_asg ?_
        with_reducible refine g_op ?_
        refine ev_lst (K := K) (Γ := fun _ => none) (ds := [.int (10 ^ Int.toNat 12), .int (0 - 10 ^ Int.toNat 12), .bool true, .str "1", .none]) (eva_cons (evd_I (evd_int _) (evd_int _) ⟨by decide, by decide, by decide⟩) (eva_cons (evd_I0 (evd_int _) (evd_I (evd_int _) (evd_int _) ⟨by decide, by decide, by decide⟩)) (eva_cons (evd_bl _) (eva_cons (evd_str _) (eva_cons evd_non eva_nil))))) (Nat.le_of_ble_eq_true rfl) (fun _ _ h => by cases h) fun p zs H2 e2 n2 d2 => ?_
        replace g := g.same (e2.trans (same_new (o := .lst zs) n2))
        have hp : (upd H2 p (.lst zs)) p = some (.lst zs) := upd_same
        generalize upd H2 p (.lst zs) = H3 at hp g ⊢
        walk_at "go"
        refine use_taken g.L (by decide) (by decide) fun r H4 r0 r1 e4 L4 => ?_
        refine pick_flat (g.L.keepl e4 hp) d2 (by simp [dOk, szOk, sOk]; decide +kernel) rfl r0 r1 fun v d hd hf hz => ?_
        walk_at "go"
        exact ⟨_, _, rfl, hd, hf, hz, g.move e4 L4⟩
      · exact ⟨_, .int z, rfl, fun _ => .int z, rfl, by simp [dOk, szOk, sOk], g⟩
    clear g
    obtain ⟨y, d, rfl, hd, hf, hk, g⟩ := hM
    walk_at "go"
    refine use_lcnt g.L ho (by decide) (by decide) (by decide) fun x dx H1 e1 L1 hdx hfx hkx => ?_
    replace g := g.move e1 L1
    walk_at "go"
    refine ⟨by show 2 ≤ sizeLine; decide, fun t nt => ?_⟩
    have st := same_new (o := .tup [y, x]) nt
    have ht : SqT K (nw Hb (upd H1 t (.tup [y, x]))) t [y, x] := nw_sqt (g.old _ nt) upd_same
    replace g := g.same st
    generalize upd H1 t (.tup [y, x]) = H2 at ht g ⊢
    walk_at "go"
    refine ⟨⟨_, sql g.at_⟩, fun D nD => lc_list (xs := vs) (fun i H' => ∃ us es, H' D = some (.lst us) ∧ Same H2 H' ∧ DpAll K (nw Hb H2) us es ∧ (∀ e ∈ es, e ∈ ds ∧ ∃ a r, e = .tuple (a :: r) ∧ flatD a = true) ∧ us.length ≤ i) ⟨[], [], upd_same, same_new nD, .nil, fun _ h => absurd h List.not_mem_nil, Nat.le_refl _⟩ (fun i H' _ c => ?_) (fun j z H' hx c => ?_) (fun H3 c => ?_)⟩
    · obtain ⟨us, es, _, e, _⟩ := c
      exact sql (e _ _ g.at_)
    · obtain ⟨us, es, hus, e3, hes, hall, hle⟩ := c
      have dl := DpAll.len g.dp
      have hj : j < ds.length := by have := (List.getElem?_eq_some_iff.mp hx).1; omega
      have hdj : ds[j]? = some ds[j] := List.getElem?_eq_getElem hj
      obtain ⟨x', hx', hD⟩ := DpAll.at g.dp hdj
      obtain rfl : x' = z := Option.some.inj (hx'.symm.trans hx)
      have hmem : ds[j] ∈ ds := List.getElem_mem hj
      have hhd := List.all_eq_true.mp g.hd _ hmem
      generalize ds[j] = dj at hD hmem hhd
      walk_at "go"
      have hD' := Dp.dm (.of fun b o h => e3 _ _ (nw_sub _ _ h)) hD
      refine use_isTup hD' ?_
      cases dj with
      | tuple rs =>
        dsimp only [isTup]
        refine ⟨_, rfl, iteT ?_⟩
        refine ⟨_, rfl, _, hus, small1000 (by omega), us ++ [x'], es ++ [.tuple rs], upd_same, fun b o h => by rw [upd_ne (ne_of_none h nD)]; exact e3 _ _ h, DpAll.app hes (.cons hD .nil), fun e he => ?_, by rw [List.length_append]; show us.length + 1 ≤ j + 1; omega⟩
        rcases List.mem_append.mp he with he | he
        · exact hall e he
        · rw [List.mem_singleton.mp he]
          refine ⟨hmem, ?_⟩
          cases rs with
          | nil => cases hhd
          | cons a r => exact ⟨a, r, rfl, hhd⟩
      | _ =>
        dsimp only [isTup]
        refine ⟨_, rfl, iteF ?_⟩
        exact ⟨us, es, hus, e3, hes, hall, by omega⟩
    obtain ⟨us, es, hus, e3, hes, hall, hle⟩ := c
    have hs : ∃ o, Hb s = some o := g.hs
    obtain ⟨os, hs⟩ := hs
    replace g := g.same e3
    replace ht := SqT.same (nw_same e3) ht
    replace hes := DpAll.dm (.of (nw_same e3)) hes
    have dl := DpAll.len hes
    have okd := g.ok
    walk_at "go"
    refine ⟨fun σ' H' => ∃ t' y' d', σ' = [some (.ref s), some (.ref T), some (.int m), some (.int (0 + ↑i)), some y, some (.ref t'), some (.ref D), none] ∧ SqT K (nw Hb H') t' [y', x] ∧ (∀ Hx, Dp K Hx y' d') ∧ flatD d' = true ∧ dOk d' = true ∧ G9 K c ns xs s na nm T H Hb vs ds H', ?_, fun σ' H' hM => ?_⟩
    · walk_at "go"
      refine ⟨_, _, rfl, .inl (sql hus), ?_⟩
      walk_at "go"
      refine ifd (fun c1 => ?_) (fun c1 => ?_)
      · walk_at "go"
        refine use_amiss g.L ho fun b H4 e4 L4 => ?_
        replace hus := g.L.keepl e4 hus
        replace g := g.move e4 L4
        replace ht := SqT.same (nw_kb e4 hs) ht
        replace hes := DpAll.dm (.of (nw_kb e4 hs)) hes
        refine ⟨_, rfl, ifb (fun _ => ?_) (fun _ => ?_)⟩
        · walk_at "go"
          refine ⟨_, _, rfl, .inl (sql hus), ?_⟩
          walk_at "go"
          refine use_taken g.L (by omega) (by omega) fun r H5 r0 r1 e5 L5 => ?_
          replace hus := g.L.keepl e5 hus
          replace g := g.move e5 L5
          replace ht := SqT.same (nw_kb e5 hs) ht
          replace hes := DpAll.dm (.of (nw_kb e5 hs)) hes
          have hi5 : r.toNat < es.length := by omega
          obtain ⟨u, hu, hdu⟩ := DpAll.at hes (List.getElem?_eq_getElem hi5)
          obtain ⟨hm, a, rr, ea, fa⟩ := hall _ (List.getElem_mem hi5)
          rw [ea] at hdu hm
          have ka : dOk a = true := List.all_eq_true.mp (dok_tup.mp (List.all_eq_true.mp okd _ hm)) _ List.mem_cons_self
          cases hdu with
          | @tup b ws _ hb hwa =>
          cases hwa with
          | @cons av wr _ _ ha _ =>
          refine ⟨_, _, _, _, rfl, rfl, sql hus, at_any (j := r.toNat) (by omega) hu, ?_⟩
          walk_at "go"
          refine ⟨_, _, _, _, rfl, rfl, SqT.same nw_sub hb, at_any (j := 0) rfl rfl, ?_⟩
          walk_at "go"
          refine ⟨_, _, _, _, rfl, rfl, SqT.same nw_sub ht, at_any (j := 1) rfl rfl, ?_⟩
          walk_at "go"
          refine ⟨by show 2 ≤ sizeLine; decide, fun t2 nt2 => ?_⟩
          walk_at "go"
          exact ⟨_, _, _, rfl, nw_sqt (g.old _ nt2) upd_same, flat_dp ha fa, fa, ka, g.same (same_new nt2)⟩
        · exact ⟨_, _, _, rfl, ht, hd, hf, hk, g⟩
      · exact ⟨_, _, _, rfl, ht, hd, hf, hk, g⟩
    clear ht g hes hus okd
    obtain ⟨t', y', d', rfl, ht, hd', hf', hk', g⟩ := hM
    walk_at "go"
    refine ⟨fun σ' H' => ∃ v dv, σ' = [some (.ref s), some (.ref T), some (.int m), some (.int (0 + ↑i)), some y, some v, some (.ref D), none] ∧ Dp K (nw Hb H') v dv ∧ dOk dv = true ∧ hdF dv = true ∧ G9 K c ns xs s na nm T H Hb vs ds H', ?_, fun σ' H' hM => ?_⟩
    · walk_at "go"
      refine use_amiss g.L ho fun b H4 e4 L4 => ?_
      replace g := g.move e4 L4
      replace ht := SqT.same (nw_kb e4 hs) ht
      refine ⟨_, rfl, ifb (fun _ => ?_) (fun _ => ?_)⟩
      · have k1 : dOk (.int 1) = true := by simp [dOk, szOk, sOk]
        walk_at "go"
        refine ⟨t', _, rfl, SqT.same nw_sub ht, by show ¬ (HT.sIx 2 0 none = 0 ∧ HT.sIx 2 2 (some 1) = 2); decide, fun p1 n1 => ?_⟩
        have c1 : cutV [y', x] none (some 1) = [y'] := rfl
        rw [c1]
        have h1 : SqT K (nw Hb (upd H4 p1 (.tup [y']))) p1 [y'] := nw_sqt (g.old _ n1) upd_same
        have s1 := same_new (o := .tup [y']) n1
        replace g := g.same s1
        replace ht := SqT.same (nw_same s1) ht
        generalize upd H4 p1 (.tup [y']) = H5 at h1 g ht ⊢
        walk_at "go"
        refine ⟨_, _, rfl, .inr (SqT.same nw_sub ht), fun p2 n2 => ?_⟩
        have h2 : SqL K (nw Hb (upd H5 p2 (.lst [y', x]))) p2 [y', x] := nw_sql (g.old _ n2) upd_same
        have s2 := same_new (o := .lst [y', x]) n2
        replace g := g.same s2
        replace ht := SqT.same (nw_same s2) ht
        replace h1 := SqT.same (nw_same s2) h1
        generalize upd H5 p2 (.lst [y', x]) = H6 at h1 h2 g ht ⊢
        walk_at "go"
        refine ⟨by show 1 ≤ sizeLine; decide, fun p3 n3 => ?_⟩
        have s3 := same_new (o := .tup [.int 1]) n3
        have h3 : SqT K (upd H6 p3 (.tup [.int 1])) p3 [.int 1] := sqt upd_same
        replace g := g.same s3
        replace ht := SqT.same (nw_same s3) ht
        replace h1 := SqT.same (nw_same s3) h1
        replace h2 : SqL K _ p2 [y', x] := (nw_same s3).seq h2
        generalize upd H6 p3 (.tup [.int 1]) = H7 at h1 h2 h3 g ht ⊢
        walk_at "go"
        refine cat2 (SqT.same nw_sub ht) h3 (by simp) (by simp) (by show 3 ≤ 1000; decide) fun p4 n4 => ?_
        rw [show [y', x] ++ [V.int 1] = [y', x, .int 1] from rfl]
        have h4 : SqT K (nw Hb (upd H7 p4 (.tup [y', x, .int 1]))) p4 [y', x, .int 1] := nw_sqt (g.old _ n4) upd_same
        have s4 := same_new (o := .tup [y', x, .int 1]) n4
        replace g := g.same s4
        replace ht := SqT.same (nw_same s4) ht
        replace h1 := SqT.same (nw_same s4) h1
        replace h2 : SqL K _ p2 [y', x] := (nw_same s4).seq h2
        generalize upd H7 p4 (.tup [y', x, .int 1]) = H8 at h1 h2 h4 g ht ⊢
        walk_at "go"
        refine ⟨by show 4 ≤ sizeLine; decide, fun p5 n5 => ?_⟩
        have s5 := same_new (o := .lst [.ref p1, .ref p2, .ref p4, .int 5]) n5
        have h5 : (upd H8 p5 (.lst [.ref p1, .ref p2, .ref p4, .int 5])) p5 = some (.lst [.ref p1, .ref p2, .ref p4, .int 5]) := upd_same
        replace g := g.same s5
        replace ht := SqT.same (nw_same s5) ht
        replace h1 := SqT.same (nw_same s5) h1
        replace h2 : SqL K _ p2 [y', x] := (nw_same s5).seq h2
        replace h4 := SqT.same (nw_same s5) h4
        generalize upd H8 p5 (.lst [.ref p1, .ref p2, .ref p4, .int 5]) = H9 at h1 h2 h4 h5 g ht ⊢
        walk_at "go"
        refine use_taken g.L (by decide) (by decide) fun r Ha r0 r1 ea La => ?_
        have ms := nw_kb ea hs
        replace h5 := g.L.keepl ea h5
        replace g := g.move ea La
        replace h1 := SqT.same ms h1
        replace h2 : SqL K _ p2 [y', x] := ms.seq h2
        replace h4 := SqT.same ms h4
        have four : r = 0 ∨ r = 1 ∨ r = 2 ∨ r = 3 := by omega
        rcases four with rfl | rfl | rfl | rfl
        · refine ⟨_, _, _, _, rfl, rfl, sql h5, at_any (j := 0) rfl rfl, ?_⟩
          walk_at "go"
          exact ⟨_, .tuple [d'], rfl, .tup h1 (.cons (hd' _) .nil), dok_tup.mpr (by simp [hk']), hf', g⟩
        · refine ⟨_, _, _, _, rfl, rfl, sql h5, at_any (j := 1) rfl rfl, ?_⟩
          walk_at "go"
          exact ⟨_, .list [d', dx], rfl, .lst h2 (.cons (hd' _) (.cons (hdx _) .nil)), dok_lst.mpr (by simp [hk', hkx]), rfl, g⟩
        · refine ⟨_, _, _, _, rfl, rfl, sql h5, at_any (j := 2) rfl rfl, ?_⟩
          walk_at "go"
          exact ⟨_, .tuple [d', dx, .int 1], rfl, .tup h4 (.cons (hd' _) (.cons (hdx _) (.cons (.int _) .nil))), dok_tup.mpr (by simp [hk', hkx, k1]), hf', g⟩
        · refine ⟨_, _, _, _, rfl, rfl, sql h5, at_any (j := 3) rfl rfl, ?_⟩
          walk_at "go"
          exact ⟨_, .int 5, rfl, .int _, by simp [dOk, szOk, sOk], rfl, g⟩
      · exact ⟨_, _, rfl, .tup ht (.cons (hd' _) (.cons (hdx _) .nil)), dok_tup.mpr (by simp [hk', hkx]), hf', g⟩
    clear ht g
    obtain ⟨v, dv, rfl, hdv, hkv, hhv, g⟩ := hM
    walk_at "go"
    refine ⟨.inl ⟨rfl, _, sql g.at_⟩, ?_⟩
    walk_at "go"
    refine ⟨T, vs, _, rfl, rfl, g.at_, small1000 (by omega), ?_⟩
    exact ⟨_, _, _, _, rfl, vs ++ [v], ds ++ [dv], by simp [hl], g.push hdv hkv hhv⟩
  · obtain ⟨y3, y4, y5, y6, rfl, vs, ds, hl, g⟩ := hW
    have dl := DpAll.len g.dp
    walk_at "go"
    refine use_amiss g.L ho fun b H1 e1 L1 => ?_
    replace g := g.move e1 L1
    refine ⟨_, rfl, ifb (fun _ => ?_) (fun _ => ?_)⟩
    · walk_at "go"
      refine ⟨T, vs, rfl, .inl ⟨sql g.at_, fun l nl => ?_⟩⟩
      have s2 := same_new (o := .tup vs) nl
      exact q _ (.tuple ds) _ (g.kb.trans (.of s2)) (g.L.same s2) (.tup (nw_sqt (g.old0 _ (g.old _ nl)) upd_same) (DpAll.dm (.of fun b o h => nw_same s2 _ _ (nw_mono g.old0 _ _ h)) g.dp)) (dok_tup.mpr g.ok)
    · walk_at "go"
      exact q _ (.list ds) _ g.kb g.L (.lst (nw_sql nT g.at_) (DpAll.dm (.of (nw_mono g.old0)) g.dp)) (dok_lst.mpr g.ok)
end

/-! ### a loose name -/
structure N9 (K : PySem.W.Frag) (c : Cfg) (ns : List Int) (xs : List Str) (s na nm T : Addr) (vs : List V) (ds : List PyData) (H0 H : Hp) : Prop where
  kb : KB s H0 H
  L : LS K c ns xs s na nm H
  at_ : H T = some (.lst vs)
  dp : DpAll K H vs ds
  hs : ∃ o, H0 s = some o
theorem N9.move {K : PySem.W.Frag} {c : Cfg} {ns : List Int} {xs : List Str} {s na nm T : Addr} {vs : List V} {ds : List PyData} {H0 H H' : Hp} (g : N9 K c ns xs s na nm T vs ds H0 H) (e : KB s H H') (L' : LS K c ns xs s na nm H') : N9 K c ns xs s na nm T vs ds H0 H' :=
  ⟨g.kb.trans e, L', g.L.keepl e g.at_, DpAll.dm (g.L.dm e) g.dp, g.hs⟩
theorem N9.same {K : PySem.W.Frag} {c : Cfg} {ns : List Int} {xs : List Str} {s na nm T : Addr} {vs : List V} {ds : List PyData} {H0 H H' : Hp} (g : N9 K c ns xs s na nm T vs ds H0 H) (e : Same H H') : N9 K c ns xs s na nm T vs ds H0 H' := g.move (.of e) (g.L.same e)
theorem N9.old {K : PySem.W.Frag} {c : Cfg} {ns : List Int} {xs : List Str} {s na nm T : Addr} {vs : List V} {ds : List PyData} {H0 H : Hp} (g : N9 K c ns xs s na nm T vs ds H0 H) {p : Addr} (n : H p = none) : H0 p = none := g.L.older g.kb n
def spLName (K : PySem.W.Frag) : Sp := fun us H Q _ => ∃ (c : Cfg) (ns : List Int) (xs : List Str) (s na nm T : Addr) (vs : List V) (ds : List PyData) (o k : Int), us = [.ref s, .int k, .ref T] ∧ N9 K c ns xs s na nm T vs ds H H ∧ c.od = some o ∧ 0 ≤ k ∧ k ≤ 3 ∧ ds.all dOk = true ∧ ds.all hdF = true ∧ vs.length ≤ 4 ∧
  ∀ (v : V) (d : PyData) (H' : Hp), KB s H H' → LS K c ns xs s na nm H' → Dp K (nw H H') v d → dOk d = true → hdF d = true → Q v H'
theorem use_lname {K : PySem.W.Frag} {c : Cfg} {ns : List Int} {xs : List Str} {s na nm T : Addr} {vs : List V} {ds : List PyData} {o k : Int} {H : Hp} {Q : VK} {E : XK} (g : N9 K c ns xs s na nm T vs ds H H) (ho : c.od = some o) (k0 : 0 ≤ k) (k1 : k ≤ 3) (ok : ds.all dOk = true) (hd : ds.all hdF = true) (hl : vs.length ≤ 4)
    (q : ∀ (v : V) (d : PyData) (H' : Hp), KB s H H' → LS K c ns xs s na nm H' → Dp K (nw H H') v d → dOk d = true → hdF d = true → Q v H') : spLName K ([.ref s, .int k, .ref T] ++ []) H Q E := ⟨c, ns, xs, s, na, nm, T, vs, ds, o, k, rfl, g, ho, k0, k1, ok, hd, hl, q⟩
section
variable {P : Program} {w : World} {K : PySem.W.Frag} {mg : Str → Option Value} {base : Heap}
abbrev s__law_loose_name : Stmt := topS 31
theorem sc__law_loose_name : FnScope ["_law_s", "_law_k", "_law_names", "_law_name", "_law_earlier", "_law_begun_here", "_law_one"] ["_law_s", "_law_k", "_law_names"] (defScope s__law_loose_name) := ⟨rfl, rfl, rfl, by decide +kernel, rfl, by decide +kernel, by decide +kernel⟩
theorem h__law_loose_name {k : Nat} {f : Addr} {fd : FuncData} (O : Own K mg "_law_loose_name" s__law_loose_name ["_law_s", "_law_k", "_law_names"] f fd)  {f__law_amiss : Addr} {fd__law_amiss : FuncData} (D__law_amiss : Has P w K mg base "_law_amiss" ["_law_s"] k CX0 (spAmiss K) f__law_amiss fd__law_amiss) {f__law_taken : Addr} {fd__law_taken : FuncData} (D__law_taken : Has P w K mg base "_law_taken" ["_law_s", "_law_most"] k CX0 (spTaken K) f__law_taken fd__law_taken) {f__law_loose_steps : Addr} {fd__law_loose_steps : FuncData} (D__law_loose_steps : Has P w K mg base "_law_loose_steps" ["_law_s"] k CX0 (spLSteps K) f__law_loose_steps fd__law_loose_steps) {f__law_number : Addr} {fd__law_number : FuncData} (D__law_number : Has P w K mg base "_law_number" ["_law_s"] k CX0 (spNumber K) f__law_number fd__law_number) {f__law_word : Addr} {fd__law_word : FuncData} (D__law_word : Has P w K mg base "_law_word" ["_law_s", "_law_k"] k CX0 (spWord K) f__law_word fd__law_word) (m_list : mg "list" = none) (m_len : mg "len" = none) (m_isinstance : mg "isinstance" = none) (m_tuple : mg "tuple" = none) : Has P w K mg base "_law_loose_name" ["_law_s", "_law_k", "_law_names"] (k + 1) CX0 (spLName K) f fd := by
  refine O.has (O.F.ok sc__law_loose_name (fun vs H Q E h => ?_) (fun cdv A outer s H vs Q E hr h => ?_))
  · obtain ⟨c, ns, xs, s, na, nm, T, vs, ds, o, k, rfl, _⟩ := h
    rfl
  obtain ⟨c, ns, xs, s, na, nm, T, vs, ds, o, k, rfl, g, ho, k0, k1, ok, hd, hl, q⟩ := h
  refine ⟨_, (pss_cons (ps_set (i := 3) sc__law_loose_name.nd rfl (.inl rfl) (pe_call D__law_word.G hr (by rfl) D__law_word.g D__law_word.k D__law_word.b .nil pass0 (pa_cons (pv 0) (pa_cons (pe_op op_add pe_int (pv 1)) pa_nil)))) (Evl.pss_cut (ps_if (pt_val (pe_call D__law_amiss.G hr (by rfl) D__law_amiss.g D__law_amiss.k D__law_amiss.b .nil pass0 (pa_cons (pv 0) pa_nil))) (pss_one (ps_set (i := 3) sc__law_loose_name.nd rfl (.inl rfl) (pe_ix ix_list (pe_lst (pa_cons pe_str (pa_cons pe_str (pa_cons (pe_op op_rep_str pe_str pe_int) (pa_cons pe_int (pa_cons pe_non (pa_cons pe_str pa_nil))))))) (pe_call D__law_taken.G hr (by rfl) D__law_taken.g D__law_taken.k D__law_taken.b .nil pass0 (pa_cons (pv 0) (pa_cons pe_int pa_nil))) (fun _ _ => rfl)))) pss_nil) (Evl.pss_cut (ps_if (PW.pt (pw_and (pt_cmpR op_gt (pe_callB call_len_seq (by rfl) m_len (by decide +kernel) (pa_cons (pv 2) pa_nil)) pe_int (nomark _)) (pw_and1 (pt_val (pe_call D__law_amiss.G hr (by rfl) D__law_amiss.g D__law_amiss.k D__law_amiss.b .nil pass0 (pa_cons (pv 0) pa_nil)))))) (pss_cons (ps_set (i := 4) sc__law_loose_name.nd rfl (.inl rfl) (pe_ix ix_list (pv 2) (pe_call D__law_taken.G hr (by rfl) D__law_taken.g D__law_taken.k D__law_taken.b .nil pass0 (pa_cons (pv 0) (pa_cons (pe_callB call_len_seq (by rfl) m_len (by decide +kernel) (pa_cons (pv 2) pa_nil)) pa_nil))) (fun _ _ => rfl))) (pss_one (ps_set (i := 3) sc__law_loose_name.nd rfl (.inl rfl) (pe_ifExp (PW.pt (pw_and (pt_val (pe_callB call_isi (by rfl) m_isinstance (by decide +kernel) (pa_cons (pv 4) (pa_cons (pe_bltn (v := .ty "tuple") (by rfl) m_tuple (by decide +kernel) rfl) pa_nil)))) (pw_and1 (pt_cmpR op_gt (pe_callB call_len_seq (by rfl) m_len (by decide +kernel) (pa_cons (pv 4) pa_nil)) pe_int (nomark _))))) (pe_ix ix_tup (pv 4) pe_int (fun _ _ => rfl)) (pv 3))))) pss_nil) (pss_cons (ps_set (i := 5) sc__law_loose_name.nd rfl (.inl rfl) (pe_ix ix_list (pe_lst (pa_cons (pe_op op_sub (pe_op op_pow pe_int pe_int) pe_int) (pa_cons (pe_op op_sub pe_int (pe_op op_pow pe_int pe_int)) (pa_cons (pe_call D__law_number.G hr (by rfl) D__law_number.g D__law_number.k D__law_number.b .nil pass0 (pa_cons (pv 0) pa_nil)) pa_nil)))) (pe_call D__law_taken.G hr (by rfl) D__law_taken.g D__law_taken.k D__law_taken.b .nil pass0 (pa_cons (pv 0) (pa_cons pe_int pa_nil))) (fun _ _ => rfl))) (Evl.pss_cut (ps_if (pt_val (pe_call D__law_amiss.G hr (by rfl) D__law_amiss.g D__law_amiss.k D__law_amiss.b .nil pass0 (pa_cons (pv 0) pa_nil))) (pss_one (ps_set (i := 5) sc__law_loose_name.nd rfl (.inl rfl) (pe_ix ix_list (pe_lst (pa_cons (pe_op op_pow pe_int pe_int) (pa_cons (pe_op op_sub pe_int (pe_op op_pow pe_int pe_int)) (pa_cons pe_bl (pa_cons pe_str (pa_cons pe_non pa_nil)))))) (pe_call D__law_taken.G hr (by rfl) D__law_taken.g D__law_taken.k D__law_taken.b .nil pass0 (pa_cons (pv 0) (pa_cons pe_int pa_nil))) (fun _ _ => rfl)))) pss_nil) (pss_cons (ps_set (i := 6) sc__law_loose_name.nd rfl (.inl rfl) (pe_tup (pa_cons (pv 3) (pa_cons (pv 5) (pa_cons (pe_call D__law_loose_steps.G hr (by rfl) D__law_loose_steps.g D__law_loose_steps.k D__law_loose_steps.b .nil pass0 (pa_cons (pv 0) pa_nil)) pa_nil))))) (pss_one (ps_ret (pe_ifExp (pt_val (pe_call D__law_amiss.G hr (by rfl) D__law_amiss.g D__law_amiss.k D__law_amiss.b .nil pass0 (pa_cons (pv 0) pa_nil))) (pe_ix ix_list (pe_lst (pa_cons (pe_slice sl_tup (pv 6) po_none (po_some pe_int)) (pa_cons (pe_callTy call_list_of (by rfl) m_list (by decide +kernel) (pa_cons (pv 6) pa_nil)) (pa_cons (pe_op op_catA (pv 6) (pe_tup (pa_cons pe_int pa_nil))) (pa_cons pe_non pa_nil))))) (pe_call D__law_taken.G hr (by rfl) D__law_taken.g D__law_taken.k D__law_taken.b .nil pass0 (pa_cons (pv 0) (pa_cons pe_int pa_nil))) (fun _ _ => rfl)) (pv 6)))))))))), ?_⟩
  obtain ⟨os, hs⟩ := g.hs
  have lov := g.L.ok
  have dl := DpAll.len g.dp
  walk_at "go"
  refine use_word g.L (by omega) (by omega) fun H1 e1 => ?_
  replace g := g.same e1
  have w0 : isW' (.str (wd c (8 + k))) = true := wd_word lov (by omega)
  generalize wd c (8 + k) = nm0 at w0 ⊢
  walk_at "go"
  refine ⟨fun σ' H' => ∃ x d, σ' = [some (.ref s), some (.int k), some (.ref T), some x, none, none, none] ∧ (∀ Hx, Dp K Hx x d) ∧ flatD d = true ∧ dOk d = true ∧ N9 K c ns xs s na nm T vs ds H H', ?_, fun σ' H' hM => ?_⟩
  · walk_at "go"
    refine use_amiss g.L ho fun b H2 e2 L2 => ?_
    replace g := g.move e2 L2
    refine ⟨_, rfl, ifb (fun _ => ?_) (fun _ => ?_)⟩
    · with_reducible refine g_asg ?_
      with_reducible refine g_op ?_
      refine ev_lst (K := K) (Γ := fun _ => none) (ds := [.str "A", .str "", .str (rp 113 9), .int 5, .none, .str "a b"]) (eva_cons (evd_str _) (eva_cons (evd_str _) (eva_cons (evd_rep (c := 113) (by decide) (by decide) (evd_str _) (evd_int _)) (eva_cons (evd_int _) (eva_cons evd_non (eva_cons (evd_str _) eva_nil)))))) (Nat.le_of_ble_eq_true rfl) (fun _ _ h => by cases h) fun p zs H3 e3 n3 d3 => ?_
      replace g := g.same (e3.trans (same_new (o := .lst zs) n3))
      have hp : (upd H3 p (.lst zs)) p = some (.lst zs) := upd_same
      generalize upd H3 p (.lst zs) = H4 at hp g ⊢
      walk_at "go"
      refine use_taken g.L (by decide) (by decide) fun r H5 r0 r1 e5 L5 => ?_
      refine pick_flat (g.L.keepl e5 hp) d3 (by decide +kernel) rfl r0 r1 fun v d hd hf hz => ?_
      walk_at "go"
      exact ⟨_, _, rfl, hd, hf, hz, g.move e5 L5⟩
    · exact ⟨_, .str nm0, rfl, fun _ => .str _, rfl, dok_word w0, g⟩
  clear g
  obtain ⟨x, dx, rfl, hx, fx, kx, g⟩ := hM
  walk_at "go"
  refine ⟨fun σ' H' => ∃ x d y4, σ' = [some (.ref s), some (.int k), some (.ref T), some x, y4, none, none] ∧ (∀ Hx, Dp K Hx x d) ∧ flatD d = true ∧ dOk d = true ∧ N9 K c ns xs s na nm T vs ds H H', ?_, fun σ' H' hM => ?_⟩
  · walk_at "go"
    refine ⟨_, _, rfl, .inl (sql g.at_), ?_⟩
    walk_at "go"
    refine ifd (fun c1 => ?_) (fun c1 => ?_)
    · walk_at "go"
      refine use_amiss g.L ho fun b H2 e2 L2 => ?_
      replace g := g.move e2 L2
      refine ⟨_, rfl, ifb (fun _ => ?_) (fun _ => ?_)⟩
      · walk_at "go"
        refine ⟨_, _, rfl, .inl (sql g.at_), ?_⟩
        walk_at "go"
        refine use_taken g.L (by omega) (by omega) fun r H3 r0 r1 e3 L3 => ?_
        replace g := g.move e3 L3
        have hi : r.toNat < ds.length := by omega
        obtain ⟨u, hu, hdu⟩ := DpAll.at g.dp (List.getElem?_eq_getElem hi)
        have hm := List.getElem_mem hi
        have hk := List.all_eq_true.mp ok _ hm
        have hh := List.all_eq_true.mp hd _ hm
        generalize ds[r.toNat] = dd at hdu hm hk hh
        refine ⟨_, _, _, _, rfl, rfl, sql g.at_, at_any (j := r.toNat) (by omega) hu, ?_⟩
        walk_at "go"
        refine use_isTup hdu ?_
        cases hdu with
        | @tup b us es hb he =>
          dsimp only [isTup]
          refine ⟨_, rfl, iteT ?_⟩
          walk_at "go"
          refine ⟨_, _, rfl, .inr hb, ?_⟩
          walk_at "go"
          cases he with
          | nil => cases hh
          | @cons a ws da des ha he =>
          refine ifd (fun c2 => ?_) (fun c2 => ?_)
          · walk_at "go"
            refine ⟨_, _, _, _, rfl, rfl, hb, at_any (j := 0) rfl rfl, ?_⟩
            walk_at "go"
            exact ⟨_, _, _, rfl, flat_dp ha hh, hh, List.all_eq_true.mp (dok_tup.mp hk) _ List.mem_cons_self, g⟩
          · walk_at "go"
            exact ⟨_, _, _, rfl, hx, fx, kx, g⟩
        | _ =>
          dsimp only [isTup]
          refine ⟨_, rfl, iteF ?_⟩
          walk_at "go"
          exact ⟨_, _, _, rfl, hx, fx, kx, g⟩
      · exact ⟨_, _, _, rfl, hx, fx, kx, g⟩
    · exact ⟨_, _, _, rfl, hx, fx, kx, g⟩
  clear g hx fx kx
  obtain ⟨x, dx, y4, rfl, hx, fx, kx, g⟩ := hM
  walk_at "go"
  refine g_I ⟨by decide, by decide, by decide⟩ ?_
  walk_at "go"
  refine g_I ⟨by decide, by decide, by decide⟩ ?_
  walk_at "go"
  refine use_number g.L fun m H1 m0 m1 e1 L1 => ?_
  replace g := g.move e1 L1
  walk_at "go"
  refine ⟨by show 3 ≤ sizeLine; decide, fun p np => ?_⟩
  have hp : (upd H1 p (.lst [.int (10 ^ Int.toNat 12 - 1), .int (1 - 10 ^ Int.toNat 12), .int m])) p = some (.lst [.int (10 ^ Int.toNat 12 - 1), .int (1 - 10 ^ Int.toNat 12), .int m]) := upd_same
  replace g := g.same (same_new (o := .lst [.int (10 ^ Int.toNat 12 - 1), .int (1 - 10 ^ Int.toNat 12), .int m]) np)
  generalize upd H1 p (.lst [.int (10 ^ Int.toNat 12 - 1), .int (1 - 10 ^ Int.toNat 12), .int m]) = H2 at hp g ⊢
  walk_at "go"
  refine use_taken g.L (by decide) (by decide) fun r H3 r0 r1 e3 L3 => ?_
  have hp3 := g.L.keepl e3 hp
  replace g := g.move e3 L3
  obtain ⟨z, hz⟩ : ∃ z : Int, atI [V.int (10 ^ Int.toNat 12 - 1), .int (1 - 10 ^ Int.toNat 12), .int m] r = some (.int z) := by
    have : r = 0 ∨ r = 1 ∨ r = 2 := by omega
    rcases this with rfl | rfl | rfl
    · exact ⟨_, at_any (j := 0) rfl rfl⟩
    · exact ⟨_, at_any (j := 1) rfl rfl⟩
    · exact ⟨_, at_any (j := 2) rfl rfl⟩
  refine ⟨_, _, _, _, rfl, rfl, sql hp3, hz, ?_⟩
  walk_at "go"
  refine ⟨fun σ' H' => ∃ y d, σ' = [some (.ref s), some (.int k), some (.ref T), some x, y4, some y, none] ∧ (∀ Hx, Dp K Hx y d) ∧ flatD d = true ∧ dOk d = true ∧ N9 K c ns xs s na nm T vs ds H H', ?_, fun σ' H' hM => ?_⟩
  · walk_at "go"
    refine use_amiss g.L ho fun b H4 e4 L4 => ?_
    replace g := g.move e4 L4
    refine ⟨_, rfl, ifb (fun _ => ?_) (fun _ => ?_)⟩
    · with_reducible refine g_asg ?_
      with_reducible refine g_op ?_
      refine ev_lst (K := K) (Γ := fun _ => none) (ds := [.int (10 ^ Int.toNat 12), .int (0 - 10 ^ Int.toNat 12), .bool true, .str "1", .none]) (eva_cons (evd_I (evd_int _) (evd_int _) ⟨by decide, by decide, by decide⟩) (eva_cons (evd_I0 (evd_int _) (evd_I (evd_int _) (evd_int _) ⟨by decide, by decide, by decide⟩)) (eva_cons (evd_bl _) (eva_cons (evd_str _) (eva_cons evd_non eva_nil))))) (Nat.le_of_ble_eq_true rfl) (fun _ _ h => by cases h) fun p zs H5 e5 n5 d5 => ?_
      replace g := g.same (e5.trans (same_new (o := .lst zs) n5))
      have hp : (upd H5 p (.lst zs)) p = some (.lst zs) := upd_same
      generalize upd H5 p (.lst zs) = H6 at hp g ⊢
      walk_at "go"
      refine use_taken g.L (by decide) (by decide) fun r H7 r0 r1 e7 L7 => ?_
      refine pick_flat (g.L.keepl e7 hp) d5 (by simp [dOk, szOk, sOk]; decide +kernel) rfl r0 r1 fun v d hd hf hz => ?_
      walk_at "go"
      exact ⟨_, _, rfl, hd, hf, hz, g.move e7 L7⟩
    · exact ⟨_, .int z, rfl, fun _ => .int z, rfl, by simp [dOk, szOk, sOk], g⟩
  clear g hp hp3
  obtain ⟨y, dy, rfl, hy, fy, ky, g⟩ := hM
  walk_at "go"
  refine use_lsteps g.L ho fun z dz H1 e1 L1 hz kz => ?_
  have hz0 : Dp K (nw H H1) z dz := Dp.dm (.of (nw_mono fun b n => g.old n)) hz
  replace g := g.move e1 L1
  walk_at "go"
  refine ⟨by show 3 ≤ sizeLine; decide, fun t nt => ?_⟩
  have st := same_new (o := .tup [x, y, z]) nt
  have ht : SqT K (nw H (upd H1 t (.tup [x, y, z]))) t [x, y, z] := nw_sqt (g.old nt) upd_same
  replace hz0 := Dp.dm (.of (nw_same st)) hz0
  replace g := g.same st
  generalize upd H1 t (.tup [x, y, z]) = H2 at ht hz0 g ⊢
  walk_at "go"
  refine use_amiss g.L ho fun b H4 e4 L4 => ?_
  have m4 := nw_kb e4 hs
  replace g := g.move e4 L4
  replace ht := SqT.same m4 ht
  replace hz0 := Dp.dm (.of m4) hz0
  refine ⟨_, rfl, ifb (fun _ => ?_) (fun _ => ?_)⟩
  · have k1 : dOk (.int 1) = true := by simp [dOk, szOk, sOk]
    walk_at "go"
    refine ⟨t, _, rfl, SqT.same nw_sub ht, by show ¬ (HT.sIx 3 0 none = 0 ∧ HT.sIx 3 3 (some 2) = 3); decide, fun p1 n1 => ?_⟩
    have c1 : cutV [x, y, z] none (some 2) = [x, y] := rfl
    rw [c1]
    have h1 : SqT K (nw H (upd H4 p1 (.tup [x, y]))) p1 [x, y] := nw_sqt (g.old n1) upd_same
    have s1 := same_new (o := .tup [x, y]) n1
    replace g := g.same s1
    replace ht := SqT.same (nw_same s1) ht
    replace hz0 := Dp.dm (.of (nw_same s1)) hz0
    generalize upd H4 p1 (.tup [x, y]) = H5 at h1 g ht hz0 ⊢
    walk_at "go"
    refine ⟨_, _, rfl, .inr (SqT.same nw_sub ht), fun p2 n2 => ?_⟩
    have h2 : SqL K (nw H (upd H5 p2 (.lst [x, y, z]))) p2 [x, y, z] := nw_sql (g.old n2) upd_same
    have s2 := same_new (o := .lst [x, y, z]) n2
    replace g := g.same s2
    replace ht := SqT.same (nw_same s2) ht
    replace hz0 := Dp.dm (.of (nw_same s2)) hz0
    replace h1 := SqT.same (nw_same s2) h1
    generalize upd H5 p2 (.lst [x, y, z]) = H6 at h1 h2 g ht hz0 ⊢
    walk_at "go"
    refine ⟨by show 1 ≤ sizeLine; decide, fun p3 n3 => ?_⟩
    have s3 := same_new (o := .tup [.int 1]) n3
    have h3 : SqT K (upd H6 p3 (.tup [.int 1])) p3 [.int 1] := sqt upd_same
    replace g := g.same s3
    replace ht := SqT.same (nw_same s3) ht
    replace hz0 := Dp.dm (.of (nw_same s3)) hz0
    replace h1 := SqT.same (nw_same s3) h1
    replace h2 : SqL K _ p2 [x, y, z] := (nw_same s3).seq h2
    generalize upd H6 p3 (.tup [.int 1]) = H7 at h1 h2 h3 g ht hz0 ⊢
    walk_at "go"
    refine cat2 (SqT.same nw_sub ht) h3 (by simp) (by simp) (by show 4 ≤ 1000; decide) fun p4 n4 => ?_
    rw [show [x, y, z] ++ [V.int 1] = [x, y, z, .int 1] from rfl]
    have h4 : SqT K (nw H (upd H7 p4 (.tup [x, y, z, .int 1]))) p4 [x, y, z, .int 1] := nw_sqt (g.old n4) upd_same
    have s4 := same_new (o := .tup [x, y, z, .int 1]) n4
    replace g := g.same s4
    replace hz0 := Dp.dm (.of (nw_same s4)) hz0
    replace h1 := SqT.same (nw_same s4) h1
    replace h2 : SqL K _ p2 [x, y, z] := (nw_same s4).seq h2
    generalize upd H7 p4 (.tup [x, y, z, .int 1]) = H8 at h1 h2 h4 g hz0 ⊢
    walk_at "go"
    refine ⟨by show 4 ≤ sizeLine; decide, fun p5 n5 => ?_⟩
    have s5 := same_new (o := .lst [.ref p1, .ref p2, .ref p4, .non]) n5
    have h5 : (upd H8 p5 (.lst [.ref p1, .ref p2, .ref p4, .non])) p5 = some (.lst [.ref p1, .ref p2, .ref p4, .non]) := upd_same
    replace g := g.same s5
    replace hz0 := Dp.dm (.of (nw_same s5)) hz0
    replace h1 := SqT.same (nw_same s5) h1
    replace h2 : SqL K _ p2 [x, y, z] := (nw_same s5).seq h2
    replace h4 := SqT.same (nw_same s5) h4
    generalize upd H8 p5 (.lst [.ref p1, .ref p2, .ref p4, .non]) = H9 at h1 h2 h4 h5 g hz0 ⊢
    walk_at "go"
    refine use_taken g.L (by decide) (by decide) fun r Ha r0 r1 ea La => ?_
    have ms := nw_kb ea hs
    replace h5 := g.L.keepl ea h5
    replace g := g.move ea La
    replace hz0 := Dp.dm (.of ms) hz0
    replace h1 := SqT.same ms h1
    replace h2 : SqL K _ p2 [x, y, z] := ms.seq h2
    replace h4 := SqT.same ms h4
    have four : r = 0 ∨ r = 1 ∨ r = 2 ∨ r = 3 := by omega
    rcases four with rfl | rfl | rfl | rfl
    · refine ⟨_, _, _, _, rfl, rfl, sql h5, at_any (j := 0) rfl rfl, ?_⟩
      exact q _ (.tuple [dx, dy]) _ g.kb g.L (.tup h1 (.cons (hx _) (.cons (hy _) .nil))) (dok_tup.mpr (by simp [kx, ky])) fx
    · refine ⟨_, _, _, _, rfl, rfl, sql h5, at_any (j := 1) rfl rfl, ?_⟩
      exact q _ (.list [dx, dy, dz]) _ g.kb g.L (.lst h2 (.cons (hx _) (.cons (hy _) (.cons hz0 .nil)))) (dok_lst.mpr (by simp [kx, ky, kz])) rfl
    · refine ⟨_, _, _, _, rfl, rfl, sql h5, at_any (j := 2) rfl rfl, ?_⟩
      exact q _ (.tuple [dx, dy, dz, .int 1]) _ g.kb g.L (.tup h4 (.cons (hx _) (.cons (hy _) (.cons hz0 (.cons (.int _) .nil))))) (dok_tup.mpr (by simp [kx, ky, kz, k1])) fx
    · refine ⟨_, _, _, _, rfl, rfl, sql h5, at_any (j := 3) rfl rfl, ?_⟩
      exact q _ .none _ g.kb g.L .non (by simp [dOk, szOk, sOk]) rfl
  · walk_at "go"
    exact q _ (.tuple [dx, dy, dz]) _ g.kb g.L (.tup ht (.cons (hx _) (.cons (hy _) (.cons hz0 .nil)))) (dok_tup.mpr (by simp [kx, ky, kz])) fx
end

/-! ### a market is made -/
/-- all stays but a def's table and the object at p -/
structure Tx (PT p : Addr) (H H' : Hp) : Prop where
  g : GxR.TabG H' PT
  k : ∀ b o, b ≠ p → b ≠ PT → H b = some o → H' b = some o
theorem g_fld {K : PySem.W.Frag} {ta tv : TE} {f : Str} {D : Ends} {σ : L2.St} {H : Hp} (h : tv σ H fun y H1 => ta σ H1 fun x H2 => ∃ a C dx fs, x = .ref a ∧ H2 a = some (.ins C dx fs) ∧ Cls K C ∧ NoAttr K C f ∧ fs.length < 1000 ∧ D.nx σ (upd H2 a (.ins C dx (putF f y fs)))) : sFld K ta tv f D σ H := h
theorem ins_dm {K : PySem.W.Frag} {H H' : Hp} {p C dx : Addr} {fs : List (Str × V)} (hp : H p = some (.ins C dx fs)) (k : ∀ b o, b ≠ p → H b = some o → H' b = some o) : DM K H H' := by
  have rd : ∀ {a : Addr} {u : HO}, (∀ C dx fs, u ≠ .ins C dx fs) → Rd H a u → Rd H' a u := fun hu h => by
    rcases h with h | ⟨o, h⟩
    · exact .inl (k _ _ (fun z => by rw [z, hp] at h; exact hu _ _ _ (Option.some.inj h).symm) h)
    · exact .inr ⟨o, k _ _ (fun z => by rw [z, hp] at h; cases h) h⟩
  refine ⟨fun a xs h => ?_, fun a xs h => ?_⟩
  · rcases h with h | h
    · exact .inl (rd (fun _ _ _ z => by cases z) h)
    · exact .inr h
  · rcases h with h | h
    · exact .inl (rd (fun _ _ _ z => by cases z) h)
    · exact .inr h
theorem Tx.of {PT p : Addr} {H H' : Hp} (t : Tb PT H H') : Tx PT p H H' := ⟨t.g, fun b o _ n h => t.k b o n h⟩
/-! ### a market's object -/
structure Nm where
  x : Str
  b : Int
  st : List (Int × Int)
def DSt (K : PySem.W.Frag) (H : Hp) (s : Int × Int) (v : V) : Prop := ∃ p, v = .ref p ∧ SqT K H p [.int s.1, .int s.2]
def DNm (K : PySem.W.Frag) (H : Hp) (n : Nm) (v : V) : Prop := ∃ p q us, v = .ref p ∧ SqT K H p [.str n.x, .int n.b, .ref q] ∧ SqT K H q us ∧ All2 (DSt K H) n.st us
theorem DSt.tm {K : PySem.W.Frag} {H H' : Hp} (e : TM K H H') : ∀ s v, DSt K H s v → DSt K H' s v := fun _ _ ⟨p, h1, h2⟩ => ⟨p, h1, e _ _ h2⟩
theorem DNm.tm {K : PySem.W.Frag} {H H' : Hp} (e : TM K H H') : ∀ n v, DNm K H n v → DNm K H' n v := fun _ _ ⟨p, q, us, h1, h2, h3, h4⟩ => ⟨p, q, us, h1, e _ _ h2, e _ _ h3, h4.mono (DSt.tm e)⟩
def DMk (K : PySem.W.Frag) (C : Addr) (H : Hp) (la : Int) (ns : List Nm) (a : Addr) : Prop := ∃ dx t us, H a = some (.ins C dx [("last", .int la), ("names", .ref t)]) ∧ SqT K H t us ∧ All2 (DNm K H) ns us
theorem DMk.same {K : PySem.W.Frag} {C : Addr} {H H' : Hp} {la : Int} {ns : List Nm} {a : Addr} (e : Same H H') (h : DMk K C H la ns a) : DMk K C H' la ns a := by
  obtain ⟨dx, t, us, h1, h2, h3⟩ := h
  exact ⟨dx, t, us, e _ _ h1, SqT.same e h2, h3.mono (DNm.tm (.of e))⟩
def stOf : PyData → Int × Int
  | .tuple [.int i, .int j] => (i, j)
  | _ => (0, 0)
def nmOf : PyData → Nm
  | .tuple [.str x, .int b, .list es] => ⟨x, b, es.map stOf⟩
  | _ => ⟨"", 0, []⟩
theorem okStep_ij {d : PyData} (h : okStep d = true) : ∃ i j, d = .tuple [.int i, .int j] := by
  unfold okStep at h
  split at h
  · rename_i a b
    rw [Bool.and_eq_true] at h
    cases a with
    | int i =>
      cases b with
      | int j => exact ⟨i, j, rfl⟩
      | _ => cases h.2
    | _ => cases h.1
  · cases h
theorem okName_parts {d : PyData} (h : okName d = true) : ∃ x b es, d = .tuple [.str x, .int b, .list es] ∧ es.all okStep = true ∧ isW' (.str x) = true := by
  unfold okName at h
  split at h
  · rename_i a b s
    simp only [Bool.and_eq_true] at h
    obtain ⟨h1, h2, h3⟩ := h
    obtain ⟨x, rfl⟩ := isW_str h1
    obtain ⟨es, rfl, _⟩ := okSteps_lst h3
    cases b with
    | int n =>
      dsimp only [okSteps] at h3
      simp only [Bool.and_eq_true] at h3
      exact ⟨x, n, es, rfl, h3.2.2.1, h1⟩
    | _ => cases h2
  · cases h
theorem steps_all2 {K : PySem.W.Frag} {H : Hp} : ∀ {es : List PyData} {vs : List V}, DpAll K H vs es → es.all okStep = true → All2 (DSt K H) (es.map stOf) vs
  | [], _, .nil, _ => trivial
  | e :: es, v :: vs, .cons h r, ok => by
    rw [List.all_cons, Bool.and_eq_true] at ok
    obtain ⟨i, j, rfl⟩ := okStep_ij ok.1
    refine ⟨?_, steps_all2 r ok.2⟩
    cases h with
    | tup ht he =>
    cases he with
    | cons h1 he =>
    cases he with
    | cons h2 he =>
    cases he
    cases h1
    cases h2
    exact ⟨_, rfl, ht⟩
def spMk (K : PySem.W.Frag) (X PT C : Addr) : Sp := fun vs H Q E => ∃ (p dx : Addr) (l n : V) (dl dn : PyData), vs = [.ref p, l, n] ∧ H p = some (.ins C dx []) ∧ Dp K H l dl ∧ Dp K H n dn ∧ szOk dn = true ∧ GxR.TabG H PT ∧
  (okMk dl dn = true → ∀ H', Tx PT p H H' → (∀ la ds, dl = .int la → dn = .list ds → DMk K C H' la (ds.map nmOf) p) → Q .non H') ∧ (okMk dl dn = false → ∀ H', Tx PT p H H' → E (.ref X) none H')
section
variable {P : Program} {w : World} {K : PySem.W.Frag} {mg : Str → Option Value} {base : Heap}
abbrev s_Market : Stmt := inClass (topS 20) 0
theorem sc_Market : FnScope ["self", "last", "names", "name", "number", "steps"] ["self", "last", "names"] (defScope s_Market) := ⟨rfl, rfl, rfl, by decide +kernel, rfl, by decide +kernel, by decide +kernel⟩
theorem h_Market {PT : Addr} {k : Nat} {C_Market f : Addr} {fd : FuncData} (T : ClsT K mg "Market" C_Market f) (O : OwnM K "__init__" "Market.__init__" s_Market ["self", "last", "names"] f fd) (n_last : NoAttr K C_Market "last") (n_names : NoAttr K C_Market "names") {C_BadMarket : Addr} (X_BadMarket : ExcT K mg "BadMarket" C_BadMarket)  {f__need_names : Addr} {fd__need_names : FuncData} (D__need_names : Has P w K mg base "_need_names" ["names"] k (L2.CX P w) (spNNames K C_BadMarket PT) f__need_names fd__need_names) {f_is_between : Addr} {fd_is_between : FuncData} (D_is_between : Has P w K mg base "is_between" ["told", "low", "high"] k CX0 (spBetween K) f_is_between fd_is_between) (m_tuple : mg "tuple" = none) {t_LAST_HOUR : Tok} (m_LAST_HOUR : mg "LAST_HOUR" = some (.int 12 t_LAST_HOUR)) : HasM P w K mg base "Market" ["self", "last", "names"] (k + 2) (L2.CX P w) (spMk K C_BadMarket PT C_Market) C_Market f fd := by
  refine HasM.of T O (O.F.okX sc_Market (fun vs H Q E h => ?_) (fun cdv A outer s H vs Q E hr h => ?_))
  · obtain ⟨p, dx, l, n, dl, dn, rfl, _⟩ := h
    rfl
  obtain ⟨p, dx, l, n, dl, dn, rfl, hp, hl, hn, hz, ht, q0, q1⟩ := h
  refine ⟨_, (pss_cons (ps_if (pt_not (pt_val (pe_call D_is_between.G hr (by rfl) D_is_between.g D_is_between.k D_is_between.b .nil pass0 (pa_cons (pv 1) (pa_cons pe_int (pa_cons (pe_glob (v := .int (12)) (by rfl) m_LAST_HOUR ⟨_, rfl⟩) pa_nil)))))) (pss_one (ps_raise rfl (takes_of rfl rfl rfl rfl) (pmk_own PySem.F.excBase_ValueError X_BadMarket.x X_BadMarket.g X_BadMarket.k (raises_own X_BadMarket.s X_BadMarket.t) rfl))) pss_nil) (pss_cons (ps_expr (pe_call D__need_names.G hr (by rfl) D__need_names.g D__need_names.k D__need_names.b .nil (passes_call (takes_of rfl rfl rfl rfl) (fun _ _ _ _ h => h)) (pa_cons (pv 2) pa_nil))) (pss_cons (ps_fld (pv 0) (pv 1) rfl) (pss_one (ps_fld (pv 0) (pe_callTy call_tuple_of (by rfl) m_tuple (by decide +kernel) (pa_cons (pe_lc (own := [("name", 3), ("number", 4), ("steps", 5)]) (g := gTup K 3 (gCons (gName 3) (gCons (gName 4) (gCons (gName 5) gNil)))) rfl sc_Market.nd (pi_list (pv 2)) (blkOk_by (own := [("name", 3), ("number", 4), ("steps", 5)]) (N := ["self", "last", "names", "name", "number", "steps"]) (sc := defScope s_Market) (by decide +kernel)) (fun _ _ _ _ _ => pg_tup rfl (pgs_cons (pg_name (i := 3) sc_Market.nd rfl (.inl rfl)) (pgs_cons (pg_name (i := 4) sc_Market.nd rfl (.inl rfl)) (pgs_cons (pg_name (i := 5) sc_Market.nd rfl (.inl rfl)) pgs_nil)))) (fun _ _ _ _ _ => pts_nil) (fun _ _ _ _ _ => (pe_tup (pa_cons (pv 3) (pa_cons (pv 4) (pa_cons (pe_callTy (r := rTupOf K) callTupOf (by rfl) m_tuple (by decide +kernel) (pa_cons (pv 5) pa_nil)) pa_nil)))))) pa_nil)) rfl))))), ?_⟩
  walk_at "go"
  refine use_between hl ?_
  walk_at "go"
  refine ifn (fun c1 => ?_) (fun c1 => ?_)
  · walk_at "go"
    refine use_nnames hn hz ht (fun c2 H2 t2 => ?_) (fun c2 H2 t2 => ?_)
    · walk_at "go"
      have np : p ≠ PT := fun z => by
        obtain ⟨ps, e, _⟩ := ht
        rw [← z, hp] at e
        cases e
      have hp2 := t2.k _ _ np hp
      unfold okMk at q0
      rw [c1, c2] at q0
      have q0 := q0 rfl
      refine ⟨_, rfl, _, rfl, p, C_Market, dx, [], rfl, hp2, T.cl, n_last, by decide, ?_⟩
      have k3 : ∀ b o, b ≠ p → H2 b = some o → upd H2 p (.ins C_Market dx (putF "last" l [])) b = some o := fun b o hb z => by rw [upd_ne hb]; exact z
      have hp3 : upd H2 p (.ins C_Market dx (putF "last" l [])) p = some (.ins C_Market dx (putF "last" l [])) := upd_same
      have m3 : DM K H2 (upd H2 p (.ins C_Market dx (putF "last" l []))) := ins_dm hp2 k3
      have x3 : Tx PT p H (upd H2 p (.ins C_Market dx (putF "last" l []))) := by
        obtain ⟨ps, e, z⟩ := t2.g
        exact ⟨⟨ps, k3 _ _ (fun z => np z.symm) e, z⟩, fun b o h1 h2 h => k3 b o h1 (t2.k b o h2 h)⟩
      generalize upd H2 p (.ins C_Market dx (putF "last" l [])) = H3 at k3 hp3 m3 x3 ⊢
      have hn3 : Dp K H3 n dn := Dp.dm ((t2.dm ht).trans m3) hn
      cases hn3 with
      | @lst a vs ds ha hall =>
        have hlen := DpAll.len hall
        obtain ⟨hd3, hal⟩ : ds.length ≤ 3 ∧ ds.all okName = true := by
          dsimp only [okNames] at c2
          simp only [Bool.and_eq_true, decide_eq_true_eq] at c2
          exact ⟨c2.1, c2.2.1⟩
        dsimp only [L2.start]
        refine g_fld ?_
        walk_at "go"
        refine ⟨⟨_, ha⟩, fun D nD => lc_list (xs := vs) (fun i H' => ∃ ys, H' D = some (.lst ys) ∧ ys.length = i ∧ All2 (DNm K H') ((ds.take i).map nmOf) ys ∧ Same H3 H') ⟨[], upd_same, rfl, trivial, same_new nD⟩ (fun i H' _ ⟨_, _, _, _, e⟩ => e.seq ha) (fun i x H' hx hW => ?_) (fun H' hW => ?_)⟩
        · obtain ⟨ys, hD, ly, hys, eD⟩ := hW
          have hi : i < ds.length := by have := (List.getElem?_eq_some_iff.mp hx).1; omega
          have hdi : ds[i]? = some ds[i] := List.getElem?_eq_getElem hi
          obtain ⟨x', hx', dx'⟩ := DpAll.at hall hdi
          obtain rfl : x' = x := Option.some.inj (hx'.symm.trans hx)
          obtain ⟨n1, b1, es1, ed, e2, _⟩ := okName_parts (List.all_eq_true.mp hal _ (List.getElem_mem hi))
          have tm := take_map_snoc (f := nmOf) hdi
          rw [ed] at dx' tm
          replace dx' := Dp.dm (.of eD) dx'
          cases dx' with
          | @tup b us es hb he =>
          cases he with
          | @cons y1 _ _ _ h1 he =>
          cases he with
          | @cons y2 _ _ _ h2 he =>
          cases he with
          | @cons y3 _ _ _ h3 he =>
          cases he
          cases h1
          cases h2
          cases h3 with
          | @lst a3 vs3 _ ha3 hs3 =>
          have st3 := steps_all2 hs3 e2
          refine g_gtup hb rfl ?_
          walk_at "go"
          refine ⟨a3, vs3, rfl, .inl ⟨ha3, fun t nt => ?_⟩⟩
          walk_at "go"
          refine ⟨by show 3 ≤ sizeLine; decide, fun q nq => ?_⟩
          have sq := (same_new (o := .tup vs3) nt).trans (same_new (o := .tup [.str n1, .int b1, .ref t]) nq)
          have hq : SqT K (upd (upd H' t (.tup vs3)) q (.tup [.str n1, .int b1, .ref t])) q [.str n1, .int b1, .ref t] := sqt upd_same
          have htt : SqT K (upd (upd H' t (.tup vs3)) q (.tup [.str n1, .int b1, .ref t])) t vs3 := SqT.same (same_new nq) (sqt upd_same)
          have hDq := sq _ _ hD
          generalize upd (upd H' t (.tup vs3)) q (.tup [.str n1, .int b1, .ref t]) = Hq at sq hq htt hDq ⊢
          refine ⟨ys, hDq, small1000 (by omega), ys ++ [.ref q], upd_same, by rw [List.length_append, ly]; rfl, ?_, fun c o h => by rw [upd_ne (ne_of_none h nD)]; exact sq _ _ (eD _ _ h)⟩
          rw [tm]
          have tl : TM K Hq (upd Hq D (.lst (ys ++ [.ref q]))) := tm_lst hDq
          exact All2.snoc (hys.mono (DNm.tm ((TM.of sq).trans tl))) ⟨q, t, vs3, rfl, tl _ _ hq, tl _ _ htt, st3.mono (DSt.tm ((TM.of sq).trans tl))⟩
        · obtain ⟨ys, hy, ly, hys, e4⟩ := hW
          rw [List.take_of_length_le (by omega)] at hys
          walk_at "go"
          refine ⟨D, ys, rfl, .inl ⟨sql hy, fun t nt => ?_⟩⟩
          have st := same_new (o := .tup ys) nt
          have e5 := e4.trans st
          have ht5 : SqT K (upd H' t (.tup ys)) t ys := sqt upd_same
          have hy5 := hys.mono (DNm.tm (TM.of st))
          generalize upd H' t (.tup ys) = H5 at e5 ht5 hy5 ⊢
          have hp5 := e5 _ _ hp3
          refine ⟨_, rfl, p, C_Market, dx, _, rfl, hp5, T.cl, n_names, by show 1 < 1000; decide, ?_⟩
          have k6 : ∀ b o, b ≠ p → H5 b = some o → upd H5 p (.ins C_Market dx (putF "names" (.ref t) (putF "last" l []))) b = some o := fun b o hb z => by rw [upd_ne hb]; exact z
          have m6 : DM K H5 (upd H5 p (.ins C_Market dx (putF "names" (.ref t) (putF "last" l [])))) := ins_dm hp5 k6
          have hp6 : upd H5 p (.ins C_Market dx (putF "names" (.ref t) (putF "last" l []))) p = some (.ins C_Market dx (putF "names" (.ref t) (putF "last" l []))) := upd_same
          have x5 : Tx PT p H (upd H5 p (.ins C_Market dx (putF "names" (.ref t) (putF "last" l [])))) := by
            obtain ⟨ps, e, z⟩ := x3.g
            exact ⟨⟨ps, by rw [upd_ne (fun z => np z.symm)]; exact e5 _ _ e, z⟩, fun b o h1 h2 h => by rw [upd_ne h1]; exact e5 _ _ (x3.k b o h1 h2 h)⟩
          refine q0 _ x5 fun la ds' el en => ?_
          cases en
          subst el
          cases hl
          exact ⟨dx, t, ys, hp6, m6.t _ _ ht5, hy5.mono (DNm.tm m6.t)⟩
      | _ => cases c2
    · walk_at "go"
      exact q1 (by unfold okMk; rw [c2]; simp) _ (.of t2)
  · walk_at "go"
    exact q1 (by unfold okMk; rw [c1]; rfl) _ (.of (.refl ht))
end
theorem use_mk {K : PySem.W.Frag} {X PT C : Addr} {v1 v2 : V} {d1 d2 : PyData} {H : Hp} {Q : VK} {E : XK} (h1 : Dp K H v1 d1) (h2 : Dp K H v2 d2) (hz : szOk d2 = true) (ht : GxR.TabG H PT)
    (q0 : okMk d1 d2 = true → ∀ a H', H a = none → Tb PT H H' → (∀ la ds, d1 = .int la → d2 = .list ds → DMk K C H' la (ds.map nmOf) a) → Q (.ref a) H') (q1 : okMk d1 d2 = false → ∀ H', Tb PT H H' → E (.ref X) none H') : spNew C (spMk K X PT C) [v1, v2] H Q E := by
  intro a dx na ndx nax
  have s1 : Same H (upd (upd H dx (.own a)) a (.ins C dx [])) := fun b o h => by
    rw [upd_ne (fun z => by rw [z, na] at h; cases h), upd_ne (fun z => by rw [z, ndx] at h; cases h)]
    exact h
  have tb : ∀ {H'}, Tx PT a (upd (upd H dx (.own a)) a (.ins C dx [])) H' → Tb PT H H' := fun x => ⟨x.g, fun b o n h => x.k b o (fun z => by rw [z, na] at h; cases h) n (s1 b o h)⟩
  exact ⟨a, dx, v1, v2, d1, d2, rfl, upd_same, Dp.dm (.of s1) h1, Dp.dm (.of s1) h2, hz, tab_same ht s1, fun e H' x o => ⟨rfl, q0 e a H' na (tb x) o⟩, fun e H' x => q1 e H' (tb x)⟩

/-! ### rows -/
abbrev Row := List (Str × Int)
def dk (R : Row) : List (Key × V) := R.map fun p => (.inr p.1, .int p.2)
theorem dk_int (R : Row) : IntVals (dk R) := fun p h => by
  obtain ⟨q, _, rfl⟩ := List.mem_map.mp h
  exact ⟨q.2, rfl⟩
theorem dk_len (R : Row) : (dk R).length = R.length := by unfold dk; rw [List.length_map]
theorem dk_val (x : Str) : ∀ R : Row, valV (dk R) (.inr x) = (R.lookup x).map V.int
  | [] => rfl
  | (y, i) :: R => by
    have ih := dk_val x R
    unfold valV at ih ⊢
    rw [show dk ((y, i) :: R) = (.inr y, .int i) :: dk R from rfl, List.find?_cons, List.lookup_cons]
    by_cases h : y = x
    · subst h
      simp
    · have e1 : decide ((.inr y : Key) = .inr x) = false := decide_eq_false (fun z => h (Sum.inr.inj z))
      have e2 : (x == y) = false := by rw [beq_eq_false_iff_ne]; exact fun z => h z.symm
      dsimp only
      rw [e1, e2]
      exact ih
def val (R : Row) (x : Str) : Int := (R.lookup x).getD 0
/-- a market's first row -/
def row0 (ns : List Nm) : Row := ns.map fun n => (n.x, n.b)
def hasN (ns : List Nm) (R : Row) : Bool := decide (R.length = ns.length) && (ns.map fun n => (R.lookup n.x).isSome).all id
def leadN (ns : List Nm) (R S : Row) : Bool := (ns.map fun n => decide (val S n.x - val R n.x ∈ n.st.map (·.1))).all id
theorem hasN_at {ns : List Nm} {R : Row} (h : hasN ns R = true) {n : Nm} (hn : n ∈ ns) : R.lookup n.x = some (val R n.x) := by
  unfold hasN at h
  rw [Bool.and_eq_true, List.all_map, List.all_eq_true] at h
  have := h.2 n hn
  unfold val
  cases e : R.lookup n.x with
  | none =>
    rw [show (id ∘ fun n => (R.lookup n.x).isSome) n = (R.lookup n.x).isSome from rfl, e] at this
    cases this
  | some i => rfl
/-- the rows at these addresses -/
def RsAt (H : Hp) (as : List V) (rs : List Row) : Prop := All2 (fun R v => ∃ a, v = .ref a ∧ H a = some (.dK (dk R))) rs as
theorem RsAt.same {H H' : Hp} (e : Same H H') {as : List V} {rs : List Row} (h : RsAt H as rs) : RsAt H' as rs := All2.mono (fun _ _ ⟨a, h1, h2⟩ => ⟨a, h1, e _ _ h2⟩) h
theorem putR_new {x : Str} {v : V} {kvs : List (Key × V)} (h : ∀ p ∈ kvs, p.1 ≠ .inr x) : putK kvs (.inr x) v = kvs ++ [(.inr x, v)] := by
  unfold putK
  rw [if_neg]
  intro z
  obtain ⟨p, hp, e⟩ := List.any_eq_true.mp z
  exact h p hp (of_decide_eq_true e)
def spFirst (K : PySem.W.Frag) (C : Addr) : Sp := fun vs H Q _ => ∃ (a : Addr) (la : Int) (ns : List Nm), vs = [.ref a] ∧ DMk K C H la ns a ∧ ns.length ≤ 3 ∧ ∀ D H', Same H H' → H D = none → H' D = some (.lst (ns.map fun n => .int n.b)) → Q (.ref D) H'
def spRow (K : PySem.W.Frag) (C : Addr) : Sp := fun vs H Q _ => ∃ (a l : Addr) (la : Int) (ns : List Nm) (is : List Int), vs = [.ref a, .ref l] ∧ DMk K C H la ns a ∧ SqL K H l (is.map V.int) ∧ is.length = ns.length ∧ ns.length ≤ 3 ∧ (ns.map (·.x)).Nodup ∧
  ∀ D H', Same H H' → H D = none → H' D = some (.dK (dk ((ns.map (·.x)).zip is))) → Q (.ref D) H'
def spRow0 (K : PySem.W.Frag) (C : Addr) : Sp := fun vs H Q _ => ∃ (a : Addr) (la : Int) (ns : List Nm), vs = [.ref a] ∧ DMk K C H la ns a ∧ ns.length ≤ 3 ∧ (ns.map (·.x)).Nodup ∧ ∀ D H', Same H H' → H D = none → H' D = some (.dK (dk (row0 ns))) → Q (.ref D) H'
def spHasN (K : PySem.W.Frag) (C : Addr) : Sp := fun vs H Q _ => ∃ (a r : Addr) (la : Int) (ns : List Nm) (R : Row), vs = [.ref a, .ref r] ∧ DMk K C H la ns a ∧ ns.length ≤ 3 ∧ H r = some (.dK (dk R)) ∧ ∀ H', Same H H' → Q (.bl (hasN ns R)) H'
def spLeads (K : PySem.W.Frag) (C : Addr) : Sp := fun vs H Q _ => ∃ (a r s : Addr) (la : Int) (ns : List Nm) (R S : Row), vs = [.ref a, .ref r, .ref s] ∧ DMk K C H la ns a ∧ ns.length ≤ 3 ∧ (∀ n ∈ ns, n.st.length ≤ 4) ∧ H r = some (.dK (dk R)) ∧ H s = some (.dK (dk S)) ∧ hasN ns R = true ∧ hasN ns S = true ∧ ∀ H', Same H H' → Q (.bl (leadN ns R S)) H'
section
variable {P : Program} {w : World} {K : PySem.W.Frag} {mg : Str → Option Value} {base : Heap}
abbrev s_Market__first : Stmt := inClass (topS 20) 4
theorem sc_Market__first : FnScope ["self", "name", "number", "steps"] ["self"] (defScope s_Market__first) := ⟨rfl, rfl, rfl, by decide +kernel, rfl, by decide +kernel, by decide +kernel⟩
theorem h_Market__first {k : Nat} {C_Market f : Addr} {fd : FuncData} (cl_Market : Cls K C_Market) (M : Meth K C_Market "_first" f) (O : OwnM K "_first" "Market._first" s_Market__first ["self"] f fd)  (n_Market_names : NoAttr K C_Market "names") : HasMeth P w K mg base C_Market "_first" ["self"] (k + 1) CX0 (spFirst K C_Market) f fd := by
  refine HasMeth.of cl_Market M O (O.F.ok sc_Market__first (fun vs H Q E h => ?_) (fun cdv A outer s H vs Q E hr h => ?_))
  · obtain ⟨a, la, ns, rfl, _⟩ := h
    rfl
  obtain ⟨a, la, ns, rfl, ⟨dx, t, us, ha, ht, hn⟩, hl, q⟩ := h
  refine ⟨_, (pss_one (ps_ret (pe_lc (own := [("name", 1), ("number", 2), ("steps", 3)]) (g := gTup K 3 (gCons (gName 1) (gCons (gName 2) (gCons (gName 3) gNil)))) rfl sc_Market__first.nd (pi_tup (pe_fld (pv 0) rfl)) (blkOk_by (own := [("name", 1), ("number", 2), ("steps", 3)]) (N := ["self", "name", "number", "steps"]) (sc := defScope s_Market__first) (by decide +kernel)) (fun _ _ _ _ _ => pg_tup rfl (pgs_cons (pg_name (i := 1) sc_Market__first.nd rfl (.inl rfl)) (pgs_cons (pg_name (i := 2) sc_Market__first.nd rfl (.inl rfl)) (pgs_cons (pg_name (i := 3) sc_Market__first.nd rfl (.inl rfl)) pgs_nil)))) (fun _ _ _ _ _ => pts_nil) (fun _ _ _ _ _ => (pv 2))))), ?_⟩
  have ln := hn.len
  walk_at "go"
  refine g_rfld ?_
  walk_at "go"
  refine ⟨_, _, _, _, _, rfl, ha, cl_Market, n_Market_names, rfl, ?_⟩
  walk_at "go"
  refine ⟨⟨_, ht⟩, fun D nD => lc_tup (xs := us) (fun i H3 => H3 D = some (.lst ((ns.take i).map fun n => V.int n.b)) ∧ Same H H3) ⟨upd_same, same_new nD⟩ (fun i H3 _ hW => SqT.same hW.2 ht) (fun i x H3 hx hW => ?_) (fun H3 hW => ?_)⟩
  · obtain ⟨hD, e3⟩ := hW
    have hi : i < ns.length := by have := (List.getElem?_eq_some_iff.mp hx).1; omega
    have hni : ns[i]? = some ns[i] := List.getElem?_eq_getElem hi
    obtain ⟨x', hx', p, q', vs, rfl, hp, _, _⟩ := hn.at hni
    cases Option.some.inj (hx'.symm.trans hx)
    refine g_gtup (SqT.same e3 hp) rfl ?_
    walk_at "go"
    refine ⟨_, hD, ?_, ?_, fun b o h => by rw [upd_ne (ne_of_none h nD)]; exact e3 _ _ h⟩
    · rw [List.length_map, List.length_take]
      exact small1000 (by omega)
    · rw [upd_same, take_map_snoc (f := fun n : Nm => V.int n.b) hni]
  · obtain ⟨hD, e3⟩ := hW
    rw [List.take_of_length_le (by omega)] at hD
    walk_at "go"
    exact q D H3 e3 nD hD
abbrev s_Market__row : Stmt := inClass (topS 20) 5
theorem sc_Market__row : FnScope ["self", "numbers", "number", "name", "first", "steps"] ["self", "numbers"] (defScope s_Market__row) := ⟨rfl, rfl, rfl, by decide +kernel, rfl, by decide +kernel, by decide +kernel⟩
theorem h_Market__row {k : Nat} {C_Market f : Addr} {fd : FuncData} (cl_Market : Cls K C_Market) (M : Meth K C_Market "_row" f) (O : OwnM K "_row" "Market._row" s_Market__row ["self", "numbers"] f fd)  (n_Market_names : NoAttr K C_Market "names") (m_zip : mg "zip" = none) : HasMeth P w K mg base C_Market "_row" ["self", "numbers"] (k + 1) CX0 (spRow K C_Market) f fd := by
  refine HasMeth.of cl_Market M O (O.F.ok sc_Market__row (fun vs H Q E h => ?_) (fun cdv A outer s H vs Q E hr h => ?_))
  · obtain ⟨a, l, la, ns, is, rfl, _⟩ := h
    rfl
  obtain ⟨a, l, la, ns, is, rfl, ⟨dx, t, us, ha, ht, hn⟩, hi, li, hl, nd, q⟩ := h
  refine ⟨_, (pss_one (ps_ret (pe_dc (own := [("number", 2), ("name", 3), ("first", 4), ("steps", 5)]) (g := gTup K 2 (gCons (gTup K 3 (gCons (gName 3) (gCons (gName 4) (gCons (gName 5) gNil)))) (gCons (gName 2) gNil))) rfl sc_Market__row.nd (pi_zipM (by rfl) m_zip (pa_cons (pe_fld (pv 0) rfl) (pa_cons (pv 1) pa_nil))) (blkOk_by (own := [("number", 2), ("name", 3), ("first", 4), ("steps", 5)]) (N := ["self", "numbers", "number", "name", "first", "steps"]) (sc := defScope s_Market__row) (by decide +kernel)) (fun _ _ _ _ _ => pg_tup rfl (pgs_cons (pg_tup rfl (pgs_cons (pg_name (i := 3) sc_Market__row.nd rfl (.inl rfl)) (pgs_cons (pg_name (i := 4) sc_Market__row.nd rfl (.inl rfl)) (pgs_cons (pg_name (i := 5) sc_Market__row.nd rfl (.inl rfl)) pgs_nil)))) (pgs_cons (pg_name (i := 2) sc_Market__row.nd rfl (.inl rfl)) pgs_nil))) (fun _ _ _ _ _ => pts_nil) (fun _ _ _ _ _ => (pv 3)) (fun _ _ _ _ _ => (pv 2))))), ?_⟩
  have ln := hn.len
  walk_at "go"
  refine g_dc ?_
  refine g_zipM ?_
  walk_at "go"
  refine g_rfld ?_
  walk_at "go"
  refine ⟨_, _, _, _, _, rfl, ha, cl_Market, n_Market_names, rfl, ?_⟩
  walk_at "go"
  refine ⟨_, _, _, _, rfl, ht, hi, fun D nD => ?_⟩
  refine dc_it (walk_zipM (n := ns.length) (by rw [List.length_map]; omega)) (fun i H3 => H3 D = some (.dK (dk (((ns.map (·.x)).zip is).take i))) ∧ Same H H3) ⟨by rw [upd_same]; rfl, same_new nD⟩ (fun i H3 _ hW => ⟨SqT.same hW.2 ht, hW.2.seq hi⟩) (fun i x H3 H4 lt hW hy => ?_) (fun H3 hW => ?_)
  · obtain ⟨hD, e3⟩ := hW
    obtain ⟨T, u, j, rfl, nT, rfl, hu, hj⟩ := hy
    have hj : (is.map V.int)[i]? = some j := hj
    rw [List.getElem?_map] at hj
    obtain ⟨k, hk, rfl⟩ := Option.map_eq_some_iff.mp hj
    have hni : ns[i]? = some ns[i] := List.getElem?_eq_getElem lt
    obtain ⟨u', hu', p, q', vs, rfl, hp, _, _⟩ := hn.at hni
    cases Option.some.inj (hu'.symm.trans hu)
    have s4 := same_new (o := .tup [.ref p, .int k]) nT
    refine g_gtup (sqt upd_same) rfl ?_
    refine g_gcons ?_
    refine g_gtup (SqT.same (e3.trans s4) hp) rfl ?_
    walk_at "go"
    have hD4 := s4 _ _ hD
    have e4 := e3.trans s4
    generalize upd H3 T (.tup [.ref p, .int k]) = H4 at hD4 e4 ⊢
    have hz : ((ns.map (·.x)).zip is)[i]? = some (ns[i].x, k) := by
      rw [List.getElem?_zip_eq_some]
      exact ⟨by rw [List.getElem?_map, hni]; rfl, hk⟩
    have hzl : ((ns.map (·.x)).zip is).length = ns.length := by rw [List.length_zip, List.length_map]; omega
    have fresh : ∀ q ∈ dk (((ns.map (·.x)).zip is).take i), q.1 ≠ .inr ns[i].x := fun q hq z => by
      obtain ⟨r, hr, rfl⟩ := List.mem_map.mp hq
      have z : r.1 = ns[i].x := Sum.inr.inj z
      obtain ⟨j, hj, ej⟩ := List.mem_take_iff_getElem.mp hr
      have hj1 : j < i := by omega
      have hj2 : j < ns.length := by omega
      have e2 : (((ns.map (·.x)).zip is)[j]'(by omega)).1 = ns[j].x := by simp
      rw [ej, z] at e2
      have ne := List.pairwise_iff_getElem.mp nd j i (by rw [List.length_map]; exact hj2) (by rw [List.length_map]; exact lt) hj1
      simp only [List.getElem_map] at ne
      exact ne e2.symm
    refine ⟨_, .inr ns[i].x, rfl, hD4, ?_, ?_, fun b o h => by rw [upd_ne (ne_of_none h nD)]; exact e4 _ _ h⟩
    · rw [dk_len, List.length_take]
      exact small1000 (by omega)
    · rw [upd_same, putR_new fresh, List.take_succ, hz]
      unfold dk
      rw [List.map_append]
      rfl
  · obtain ⟨hD, e3⟩ := hW
    rw [List.take_of_length_le (by rw [List.length_zip, List.length_map]; omega)] at hD
    walk_at "go"
    exact q D H3 e3 nD hD
abbrev s_Market_first_row : Stmt := inClass (topS 20) 3
theorem sc_Market_first_row : FnScope ["self"] ["self"] (defScope s_Market_first_row) := ⟨rfl, rfl, rfl, by decide +kernel, rfl, by decide +kernel, by decide +kernel⟩
theorem h_Market_first_row {k : Nat} {C_Market f : Addr} {fd : FuncData} (cl_Market : Cls K C_Market) (M : Meth K C_Market "first_row" f) (O : OwnM K "first_row" "Market.first_row" s_Market_first_row ["self"] f fd)  {f_Market__row : Addr} {fd_Market__row : FuncData} (D_Market__row : HasMeth P w K mg base C_Market "_row" ["self", "numbers"] k CX0 (spRow K C_Market) f_Market__row fd_Market__row) {f_Market__first : Addr} {fd_Market__first : FuncData} (D_Market__first : HasMeth P w K mg base C_Market "_first" ["self"] k CX0 (spFirst K C_Market) f_Market__first fd_Market__first) : HasMeth P w K mg base C_Market "first_row" ["self"] (k + 1) CX0 (spRow0 K C_Market) f fd := by
  refine HasMeth.of cl_Market M O (O.F.ok sc_Market_first_row (fun vs H Q E h => ?_) (fun cdv A outer s H vs Q E hr h => ?_))
  · obtain ⟨a, la, ns, rfl, _⟩ := h
    rfl
  obtain ⟨a, la, ns, rfl, hm, hl, nd, q⟩ := h
  refine ⟨_, (pss_one (ps_ret (pe_meth (pl := _) (pv 0) D_Market__row.cl D_Market__row.M D_Market__row.G hr D_Market__row.b .nil pass0 (pa_cons (pe_meth0 (pl := _) (pv 0) D_Market__first.cl D_Market__first.M D_Market__first.G hr D_Market__first.b .nil pass0) pa_nil)))), ?_⟩
  obtain ⟨dx, t, us, ha, ht, hn⟩ := id hm
  walk_at "go"
  refine g_meth ?_
  walk_at "go"
  refine ⟨_, _, _, rfl, ha, rfl, ?_⟩
  walk_at "go"
  refine g_meth ?_
  walk_at "go"
  refine ⟨_, _, _, rfl, ha, rfl, ?_⟩
  walk_at "go"
  refine ⟨a, la, ns, rfl, hm, hl, fun D H1 e1 nD hD => ?_⟩
  walk_at "go"
  refine ⟨a, D, la, ns, ns.map (·.b), rfl, hm.same e1, sql (by rw [hD, List.map_map]; rfl), by rw [List.length_map], hl, nd, fun B H2 e2 nB hB => ?_⟩
  have e : (ns.map (·.x)).zip (ns.map (·.b)) = row0 ns := by
    unfold row0
    rw [List.zip_map']
  rw [e] at hB
  exact q B H2 (e1.trans e2) (fresh_same e1 nB) hB
abbrev s_Market__has_names : Stmt := inClass (topS 20) 8
theorem sc_Market__has_names : FnScope ["self", "row", "name", "number", "steps"] ["self", "row"] (defScope s_Market__has_names) := ⟨rfl, rfl, rfl, by decide +kernel, rfl, by decide +kernel, by decide +kernel⟩
theorem h_Market__has_names {k : Nat} {C_Market f : Addr} {fd : FuncData} (cl_Market : Cls K C_Market) (M : Meth K C_Market "_has_names" f) (O : OwnM K "_has_names" "Market._has_names" s_Market__has_names ["self", "row"] f fd)  (n_Market_names : NoAttr K C_Market "names") (m_all : mg "all" = none) (m_len : mg "len" = none) : HasMeth P w K mg base C_Market "_has_names" ["self", "row"] (k + 1) CX0 (spHasN K C_Market) f fd := by
  refine HasMeth.of cl_Market M O (O.F.ok sc_Market__has_names (fun vs H Q E h => ?_) (fun cdv A outer s H vs Q E hr h => ?_))
  · obtain ⟨a, r, la, ns, R, rfl, _⟩ := h
    rfl
  obtain ⟨a, r, la, ns, R, rfl, ⟨dx, t, us, ha, ht, hn⟩, hl, hR, q⟩ := h
  refine ⟨_, (pss_one (ps_ret (pe_and (pe_cmpR op_eq (pe_callB call_lenD (by rfl) m_len (by decide +kernel) (pa_cons (pv 1) pa_nil)) (pe_callB call_len_seq (by rfl) m_len (by decide +kernel) (pa_cons (pe_fld (pv 0) rfl) pa_nil)) (nomark _)) (pe_one (pe_callB (cr_all rfl) (by rfl) m_all (by decide +kernel) (pa_cons (pe_lc (own := [("name", 2), ("number", 3), ("steps", 4)]) (g := gTup K 3 (gCons (gName 2) (gCons (gName 3) (gCons (gName 4) gNil)))) rfl sc_Market__has_names.nd (pi_tup (pe_fld (pv 0) rfl)) (blkOk_by (own := [("name", 2), ("number", 3), ("steps", 4)]) (N := ["self", "row", "name", "number", "steps"]) (sc := defScope s_Market__has_names) (by decide +kernel)) (fun _ _ _ _ _ => pg_tup rfl (pgs_cons (pg_name (i := 2) sc_Market__has_names.nd rfl (.inl rfl)) (pgs_cons (pg_name (i := 3) sc_Market__has_names.nd rfl (.inl rfl)) (pgs_cons (pg_name (i := 4) sc_Market__has_names.nd rfl (.inl rfl)) pgs_nil)))) (fun _ _ _ _ _ => pts_nil) (fun _ _ _ _ _ => (pe_cmp (pc_din (hu_of hr) (pv 2) (pv 1))))) pa_nil)))))), ?_⟩
  have ln := hn.len
  walk_at "go"
  refine ⟨_, _, rfl, hR, ?_⟩
  walk_at "go"
  refine g_rfld ?_
  walk_at "go"
  refine ⟨_, _, _, _, _, rfl, ha, cl_Market, n_Market_names, rfl, ?_⟩
  walk_at "go"
  refine ⟨_, _, rfl, .inr ht, ?_⟩
  walk_at "go"
  rw [dk_len, show (decide ((R.length : Int) = (us.length : Int))) = decide (R.length = ns.length) from by
    rw [← ln]
    by_cases c : R.length = ns.length
    · rw [decide_eq_true c, decide_eq_true (by omega)]
    · rw [decide_eq_false c, decide_eq_false (by omega)]]
  unfold hasN at q
  refine ifd (fun c => ?_) (fun c => ?_)
  · rw [decide_eq_true c, Bool.true_and] at q
    walk_at "go"
    refine g_rfld ?_
    walk_at "go"
    refine ⟨_, _, _, _, _, rfl, ha, cl_Market, n_Market_names, rfl, ?_⟩
    walk_at "go"
    refine ⟨⟨_, ht⟩, fun D nD => lc_tup (xs := us) (fun i H3 => H3 D = some (.lst (((ns.map fun n => (R.lookup n.x).isSome).take i).map V.bl)) ∧ Same H H3) ⟨upd_same, same_new nD⟩ (fun i H3 _ hW => SqT.same hW.2 ht) (fun i x H3 hx hW => ?_) (fun H3 hW => ?_)⟩
    · obtain ⟨hD, e3⟩ := hW
      have hi : i < ns.length := by have := (List.getElem?_eq_some_iff.mp hx).1; omega
      have hni : ns[i]? = some ns[i] := List.getElem?_eq_getElem hi
      obtain ⟨x', hx', p, q', vs, rfl, hp, _, _⟩ := hn.at hni
      cases Option.some.inj (hx'.symm.trans hx)
      refine g_gtup (SqT.same e3 hp) rfl ?_
      walk_at "go"
      refine g_din ?_
      walk_at "go"
      refine ⟨_, _, rfl, .inl ⟨_, .inr _, .inl (e3 _ _ hR), rfl, rfl⟩, ?_⟩
      rw [dk_val]
      refine ⟨_, hD, ?_, ?_, fun b o h => by rw [upd_ne (ne_of_none h nD)]; exact e3 _ _ h⟩
      · rw [List.length_map, List.length_take, List.length_map]
        exact small1000 (by omega)
      · rw [upd_same, take_map_snoc (f := V.bl) (c := (R.lookup ns[i].x).isSome) (by rw [List.getElem?_map, hni]; rfl)]
        cases R.lookup ns[i].x <;> rfl
    · obtain ⟨hD, e3⟩ := hW
      rw [List.take_of_length_le (by rw [List.length_map]; omega)] at hD
      walk_at "go"
      exact ⟨D, _, rfl, sql hD, q H3 e3⟩
  · rw [decide_eq_false c, Bool.false_and] at q
    walk_at "go"
    exact q H (Same.refl H)
abbrev s_Market__leads : Stmt := inClass (topS 20) 9
theorem sc_Market__leads : FnScope ["self", "before", "after", "changes", "name", "number", "steps", "change", "step", "weight"] ["self", "before", "after"] (defScope s_Market__leads) := ⟨rfl, rfl, rfl, by decide +kernel, rfl, by decide +kernel, by decide +kernel⟩
theorem h_Market__leads {k : Nat} {C_Market f : Addr} {fd : FuncData} (cl_Market : Cls K C_Market) (M : Meth K C_Market "_leads" f) (O : OwnM K "_leads" "Market._leads" s_Market__leads ["self", "before", "after"] f fd)  (n_Market_names : NoAttr K C_Market "names") (m_all : mg "all" = none) : HasMeth P w K mg base C_Market "_leads" ["self", "before", "after"] (k + 1) CX0 (spLeads K C_Market) f fd := by
  refine HasMeth.of cl_Market M O (O.F.ok sc_Market__leads (fun vs H Q E h => ?_) (fun cdv A outer s H vs Q E hr h => ?_))
  · obtain ⟨a, r, s, la, ns, R, S, rfl, _⟩ := h
    rfl
  obtain ⟨a, r, s, la, ns, R, S, rfl, ⟨dx, t, us, ha, ht, hn⟩, hl, hst, hR, hS, oR, oS, q⟩ := h
  refine ⟨_, (pss_cons (ps_setLc (i := 3) (own := [("name", 4), ("number", 5), ("steps", 6)]) (g := gTup K 3 (gCons (gName 4) (gCons (gName 5) (gCons (gName 6) gNil)))) rfl sc_Market__leads.nd rfl rfl (sw_true rfl rfl rfl (by decide +kernel)) (pi_tup (pe_fld (pv 0) rfl)) (blkOk_by (own := [("name", 4), ("number", 5), ("steps", 6)]) (N := ["self", "before", "after", "changes", "name", "number", "steps", "change", "step", "weight"]) (sc := defScope s_Market__leads) (by decide +kernel)) (fun _ _ _ _ _ => pg_tup rfl (pgs_cons (pg_name (i := 4) sc_Market__leads.nd rfl (.inl rfl)) (pgs_cons (pg_name (i := 5) sc_Market__leads.nd rfl (.inl rfl)) (pgs_cons (pg_name (i := 6) sc_Market__leads.nd rfl (.inl rfl)) pgs_nil)))) (fun _ _ _ _ _ => pts_nil) (fun _ _ _ _ _ => (pe_tup (pa_cons (pe_op op_sub (pe_dget (hu_of hr) (pv 2) (pv 4) (fun _ _ => rfl)) (pe_dget (hu_of hr) (pv 1) (pv 4) (fun _ _ => rfl))) (pa_cons (pv 6) pa_nil))))) (pss_one (ps_ret (pe_callB (cr_all rfl) (by rfl) m_all (by decide +kernel) (pa_cons (pe_lc (own := [("change", 7), ("steps", 6)]) (g := gTup K 2 (gCons (gName 7) (gCons (gName 6) gNil))) rfl sc_Market__leads.nd (pi_list (pv 3)) (blkOk_by (own := [("change", 7), ("steps", 6)]) (N := ["self", "before", "after", "changes", "name", "number", "steps", "change", "step", "weight"]) (sc := defScope s_Market__leads) (by decide +kernel)) (fun _ _ _ _ _ => pg_tup rfl (pgs_cons (pg_name (i := 7) sc_Market__leads.nd rfl (.inl rfl)) (pgs_cons (pg_name (i := 6) sc_Market__leads.nd rfl (.inl rfl)) pgs_nil))) (fun _ _ _ _ _ => pts_nil) (fun _ _ _ _ _ => (pe_cmpR (op_inK (K := K) rfl) (pv 7) (pe_lc (own := [("step", 8), ("weight", 9)]) (g := gTup K 2 (gCons (gName 8) (gCons (gName 9) gNil))) rfl sc_Market__leads.nd (pi_tupK (K := K) rfl (pv 6)) (blkOk_by (own := [("step", 8), ("weight", 9)]) (N := ["self", "before", "after", "changes", "name", "number", "steps", "change", "step", "weight"]) (sc := { kind := ScopeKind.function, names := [(".0", NameKind.local), ("change", NameKind.local), ("steps", NameKind.local)], isGenerator := false, isCoroutine := false }) (by decide +kernel)) (fun _ _ _ _ _ => pg_tup rfl (pgs_cons (pg_name (i := 8) sc_Market__leads.nd rfl (.inl rfl)) (pgs_cons (pg_name (i := 9) sc_Market__leads.nd rfl (.inl rfl)) pgs_nil))) (fun _ _ _ _ _ => pts_nil) (fun _ _ _ _ _ => (pv 8))) (by rfl)))) pa_nil))))), ?_⟩
  have ln := hn.len
  walk_at "go"
  refine g_rfld ?_
  walk_at "go"
  refine ⟨_, _, _, _, _, rfl, ha, cl_Market, n_Market_names, rfl, ?_⟩
  walk_at "go"
  refine ⟨⟨_, ht⟩, fun D nD => lc_tup (xs := us) (fun i H3 => ∃ ys, H3 D = some (.lst ys) ∧ ys.length = i ∧ All2 (fun (n : Nm) v => ∃ p q us, v = .ref p ∧ SqT K H3 p [.int (val S n.x - val R n.x), .ref q] ∧ SqT K H3 q us ∧ All2 (DSt K H3) n.st us) (ns.take i) ys ∧ Same H H3) ⟨[], upd_same, rfl, trivial, same_new nD⟩ (fun i H3 _ ⟨_, _, _, _, e⟩ => SqT.same e ht) (fun i x H3 hx hW => ?_) (fun H3 hW => ?_)⟩
  · obtain ⟨ys, hD, ly, hys, e3⟩ := hW
    have hi : i < ns.length := by have := (List.getElem?_eq_some_iff.mp hx).1; omega
    have hni : ns[i]? = some ns[i] := List.getElem?_eq_getElem hi
    obtain ⟨x', hx', p, q', vs, rfl, hp, hq', hvs⟩ := hn.at hni
    cases Option.some.inj (hx'.symm.trans hx)
    refine g_gtup (SqT.same e3 hp) rfl ?_
    walk_at "go"
    have l1 := hasN_at oS (List.getElem_mem hi)
    have l2 := hasN_at oR (List.getElem_mem hi)
    refine g_key (e3 _ _ hS) (by rw [dk_val, l1]; rfl) ?_
    walk_at "go"
    refine g_key (e3 _ _ hR) (by rw [dk_val, l2]; rfl) ?_
    walk_at "go"
    refine ⟨by show 2 ≤ sizeLine; decide, fun p2 np2 => ?_⟩
    have s4 := same_new (o := .tup [.int (val S ns[i].x - val R ns[i].x), .ref q']) np2
    have hD4 := s4 _ _ hD
    have e4 := e3.trans s4
    have hp2 : SqT K (upd H3 p2 (.tup [.int (val S ns[i].x - val R ns[i].x), .ref q'])) p2 [.int (val S ns[i].x - val R ns[i].x), .ref q'] := sqt upd_same
    generalize upd H3 p2 (.tup [.int (val S ns[i].x - val R ns[i].x), .ref q']) = H4 at s4 hD4 e4 hp2 ⊢
    have tl : TM K H4 (upd H4 D (.lst (ys ++ [.ref p2]))) := tm_lst hD4
    refine ⟨ys, hD4, small1000 (by omega), ys ++ [.ref p2], upd_same, by rw [List.length_append, ly]; rfl, ?_, fun b o h => by rw [upd_ne (ne_of_none h nD)]; exact e4 _ _ h⟩
    have et : ns.take (i + 1) = ns.take i ++ [ns[i]] := by rw [List.take_succ, hni]; rfl
    rw [et]
    refine All2.snoc (hys.mono fun n v ⟨p, q, us, a1, a2, a3, a4⟩ => ?_) ⟨p2, q', vs, rfl, tl _ _ hp2, tl _ _ (SqT.same e4 hq'), hvs.mono (DSt.tm ((TM.of e4).trans tl))⟩
    have tt := (TM.of (K := K) s4).trans tl
    exact ⟨p, q, us, a1, tt _ _ a2, tt _ _ a3, a4.mono (DSt.tm tt)⟩
  obtain ⟨ys, hD, ly, hys, e3⟩ := hW
  rw [List.take_of_length_le (by omega)] at hys
  walk_at "go"
  refine ⟨⟨_, sql hD⟩, fun B nB => lc_list (xs := ys) (fun i H4 => H4 B = some (.lst (((ns.map fun n => decide (val S n.x - val R n.x ∈ n.st.map (·.1))).take i).map V.bl)) ∧ Same H3 H4) ⟨upd_same, same_new nB⟩ (fun i H4 _ hW => sql (hW.2 _ _ hD)) (fun i x H4 hx hW => ?_) (fun H4 hW => ?_)⟩
  · obtain ⟨hB, e4⟩ := hW
    have hi : i < ns.length := by have := (List.getElem?_eq_some_iff.mp hx).1; omega
    have hni : ns[i]? = some ns[i] := List.getElem?_eq_getElem hi
    obtain ⟨x', hx', p, q', vs, rfl, hp, hq', hvs⟩ := hys.at hni
    cases Option.some.inj (hx'.symm.trans hx)
    have lst := hst ns[i] (List.getElem_mem hi)
    have lvs := hvs.len
    refine g_gtup (SqT.same e4 hp) rfl ?_
    walk_at "go"
    refine ⟨⟨_, SqT.same e4 hq'⟩, fun G nG => lc_tup (xs := vs) (fun j H5 => H5 G = some (.lst ((ns[i].st.take j).map fun s => V.int s.1)) ∧ Same H4 H5) ⟨upd_same, same_new nG⟩ (fun j H5 _ hW => SqT.same (e4.trans hW.2) hq') (fun j y H5 hy hW => ?_) (fun H5 hW => ?_)⟩
    · obtain ⟨hG, e5⟩ := hW
      have hj : j < ns[i].st.length := by have := (List.getElem?_eq_some_iff.mp hy).1; omega
      have hsj : ns[i].st[j]? = some ns[i].st[j] := List.getElem?_eq_getElem hj
      obtain ⟨y', hy', p5, rfl, hp5⟩ := hvs.at hsj
      cases Option.some.inj (hy'.symm.trans hy)
      refine g_gtup (SqT.same (e4.trans e5) hp5) rfl ?_
      walk_at "go"
      refine ⟨_, hG, ?_, ?_, fun b o h => by rw [upd_ne (ne_of_none h nG)]; exact e5 _ _ h⟩
      · rw [List.length_map, List.length_take]
        exact small1000 (by omega)
      · rw [upd_same, take_map_snoc (f := fun s : Int × Int => V.int s.1) hsj]
    · obtain ⟨hG, e5⟩ := hW
      rw [List.take_of_length_le (by omega)] at hG
      walk_at "go"
      refine ⟨G, _, rfl, .inl (sql hG), rfl, by rw [List.all_map]; exact List.all_eq_true.mpr fun _ _ => rfl, ?_⟩
      have ei : inV (.int (val S ns[i].x - val R ns[i].x)) (ns[i].st.map fun s => V.int s.1) = decide (val S ns[i].x - val R ns[i].x ∈ ns[i].st.map (·.1)) := by
        rw [← inV_int, List.map_map]
        rfl
      rw [if_neg Bool.false_ne_true, ei]
      refine ⟨_, e5 _ _ hB, ?_, ?_, fun b o h => by rw [upd_ne (ne_of_none h nB)]; exact e5 _ _ (e4 _ _ h)⟩
      · rw [List.length_map, List.length_take, List.length_map]
        exact small1000 (by omega)
      · rw [upd_same, take_map_snoc (f := V.bl) (c := decide (val S ns[i].x - val R ns[i].x ∈ ns[i].st.map (·.1))) (by rw [List.getElem?_map, hni]; rfl)]
  · obtain ⟨hB, e4⟩ := hW
    rw [List.take_of_length_le (by rw [List.length_map]; omega)] at hB
    walk_at "go"
    exact ⟨B, _, rfl, sql hB, q H4 (e3.trans e4)⟩
end

/-! ### whether rows are a future -/
def pairsN (ns : List Nm) (rs : List Row) : List Bool := (rs.zip (rs.drop 1)).map fun p => leadN ns p.1 p.2
def futN (la : Int) (ns : List Nm) (rs : List Row) : Bool := decide ((rs.length : Int) = la + 1) && ((rs.map (hasN ns)).all id && (sameRows (dk (rs.headD [])) (dk (row0 ns)) && (pairsN ns rs).all id))
def spIsF (K : PySem.W.Frag) (C : Addr) : Sp := fun vs H Q _ => ∃ (a l : Addr) (la : Int) (ns : List Nm) (as : List V) (rs : List Row), vs = [.ref a, .ref l] ∧ DMk K C H la ns a ∧ ns.length ≤ 3 ∧ (ns.map (·.x)).Nodup ∧ (∀ n ∈ ns, n.st.length ≤ 4) ∧ SqL K H l as ∧ RsAt H as rs ∧ rs.length ≤ 100 ∧ 0 ≤ la ∧
  ∀ H', Same H H' → Q (.bl (futN la ns rs)) H'
theorem g_zipL {K : PySem.W.Frag} {ta : TA} {σ : L2.St} {H : Hp} {R : It → Hp → Prop} (h : ta σ H fun vs H1 => ∃ a b xs ys, vs = [.ref a, .ref b] ∧ SqL K H1 a xs ∧ SqL K H1 b ys ∧ R (Itz K a b) H1) : iZip K ta σ H R := by
  first
    | exact h
    | (obtain h := h; exact h)
section
variable {P : Program} {w : World} {K : PySem.W.Frag} {mg : Str → Option Value} {base : Heap}
abbrev s_Market_is_future : Stmt := inClass (topS 20) 2
theorem sc_Market_is_future : FnScope ["self", "rows", "before", "after", "row"] ["self", "rows"] (defScope s_Market_is_future) := ⟨rfl, rfl, rfl, by decide +kernel, rfl, by decide +kernel, by decide +kernel⟩
theorem h_Market_is_future {k : Nat} {C_Market f : Addr} {fd : FuncData} (cl_Market : Cls K C_Market) (M : Meth K C_Market "is_future" f) (O : OwnM K "is_future" "Market.is_future" s_Market_is_future ["self", "rows"] f fd)  (n_Market_last : NoAttr K C_Market "last") {f_Market__leads : Addr} {fd_Market__leads : FuncData} (D_Market__leads : HasMeth P w K mg base C_Market "_leads" ["self", "before", "after"] k CX0 (spLeads K C_Market) f_Market__leads fd_Market__leads) {f_Market_first_row : Addr} {fd_Market_first_row : FuncData} (D_Market_first_row : HasMeth P w K mg base C_Market "first_row" ["self"] k CX0 (spRow0 K C_Market) f_Market_first_row fd_Market_first_row) {f_Market__has_names : Addr} {fd_Market__has_names : FuncData} (D_Market__has_names : HasMeth P w K mg base C_Market "_has_names" ["self", "row"] k CX0 (spHasN K C_Market) f_Market__has_names fd_Market__has_names) (m_all : mg "all" = none) (m_zip : mg "zip" = none) (m_len : mg "len" = none) : HasMeth P w K mg base C_Market "is_future" ["self", "rows"] (k + 1) CX0 (spIsF K C_Market) f fd := by
  refine HasMeth.of cl_Market M O (O.F.ok sc_Market_is_future (fun vs H Q E h => ?_) (fun cdv A outer s H vs Q E hr h => ?_))
  · obtain ⟨a, l, la, ns, as, rs, rfl, _⟩ := h
    rfl
  obtain ⟨a, l, la, ns, as, rs, rfl, hm, hl, nd, hst, hq, hrs, hn, h0, q⟩ := h
  refine ⟨_, (pss_cons (ps_if (PW.pt (pw_or (pt_cmpR op_ne (pe_callB call_len_seq (by rfl) m_len (by decide +kernel) (pa_cons (pv 1) pa_nil)) (pe_op op_add (pe_fld (pv 0) rfl) pe_int) (nomark _)) (pw_or1 (pt_not (pt_val (pe_callB (cr_all rfl) (by rfl) m_all (by decide +kernel) (pa_cons (pe_lc (own := [("row", 4)]) (g := gName 4) rfl sc_Market_is_future.nd (pi_list (pv 1)) (blkOk_by (own := [("row", 4)]) (N := ["self", "rows", "before", "after", "row"]) (sc := defScope s_Market_is_future) (by decide +kernel)) (fun _ _ _ _ _ => pg_name (i := 4) sc_Market_is_future.nd rfl (.inl rfl)) (fun _ _ _ _ _ => pts_nil) (fun _ _ _ _ _ => (pe_meth (pl := _) (pv 0) D_Market__has_names.cl D_Market__has_names.M D_Market__has_names.G hr D_Market__has_names.b .nil pass0 (pa_cons (pv 4) pa_nil)))) pa_nil))))))) (pss_one (ps_ret pe_bl)) pss_nil) (pss_cons (ps_if (pt_cmpR (op_neDI hr.units0) (pe_ix ix_list (pv 1) pe_int (fun _ _ => rfl)) (pe_meth0 (pl := _) (pv 0) D_Market_first_row.cl D_Market_first_row.M D_Market_first_row.G hr D_Market_first_row.b .nil pass0) (nomark _)) (pss_one (ps_ret pe_bl)) pss_nil) (pss_one (ps_ret (pe_callB (cr_all rfl) (by rfl) m_all (by decide +kernel) (pa_cons (pe_lc (own := [("before", 2), ("after", 3)]) (g := gTup K 2 (gCons (gName 2) (gCons (gName 3) gNil))) rfl sc_Market_is_future.nd (pi_zip (by rfl) m_zip (pa_cons (pv 1) (pa_cons (pe_slice sl_list (pv 1) (po_some pe_int) po_none) pa_nil))) (blkOk_by (own := [("before", 2), ("after", 3)]) (N := ["self", "rows", "before", "after", "row"]) (sc := defScope s_Market_is_future) (by decide +kernel)) (fun _ _ _ _ _ => pg_tup rfl (pgs_cons (pg_name (i := 2) sc_Market_is_future.nd rfl (.inl rfl)) (pgs_cons (pg_name (i := 3) sc_Market_is_future.nd rfl (.inl rfl)) pgs_nil))) (fun _ _ _ _ _ => pts_nil) (fun _ _ _ _ _ => (pe_meth (pl := _) (pv 0) D_Market__leads.cl D_Market__leads.M D_Market__leads.G hr D_Market__leads.b .nil pass0 (pa_cons (pv 2) (pa_cons (pv 3) pa_nil))))) pa_nil)))))), ?_⟩
  obtain ⟨dx, t, us, ha, ht, hns⟩ := id hm
  have lrs := hrs.len
  walk_at "go"
  refine ⟨_, _, rfl, .inl hq, ?_⟩
  walk_at "go"
  refine g_rfld ?_
  walk_at "go"
  refine ⟨_, _, _, _, _, rfl, ha, cl_Market, n_Market_last, rfl, ?_⟩
  have no : futN la ns rs = false → ∀ H', Same H H' → Q (.bl false) H' := fun e H' s => by
    have z := q H' s
    rw [e] at z
    exact z
  walk_at "go"
  refine ifdn (p := (as.length : Int) = la + 1) (fun c => ?_) (fun c => ?_)
  rotate_left
  · walk_at "go"
    refine no ?_ H (Same.refl H)
    unfold futN
    rw [decide_eq_false (by omega)]
    rfl
  walk_at "go"
  refine ⟨⟨_, hq⟩, fun D nD => lc_list (xs := as) (fun i H3 => H3 D = some (.lst (((rs.map (hasN ns)).take i).map V.bl)) ∧ Same H H3) ⟨upd_same, same_new nD⟩ (fun i H3 _ hW => hW.2.seq hq) (fun i x H3 hx hW => ?_) (fun H3 hW => ?_)⟩
  · obtain ⟨hD, e3⟩ := hW
    have hi : i < rs.length := by have := (List.getElem?_eq_some_iff.mp hx).1; omega
    have hri : rs[i]? = some rs[i] := List.getElem?_eq_getElem hi
    obtain ⟨x', hx', r, rfl, hr⟩ := hrs.at hri
    cases Option.some.inj (hx'.symm.trans hx)
    walk_at "go"
    refine g_meth ?_
    walk_at "go"
    refine ⟨_, _, _, rfl, e3 _ _ ha, rfl, ?_⟩
    walk_at "go"
    refine ⟨a, r, la, ns, rs[i], rfl, hm.same e3, hl, e3 _ _ hr, fun H4 e4 => ?_⟩
    refine ⟨_, e4 _ _ hD, ?_, ?_, fun b o h => by rw [upd_ne (ne_of_none h nD)]; exact e4 _ _ (e3 _ _ h)⟩
    · rw [List.length_map, List.length_take, List.length_map]
      exact small1000 (by omega)
    · rw [upd_same, take_map_snoc (f := V.bl) (c := hasN ns rs[i]) (by rw [List.getElem?_map, hri]; rfl)]
  obtain ⟨hD, e3⟩ := hW
  rw [List.take_of_length_le (by rw [List.length_map]; omega)] at hD
  walk_at "go"
  refine ⟨D, _, rfl, sql hD, ?_⟩
  refine ⟨_, rfl, ifn (fun c2 => ?_) (fun c2 => ?_)⟩
  rotate_left
  · walk_at "go"
    refine no ?_ H3 e3
    unfold futN
    rw [c2, Bool.false_and, Bool.and_false]
  walk_at "go"
  have hpos : 0 < rs.length := by omega
  have hr0 : rs[0]? = some rs[0] := List.getElem?_eq_getElem hpos
  obtain ⟨x0, hx0, r0, rfl, hr0a⟩ := hrs.at hr0
  have hd0 : rs.headD [] = rs[0] := by cases rs with | nil => simp at hpos | cons _ _ => rfl
  refine ⟨_, _, _, _, rfl, rfl, e3.seq hq, at_any (j := 0) rfl hx0, ?_⟩
  walk_at "go"
  refine g_meth ?_
  walk_at "go"
  refine ⟨_, _, _, rfl, e3 _ _ ha, rfl, ?_⟩
  walk_at "go"
  refine ⟨a, la, ns, rfl, hm.same e3, hl, nd, fun B H4 e4 nB hB => ?_⟩
  have e34 := e3.trans e4
  refine ⟨r0, B, dk rs[0], dk (row0 ns), rfl, rfl, e34 _ _ hr0a, hB, dk_int _, dk_int _, ?_⟩
  walk_at "go"
  have allN : ∀ R ∈ rs, hasN ns R = true := fun R hR => by
    rw [List.all_map, List.all_eq_true] at c2
    exact c2 R hR
  refine ifn (fun c3 => ?_) (fun c3 => ?_)
  rotate_left
  · walk_at "go"
    refine no ?_ H4 e34
    unfold futN
    rw [hd0, c3, Bool.false_and, Bool.and_false, Bool.and_false]
  walk_at "go"
  refine g_zipL ?_
  walk_at "go"
  have hne : ¬ (HT.sIx as.length 0 (some 1) = 0 ∧ HT.sIx as.length as.length none = as.length) := by
    cases as with
    | nil => rw [List.length_nil] at lrs; omega
    | cons x r => exact not_whole1 x r
  have hcut : cutV as (some 1) none = as.drop 1 := by
    cases as with
    | nil => rw [List.length_nil] at lrs; omega
    | cons x r => exact cut1 x r
  refine ⟨_, _, rfl, e34.seq hq, fun p np => ?_⟩
  rw [hcut]
  have sp := same_new (o := .lst (as.drop 1)) np
  have hp : SqL K (upd H4 p (.lst (as.drop 1))) p (as.drop 1) := sql upd_same
  have e5 := e34.trans sp
  generalize upd H4 p (.lst (as.drop 1)) = H5 at hp e5 ⊢
  walk_at "go"
  refine ⟨_, _, _, _, rfl, e5.seq hq, hp, fun G nG => ?_⟩
  refine lc_it (walk_zip (n := rs.length - 1) (by rw [List.length_drop]; omega)) (fun i H6 => H6 G = some (.lst (((pairsN ns rs).take i).map V.bl)) ∧ Same H5 H6) ⟨upd_same, same_new nG⟩ (fun i H6 _ hW => ⟨(e5.trans hW.2).seq hq, hW.2.seq hp⟩) (fun i x H6 H7 hi hW hy => ?_) (fun H6 hW => ?_)
  · obtain ⟨hG, e6⟩ := hW
    obtain ⟨T, u, v, rfl, nT, rfl, hu, hv⟩ := hy
    have hu : as[i]? = some u := hu
    have hv : (as.drop 1)[i]? = some v := hv
    rw [List.getElem?_drop] at hv
    have hi1 : i < rs.length := by omega
    have hi2 : 1 + i < rs.length := by omega
    have g1 : rs[i]? = some rs[i] := List.getElem?_eq_getElem hi1
    have g2 : rs[1 + i]? = some rs[1 + i] := List.getElem?_eq_getElem hi2
    obtain ⟨u', hu', ru, rfl, hru⟩ := hrs.at g1
    obtain ⟨v', hv', rv, rfl, hrv⟩ := hrs.at g2
    cases Option.some.inj (hu'.symm.trans hu)
    cases Option.some.inj (hv'.symm.trans hv)
    have s7 := same_new (o := .tup [.ref ru, .ref rv]) nT
    refine g_gtup (sqt upd_same) rfl ?_
    have hG7 := s7 _ _ hG
    have e7 := e6.trans s7
    generalize upd H6 T (.tup [.ref ru, .ref rv]) = H7 at hG7 e7 ⊢
    have e57 := e5.trans e7
    walk_at "go"
    refine g_meth ?_
    walk_at "go"
    refine ⟨_, _, _, rfl, e57 _ _ ha, rfl, ?_⟩
    walk_at "go"
    refine ⟨a, ru, rv, la, ns, rs[i], rs[1 + i], rfl, hm.same e57, hl, hst, e57 _ _ hru, e57 _ _ hrv, allN _ (List.getElem_mem hi1), allN _ (List.getElem_mem hi2), fun H8 e8 => ?_⟩
    have hz : (pairsN ns rs)[i]? = some (leadN ns rs[i] rs[1 + i]) := by
      unfold pairsN
      rw [List.getElem?_map]
      have : (rs.zip (rs.drop 1))[i]? = some (rs[i], rs[1 + i]) := by
        rw [List.getElem?_zip_eq_some]
        exact ⟨g1, by rw [List.getElem?_drop]; exact g2⟩
      rw [this]
      rfl
    have hpl : (pairsN ns rs).length ≤ rs.length := by unfold pairsN; rw [List.length_map, List.length_zip]; omega
    refine ⟨_, e8 _ _ hG7, ?_, ?_, fun b o h => by rw [upd_ne (ne_of_none h nG)]; exact e8 _ _ (e7 _ _ h)⟩
    · rw [List.length_map, List.length_take]
      exact small1000 (by omega)
    · rw [upd_same, take_map_snoc (f := V.bl) hz]
  obtain ⟨hG, e6⟩ := hW
  have hpl : (pairsN ns rs).length = rs.length - 1 := by unfold pairsN; rw [List.length_map, List.length_zip, List.length_drop]; omega
  rw [List.take_of_length_le (by omega)] at hG
  walk_at "go"
  refine ⟨G, _, rfl, sql hG, ?_⟩
  have z := q H6 (e5.trans e6)
  unfold futN at z
  rw [decide_eq_true (show (rs.length : Int) = la + 1 by omega), c2, hd0, c3] at z
  exact z
end

/-! ### a market with no hour behind the first -/
def spCount0 (K : PySem.W.Frag) (C : Addr) : Sp := fun vs H Q _ => ∃ (a : Addr) (ns : List Nm), vs = [.ref a] ∧ DMk K C H 0 ns a ∧ Q (.int 1) H
def spFut0 (K : PySem.W.Frag) (C : Addr) : Sp := fun vs H Q _ => ∃ (a : Addr) (ns : List Nm), vs = [.ref a] ∧ DMk K C H 0 ns a ∧ ns.length ≤ 3 ∧ (ns.map (·.x)).Nodup ∧
  ∀ D p l r H', Same H H' → H' D = some (.lst [.ref p]) → SqT K H' p [.ref l, .int 1] → H' l = some (.lst [.ref r]) → H' r = some (.dK (dk (row0 ns))) → Q (.ref D) H'
section
variable {P : Program} {w : World} {K : PySem.W.Frag} {mg : Str → Option Value} {base : Heap}
abbrev s_Market__count : Stmt := inClass (topS 20) 6
theorem sc_Market__count : FnScope ["self", "count", "_", "name", "number", "steps"] ["self"] (defScope s_Market__count) := ⟨rfl, rfl, rfl, by decide +kernel, rfl, by decide +kernel, by decide +kernel⟩
theorem h_Market__count {k : Nat} {C_Market f : Addr} {fd : FuncData} (cl_Market : Cls K C_Market) (M : Meth K C_Market "_count" f) (O : OwnM K "_count" "Market._count" s_Market__count ["self"] f fd)  (n_Market_last : NoAttr K C_Market "last") (m_range : mg "range" = none) : HasMeth P w K mg base C_Market "_count" ["self"] (k + 1) CX0 (spCount0 K C_Market) f fd := by
  refine HasMeth.of cl_Market M O (O.F.ok sc_Market__count (fun vs H Q E h => ?_) (fun cdv A outer s H vs Q E hr h => ?_))
  · obtain ⟨a, ns, rfl, _⟩ := h
    rfl
  obtain ⟨a, ns, rfl, ⟨dx, t, us, ha, ht, hn⟩, q⟩ := h
  refine ⟨_, (pss_cons (ps_set (i := 1) sc_Market__count.nd rfl (.inl rfl) pe_int) (pss_cons (ps_for PassesOwn.never rfl (pi_range1 (by rfl) m_range (pa_cons (pe_fld (pv 0) rfl) pa_nil)) (pg_name (i := 2) sc_Market__count.nd rfl (.inl rfl)) (pss_one ps_never)) (pss_one (ps_ret (pv 1))))), ?_⟩
  walk_at "go"
  refine g_rfld ?_
  walk_at "go"
  refine ⟨_, _, _, _, _, rfl, ha, cl_Market, n_Market_last, rfl, ?_⟩
  walk_at "go"
  refine ⟨by decide, by decide, for_range (lo := 0) (n := 0) (fun _ σ H3 => σ = [some (.ref a), some (.int 1), none, none, none, none] ∧ H3 = H) ⟨rfl, rfl⟩ (fun i _ _ hi _ => absurd hi (by omega)) (fun σ H3 hW => ?_)⟩
  obtain ⟨rfl, rfl⟩ := hW
  walk_at "go"
  exact q
abbrev s_Market_futures : Stmt := inClass (topS 20) 1
theorem sc_Market_futures : FnScope ["self", "ways", "_", "way", "weight", "numbers", "after", "times"] ["self"] (defScope s_Market_futures) := ⟨rfl, rfl, rfl, by decide +kernel, rfl, by decide +kernel, by decide +kernel⟩
theorem h_Market_futures {k : Nat} {C_Market f : Addr} {fd : FuncData} (cl_Market : Cls K C_Market) (M : Meth K C_Market "futures" f) (O : OwnM K "futures" "Market.futures" s_Market_futures ["self"] f fd)  (n_Market_last : NoAttr K C_Market "last") {f_Market__row : Addr} {fd_Market__row : FuncData} (D_Market__row : HasMeth P w K mg base C_Market "_row" ["self", "numbers"] k CX0 (spRow K C_Market) f_Market__row fd_Market__row) {f_Market__first : Addr} {fd_Market__first : FuncData} (D_Market__first : HasMeth P w K mg base C_Market "_first" ["self"] k CX0 (spFirst K C_Market) f_Market__first fd_Market__first) {f_Market__count : Addr} {fd_Market__count : FuncData} (D_Market__count : HasMeth P w K mg base C_Market "_count" ["self"] k CX0 (spCount0 K C_Market) f_Market__count fd_Market__count) (m_range : mg "range" = none) {t_MOST_FUTURES : Tok} (m_MOST_FUTURES : mg "MOST_FUTURES" = some (.int 2000 t_MOST_FUTURES)) : HasMeth P w K mg base C_Market "futures" ["self"] (k + 1) CX0 (spFut0 K C_Market) f fd := by
  refine HasMeth.of cl_Market M O (O.F.ok sc_Market_futures (fun vs H Q E h => ?_) (fun cdv A outer s H vs Q E hr h => ?_))
  · obtain ⟨a, ns, rfl, _⟩ := h
    rfl
  obtain ⟨a, ns, rfl, hm, hl, nd, q⟩ := h
  refine ⟨_, (pss_cons (ps_if (pt_cmpR op_gt (pe_meth0 (pl := _) (pv 0) D_Market__count.cl D_Market__count.M D_Market__count.G hr D_Market__count.b .nil pass0) (pe_glob (v := .int (2000)) (by rfl) m_MOST_FUTURES ⟨_, rfl⟩) (nomark _)) (pss_one ps_never) pss_nil) (pss_cons (ps_set (i := 1) sc_Market_futures.nd rfl (.inl rfl) (pe_lst (pa_cons (pe_tup (pa_cons (pe_lst (pa_cons (pe_meth0 (pl := _) (pv 0) D_Market__first.cl D_Market__first.M D_Market__first.G hr D_Market__first.b .nil pass0) pa_nil)) (pa_cons pe_int pa_nil))) pa_nil))) (pss_cons (ps_for PassesOwn.never rfl (pi_range1 (by rfl) m_range (pa_cons (pe_fld (pv 0) rfl) pa_nil)) (pg_name (i := 2) sc_Market_futures.nd rfl (.inl rfl)) (pss_one ps_never)) (pss_one (ps_ret (pe_lc (own := [("way", 3), ("weight", 4)]) (g := gTup K 2 (gCons (gName 3) (gCons (gName 4) gNil))) rfl sc_Market_futures.nd (pi_list (pv 1)) (blkOk_by (own := [("way", 3), ("weight", 4)]) (N := ["self", "ways", "_", "way", "weight", "numbers", "after", "times"]) (sc := defScope s_Market_futures) (by decide +kernel)) (fun _ _ _ _ _ => pg_tup rfl (pgs_cons (pg_name (i := 3) sc_Market_futures.nd rfl (.inl rfl)) (pgs_cons (pg_name (i := 4) sc_Market_futures.nd rfl (.inl rfl)) pgs_nil))) (fun _ _ _ _ _ => pts_nil) (fun _ _ _ _ _ => (pe_tup (pa_cons (pe_lc (own := [("numbers", 5)]) (g := gName 5) rfl sc_Market_futures.nd (pi_listK (K := K) rfl (pv 3)) (blkOk_by (own := [("numbers", 5)]) (N := ["self", "ways", "_", "way", "weight", "numbers", "after", "times"]) (sc := { kind := ScopeKind.function, names := [(".0", NameKind.local), ("way", NameKind.local), ("weight", NameKind.local), ("self", NameKind.cell)], isGenerator := false, isCoroutine := false }) (by decide +kernel)) (fun _ _ _ _ _ => pg_name (i := 5) sc_Market_futures.nd rfl (.inl rfl)) (fun _ _ _ _ _ => pts_nil) (fun _ _ _ _ _ => (pe_meth (pl := _) (pv 0) D_Market__row.cl D_Market__row.M D_Market__row.G hr D_Market__row.b .nil pass0 (pa_cons (pv 5) pa_nil)))) (pa_cons (pv 4) pa_nil)))))))))), ?_⟩
  obtain ⟨dx, t, us, ha, ht, hn⟩ := id hm
  walk_at "go"
  refine g_meth ?_
  walk_at "go"
  refine ⟨_, _, _, rfl, ha, rfl, ?_⟩
  walk_at "go"
  refine ⟨a, ns, rfl, hm, ?_⟩
  walk_at "go"
  refine ifd (fun c => absurd c (by decide)) (fun _ => ?_)
  walk_at "go"
  refine g_meth ?_
  walk_at "go"
  refine ⟨_, _, _, rfl, ha, rfl, ?_⟩
  walk_at "go"
  refine ⟨a, 0, ns, rfl, hm, hl, fun F H1 e1 nF hF => ?_⟩
  walk_at "go"
  refine ⟨by show 1 ≤ sizeLine; decide, fun l nl => ?_⟩
  have s2 := same_new (o := .lst [.ref F]) nl
  have hl2 : (upd H1 l (.lst [.ref F])) l = some (.lst [.ref F]) := upd_same
  have e2 := e1.trans s2
  replace hF := s2 _ _ hF
  generalize upd H1 l (.lst [.ref F]) = H2 at hl2 e2 hF ⊢
  walk_at "go"
  refine ⟨by show 2 ≤ sizeLine; decide, fun p np => ?_⟩
  have s3 := same_new (o := .tup [.ref l, .int 1]) np
  have hp3 : SqT K (upd H2 p (.tup [.ref l, .int 1])) p [.ref l, .int 1] := sqt upd_same
  have e3 := e2.trans s3
  replace hF := s3 _ _ hF
  replace hl2 := s3 _ _ hl2
  generalize upd H2 p (.tup [.ref l, .int 1]) = H3 at hl2 hp3 e3 hF ⊢
  walk_at "go"
  refine ⟨by show 1 ≤ sizeLine; decide, fun W nW => ?_⟩
  have s4 := same_new (o := .lst [.ref p]) nW
  have hW4 : (upd H3 W (.lst [.ref p])) W = some (.lst [.ref p]) := upd_same
  have e4 := e3.trans s4
  replace hF := s4 _ _ hF
  replace hl2 := s4 _ _ hl2
  replace hp3 := SqT.same s4 hp3
  generalize upd H3 W (.lst [.ref p]) = H4 at hl2 hp3 hW4 e4 hF ⊢
  walk_at "go"
  refine g_rfld ?_
  walk_at "go"
  refine ⟨_, _, _, _, _, rfl, e4 _ _ ha, cl_Market, n_Market_last, rfl, ?_⟩
  walk_at "go"
  refine ⟨by decide, by decide, for_range (lo := 0) (n := 0) (fun _ σ H5 => σ = [some (.ref a), some (.ref W), none, none, none, none, none, none] ∧ H5 = H4) ⟨rfl, rfl⟩ (fun i _ _ hi _ => absurd hi (by omega)) (fun σ H5 hV => ?_)⟩
  obtain ⟨rfl, rfl⟩ := hV
  walk_at "go"
  refine ⟨⟨_, sql hW4⟩, fun D nD => lc_list (xs := [V.ref p]) (fun i H' => Same H5 H' ∧ ((i = 0 ∧ H' D = some (.lst [])) ∨ (i = 1 ∧ ∃ pp ll rr, H' D = some (.lst [.ref pp]) ∧ SqT K H' pp [.ref ll, .int 1] ∧ H' ll = some (.lst [.ref rr]) ∧ H' rr = some (.dK (dk (row0 ns)))))) ⟨same_new nD, .inl ⟨rfl, upd_same⟩⟩ (fun i H' _ c => sql (c.1 _ _ hW4)) (fun j x H6 hx c => ?_) (fun H6 c => ?_)⟩
  · obtain ⟨e6, c⟩ := c
    have hj : j = 0 := by have := (List.getElem?_eq_some_iff.mp hx).1; simpa using this
    subst hj
    obtain rfl : V.ref p = x := Option.some.inj hx
    have hD6 : H6 D = some (.lst []) := by
      rcases c with ⟨_, h⟩ | ⟨h, _⟩
      · exact h
      · cases h
    refine g_gtup (SqT.same e6 hp3) rfl ?_
    walk_at "go"
    refine ⟨⟨_, sql (e6 _ _ hl2)⟩, fun D2 nD2 => lc_list (xs := [V.ref F]) (fun i H' => Same H6 H' ∧ ((i = 0 ∧ H' D2 = some (.lst [])) ∨ (i = 1 ∧ ∃ rr, H' D2 = some (.lst [.ref rr]) ∧ H' rr = some (.dK (dk (row0 ns)))))) ⟨same_new nD2, .inl ⟨rfl, upd_same⟩⟩ (fun i H' _ c => sql (c.1 _ _ (e6 _ _ hl2))) (fun j y H7 hy c => ?_) (fun H7 c => ?_)⟩
    · obtain ⟨e7, c⟩ := c
      have hj : j = 0 := by have := (List.getElem?_eq_some_iff.mp hy).1; simpa using this
      subst hj
      obtain rfl : V.ref F = y := Option.some.inj hy
      have hD7 : H7 D2 = some (.lst []) := by
        rcases c with ⟨_, h⟩ | ⟨h, _⟩
        · exact h
        · cases h
      have e47 := e6.trans e7
      walk_at "go"
      refine g_meth ?_
      walk_at "go"
      refine ⟨_, _, _, rfl, e47 _ _ (e4 _ _ ha), rfl, ?_⟩
      walk_at "go"
      refine ⟨a, F, 0, ns, ns.map (·.b), rfl, (hm.same e4).same e47, sql (by rw [e47 _ _ hF, List.map_map]; rfl), by rw [List.length_map], hl, nd, fun B H8 e8 nB hB => ?_⟩
      have e : (ns.map (·.x)).zip (ns.map (·.b)) = row0 ns := by
        unfold row0
        rw [List.zip_map']
      rw [e] at hB
      have nBD : B ≠ D2 := fun z => by rw [z, hD7] at nB; cases nB
      refine ⟨_, e8 _ _ hD7, by show 0 < sizeLine; decide, fun b o h => by rw [upd_ne (ne_of_none h nD2)]; exact e8 _ _ (e7 _ _ h), .inr ⟨rfl, B, by rw [upd_same]; rfl, by rw [upd_ne nBD]; exact hB⟩⟩
    · obtain ⟨e7, c⟩ := c
      obtain ⟨rr, hD7, hr7⟩ : ∃ rr, H7 D2 = some (.lst [.ref rr]) ∧ H7 rr = some (.dK (dk (row0 ns))) := by
        rcases c with ⟨h, _⟩ | ⟨_, h⟩
        · cases h
        · exact h
      walk_at "go"
      refine ⟨by show 2 ≤ sizeLine; decide, fun t2 nt2 => ?_⟩
      have s8 := same_new (o := .tup [.ref D2, .int 1]) nt2
      have e8 := e7.trans s8
      have ht8 : (upd H7 t2 (.tup [.ref D2, .int 1])) t2 = some (.tup [.ref D2, .int 1]) := upd_same
      have hD8 := s8 _ _ hD7
      have hr8 := s8 _ _ hr7
      generalize upd H7 t2 (.tup [.ref D2, .int 1]) = H8 at e8 ht8 hD8 hr8 ⊢
      have hD68 := e8 _ _ hD6
      walk_at "go"
      refine ⟨_, hD68, by show 0 < sizeLine; decide, fun b o h => by rw [upd_ne (ne_of_none h nD)]; exact e8 _ _ (e6 _ _ h), .inr ⟨rfl, t2, D2, rr, by rw [upd_same]; rfl, sqt ?_, ?_, ?_⟩⟩
      · rw [upd_ne (ne_of ht8 hD68 (fun z => by cases z))]
        exact ht8
      · rw [upd_ne (ne_of hD8 hD68 (fun z => by cases z))]
        exact hD8
      · rw [upd_ne (ne_of hr8 hD68 (fun z => by cases z))]
        exact hr8
  · obtain ⟨e6, c⟩ := c
    obtain ⟨pp, ll, rr, h1, h2, h3, h4⟩ : ∃ pp ll rr, H6 D = some (.lst [.ref pp]) ∧ SqT K H6 pp [.ref ll, .int 1] ∧ H6 ll = some (.lst [.ref rr]) ∧ H6 rr = some (.dK (dk (row0 ns))) := by
      rcases c with ⟨h, _⟩ | ⟨_, h⟩
      · cases h
      · exact h
    walk_at "go"
    exact q D pp ll rr H6 (e4.trans e6) h1 h2 h3 h4
end

theorem LS.tb {K : PySem.W.Frag} {PT : Addr} {c : Cfg} {ns : List Int} {xs : List Str} {s na nm : Addr} {H H' : Hp} (L : LS K c ns xs s na nm H) (g : GxR.TabG H PT) (t : Tb PT H H') : LS K c ns xs s na nm H' := by
  obtain ⟨⟨n, re, mx, h, r⟩, h1, h2, h3, h4, h5⟩ := L
  have m := t.dm (K := K) g
  obtain ⟨ps, hP, _⟩ := g
  exact ⟨⟨n, re, mx, t.k _ _ (fun z => by rw [z, hP] at h; cases h) h, r⟩, m.l _ _ h1, m.l _ _ h2, h3, h4, h5⟩
theorem LS.tab {K : PySem.W.Frag} {PT : Addr} {c : Cfg} {ns : List Int} {xs : List Str} {s na nm : Addr} {H H' : Hp} (L : LS K c ns xs s na nm H) (g : GxR.TabG H PT) (e : KB s H H') : GxR.TabG H' PT := by
  obtain ⟨⟨n, re, mx, h, r⟩, _⟩ := L
  exact tab_kb g e h

/-! ### names are shaped -/
theorem StOk.sz : ∀ {ds : List PyData}, ds.all okStep = true → szAll ds = true
  | [], _ => rfl
  | d :: ds, h => by
    rw [List.all_cons, Bool.and_eq_true] at h
    show (szOk d && szAll ds) = true
    rw [StOk.sz h.2, Bool.and_true]
    have h1 := h.1
    unfold okStep at h1
    split at h1
    · rename_i a b
      rw [Bool.and_eq_true] at h1
      cases a with
      | int i =>
        cases b with
        | int j => rfl
        | _ => cases h1.2
      | _ => cases h1.1
    · cases h1
theorem okStep_ii {d : PyData} (h : okStep d = true) : ∃ i j, d = .tuple [.int i, .int j] := by
  unfold okStep at h
  split at h
  · rename_i a b
    rw [Bool.and_eq_true] at h
    cases a with
    | int i =>
      cases b with
      | int j => exact ⟨i, j, rfl⟩
      | _ => cases h.2
    | _ => cases h.1
  · cases h
theorem steps_lay : ∀ {es : List PyData}, es.all okStep = true → PyData.canLayAll0 es = true ∧ PyData.depthAll es ≤ 1
  | [], _ => ⟨rfl, by show 0 ≤ 1; decide⟩
  | d :: es, h => by
    rw [List.all_cons, Bool.and_eq_true] at h
    obtain ⟨i, j, rfl⟩ := okStep_ii h.1
    obtain ⟨a, b⟩ := steps_lay h.2
    exact ⟨by show (true && PyData.canLayAll0 es) = true; rw [a]; rfl, by show max 1 (PyData.depthAll es) ≤ 1; omega⟩
theorem word_lay {x : Str} (h : isW' (.str x) = true) : PyData.canLay0 (.str x) = true ∧ szOk (.str x) = true := by
  have z : (decide (1 ≤ x.length) && (decide (x.length ≤ 8) && x.cps.toList.all fun c => decide (97 ≤ c) && decide (c ≤ 122))) = true := h
  simp only [Bool.and_eq_true, decide_eq_true_eq, List.all_eq_true] at z
  refine ⟨?_, decide_eq_true (by omega)⟩
  show PyData.strOk x = true
  unfold PyData.strOk
  rw [Array.all_eq_true_iff_forall_mem]
  intro c hc
  have := z.2.2 c (by simpa using hc)
  exact decide_eq_true (by omega)
theorem okName_lay {d : PyData} (h : okName d = true) : PyData.canLay0 d = true ∧ PyData.depth d ≤ 3 ∧ szOk d = true := by
  unfold okName at h
  split at h
  · rename_i a b s
    simp only [Bool.and_eq_true] at h
    obtain ⟨h1, h2, h3⟩ := h
    obtain ⟨x, rfl⟩ := isW_str h1
    obtain ⟨es, rfl, _⟩ := okSteps_lst h3
    cases b with
    | int n =>
      dsimp only [okSteps] at h3
      simp only [Bool.and_eq_true] at h3
      obtain ⟨l1, l2⟩ := steps_lay h3.2.2.1
      obtain ⟨w1, w2⟩ := word_lay h1
      have sz := StOk.sz h3.2.2.1
      refine ⟨?_, ?_, ?_⟩
      · show (PyData.canLay0 (.str x) && (true && (PyData.canLayAll0 es && true))) = true
        rw [w1, l1]; rfl
      · show max 0 (max 0 (max (PyData.depthAll es + 1) 0)) + 1 ≤ 3
        omega
      · show (szOk (.str x) && (true && (szAll es && true))) = true
        rw [w2, sz]; rfl
    | _ => cases h2
  · cases h
theorem names_lay : ∀ {ds : List PyData}, ds.all okName = true → PyData.canLayAll0 ds = true ∧ PyData.depthAll ds ≤ 3 ∧ szAll ds = true
  | [], _ => ⟨rfl, by show 0 ≤ 3; decide, rfl⟩
  | d :: es, h => by
    rw [List.all_cons, Bool.and_eq_true] at h
    obtain ⟨a, b, c⟩ := okName_lay h.1
    obtain ⟨a', b', c'⟩ := names_lay h.2
    exact ⟨by show (PyData.canLay0 d && PyData.canLayAll0 es) = true; rw [a, a']; rfl, by show max (PyData.depth d) (PyData.depthAll es) ≤ 3; omega, by show (szOk d && szAll es) = true; rw [c, c']; rfl⟩
theorem names_shaped {ds : List PyData} (h : ds.all okName = true) : SeqAt.shaped (.list ds) = true := by
  obtain ⟨a, b, _⟩ := names_lay h
  unfold SeqAt.shaped
  rw [Bool.and_eq_true, decide_eq_true_eq]
  exact ⟨a, by show PyData.depthAll ds + 1 ≤ 64; omega⟩

/-! ### the law -/
def spLaw (K : PySem.W.Frag) (PT : Addr) : Sp := fun vs H Q _ => ∃ (ns : List Int) (na : Addr), vs = [.ref na] ∧ SqL K H na (ns.map V.int) ∧ ns.length ≤ 63 ∧ GxR.TabG H PT ∧ ∀ H', Q (.bl true) H'
theorem wordOf_nm {d : PyData} (h : okName d = true) : wordOf d = (nmOf d).x := by
  obtain ⟨x, b, es, rfl, _⟩ := okName_parts h
  rfl
def nmL (ds : List PyData) : List Str := (ds.map nmOf).map (·.x)
theorem nmL_words : ∀ {ds : List PyData}, ds.all okName = true → nmL ds = ds.map wordOf ∧ (∀ x ∈ nmL ds, isW' (.str x) = true) ∧ ∀ n ∈ ds.map nmOf, n.st.length ≤ 4
  | [], _ => ⟨rfl, fun x h => by simp [nmL] at h, fun n h => by simp at h⟩
  | d :: ds, h => by
    rw [List.all_cons, Bool.and_eq_true] at h
    obtain ⟨a, b, c⟩ := nmL_words h.2
    obtain ⟨x, i, es, e, eo, hw⟩ := okName_parts h.1
    refine ⟨by show (nmOf d).x :: nmL ds = wordOf d :: ds.map wordOf; rw [a, wordOf_nm h.1], fun y hy => ?_, fun n hn => ?_⟩
    · rcases List.mem_cons.mp (show y ∈ (nmOf d).x :: nmL ds from hy) with rfl | hy
      · rw [e]
        exact hw
      · exact b y hy
    · rcases List.mem_cons.mp (show n ∈ nmOf d :: ds.map nmOf from hn) with rfl | hn
      · have ok := h.1
        rw [e] at ok ⊢
        have ok : (isW' (.str x) && (amt (.int i) && okSteps (.list es))) = true := ok
        rw [Bool.and_eq_true, Bool.and_eq_true] at ok
        obtain ⟨ds', ed, le⟩ := okSteps_lst ok.2.2
        cases ed
        show (es.map stOf).length ≤ 4
        rw [List.length_map]
        exact le
      · exact c n hn
theorem DMk.mv {K : PySem.W.Frag} {C : Addr} {H H' : Hp} {la : Int} {ns : List Nm} {a : Addr} (m : DM K H H') (k : ∀ C dx fs, H a = some (.ins C dx fs) → H' a = some (.ins C dx fs)) (h : DMk K C H la ns a) : DMk K C H' la ns a := by
  obtain ⟨dx, t, us, h1, h2, h3⟩ := h
  exact ⟨dx, t, us, k _ _ _ h1, m.t _ _ h2, h3.mono (DNm.tm m.t)⟩
theorem hasN_row0 (ns : List Nm) : hasN ns (row0 ns) = true := by
  unfold hasN row0
  rw [Bool.and_eq_true, List.length_map, List.all_map, List.all_eq_true]
  refine ⟨decide_eq_true rfl, fun n hn => ?_⟩
  show (List.lookup n.x (ns.map fun n => (n.x, n.b))).isSome = true
  induction ns with
  | nil => cases hn
  | cons m ns ih =>
    rw [List.map_cons, List.lookup_cons]
    by_cases h : n.x = m.x
    · rw [h]
      simp
    · have e : (n.x == m.x) = false := by rw [beq_eq_false_iff_ne]; exact h
      rw [e]
      rcases List.mem_cons.mp hn with rfl | hn
      · exact absurd rfl h
      · exact ih hn
theorem in_lookup : ∀ {R : Row} {x : Str} {i : Int}, (R.map (·.1)).Nodup → (x, i) ∈ R → R.lookup x = some i
  | (y, j) :: R, x, i, nd, h => by
    rw [List.map_cons, List.nodup_cons] at nd
    rw [List.lookup_cons]
    rcases List.mem_cons.mp h with e | h
    · cases e
      rw [beq_self_eq_true]
    · have c : ¬ x = y := fun z => nd.1 (List.mem_map.mpr ⟨(x, i), h, z⟩)
      have e : (x == y) = false := by rw [beq_eq_false_iff_ne]; exact c
      rw [e]
      exact in_lookup nd.2 h
theorem row0_at {ns : List Nm} (nd : (ns.map (·.x)).Nodup) : ∀ p ∈ dk (row0 ns), valV (dk (row0 ns)) p.1 = some p.2 := fun p hp => by
  obtain ⟨⟨x, i⟩, hm, rfl⟩ := List.mem_map.mp hp
  show valV (dk (row0 ns)) (.inr x) = some (.int i)
  rw [dk_val, in_lookup (by rw [show (row0 ns).map (·.1) = ns.map (·.x) from by unfold row0; rw [List.map_map]; rfl]; exact nd) hm]
  rfl
theorem same_row0 {ns : List Nm} (nd : (ns.map (·.x)).Nodup) : sameRows (dk (row0 ns)) (dk (row0 ns)) = true := by
  unfold sameRows
  rw [Bool.and_eq_true, List.all_eq_true]
  exact ⟨by simp, fun p hp => decide_eq_true (row0_at nd p hp)⟩
theorem fut_row0 {ns : List Nm} (nd : (ns.map (·.x)).Nodup) : futN 0 ns [row0 ns] = true := by
  show (decide (((1 : Nat) : Int) = 0 + 1) && (([hasN ns (row0 ns)]).all id && (sameRows (dk (row0 ns)) (dk (row0 ns)) && true))) = true
  rw [hasN_row0, same_row0 nd]
  rfl
theorem tabu {P T : Addr} {H : Hp} {xs ys : List V} (g : GxR.TabG H P) (h : H T = some (.lst xs)) : GxR.TabG (upd H T (.lst ys)) P := by
  obtain ⟨ps, e, t⟩ := g
  exact ⟨ps, by rw [upd_ne (fun z => by rw [z, h] at e; cases e)]; exact e, t⟩
theorem pick4 {i : Int} (x y z u : V) (h0 : 0 ≤ i) (h1 : i < 4) : ∃ v, (v = x ∨ v = y ∨ v = z ∨ v = u) ∧ atI [x, y, z, u] i = some v := by
  have : i = 0 ∨ i = 1 ∨ i = 2 ∨ i = 3 := by omega
  rcases this with rfl | rfl | rfl | rfl
  · exact ⟨x, .inl rfl, at_any (j := 0) rfl rfl⟩
  · exact ⟨y, .inr (.inl rfl), at_any (j := 1) rfl rfl⟩
  · exact ⟨z, .inr (.inr (.inl rfl)), at_any (j := 2) rfl rfl⟩
  · exact ⟨u, .inr (.inr (.inr rfl)), at_any (j := 3) rfl rfl⟩
section
variable {P : Program} {w : World} {K : PySem.W.Frag} {mg : Str → Option Value} {base : Heap}
abbrev s_law : Stmt := topS 35
theorem sc_law : FnScope ["_law_script", "_law_s", "_law_last", "_law_names", "_law_k", "_law_good", "_law_kept", "_law_market", "e", "_law_row", "_law_one", "_law_begun_here"] ["_law_script"] (defScope s_law) := ⟨rfl, rfl, rfl, by decide +kernel, rfl, by decide +kernel, by decide +kernel⟩
theorem h_law {PT : Addr} {k : Nat} {f : Addr} {fd : FuncData} (O : Own K mg "law" s_law ["_law_script"] f fd) {C_BookError : Addr} (X_BookError : ExcT K mg "BookError" C_BookError) {C_BadMarket : Addr} (X_BadMarket : ExcT K mg "BadMarket" C_BadMarket) {C_TooMany : Addr} (X_TooMany : ExcT K mg "TooMany" C_TooMany) {C_BadText : Addr} (X_BadText : ExcT K mg "BadText" C_BadText) {C_BadContract : Addr} (X_BadContract : ExcT K mg "BadContract" C_BadContract) (ER : Errs K C_BookError C_BadMarket C_BadContract C_BadText C_TooMany) {C_Market : Addr} (cl_Market : Cls K C_Market) {f_Market_is_future : Addr} {fd_Market_is_future : FuncData} (D_Market_is_future : HasMeth P w K mg base C_Market "is_future" ["self", "rows"] k CX0 (spIsF K C_Market) f_Market_is_future fd_Market_is_future) {f_Market_futures : Addr} {fd_Market_futures : FuncData} (D_Market_futures : HasMeth P w K mg base C_Market "futures" ["self"] k CX0 (spFut0 K C_Market) f_Market_futures fd_Market_futures) {f_Market : Addr} {fd_Market : FuncData} (D_Market : HasM P w K mg base "Market" ["self", "last", "names"] k (L2.CX P w) (spMk K C_BadMarket PT C_Market) C_Market f_Market fd_Market) {f__law_is_market : Addr} {fd__law_is_market : FuncData} (D__law_is_market : Has P w K mg base "_law_is_market" ["_law_last", "_law_names"] k CX0 (spIsMk K) f__law_is_market fd__law_is_market) {f__law_amiss : Addr} {fd__law_amiss : FuncData} (D__law_amiss : Has P w K mg base "_law_amiss" ["_law_s"] k CX0 (spAmiss K) f__law_amiss fd__law_amiss) {f__law_taken : Addr} {fd__law_taken : FuncData} (D__law_taken : Has P w K mg base "_law_taken" ["_law_s", "_law_most"] k CX0 (spTaken K) f__law_taken fd__law_taken) {f__law_loose_name : Addr} {fd__law_loose_name : FuncData} (D__law_loose_name : Has P w K mg base "_law_loose_name" ["_law_s", "_law_k", "_law_names"] k CX0 (spLName K) f__law_loose_name fd__law_loose_name) {f__law_loose_count : Addr} {fd__law_loose_count : FuncData} (D__law_loose_count : Has P w K mg base "_law_loose_count" ["_law_s", "_law_least", "_law_most"] k CX0 (spLCnt K) f__law_loose_count fd__law_loose_count) {f__law_begun : Addr} {fd__law_begun : FuncData} (D__law_begun : Has P w K mg base "_law_begun" ["_law_script"] k CX0 (spBegun K) f__law_begun fd__law_begun) (m_isinstance : mg "isinstance" = none) (m_ValueError : mg "ValueError" = none) (m_list : mg "list" = none) (m_tuple : mg "tuple" = none) (m_range : mg "range" = none) : Has P w K mg base "law" ["_law_script"] (k + 1) CX0 (spLaw K PT) f fd := by
  refine O.has (O.F.ok sc_law (fun vs H Q E h => ?_) (fun cdv A outer s H vs Q E hr h => ?_))
  · obtain ⟨ns, na, rfl, _⟩ := h
    rfl
  obtain ⟨ns, na, rfl, hS, h63, ht, q⟩ := h
  refine ⟨_, (pss_cons (ps_set (i := 1) sc_law.nd rfl (.inl rfl) (pe_call D__law_begun.G hr (by rfl) D__law_begun.g D__law_begun.k D__law_begun.b .nil pass0 (pa_cons (pv 0) pa_nil))) (pss_cons (ps_dput (hu_of hr) (pv 1) pe_str pe_int (by rfl)) (pss_cons (ps_dput (hu_of hr) (pv 1) pe_str (pe_ix ix_list (pe_lst (pa_cons pe_int (pa_cons pe_int (pa_cons pe_int (pa_cons pe_int pa_nil))))) (pe_call D__law_taken.G hr (by rfl) D__law_taken.g D__law_taken.k D__law_taken.b .nil pass0 (pa_cons (pv 1) (pa_cons pe_int pa_nil))) (fun _ _ => rfl)) (by rfl)) (pss_cons (ps_set (i := 2) sc_law.nd rfl (.inl rfl) (pe_call D__law_loose_count.G hr (by rfl) D__law_loose_count.g D__law_loose_count.k D__law_loose_count.b .nil pass0 (pa_cons (pv 1) (pa_cons pe_int (pa_cons pe_int pa_nil))))) (pss_cons (ps_set (i := 3) sc_law.nd rfl (.inl rfl) (pe_lst pa_nil)) (Evl.pss_cut (ps_for PassesOwn.never rfl (pi_range1 (by rfl) m_range (pa_cons (pe_ifExp (pt_not (pt_val (pe_call D__law_amiss.G hr (by rfl) D__law_amiss.g D__law_amiss.k D__law_amiss.b .nil pass0 (pa_cons (pv 1) pa_nil)))) (pe_call D__law_taken.G hr (by rfl) D__law_taken.g D__law_taken.k D__law_taken.b .nil pass0 (pa_cons (pv 1) (pa_cons pe_int pa_nil))) pe_int) pa_nil)) (pg_name (i := 4) sc_law.nd rfl (.inl rfl)) (pss_one (ps_expr (pe_bm PySem.F.plainAttrs_list PySem.F.slot_list_append PySem.F.type_list_append mt_append (pv 3) (pa_cons (pe_call D__law_loose_name.G hr (by rfl) D__law_loose_name.g D__law_loose_name.k D__law_loose_name.b .nil pass0 (pa_cons (pv 1) (pa_cons (pv 4) (pa_cons (pv 3) pa_nil)))) pa_nil))))) (Evl.pss_cut (ps_if (pt_val (pe_call D__law_amiss.G hr (by rfl) D__law_amiss.g D__law_amiss.k D__law_amiss.b .nil pass0 (pa_cons (pv 1) pa_nil))) (pss_one (ps_set (i := 3) sc_law.nd rfl (.inl rfl) (pe_ix ix_list (pe_lst (pa_cons (pe_callTy call_tuple_of (by rfl) m_tuple (by decide +kernel) (pa_cons (pv 3) pa_nil)) (pa_cons pe_non (pa_cons pe_str pa_nil)))) (pe_call D__law_taken.G hr (by rfl) D__law_taken.g D__law_taken.k D__law_taken.b .nil pass0 (pa_cons (pv 1) (pa_cons pe_int pa_nil))) (fun _ _ => rfl)))) pss_nil) (pss_cons (ps_set (i := 5) sc_law.nd rfl (.inl rfl) (pe_call D__law_is_market.G hr (by rfl) D__law_is_market.g D__law_is_market.k D__law_is_market.b .nil pass0 (pa_cons (pv 2) (pa_cons (pv 3) pa_nil)))) (Evl.pss_cut (ps_set (i := 6) sc_law.nd rfl (.inl rfl) (pe_ifExp (pt_val (pe_callB call_isi (by rfl) m_isinstance (by decide +kernel) (pa_cons (pv 3) (pa_cons (pe_bltn (v := .ty "list") (by rfl) m_list (by decide +kernel) rfl) pa_nil)))) (pe_callTy call_list_of (by rfl) m_list (by decide +kernel) (pa_cons (pv 3) pa_nil)) (pv 3))) (pss_cons (ps_try_as (i := 8) rfl rfl sc_law.nd rfl rfl ⟨rfl, by decide, .inl X_BookError.g⟩ takes0 (fun W pn xe tk _ => (pss_one (ps_set (i := 7) sc_law.nd rfl (.inl rfl) (pe_new D_Market hr (by rfl) (fun σ => passAt tk σ) (pa_cons (pv 2) (pa_cons (pv 3) pa_nil)))))) (fun a oe cls d pn hz hf => (pss_cons (ps_if (PW.pt (pw_or (pt_val (pv 5)) (pw_or (pt_val (pe_callB (call_isX hz hf) (by rfl) m_isinstance (by decide +kernel) (pa_cons (pv 8) (pa_cons (pe_glob (v := .ref C_BadContract) (by rfl) X_BadContract.g rfl) pa_nil)))) (pw_or (pt_val (pe_callB (call_isX hz hf) (by rfl) m_isinstance (by decide +kernel) (pa_cons (pv 8) (pa_cons (pe_glob (v := .ref C_BadText) (by rfl) X_BadText.g rfl) pa_nil)))) (pw_or1 (pt_val (pe_callB (call_isX hz hf) (by rfl) m_isinstance (by decide +kernel) (pa_cons (pv 8) (pa_cons (pe_glob (v := .ref C_TooMany) (by rfl) X_TooMany.g rfl) pa_nil))))))))) (pss_one (ps_ret pe_bl)) pss_nil) (pss_one (ps_ret (pe_and (pe_callB (call_isX hz hf) (by rfl) m_isinstance (by decide +kernel) (pa_cons (pv 8) (pa_cons (pe_glob (v := .ref C_BadMarket) (by rfl) X_BadMarket.g rfl) pa_nil))) (pe_one (pe_callB (call_isX hz hf) (by rfl) m_isinstance (by decide +kernel) (pa_cons (pv 8) (pa_cons (pe_bltn (v := .ty "ValueError") (by rfl) m_ValueError (by decide +kernel) rfl) pa_nil)))))))))) (pss_cons (ps_if (PW.pt (pw_or (pt_not (pt_val (pv 5))) (pw_or1 (pt_cmpR (op_neD hr.units) (pv 3) (pv 6) (nomark _))))) (pss_one (ps_ret pe_bl)) pss_nil) (pss_cons (ps_set (i := 9) sc_law.nd rfl (.inl rfl) pe_dnewK) (pss_cons (ps_for PassesOwn.never rfl (pi_list (pv 3)) (pg_name (i := 10) sc_law.nd rfl (.inl rfl)) (pss_one (ps_dput (hu_of hr) (pv 9) (pe_ix ix_tup (pv 10) pe_int (fun _ _ => rfl)) (pe_ix ix_tup (pv 10) pe_int (fun _ _ => rfl)) (by rfl)))) (pss_cons (ps_set (i := 11) sc_law.nd rfl (.inl rfl) (pe_new (E := fun _ => E0) D_Market hr (by rfl) (fun σ pins H s e s' I c => passL pins σ H s e s' I c) (pa_cons pe_int (pa_cons (pv 3) pa_nil)))) (pss_one (ps_ret (pe_and (pe_cmpR (op_eqVT hr.units) (pe_meth0 (pl := _) (pv 11) D_Market_futures.cl D_Market_futures.M D_Market_futures.G hr D_Market_futures.b .nil pass0) (pe_lst (pa_cons (pe_tup (pa_cons (pe_lst (pa_cons (pv 9) pa_nil)) (pa_cons pe_int pa_nil))) pa_nil)) (nomark _)) (pe_and (pe_cmpR op_is_bl (pe_meth (pl := _) (pv 11) D_Market_is_future.cl D_Market_is_future.M D_Market_is_future.G hr D_Market_is_future.b .nil pass0 (pa_cons (pe_lst (pa_cons (pv 9) pa_nil)) pa_nil)) pe_bl (nomark _)) (pe_one (pe_cmpR op_is_bl (pe_meth (pl := _) (pv 7) D_Market_is_future.cl D_Market_is_future.M D_Market_is_future.G hr D_Market_is_future.b .nil pass0 (pa_cons (pe_lst pa_nil) pa_nil)) pe_bl (nomark _))))))))))))))))))))), ?_⟩
  walk_at "go"
  refine use_begun hS h63 fun c s nm H1 hod e1 ns1 L1 => ?_
  have ht1 := tab_same ht e1
  have ok := L1.ok
  walk_at "go"
  obtain ⟨n1, re1, mx1, hs1, g0, g1, g2, g3⟩ := L1.st
  refine g_put hs1 sd_lt put_talk ?_
  have ok1 : Cfg.Ok { c with ta := 0 } := ⟨ok.sz1, ok.sz8, ok.pl0, ok.plz, ok.tu0, ok.tuz, .inl rfl, ok.od⟩
  have L2 := L1.cfg (c' := { c with ta := 0 }) g0 g1 g2 g3 ok1
  have ht2 : GxR.TabG (upd H1 s (.dK (sd { c with ta := 0 } na nm n1 re1 mx1))) PT := L1.tab ht1 KB.upd
  have hod1 : ({ c with ta := 0 } : Cfg).od = none := hod
  generalize ({ c with ta := 0 } : Cfg) = c1 at ok1 L2 ht2 hod1 ⊢
  generalize upd H1 s (.dK (sd c1 na nm n1 re1 mx1)) = H2 at L2 ht2 ⊢
  walk_at "go"
  refine ⟨by show 4 ≤ sizeLine; decide, fun p3 n3 => ?_⟩
  have s3 := same_new (o := .lst [.int 0, .int 30, .int 12, .int 4]) n3
  have hp3 : (upd H2 p3 (.lst [.int 0, .int 30, .int 12, .int 4])) p3 = some (.lst [.int 0, .int 30, .int 12, .int 4]) := upd_same
  replace L2 := L2.same s3
  replace ht2 := tab_same ht2 s3
  generalize upd H2 p3 (.lst [.int 0, .int 30, .int 12, .int 4]) = H3 at hp3 L2 ht2 ⊢
  walk_at "go"
  refine use_taken L2 (by decide) (by decide) fun r H4 r0 r1 e4 L4 => ?_
  have ht4 := L2.tab ht2 e4
  obtain ⟨vo, hvo, hpo⟩ := pick4 (.int 0) (.int 30) (.int 12) (.int 4) r0 r1
  have ho : ∃ o : Int, vo = .int o ∧ 0 ≤ o ∧ o ≤ 1000 := by
    rcases hvo with rfl | rfl | rfl | rfl
    · exact ⟨0, rfl, by decide, by decide⟩
    · exact ⟨30, rfl, by decide, by decide⟩
    · exact ⟨12, rfl, by decide, by decide⟩
    · exact ⟨4, rfl, by decide, by decide⟩
  obtain ⟨o, rfl, o0, o1⟩ := ho
  refine ⟨_, _, _, _, rfl, rfl, sql (L2.keepl e4 hp3), hpo, ?_⟩
  walk_at "go"
  obtain ⟨n4, re4, mx4, hs4, k0, k1, k2, k3⟩ := L4.st
  refine g_put hs4 sd_lt (put_odd hod1) ?_
  have ok5 : Cfg.Ok { c1 with od := some o } := ⟨ok1.sz1, ok1.sz8, ok1.pl0, ok1.plz, ok1.tu0, ok1.tuz, ok1.ta, fun o' h => by cases h; exact ⟨o0, o1⟩⟩
  have L5 := L4.cfg (c' := { c1 with od := some o }) k0 k1 k2 k3 ok5
  have ht5 : GxR.TabG (upd H4 s (.dK (sd { c1 with od := some o } na nm n4 re4 mx4))) PT := L4.tab ht4 KB.upd
  have hoo : ({ c1 with od := some o } : Cfg).od = some o := rfl
  generalize ({ c1 with od := some o } : Cfg) = c2 at ok5 L5 ht5 hoo ⊢
  generalize upd H4 s (.dK (sd c2 na nm n4 re4 mx4)) = H5 at L5 ht5 ⊢
  walk_at "go"
  refine use_lcnt L5 hoo (by decide) (by decide) (by decide) fun vl dl H6 e6 L6 hdl fl kl => ?_
  have ht6 := L5.tab ht5 e6
  walk_at "go"
  refine ⟨by show 0 ≤ sizeLine; decide, fun T nT => ?_⟩
  have g := G9.start L6 nT
  replace ht6 := tab_same ht6 (same_new (o := .lst []) nT)
  generalize hb : upd H6 T (.lst []) = Hb at g ht6
  refine ⟨fun σ' H' => ∃ y4 vs ds, σ' = [some (.ref na), some (.ref s), some vl, some (.ref T), y4, none, none, none, none, none, none, none] ∧ vs.length ≤ 4 ∧ G9 K c2 ns [] s na nm T H6 Hb vs ds H' ∧ GxR.TabG H' PT, ?_, fun σ' H' hM => ?_⟩
  · walk_at "go"
    refine use_amiss g.L hoo fun b H7 e7 L7 => ?_
    have ht7 := g.L.tab ht6 e7
    replace g := g.move e7 L7
    clear ht6
    refine ⟨_, rfl, ifn (fun _ => ?_) (fun _ => ?_)⟩
    · walk_at "go"
      refine ⟨by omega, by omega, ?_⟩
      refine for_range (lo := 0) (n := 4) (fun i σ Hx => ∃ y4 vs ds, σ = [some (.ref na), some (.ref s), some vl, some (.ref T), y4, none, none, none, none, none, none, none] ∧ vs.length = i ∧ G9 K c2 ns [] s na nm T H6 Hb vs ds Hx ∧ GxR.TabG Hx PT)
        ⟨_, _, _, rfl, rfl, g, ht7⟩ (fun i σ Hx hi hW => ?_) (fun σ Hx hW => ?_)
      · obtain ⟨y4, vs, ds, rfl, hl, g, ht⟩ := hW
        walk_at "go"
        refine ⟨.inl ⟨rfl, _, sql g.at_⟩, ?_⟩
        walk_at "go"
        obtain ⟨_, _, _, hs0, _⟩ := g.L.st
        refine use_lname ⟨KB.refl _ _, g.L, g.at_, g.dpH, ⟨_, hs0⟩⟩ hoo (by omega) (by omega) g.ok g.hd (by omega) fun v d H' e' L' hdv hkv hhv => ?_
        have old := g.old
        have g0 := g.L
        replace g := g.move e' L'
        replace ht := g0.tab ht e'
        walk_at "go"
        refine ⟨T, vs, _, rfl, rfl, g.at_, small1000 (by omega), ?_⟩
        exact ⟨_, vs ++ [v], ds ++ [d], rfl, by simp [hl], g.push (Dp.dm (.of (nw_mono old)) hdv) hkv hhv, tabu ht g.at_⟩
      · obtain ⟨y4, vs, ds, rfl, hl, g, ht⟩ := hW
        exact ⟨_, _, _, rfl, by omega, g, ht⟩
    · walk_at "go"
      refine use_taken g.L (by decide) (by decide) fun r8 H8 a0 a1 e8 L8 => ?_
      have ht8 := g.L.tab ht7 e8
      replace g := g.move e8 L8
      clear ht7
      walk_at "go"
      refine ⟨by omega, by omega, ?_⟩
      refine for_range (lo := 0) (n := r8.toNat) (fun i σ Hx => ∃ y4 vs ds, σ = [some (.ref na), some (.ref s), some vl, some (.ref T), y4, none, none, none, none, none, none, none] ∧ vs.length = i ∧ G9 K c2 ns [] s na nm T H6 Hb vs ds Hx ∧ GxR.TabG Hx PT)
        ⟨_, _, _, rfl, rfl, g, ht8⟩ (fun i σ Hx hi hW => ?_) (fun σ Hx hW => ?_)
      · obtain ⟨y4, vs, ds, rfl, hl, g, ht⟩ := hW
        walk_at "go"
        refine ⟨.inl ⟨rfl, _, sql g.at_⟩, ?_⟩
        walk_at "go"
        obtain ⟨_, _, _, hs0, _⟩ := g.L.st
        refine use_lname ⟨KB.refl _ _, g.L, g.at_, g.dpH, ⟨_, hs0⟩⟩ hoo (by omega) (by omega) g.ok g.hd (by omega) fun v d H' e' L' hdv hkv hhv => ?_
        have old := g.old
        have g0 := g.L
        replace g := g.move e' L'
        replace ht := g0.tab ht e'
        walk_at "go"
        refine ⟨T, vs, _, rfl, rfl, g.at_, small1000 (by omega), ?_⟩
        exact ⟨_, vs ++ [v], ds ++ [d], rfl, by simp [hl], g.push (Dp.dm (.of (nw_mono old)) hdv) hkv hhv, tabu ht g.at_⟩
      · obtain ⟨y4, vs, ds, rfl, hl, g, ht⟩ := hW
        exact ⟨_, _, _, rfl, by omega, g, ht⟩
  obtain ⟨y4, vs, ds, rfl, hl, g, ht⟩ := hM
  walk_at "go"
  refine ⟨fun σ' H' => ∃ y4 vn dn, σ' = [some (.ref na), some (.ref s), some vl, some vn, y4, none, none, none, none, none, none, none] ∧ Dp K H' vn dn ∧ dOk dn = true ∧ GxR.TabG H' PT, ?_, fun σ' H' hM => ?_⟩
  · walk_at "go"
    refine use_amiss g.L hoo fun b H7 e7 L7 => ?_
    have ht7 := g.L.tab ht e7
    replace g := g.move e7 L7
    refine ⟨_, rfl, ifb (fun _ => ?_) (fun _ => ?_)⟩
    · walk_at "go"
      refine ⟨T, vs, rfl, .inl ⟨sql g.at_, fun l nl => ?_⟩⟩
      have s8 := same_new (o := .tup vs) nl
      have h8 : SqT K (upd H7 l (.tup vs)) l vs := sqt upd_same
      replace g := g.same s8
      replace ht7 := tab_same ht7 s8
      generalize upd H7 l (.tup vs) = H8 at h8 g ht7 ⊢
      walk_at "go"
      refine ⟨by show 3 ≤ sizeLine; decide, fun p np => ?_⟩
      have s9 := same_new (o := .lst [.ref l, .non, .str "names"]) np
      have h9 : (upd H8 p (.lst [.ref l, .non, .str "names"])) p = some (.lst [.ref l, .non, .str "names"]) := upd_same
      replace g := g.same s9
      replace h8 := SqT.same s9 h8
      replace ht7 := tab_same ht7 s9
      generalize upd H8 p (.lst [.ref l, .non, .str "names"]) = H9 at h8 h9 g ht7 ⊢
      walk_at "go"
      refine use_taken g.L (by decide) (by decide) fun r Ha r0 r1 ea La => ?_
      have h9a := g.L.keepl ea h9
      have h8a := (g.L.dm ea).t _ _ h8
      have hta := g.L.tab ht7 ea
      replace g := g.move ea La
      have three : r = 0 ∨ r = 1 ∨ r = 2 := by omega
      rcases three with rfl | rfl | rfl
      · refine ⟨_, _, _, _, rfl, rfl, sql h9a, at_any (j := 0) rfl rfl, ?_⟩
        walk_at "go"
        exact ⟨_, _, .tuple ds, rfl, .tup h8a g.dpH, dok_tup.mpr g.ok, hta⟩
      · refine ⟨_, _, _, _, rfl, rfl, sql h9a, at_any (j := 1) rfl rfl, ?_⟩
        walk_at "go"
        exact ⟨_, _, .none, rfl, .non, by simp [dOk, szOk, sOk], hta⟩
      · refine ⟨_, _, _, _, rfl, rfl, sql h9a, at_any (j := 2) rfl rfl, ?_⟩
        walk_at "go"
        exact ⟨_, _, .str "names", rfl, .str _, by decide +kernel, hta⟩
    · exact ⟨_, _, .list ds, rfl, .lst (sql g.at_) g.dpH, dok_lst.mpr g.ok, ht7⟩
  clear g ht ht6
  obtain ⟨y4, vn, dn, rfl, hn, kn, ht⟩ := hM
  walk_at "go"
  refine use_ismk (hdl _) hn kn fun H7 e7 => ?_
  replace hn := Dp.dm (.of e7) hn
  replace ht := tab_same ht e7
  walk_at "go"
  refine ⟨fun σ' H' => ∃ vk, σ' = [some (.ref na), some (.ref s), some vl, some vn, y4, some (.bl (okMk dl dn)), some vk, none, none, none, none, none] ∧ Dp K H' vn dn ∧ Dp K H' vk dn ∧ GxR.TabG H' PT, ?_, fun σ' H' hM => ?_⟩
  · walk_at "go"
    refine use_isLst hn ?_
    cases hn with
    | @lst a vs ds ha hall =>
      dsimp only [isLst]
      refine ⟨_, rfl, iteT ?_⟩
      walk_at "go"
      refine ⟨_, _, rfl, .inl ha, fun l nl => ?_⟩
      have sl := same_new (o := .lst vs) nl
      walk_at "go"
      exact ⟨.lst (sl.seq ha) (DpAll.dm (.of sl) hall), .lst (sql upd_same) (DpAll.dm (.of sl) hall), tab_same ht sl⟩
    | int i =>
      dsimp only [isLst]
      refine ⟨_, rfl, iteF ?_⟩
      walk_at "go"
      exact ⟨.int i, .int i, ht⟩
    | bl i =>
      dsimp only [isLst]
      refine ⟨_, rfl, iteF ?_⟩
      walk_at "go"
      exact ⟨.bl i, .bl i, ht⟩
    | str i =>
      dsimp only [isLst]
      refine ⟨_, rfl, iteF ?_⟩
      walk_at "go"
      exact ⟨.str i, .str i, ht⟩
    | non =>
      dsimp only [isLst]
      refine ⟨_, rfl, iteF ?_⟩
      walk_at "go"
      exact ⟨.non, .non, ht⟩
    | @tup a vs ds ha hall =>
      dsimp only [isLst]
      refine ⟨_, rfl, iteF ?_⟩
      walk_at "go"
      exact ⟨.tup ha hall, .tup ha hall, ht⟩
  clear hn ht
  obtain ⟨vk, rfl, hn, hk, ht⟩ := hM
  walk_at "go"
  refine g_callS ?_
  walk_at "go"
  refine use_mk (hdl _) hn (dok_sz kn) ht (fun okm a H8 nfa t8 obj => ?_) (fun bad H8 t8 => ?_)
  rotate_left
  · refine ⟨true, ER.exm, fun _ a na => ?_, fun z => Bool.noConfusion z⟩
    rw [bad]
    walk_at "go"
    refine use_isX ER.ec (fun _ h => h) ER.iM ?_
    walk_at "go"
    refine use_isX ER.ec (fun _ h => h) ER.iX ?_
    walk_at "go"
    refine use_isX ER.ec (fun _ h => h) ER.iT ?_
    walk_at "go"
    refine use_isX ER.ec (fun _ h => h) ER.iC ?_
    walk_at "go"
    refine use_isX ER.ec (fun _ h => h) ER.iV ?_
    walk_at "go"
    exact q H8
  rw [okm]
  have okm' := okm
  unfold okMk at okm'
  rw [Bool.and_eq_true] at okm'
  obtain ⟨okl, okn⟩ := okm'
  obtain ⟨la, rfl⟩ : ∃ la, dl = .int la := by
    cases dl with
    | int i => exact ⟨i, rfl⟩
    | _ => cases okl
  obtain ⟨ds, rfl, ld, okd, ndp⟩ : ∃ ds, dn = .list ds ∧ ds.length ≤ 3 ∧ ds.all okName = true ∧ (ds.map wordOf).Nodup := by
    cases dn with
    | list ds =>
      dsimp only [okNames] at okn
      simp only [Bool.and_eq_true, decide_eq_true_eq] at okn
      exact ⟨ds, rfl, okn.1, okn.2.1, okn.2.2⟩
    | _ => cases okn
  have ho := obj la ds rfl rfl
  have m8 := t8.dm (K := K) ht
  replace hn := Dp.dm m8 hn
  replace hk := Dp.dm m8 hk
  replace ht : GxR.TabG H8 PT := t8.g
  clear obj m8 t8
  walk_at "go"
  refine ⟨_, _, hn, hk, names_shaped okd, names_shaped okd, ?_⟩
  have same : PyData.eqv (.list ds) (.list ds) = true := SeqAt.eqv_refl _ (names_lay okd).1
  rw [same]
  refine ⟨_, rfl, ifb (fun z => Bool.noConfusion z) (fun _ => ?_)⟩
  walk_at "go"
  intro R nR
  have sR := same_new (o := .dK []) nR
  have hR : (upd H8 R (.dK [])) R = some (.dK (dk (row0 (([] : List PyData).map nmOf)))) := upd_same
  replace ht := tab_same ht sR
  replace hn := Dp.dm (.of sR) hn
  replace ho := DMk.same sR ho
  generalize upd H8 R (.dK []) = H9 at hR ht hn ho ⊢
  cases hn with
  | @lst an vs _ han hall =>
  have dln := DpAll.len hall
  walk_at "go"
  refine ⟨⟨_, han⟩, for_list (xs := vs) (fun i σ H3 => ∃ y10, σ = [some (.ref na), some (.ref s), some vl, some (.ref an), y4, some (.bl true), some vk, some (.ref a), none, some (.ref R), y10, none] ∧ H3 R = some (.dK (dk (row0 ((ds.take i).map nmOf)))) ∧ KB R H9 H3) ⟨none, rfl, hR, KB.refl _ _⟩ (fun i σ H3 _ hW => ?_) (fun i x σ H3 hx hW => ?_) (fun σ H3 hW => ?_)⟩
  · obtain ⟨y10, rfl, hR3, e3⟩ := hW
    exact e3.seq hR han
  · obtain ⟨y10, rfl, hR3, e3⟩ := hW
    have hi : i < ds.length := by have := (List.getElem?_eq_some_iff.mp hx).1; omega
    have hdi : ds[i]? = some ds[i] := List.getElem?_eq_getElem hi
    obtain ⟨x', hx', hD⟩ := DpAll.at hall hdi
    obtain rfl : x' = x := Option.some.inj (hx'.symm.trans hx)
    have oki := List.all_eq_true.mp okd _ (List.getElem_mem hi)
    have tk := take_map_snoc (f := nmOf) hdi
    have fresh : ∀ p ∈ dk (row0 ((ds.take i).map nmOf)), p.1 ≠ .inr (nmOf ds[i]).x := fun p hp z => by
      unfold dk row0 at hp
      simp only [List.map_map, List.mem_map] at hp
      obtain ⟨d', hd', rfl⟩ := hp
      have z : (nmOf d').x = (nmOf ds[i]).x := Sum.inr.inj z
      obtain ⟨j, hj, ej⟩ := List.mem_take_iff_getElem.mp hd'
      have ok' := List.all_eq_true.mp okd _ (List.mem_of_mem_take hd')
      have ne := List.pairwise_iff_getElem.mp ndp j i (by rw [List.length_map]; omega) (by rw [List.length_map]; exact hi) (by omega)
      simp only [List.getElem_map] at ne
      exact ne (by rw [ej, wordOf_nm ok', wordOf_nm oki, z])
    obtain ⟨wx, wb, es, ed, _, _⟩ := okName_parts oki
    generalize ds[i] = di at hD oki tk fresh ed
    subst ed
    replace hD := Dp.dm (e3.dm hR) hD
    cases hD with
    | @tup t us _ htt he =>
    cases he with
    | @cons _ _ _ _ h1 he =>
    cases he with
    | @cons _ _ _ _ h2 he =>
    cases h1
    cases h2
    walk_at "go"
    refine ⟨_, _, _, _, rfl, rfl, htt, at_any (j := 1) rfl rfl, ?_⟩
    walk_at "go"
    refine ⟨_, _, _, _, rfl, rfl, htt, at_any (j := 0) rfl rfl, ?_⟩
    walk_at "go"
    refine g_put hR3 ?_ (putR_new fresh) ?_
    · rw [dk_len]
      unfold row0
      rw [List.length_map, List.length_map, List.length_take]
      exact small1000 (by omega)
    · refine ⟨_, rfl, ?_, fun b o n h => by rw [upd_ne n]; exact e3 _ _ n h⟩
      rw [upd_same, tk]
      unfold dk row0
      rw [List.map_append, List.map_append]
      rfl
  obtain ⟨y10, rfl, hR3, e3⟩ := hW
  have m3 := e3.dm (K := K) hR
  have hall3 := DpAll.dm m3 hall
  have han3 := m3.l _ _ han
  have ht3 := tab_kb ht e3 hR
  rw [List.take_of_length_le (by omega)] at hR3
  walk_at "go"
  refine g_callS ?_
  walk_at "go"
  refine use_mk (.int 0) (.lst han3 hall3) (dok_sz kn) ht3 (fun _ a2 H4 nf2 t4 obj => ?_) (fun bad => ?_)
  rotate_left
  · have e : okMk (.int 0) (.list ds) = true := by
      show ((decide ((0 : Int) ≤ 0) && decide ((0 : Int) ≤ 12)) && okNames (.list ds)) = true
      rw [okn]
      rfl
    rw [e] at bad
    cases bad
  have ho2 := obj 0 ds rfl rfl
  obtain ⟨nw1, _, nst⟩ := nmL_words okd
  have hln : (ds.map nmOf).length ≤ 3 := by rw [List.length_map]; exact ld
  have ndn : ((ds.map nmOf).map (·.x)).Nodup := by
    have : nmL ds = (ds.map nmOf).map (·.x) := rfl
    rw [← this, nw1]
    exact ndp
  have la0 : 0 ≤ la := by
    have z : (decide (0 ≤ la) && decide (la ≤ 12)) = true := okl
    simp only [Bool.and_eq_true, decide_eq_true_eq] at z
    exact z.1
  have m4 := t4.dm (K := K) ht3
  have k4 : ∀ {b : Addr} {o : HO}, (∀ ps, H3 PT = some ps → o ≠ ps) → H3 b = some o → H4 b = some o := fun n h => t4.k _ _ (fun z => by
    subst z
    exact n _ h rfl) h
  have ho3 : DMk K C_Market H3 la (ds.map nmOf) a := ho.mv m3 fun C dx fs h => e3 _ _ (fun z => by rw [z, hR] at h; cases h) h
  obtain ⟨ps, hps, _⟩ := id ht3
  have ho4 : DMk K C_Market H4 la (ds.map nmOf) a := ho3.mv m4 fun C dx fs h => k4 (fun ps' h' z => by rw [hps] at h'; cases h'; cases z) h
  have hR4 : H4 R = some (.dK (dk (row0 (ds.map nmOf)))) := k4 (fun ps' h' z => by rw [hps] at h'; cases h'; cases z) hR3
  generalize ds.map nmOf = nn at ho2 ho4 hR4 hln ndn nst
  clear ho ho3 m4 k4 obj
  obtain ⟨dx2, tx2, ux2, ha2, _, _⟩ := id ho2
  obtain ⟨dx1, tx1, ux1, ha1, _, _⟩ := id ho4
  walk_at "go"
  refine g_meth ?_
  walk_at "go"
  refine ⟨_, _, _, rfl, ha2, rfl, ?_⟩
  walk_at "go"
  refine ⟨a2, nn, rfl, ho2, hln, ndn, fun D p l r H5 e5 hD hp hl hr => ?_⟩
  walk_at "go"
  replace ho2 := DMk.same e5 ho2
  replace ho4 := DMk.same e5 ho4
  replace hR4 := e5 _ _ hR4
  replace ha2 := e5 _ _ ha2
  replace ha1 := e5 _ _ ha1
  refine ⟨by show 1 ≤ sizeLine; decide, fun q1 n1 => ?_⟩
  have s6 := same_new (o := .lst [.ref R]) n1
  have hq1 : (upd H5 q1 (.lst [.ref R])) q1 = some (.lst [.ref R]) := upd_same
  generalize upd H5 q1 (.lst [.ref R]) = H6 at s6 hq1 ⊢
  walk_at "go"
  refine ⟨by show 2 ≤ sizeLine; decide, fun q2 n2 => ?_⟩
  have s7 := same_new (o := .tup [.ref q1, .int 1]) n2
  have hq2 : SqT K (upd H6 q2 (.tup [.ref q1, .int 1])) q2 [.ref q1, .int 1] := sqt upd_same
  generalize upd H6 q2 (.tup [.ref q1, .int 1]) = H7 at s7 hq2 ⊢
  walk_at "go"
  refine ⟨by show 1 ≤ sizeLine; decide, fun q3 n3 => ?_⟩
  have s8 := same_new (o := .lst [.ref q2]) n3
  have hq3 : (upd H7 q3 (.lst [.ref q2])) q3 = some (.lst [.ref q2]) := upd_same
  generalize upd H7 q3 (.lst [.ref q2]) = H8' at s8 hq3 ⊢
  have e58 := (s6.trans s7).trans s8
  refine ⟨4, by decide, .inl (.inl ⟨D, q3, _, _, rfl, rfl, sql (e58 _ _ hD), sql hq3, .cons (.inr (.inr (.inr ⟨p, q2, _, _, rfl, rfl, SqT.same e58 hp, SqT.same s8 hq2, .cons (.inr (.inr (.inl (.inl ⟨l, q1, _, _, rfl, rfl, sql (e58 _ _ hl), sql (s8 _ _ (s7 _ _ hq1)), .cons (.inr (.inr (.inl (.inr ⟨r, R, _, _, rfl, rfl, e58 _ _ hr, e58 _ _ hR4, rfl, fun kv hkv => ⟨kv.2, row0_at ndn kv hkv, .inl ⟨rfl, ?_⟩⟩⟩)))) .nil⟩)))) (.cons (.inl ⟨rfl, rfl⟩) .nil)⟩))) .nil⟩), ?_⟩
  · obtain ⟨⟨x, i⟩, hm, rfl⟩ := List.mem_map.mp hkv
    rfl
  walk_at "go"
  refine g_meth ?_
  walk_at "go"
  refine ⟨_, _, _, rfl, e58 _ _ ha2, rfl, ?_⟩
  walk_at "go"
  refine ⟨by show 1 ≤ sizeLine; decide, fun q4 n4 => ?_⟩
  have s9 := same_new (o := .lst [.ref R]) n4
  have hq4 : (upd H8' q4 (.lst [.ref R])) q4 = some (.lst [.ref R]) := upd_same
  generalize upd H8' q4 (.lst [.ref R]) = H9' at s9 hq4 ⊢
  have e59 := e58.trans s9
  walk_at "go"
  refine ⟨a2, q4, 0, nn, [.ref R], [row0 nn], rfl, DMk.same e59 ho2, hln, ndn, nst, sql hq4, ⟨⟨R, rfl, e59 _ _ hR4⟩, trivial⟩, by show 1 ≤ 100; decide, by decide, fun Ha ea => ?_⟩
  walk_at "go"
  rw [fut_row0 ndn]
  rw [if_pos (by decide)]
  have e5a := e59.trans ea
  walk_at "go"
  refine g_meth ?_
  walk_at "go"
  refine ⟨_, _, _, rfl, e5a _ _ ha1, rfl, ?_⟩
  walk_at "go"
  refine ⟨by show 0 ≤ sizeLine; decide, fun q5 n5 => ?_⟩
  have s10 := same_new (o := .lst []) n5
  walk_at "go"
  refine ⟨a, q5, la, nn, [], [], rfl, DMk.same (e5a.trans s10) ho4, hln, ndn, nst, sql upd_same, trivial, by show 0 ≤ 100; decide, la0, fun Hc ec => ?_⟩
  walk_at "go"
  have ff : futN la nn [] = false := by
    unfold futN
    rw [decide_eq_false (show ¬ ((([] : List Row).length : Nat) : Int) = la + 1 from by show ¬ ((0 : Nat) : Int) = la + 1; omega)]
    rfl
  rw [ff]
  exact q Hc
end

theorem all_mk {q : Program} {l : PySem.W.OpenLaw} {w : World} {K : PySem.W.Frag} {h : Heap} {mg : Str → Option Value} {fa : Addr} (X : K.In h) (G : h.Ns mainGlobals mg) (hfa : mg "law" = some (.ref fa)) (TO : TabsOf q K h)
    {C_Market : Addr}
    {f0 : Addr} {od0 an0 : Option Addr} {sl0 : Array (Option Value)} {oc0 kV0 dc0 pm0 ct0 : Value} {cd0 : Value}
    {f1 : Addr} {od1 an1 : Option Addr} {sl1 : Array (Option Value)} {oc1 kV1 dc1 pm1 ct1 : Value} {cd1 : Value}
    {f2 : Addr} {od2 an2 : Option Addr} {sl2 : Array (Option Value)} {oc2 kV2 dc2 pm2 ct2 : Value} {cd2 : Value}
    {f3 : Addr} {od3 an3 : Option Addr} {sl3 : Array (Option Value)} {oc3 kV3 dc3 pm3 ct3 : Value} {cd3 : Value}
    {f4 : Addr} {od4 an4 : Option Addr} {sl4 : Array (Option Value)} {oc4 kV4 dc4 pm4 ct4 : Value} {cT PT : Addr} {oq : Value} {oe : Option Addr} {vq : Array Value} {sq : Array (Option Value)}
    {f5 : Addr} {od5 an5 : Option Addr} {sl5 : Array (Option Value)} {oc5 kV5 dc5 pm5 ct5 : Value} {cd5 : Value}
    {f6 : Addr} {od6 an6 : Option Addr} {sl6 : Array (Option Value)} {oc6 kV6 dc6 pm6 ct6 : Value} {cd6 : Value}
    {f7 : Addr} {od7 an7 : Option Addr} {sl7 : Array (Option Value)} {oc7 kV7 dc7 pm7 ct7 : Value} {cd7 : Value}
    {f8 : Addr} {od8 an8 : Option Addr} {sl8 : Array (Option Value)} {oc8 kV8 dc8 pm8 ct8 : Value} {cd8 : Value}
    {f9 : Addr} {od9 an9 : Option Addr} {sl9 : Array (Option Value)} {oc9 kV9 dc9 pm9 ct9 : Value} {cd9 : Value}
    {f10 : Addr} {od10 an10 : Option Addr} {sl10 : Array (Option Value)} {oc10 kV10 dc10 pm10 ct10 : Value} {cd10 : Value}
    {f11 : Addr} {od11 an11 : Option Addr} {sl11 : Array (Option Value)} {oc11 kV11 dc11 pm11 ct11 : Value} {cd11 : Value}
    {f12 : Addr} {od12 an12 : Option Addr} {sl12 : Array (Option Value)} {oc12 kV12 dc12 pm12 ct12 : Value} {cd12 : Value}
    {f13 : Addr} {od13 an13 : Option Addr} {sl13 : Array (Option Value)} {oc13 kV13 dc13 pm13 ct13 : Value} {cd13 : Value}
    {f14 : Addr} {od14 an14 : Option Addr} {sl14 : Array (Option Value)} {oc14 kV14 dc14 pm14 ct14 : Value} {cd14 : Value}
    {f15 : Addr} {od15 an15 : Option Addr} {sl15 : Array (Option Value)} {oc15 kV15 dc15 pm15 ct15 : Value} {cd15 : Value}
    {f16 : Addr} {od16 an16 : Option Addr} {sl16 : Array (Option Value)} {oc16 kV16 dc16 pm16 ct16 : Value} {cd16 : Value}
    {f17 : Addr} {od17 an17 : Option Addr} {sl17 : Array (Option Value)} {oc17 kV17 dc17 pm17 ct17 cd17 : Value}
    {f18 : Addr} {od18 an18 : Option Addr} {sl18 : Array (Option Value)} {oc18 kV18 dc18 pm18 ct18 cd18 : Value}
    {f19 : Addr} {od19 an19 : Option Addr} {sl19 : Array (Option Value)} {oc19 kV19 dc19 pm19 ct19 cd19 : Value}
    {f20 : Addr} {od20 an20 : Option Addr} {sl20 : Array (Option Value)} {oc20 kV20 dc20 pm20 ct20 cd20 : Value}
    {f21 : Addr} {od21 an21 : Option Addr} {sl21 : Array (Option Value)} {oc21 kV21 dc21 pm21 ct21 cd21 : Value}
    {f22 : Addr} {od22 an22 : Option Addr} {sl22 : Array (Option Value)} {oc22 kV22 dc22 pm22 ct22 cd22 : Value}
    {f23 : Addr} {od23 an23 : Option Addr} {sl23 : Array (Option Value)} {oc23 kV23 dc23 pm23 ct23 cd23 : Value}
    {f24 : Addr} {od24 an24 : Option Addr} {sl24 : Array (Option Value)} {oc24 kV24 dc24 pm24 ct24 cd24 : Value}
    {f25 : Addr} {od25 an25 : Option Addr} {sl25 : Array (Option Value)} {oc25 kV25 dc25 pm25 ct25 cd25 : Value}
    {f26 : Addr} {od26 an26 : Option Addr} {sl26 : Array (Option Value)} {oc26 kV26 dc26 pm26 ct26 : Value} {cd26 : Value}
    {C_BadMarket : Addr}
    {C_BookError : Addr}
    {C_TooMany : Addr}
    {C_BadText : Addr}
    {C_BadContract : Addr}
    {t_LETTERS : Tok}
    {t_LONGEST_WORD : Tok}
    {t_TOO_LARGE : Tok}
    {t_MOST_WEIGHT : Tok}
    {t_MOST_STEPS : Tok}
    {t_MOST_NAMES : Tok}
    {t_LAST_HOUR : Tok}
    {t_MOST_FUTURES : Tok}
    (ca_Market : PySem.W.nsIn K mainGlobals "Market" = some (some (.ref C_Market))) (pg_Market : PySem.W.plainGet K C_Market Str.empty = true) (hd_Market : PySem.W.hasDictIn K C_Market = true) (po_Market : PySem.W.plainOver K C_Market = true) (sa_Market : PySem.W.findIn K (.ref C_Market) "__setattr__" = some (some (.builtin "object.__setattr__"))) (n_Market_last : PySem.W.findIn K (.ref C_Market) "last" = some none) (n_Market_names : PySem.W.findIn K (.ref C_Market) "names" = some none)
    (a0 : PySem.W.nsIn K mainGlobals "_law_taken" = some (some (.ref f0))) (l0 : K.lookup f0 = some ⟨oc0, od0, .func (PySem.W.fnOf "_law_taken" "_law_taken" (defArgs s__law_taken) (defBody s__law_taken) (defScope s__law_taken) .none kV0 dc0 pm0 an0 cd0 ct0), sl0⟩) (c0 : PySem.W.codeIn K cd0 "_law_taken" = true) (k0 : PySem.W.keepIn K (.ref f0) = true)
    (a1 : PySem.W.nsIn K mainGlobals "_law_word" = some (some (.ref f1))) (l1 : K.lookup f1 = some ⟨oc1, od1, .func (PySem.W.fnOf "_law_word" "_law_word" (defArgs s__law_word) (defBody s__law_word) (defScope s__law_word) .none kV1 dc1 pm1 an1 cd1 ct1), sl1⟩) (c1 : PySem.W.codeIn K cd1 "_law_word" = true) (k1 : PySem.W.keepIn K (.ref f1) = true)
    (a2 : PySem.W.nsIn K mainGlobals "_law_number" = some (some (.ref f2))) (l2 : K.lookup f2 = some ⟨oc2, od2, .func (PySem.W.fnOf "_law_number" "_law_number" (defArgs s__law_number) (defBody s__law_number) (defScope s__law_number) .none kV2 dc2 pm2 an2 cd2 ct2), sl2⟩) (c2 : PySem.W.codeIn K cd2 "_law_number" = true) (k2 : PySem.W.keepIn K (.ref f2) = true)
    (a3 : PySem.W.nsIn K mainGlobals "_law_begun" = some (some (.ref f3))) (l3 : K.lookup f3 = some ⟨oc3, od3, .func (PySem.W.fnOf "_law_begun" "_law_begun" (defArgs s__law_begun) (defBody s__law_begun) (defScope s__law_begun) .none kV3 dc3 pm3 an3 cd3 ct3), sl3⟩) (c3 : PySem.W.codeIn K cd3 "_law_begun" = true) (k3 : PySem.W.keepIn K (.ref f3) = true)
    (a4 : PySem.W.nsIn K mainGlobals "is_word" = some (some (.ref f4))) (l4 : K.lookup f4 = some ⟨oc4, od4, .func (PySem.W.fnOf "is_word" "is_word" (defArgs s_is_word) (defBody s_is_word) (defScope s_is_word) .none kV4 dc4 pm4 an4 (.ref cT) ct4), sl4⟩) (c4 : PySem.W.codeIn K (.ref cT) "is_word" = true) (k4 : PySem.W.keepIn K (.ref f4) = true)
    (cc : K.lookup cT = some ⟨oq, oe, .fields vq, sq⟩) (v11 : (vq[11]? : Option Value) = some (.ref PT)) (rT : ((recsOf q).find? (fun e => e.name == ("is_word" : Str))).isSome = true) (nP : K.lookup PT = none)
    (a5 : PySem.W.nsIn K mainGlobals "is_whole" = some (some (.ref f5))) (l5 : K.lookup f5 = some ⟨oc5, od5, .func (PySem.W.fnOf "is_whole" "is_whole" (defArgs s_is_whole) (defBody s_is_whole) (defScope s_is_whole) .none kV5 dc5 pm5 an5 cd5 ct5), sl5⟩) (c5 : PySem.W.codeIn K cd5 "is_whole" = true) (k5 : PySem.W.keepIn K (.ref f5) = true)
    (a6 : PySem.W.nsIn K mainGlobals "is_between" = some (some (.ref f6))) (l6 : K.lookup f6 = some ⟨oc6, od6, .func (PySem.W.fnOf "is_between" "is_between" (defArgs s_is_between) (defBody s_is_between) (defScope s_is_between) .none kV6 dc6 pm6 an6 cd6 ct6), sl6⟩) (c6 : PySem.W.codeIn K cd6 "is_between" = true) (k6 : PySem.W.keepIn K (.ref f6) = true)
    (a7 : PySem.W.nsIn K mainGlobals "is_amount" = some (some (.ref f7))) (l7 : K.lookup f7 = some ⟨oc7, od7, .func (PySem.W.fnOf "is_amount" "is_amount" (defArgs s_is_amount) (defBody s_is_amount) (defScope s_is_amount) .none kV7 dc7 pm7 an7 cd7 ct7), sl7⟩) (c7 : PySem.W.codeIn K cd7 "is_amount" = true) (k7 : PySem.W.keepIn K (.ref f7) = true)
    (a8 : PySem.W.nsIn K mainGlobals "_need_steps" = some (some (.ref f8))) (l8 : K.lookup f8 = some ⟨oc8, od8, .func (PySem.W.fnOf "_need_steps" "_need_steps" (defArgs s__need_steps) (defBody s__need_steps) (defScope s__need_steps) .none kV8 dc8 pm8 an8 cd8 ct8), sl8⟩) (c8 : PySem.W.codeIn K cd8 "_need_steps" = true) (k8 : PySem.W.keepIn K (.ref f8) = true)
    (a9 : PySem.W.nsIn K mainGlobals "_need_names" = some (some (.ref f9))) (l9 : K.lookup f9 = some ⟨oc9, od9, .func (PySem.W.fnOf "_need_names" "_need_names" (defArgs s__need_names) (defBody s__need_names) (defScope s__need_names) .none kV9 dc9 pm9 an9 cd9 ct9), sl9⟩) (c9 : PySem.W.codeIn K cd9 "_need_names" = true) (k9 : PySem.W.keepIn K (.ref f9) = true)
    (a10 : PySem.W.nsIn K mainGlobals "_law_amiss" = some (some (.ref f10))) (l10 : K.lookup f10 = some ⟨oc10, od10, .func (PySem.W.fnOf "_law_amiss" "_law_amiss" (defArgs s__law_amiss) (defBody s__law_amiss) (defScope s__law_amiss) .none kV10 dc10 pm10 an10 cd10 ct10), sl10⟩) (c10 : PySem.W.codeIn K cd10 "_law_amiss" = true) (k10 : PySem.W.keepIn K (.ref f10) = true)
    (a11 : PySem.W.nsIn K mainGlobals "_law_is_count" = some (some (.ref f11))) (l11 : K.lookup f11 = some ⟨oc11, od11, .func (PySem.W.fnOf "_law_is_count" "_law_is_count" (defArgs s__law_is_count) (defBody s__law_is_count) (defScope s__law_is_count) .none kV11 dc11 pm11 an11 cd11 ct11), sl11⟩) (c11 : PySem.W.codeIn K cd11 "_law_is_count" = true) (k11 : PySem.W.keepIn K (.ref f11) = true)
    (a12 : PySem.W.nsIn K mainGlobals "_law_are_steps" = some (some (.ref f12))) (l12 : K.lookup f12 = some ⟨oc12, od12, .func (PySem.W.fnOf "_law_are_steps" "_law_are_steps" (defArgs s__law_are_steps) (defBody s__law_are_steps) (defScope s__law_are_steps) .none kV12 dc12 pm12 an12 cd12 ct12), sl12⟩) (c12 : PySem.W.codeIn K cd12 "_law_are_steps" = true) (k12 : PySem.W.keepIn K (.ref f12) = true)
    (a13 : PySem.W.nsIn K mainGlobals "_law_is_market" = some (some (.ref f13))) (l13 : K.lookup f13 = some ⟨oc13, od13, .func (PySem.W.fnOf "_law_is_market" "_law_is_market" (defArgs s__law_is_market) (defBody s__law_is_market) (defScope s__law_is_market) .none kV13 dc13 pm13 an13 cd13 ct13), sl13⟩) (c13 : PySem.W.codeIn K cd13 "_law_is_market" = true) (k13 : PySem.W.keepIn K (.ref f13) = true)
    (a14 : PySem.W.nsIn K mainGlobals "_law_loose_count" = some (some (.ref f14))) (l14 : K.lookup f14 = some ⟨oc14, od14, .func (PySem.W.fnOf "_law_loose_count" "_law_loose_count" (defArgs s__law_loose_count) (defBody s__law_loose_count) (defScope s__law_loose_count) .none kV14 dc14 pm14 an14 cd14 ct14), sl14⟩) (c14 : PySem.W.codeIn K cd14 "_law_loose_count" = true) (k14 : PySem.W.keepIn K (.ref f14) = true)
    (a15 : PySem.W.nsIn K mainGlobals "_law_loose_steps" = some (some (.ref f15))) (l15 : K.lookup f15 = some ⟨oc15, od15, .func (PySem.W.fnOf "_law_loose_steps" "_law_loose_steps" (defArgs s__law_loose_steps) (defBody s__law_loose_steps) (defScope s__law_loose_steps) .none kV15 dc15 pm15 an15 cd15 ct15), sl15⟩) (c15 : PySem.W.codeIn K cd15 "_law_loose_steps" = true) (k15 : PySem.W.keepIn K (.ref f15) = true)
    (a16 : PySem.W.nsIn K mainGlobals "_law_loose_name" = some (some (.ref f16))) (l16 : K.lookup f16 = some ⟨oc16, od16, .func (PySem.W.fnOf "_law_loose_name" "_law_loose_name" (defArgs s__law_loose_name) (defBody s__law_loose_name) (defScope s__law_loose_name) .none kV16 dc16 pm16 an16 cd16 ct16), sl16⟩) (c16 : PySem.W.codeIn K cd16 "_law_loose_name" = true) (k16 : PySem.W.keepIn K (.ref f16) = true)
    (i17 : PySem.W.findIn K (.ref C_Market) "__init__" = some (some (.ref f17))) (j17 : PySem.W.isFn K (.ref f17) = true) (l17 : K.lookup f17 = some ⟨oc17, od17, .func (PySem.W.fnOf "__init__" "Market.__init__" (defArgs s_Market) (defBody s_Market) (defScope s_Market) .none kV17 dc17 pm17 an17 cd17 ct17), sl17⟩) (c17 : PySem.W.codeIn K cd17 "Market.__init__" = true) (k17 : PySem.W.keepIn K (.ref f17) = true) (mk17 : PySem.W.makesIn K C_Market = true) (kc17 : PySem.W.keepIn K (.ref C_Market) = true)
    (i18 : PySem.W.findIn K (.ref C_Market) "_first" = some (some (.ref f18))) (j18 : PySem.W.isFn K (.ref f18) = true) (l18 : K.lookup f18 = some ⟨oc18, od18, .func (PySem.W.fnOf "_first" "Market._first" (defArgs s_Market__first) (defBody s_Market__first) (defScope s_Market__first) .none kV18 dc18 pm18 an18 cd18 ct18), sl18⟩) (c18 : PySem.W.codeIn K cd18 "Market._first" = true) (k18 : PySem.W.keepIn K (.ref f18) = true)
    (i19 : PySem.W.findIn K (.ref C_Market) "_row" = some (some (.ref f19))) (j19 : PySem.W.isFn K (.ref f19) = true) (l19 : K.lookup f19 = some ⟨oc19, od19, .func (PySem.W.fnOf "_row" "Market._row" (defArgs s_Market__row) (defBody s_Market__row) (defScope s_Market__row) .none kV19 dc19 pm19 an19 cd19 ct19), sl19⟩) (c19 : PySem.W.codeIn K cd19 "Market._row" = true) (k19 : PySem.W.keepIn K (.ref f19) = true)
    (i20 : PySem.W.findIn K (.ref C_Market) "first_row" = some (some (.ref f20))) (j20 : PySem.W.isFn K (.ref f20) = true) (l20 : K.lookup f20 = some ⟨oc20, od20, .func (PySem.W.fnOf "first_row" "Market.first_row" (defArgs s_Market_first_row) (defBody s_Market_first_row) (defScope s_Market_first_row) .none kV20 dc20 pm20 an20 cd20 ct20), sl20⟩) (c20 : PySem.W.codeIn K cd20 "Market.first_row" = true) (k20 : PySem.W.keepIn K (.ref f20) = true)
    (i21 : PySem.W.findIn K (.ref C_Market) "_has_names" = some (some (.ref f21))) (j21 : PySem.W.isFn K (.ref f21) = true) (l21 : K.lookup f21 = some ⟨oc21, od21, .func (PySem.W.fnOf "_has_names" "Market._has_names" (defArgs s_Market__has_names) (defBody s_Market__has_names) (defScope s_Market__has_names) .none kV21 dc21 pm21 an21 cd21 ct21), sl21⟩) (c21 : PySem.W.codeIn K cd21 "Market._has_names" = true) (k21 : PySem.W.keepIn K (.ref f21) = true)
    (i22 : PySem.W.findIn K (.ref C_Market) "_leads" = some (some (.ref f22))) (j22 : PySem.W.isFn K (.ref f22) = true) (l22 : K.lookup f22 = some ⟨oc22, od22, .func (PySem.W.fnOf "_leads" "Market._leads" (defArgs s_Market__leads) (defBody s_Market__leads) (defScope s_Market__leads) .none kV22 dc22 pm22 an22 cd22 ct22), sl22⟩) (c22 : PySem.W.codeIn K cd22 "Market._leads" = true) (k22 : PySem.W.keepIn K (.ref f22) = true)
    (i23 : PySem.W.findIn K (.ref C_Market) "is_future" = some (some (.ref f23))) (j23 : PySem.W.isFn K (.ref f23) = true) (l23 : K.lookup f23 = some ⟨oc23, od23, .func (PySem.W.fnOf "is_future" "Market.is_future" (defArgs s_Market_is_future) (defBody s_Market_is_future) (defScope s_Market_is_future) .none kV23 dc23 pm23 an23 cd23 ct23), sl23⟩) (c23 : PySem.W.codeIn K cd23 "Market.is_future" = true) (k23 : PySem.W.keepIn K (.ref f23) = true)
    (i24 : PySem.W.findIn K (.ref C_Market) "_count" = some (some (.ref f24))) (j24 : PySem.W.isFn K (.ref f24) = true) (l24 : K.lookup f24 = some ⟨oc24, od24, .func (PySem.W.fnOf "_count" "Market._count" (defArgs s_Market__count) (defBody s_Market__count) (defScope s_Market__count) .none kV24 dc24 pm24 an24 cd24 ct24), sl24⟩) (c24 : PySem.W.codeIn K cd24 "Market._count" = true) (k24 : PySem.W.keepIn K (.ref f24) = true)
    (i25 : PySem.W.findIn K (.ref C_Market) "futures" = some (some (.ref f25))) (j25 : PySem.W.isFn K (.ref f25) = true) (l25 : K.lookup f25 = some ⟨oc25, od25, .func (PySem.W.fnOf "futures" "Market.futures" (defArgs s_Market_futures) (defBody s_Market_futures) (defScope s_Market_futures) .none kV25 dc25 pm25 an25 cd25 ct25), sl25⟩) (c25 : PySem.W.codeIn K cd25 "Market.futures" = true) (k25 : PySem.W.keepIn K (.ref f25) = true)
    (a26 : PySem.W.nsIn K mainGlobals "law" = some (some (.ref f26))) (l26 : K.lookup f26 = some ⟨oc26, od26, .func (PySem.W.fnOf "law" "law" (defArgs s_law) (defBody s_law) (defScope s_law) .none kV26 dc26 pm26 an26 cd26 ct26), sl26⟩) (c26 : PySem.W.codeIn K cd26 "law" = true) (k26 : PySem.W.keepIn K (.ref f26) = true)
    (xg_BadMarket : PySem.W.nsIn K mainGlobals "BadMarket" = some (some (.ref C_BadMarket))) (xx_BadMarket : PySem.W.excIn K C_BadMarket [.type "ValueError", .type "Exception", .type "BaseException", .type "object"] "ValueError.__new__" = true) (xk_BadMarket : PySem.W.keepIn K (.ref C_BadMarket) = true) (xs_BadMarket : PySem.W.subIn K (.ref C_BadMarket) (.type "BaseException") = some true) (xt_BadMarket : PySem.W.typeIn K (.ref C_BadMarket) = some (.type "type"))
    (xg_BookError : PySem.W.nsIn K mainGlobals "BookError" = some (some (.ref C_BookError))) (xx_BookError : PySem.W.excIn K C_BookError [.type "ValueError", .type "Exception", .type "BaseException", .type "object"] "ValueError.__new__" = true) (xk_BookError : PySem.W.keepIn K (.ref C_BookError) = true) (xs_BookError : PySem.W.subIn K (.ref C_BookError) (.type "BaseException") = some true) (xt_BookError : PySem.W.typeIn K (.ref C_BookError) = some (.type "type"))
    (xg_TooMany : PySem.W.nsIn K mainGlobals "TooMany" = some (some (.ref C_TooMany))) (xx_TooMany : PySem.W.excIn K C_TooMany [.type "ValueError", .type "Exception", .type "BaseException", .type "object"] "ValueError.__new__" = true) (xk_TooMany : PySem.W.keepIn K (.ref C_TooMany) = true) (xs_TooMany : PySem.W.subIn K (.ref C_TooMany) (.type "BaseException") = some true) (xt_TooMany : PySem.W.typeIn K (.ref C_TooMany) = some (.type "type"))
    (xg_BadText : PySem.W.nsIn K mainGlobals "BadText" = some (some (.ref C_BadText))) (xx_BadText : PySem.W.excIn K C_BadText [.type "ValueError", .type "Exception", .type "BaseException", .type "object"] "ValueError.__new__" = true) (xk_BadText : PySem.W.keepIn K (.ref C_BadText) = true) (xs_BadText : PySem.W.subIn K (.ref C_BadText) (.type "BaseException") = some true) (xt_BadText : PySem.W.typeIn K (.ref C_BadText) = some (.type "type"))
    (xg_BadContract : PySem.W.nsIn K mainGlobals "BadContract" = some (some (.ref C_BadContract))) (xx_BadContract : PySem.W.excIn K C_BadContract [.type "ValueError", .type "Exception", .type "BaseException", .type "object"] "ValueError.__new__" = true) (xk_BadContract : PySem.W.keepIn K (.ref C_BadContract) = true) (xs_BadContract : PySem.W.subIn K (.ref C_BadContract) (.type "BaseException") = some true) (xt_BadContract : PySem.W.typeIn K (.ref C_BadContract) = some (.type "type"))
    (e1 : PySem.W.exmOne K (.ref C_BadMarket) (.ref C_BookError) = some true)
    (e2 : PySem.W.findIn K (.ref C_BadMarket) "__getattribute__" = some (some (.builtin "BaseException.__getattribute__")))
    (e3 : PySem.W.findIn K (.ref C_BadMarket) "__getattr__" = some none)
    (e4 : PySem.W.hasDictIn K C_BadMarket = true)
    (e5 : PySem.W.findIn K (.ref C_BadMarket) "__class__" = some (some (.builtin "object.__class__")))
    (e6 : PySem.W.specialIn K (.builtin "object.__class__") "__get__" = some (some (.builtin "getset_descriptor.__get__")))
    (e7 : PySem.W.takesIn K (.builtin "object.__class__") = some true)
    (e8 : PySem.W.mroIn K C_BadMarket (.type "object") = some true)
    (e9 : PySem.W.kitOne K (.ref C_BadMarket) (.ref C_BadContract) = some false)
    (e10 : PySem.W.kitOne K (.ref C_BadMarket) (.ref C_BadText) = some false)
    (e11 : PySem.W.kitOne K (.ref C_BadMarket) (.ref C_TooMany) = some false)
    (e12 : PySem.W.kitOne K (.ref C_BadMarket) (.ref C_BadMarket) = some true)
    (e13 : PySem.W.kitOne K (.ref C_BadMarket) (.type "ValueError") = some true)
    (z_len : PySem.W.nsIn K mainGlobals "len" = some none)
    (z_int : PySem.W.nsIn K mainGlobals "int" = some none)
    (z_all : PySem.W.nsIn K mainGlobals "all" = some none)
    (z_LETTERS : PySem.W.nsIn K mainGlobals "LETTERS" = some (some (.str "abcdefghijklmnopqrstuvwxyz" t_LETTERS)))
    (z_LONGEST_WORD : PySem.W.nsIn K mainGlobals "LONGEST_WORD" = some (some (.int 8 t_LONGEST_WORD)))
    (z_isinstance : PySem.W.nsIn K mainGlobals "isinstance" = some none)
    (z_str : PySem.W.nsIn K mainGlobals "str" = some none)
    (z_bool : PySem.W.nsIn K mainGlobals "bool" = some none)
    (z_TOO_LARGE : PySem.W.nsIn K mainGlobals "TOO_LARGE" = some (some (.int 1000000000000 t_TOO_LARGE)))
    (z_set : PySem.W.nsIn K mainGlobals "set" = some none)
    (z_MOST_WEIGHT : PySem.W.nsIn K mainGlobals "MOST_WEIGHT" = some (some (.int 999 t_MOST_WEIGHT)))
    (z_tuple : PySem.W.nsIn K mainGlobals "tuple" = some none)
    (z_MOST_STEPS : PySem.W.nsIn K mainGlobals "MOST_STEPS" = some (some (.int 4 t_MOST_STEPS)))
    (z_list : PySem.W.nsIn K mainGlobals "list" = some none)
    (z_MOST_NAMES : PySem.W.nsIn K mainGlobals "MOST_NAMES" = some (some (.int 3 t_MOST_NAMES)))
    (z_range : PySem.W.nsIn K mainGlobals "range" = some none)
    (z_LAST_HOUR : PySem.W.nsIn K mainGlobals "LAST_HOUR" = some (some (.int 12 t_LAST_HOUR)))
    (z_zip : PySem.W.nsIn K mainGlobals "zip" = some none)
    (z_MOST_FUTURES : PySem.W.nsIn K mainGlobals "MOST_FUTURES" = some (some (.int 2000 t_MOST_FUTURES)))
    (z_ValueError : PySem.W.nsIn K mainGlobals "ValueError" = some none)
    : LamX.LawAtS l w K CX0 7 63 "_law_script" mg fa h := by
  have e := hfa.symm.trans (PySem.W.mg_of X G a26)
  cases e
  have tab := TO "is_word" cT PT rT (tabIn_of a4 l4 rfl cc v11)
  refine ⟨(PySem.W.fnOf "law" "law" (defArgs s_law) (defBody s_law) (defScope s_law) .none kV26 dc26 pm26 an26 cd26 ct26), [(cT, PT)], (spLaw K PT), fun p hp => ?_, fun p hp => ?_, fun p hp => ?_, fun s v => .of_eq rfl, fun H a ns hl _ hT hS => ⟨ns, a, rfl, hS, hl, ⟨#[], hT _ (List.mem_singleton.mpr rfl), trivial⟩, fun _ => rfl⟩, fun base _ _ hTB => ?_⟩
  · rw [List.mem_singleton.mp hp]; exact tab.2
  · rw [List.mem_singleton.mp hp]; exact nP
  · rw [List.mem_singleton.mp hp]; exact tab.1
  · have tq := hTB _ (List.mem_singleton.mpr rfl)
    have tb : GxR.TabB base mg cT PT := ⟨tq.code, tq.bm, tq.gP⟩
    have X_BadMarket : ExcT K mg "BadMarket" C_BadMarket := ⟨PySem.W.mg_of X G xg_BadMarket, xx_BadMarket, xk_BadMarket, xs_BadMarket, xt_BadMarket⟩
    have X_BookError : ExcT K mg "BookError" C_BookError := ⟨PySem.W.mg_of X G xg_BookError, xx_BookError, xk_BookError, xs_BookError, xt_BookError⟩
    have X_TooMany : ExcT K mg "TooMany" C_TooMany := ⟨PySem.W.mg_of X G xg_TooMany, xx_TooMany, xk_TooMany, xs_TooMany, xt_TooMany⟩
    have X_BadText : ExcT K mg "BadText" C_BadText := ⟨PySem.W.mg_of X G xg_BadText, xx_BadText, xk_BadText, xs_BadText, xt_BadText⟩
    have X_BadContract : ExcT K mg "BadContract" C_BadContract := ⟨PySem.W.mg_of X G xg_BadContract, xx_BadContract, xk_BadContract, xs_BadContract, xt_BadContract⟩
    have ER : Errs K C_BookError C_BadMarket C_BadContract C_BadText C_TooMany := ⟨e1, ⟨e2, e3, xs_BadMarket, e4, e5, e6, e7, e8⟩, e9, e10, e11, e12, e13⟩
    have m_len : mg "len" = none := PySem.W.mg_none_of X G z_len
    have m_int : mg "int" = none := PySem.W.mg_none_of X G z_int
    have m_all : mg "all" = none := PySem.W.mg_none_of X G z_all
    have m_LETTERS := PySem.W.mg_of X G z_LETTERS
    have m_LONGEST_WORD := PySem.W.mg_of X G z_LONGEST_WORD
    have m_isinstance : mg "isinstance" = none := PySem.W.mg_none_of X G z_isinstance
    have m_str : mg "str" = none := PySem.W.mg_none_of X G z_str
    have m_bool : mg "bool" = none := PySem.W.mg_none_of X G z_bool
    have m_TOO_LARGE := PySem.W.mg_of X G z_TOO_LARGE
    have m_set : mg "set" = none := PySem.W.mg_none_of X G z_set
    have m_MOST_WEIGHT := PySem.W.mg_of X G z_MOST_WEIGHT
    have m_tuple : mg "tuple" = none := PySem.W.mg_none_of X G z_tuple
    have m_MOST_STEPS := PySem.W.mg_of X G z_MOST_STEPS
    have m_list : mg "list" = none := PySem.W.mg_none_of X G z_list
    have m_MOST_NAMES := PySem.W.mg_of X G z_MOST_NAMES
    have m_range : mg "range" = none := PySem.W.mg_none_of X G z_range
    have m_LAST_HOUR := PySem.W.mg_of X G z_LAST_HOUR
    have m_zip : mg "zip" = none := PySem.W.mg_none_of X G z_zip
    have m_MOST_FUTURES := PySem.W.mg_of X G z_MOST_FUTURES
    have m_ValueError : mg "ValueError" = none := PySem.W.mg_none_of X G z_ValueError
    have cl_Market : Cls K C_Market := ⟨pg_Market, hd_Market, po_Market, sa_Market⟩
    have O0 : Own K mg "_law_taken" s__law_taken ["_law_s", "_law_most"] f0 _ := ⟨fun_mk (st := s__law_taken) l0 c0 k0, PySem.W.mg_of X G a0, (fun_mk (st := s__law_taken) l0 c0 k0).binds (ps := ["_law_s", "_law_most"]) fun _ _ _ _ _ _ us hl => match us, hl with | [_, _], _ => rfl⟩
    have O1 : Own K mg "_law_word" s__law_word ["_law_s", "_law_k"] f1 _ := ⟨fun_mk (st := s__law_word) l1 c1 k1, PySem.W.mg_of X G a1, (fun_mk (st := s__law_word) l1 c1 k1).binds (ps := ["_law_s", "_law_k"]) fun _ _ _ _ _ _ us hl => match us, hl with | [_, _], _ => rfl⟩
    have O2 : Own K mg "_law_number" s__law_number ["_law_s"] f2 _ := ⟨fun_mk (st := s__law_number) l2 c2 k2, PySem.W.mg_of X G a2, (fun_mk (st := s__law_number) l2 c2 k2).binds (ps := ["_law_s"]) fun _ _ _ _ _ _ us hl => match us, hl with | [_], _ => rfl⟩
    have O3 : Own K mg "_law_begun" s__law_begun ["_law_script"] f3 _ := ⟨fun_mk (st := s__law_begun) l3 c3 k3, PySem.W.mg_of X G a3, (fun_mk (st := s__law_begun) l3 c3 k3).binds (ps := ["_law_script"]) fun _ _ _ _ _ _ us hl => match us, hl with | [_], _ => rfl⟩
    have O4 : OwnC cT K mg "is_word" s_is_word ["told"] f4 _ := OwnC.mk' (st := s_is_word) l4 c4 k4 (PySem.W.mg_of X G a4) (.all fun us hl => match us, hl with | [_], _ => rfl)
    have O5 : Own K mg "is_whole" s_is_whole ["told"] f5 _ := ⟨fun_mk (st := s_is_whole) l5 c5 k5, PySem.W.mg_of X G a5, (fun_mk (st := s_is_whole) l5 c5 k5).binds (ps := ["told"]) fun _ _ _ _ _ _ us hl => match us, hl with | [_], _ => rfl⟩
    have O6 : Own K mg "is_between" s_is_between ["told", "low", "high"] f6 _ := ⟨fun_mk (st := s_is_between) l6 c6 k6, PySem.W.mg_of X G a6, (fun_mk (st := s_is_between) l6 c6 k6).binds (ps := ["told", "low", "high"]) fun _ _ _ _ _ _ us hl => match us, hl with | [_, _, _], _ => rfl⟩
    have O7 : Own K mg "is_amount" s_is_amount ["told"] f7 _ := ⟨fun_mk (st := s_is_amount) l7 c7 k7, PySem.W.mg_of X G a7, (fun_mk (st := s_is_amount) l7 c7 k7).binds (ps := ["told"]) fun _ _ _ _ _ _ us hl => match us, hl with | [_], _ => rfl⟩
    have O8 : Own K mg "_need_steps" s__need_steps ["steps"] f8 _ := ⟨fun_mk (st := s__need_steps) l8 c8 k8, PySem.W.mg_of X G a8, (fun_mk (st := s__need_steps) l8 c8 k8).binds (ps := ["steps"]) fun _ _ _ _ _ _ us hl => match us, hl with | [_], _ => rfl⟩
    have O9 : Own K mg "_need_names" s__need_names ["names"] f9 _ := ⟨fun_mk (st := s__need_names) l9 c9 k9, PySem.W.mg_of X G a9, (fun_mk (st := s__need_names) l9 c9 k9).binds (ps := ["names"]) fun _ _ _ _ _ _ us hl => match us, hl with | [_], _ => rfl⟩
    have O10 : Own K mg "_law_amiss" s__law_amiss ["_law_s"] f10 _ := ⟨fun_mk (st := s__law_amiss) l10 c10 k10, PySem.W.mg_of X G a10, (fun_mk (st := s__law_amiss) l10 c10 k10).binds (ps := ["_law_s"]) fun _ _ _ _ _ _ us hl => match us, hl with | [_], _ => rfl⟩
    have O11 : Own K mg "_law_is_count" s__law_is_count ["_law_number_here", "_law_least", "_law_most"] f11 _ := ⟨fun_mk (st := s__law_is_count) l11 c11 k11, PySem.W.mg_of X G a11, (fun_mk (st := s__law_is_count) l11 c11 k11).binds (ps := ["_law_number_here", "_law_least", "_law_most"]) fun _ _ _ _ _ _ us hl => match us, hl with | [_, _, _], _ => rfl⟩
    have O12 : Own K mg "_law_are_steps" s__law_are_steps ["_law_steps"] f12 _ := ⟨fun_mk (st := s__law_are_steps) l12 c12 k12, PySem.W.mg_of X G a12, (fun_mk (st := s__law_are_steps) l12 c12 k12).binds (ps := ["_law_steps"]) fun _ _ _ _ _ _ us hl => match us, hl with | [_], _ => rfl⟩
    have O13 : Own K mg "_law_is_market" s__law_is_market ["_law_last", "_law_names"] f13 _ := ⟨fun_mk (st := s__law_is_market) l13 c13 k13, PySem.W.mg_of X G a13, (fun_mk (st := s__law_is_market) l13 c13 k13).binds (ps := ["_law_last", "_law_names"]) fun _ _ _ _ _ _ us hl => match us, hl with | [_, _], _ => rfl⟩
    have O14 : Own K mg "_law_loose_count" s__law_loose_count ["_law_s", "_law_least", "_law_most"] f14 _ := ⟨fun_mk (st := s__law_loose_count) l14 c14 k14, PySem.W.mg_of X G a14, (fun_mk (st := s__law_loose_count) l14 c14 k14).binds (ps := ["_law_s", "_law_least", "_law_most"]) fun _ _ _ _ _ _ us hl => match us, hl with | [_, _, _], _ => rfl⟩
    have O15 : Own K mg "_law_loose_steps" s__law_loose_steps ["_law_s"] f15 _ := ⟨fun_mk (st := s__law_loose_steps) l15 c15 k15, PySem.W.mg_of X G a15, (fun_mk (st := s__law_loose_steps) l15 c15 k15).binds (ps := ["_law_s"]) fun _ _ _ _ _ _ us hl => match us, hl with | [_], _ => rfl⟩
    have O16 : Own K mg "_law_loose_name" s__law_loose_name ["_law_s", "_law_k", "_law_names"] f16 _ := ⟨fun_mk (st := s__law_loose_name) l16 c16 k16, PySem.W.mg_of X G a16, (fun_mk (st := s__law_loose_name) l16 c16 k16).binds (ps := ["_law_s", "_law_k", "_law_names"]) fun _ _ _ _ _ _ us hl => match us, hl with | [_, _, _], _ => rfl⟩
    have O17 : OwnM K "__init__" "Market.__init__" s_Market ["self", "last", "names"] f17 _ := ⟨fun_mk (st := s_Market) l17 c17 k17, (fun_mk (st := s_Market) l17 c17 k17).binds (ps := ["self", "last", "names"]) fun _ _ _ _ _ _ us hl => match us, hl with | [_, _, _], _ => rfl⟩
    have T17 : ClsT K mg "Market" C_Market f17 := ⟨PySem.W.mg_of X G ca_Market, ⟨mk17, i17, j17, kc17⟩, cl_Market⟩
    have O18 : OwnM K "_first" "Market._first" s_Market__first ["self"] f18 _ := ⟨fun_mk (st := s_Market__first) l18 c18 k18, (fun_mk (st := s_Market__first) l18 c18 k18).binds (ps := ["self"]) fun _ _ _ _ _ _ us hl => match us, hl with | [_], _ => rfl⟩
    have M18 : Meth K C_Market "_first" f18 := ⟨i18, j18, k18⟩
    have O19 : OwnM K "_row" "Market._row" s_Market__row ["self", "numbers"] f19 _ := ⟨fun_mk (st := s_Market__row) l19 c19 k19, (fun_mk (st := s_Market__row) l19 c19 k19).binds (ps := ["self", "numbers"]) fun _ _ _ _ _ _ us hl => match us, hl with | [_, _], _ => rfl⟩
    have M19 : Meth K C_Market "_row" f19 := ⟨i19, j19, k19⟩
    have O20 : OwnM K "first_row" "Market.first_row" s_Market_first_row ["self"] f20 _ := ⟨fun_mk (st := s_Market_first_row) l20 c20 k20, (fun_mk (st := s_Market_first_row) l20 c20 k20).binds (ps := ["self"]) fun _ _ _ _ _ _ us hl => match us, hl with | [_], _ => rfl⟩
    have M20 : Meth K C_Market "first_row" f20 := ⟨i20, j20, k20⟩
    have O21 : OwnM K "_has_names" "Market._has_names" s_Market__has_names ["self", "row"] f21 _ := ⟨fun_mk (st := s_Market__has_names) l21 c21 k21, (fun_mk (st := s_Market__has_names) l21 c21 k21).binds (ps := ["self", "row"]) fun _ _ _ _ _ _ us hl => match us, hl with | [_, _], _ => rfl⟩
    have M21 : Meth K C_Market "_has_names" f21 := ⟨i21, j21, k21⟩
    have O22 : OwnM K "_leads" "Market._leads" s_Market__leads ["self", "before", "after"] f22 _ := ⟨fun_mk (st := s_Market__leads) l22 c22 k22, (fun_mk (st := s_Market__leads) l22 c22 k22).binds (ps := ["self", "before", "after"]) fun _ _ _ _ _ _ us hl => match us, hl with | [_, _, _], _ => rfl⟩
    have M22 : Meth K C_Market "_leads" f22 := ⟨i22, j22, k22⟩
    have O23 : OwnM K "is_future" "Market.is_future" s_Market_is_future ["self", "rows"] f23 _ := ⟨fun_mk (st := s_Market_is_future) l23 c23 k23, (fun_mk (st := s_Market_is_future) l23 c23 k23).binds (ps := ["self", "rows"]) fun _ _ _ _ _ _ us hl => match us, hl with | [_, _], _ => rfl⟩
    have M23 : Meth K C_Market "is_future" f23 := ⟨i23, j23, k23⟩
    have O24 : OwnM K "_count" "Market._count" s_Market__count ["self"] f24 _ := ⟨fun_mk (st := s_Market__count) l24 c24 k24, (fun_mk (st := s_Market__count) l24 c24 k24).binds (ps := ["self"]) fun _ _ _ _ _ _ us hl => match us, hl with | [_], _ => rfl⟩
    have M24 : Meth K C_Market "_count" f24 := ⟨i24, j24, k24⟩
    have O25 : OwnM K "futures" "Market.futures" s_Market_futures ["self"] f25 _ := ⟨fun_mk (st := s_Market_futures) l25 c25 k25, (fun_mk (st := s_Market_futures) l25 c25 k25).binds (ps := ["self"]) fun _ _ _ _ _ _ us hl => match us, hl with | [_], _ => rfl⟩
    have M25 : Meth K C_Market "futures" f25 := ⟨i25, j25, k25⟩
    have O26 : Own K mg "law" s_law ["_law_script"] fa _ := ⟨fun_mk (st := s_law) l26 c26 k26, PySem.W.mg_of X G a26, (fun_mk (st := s_law) l26 c26 k26).binds (ps := ["_law_script"]) fun _ _ _ _ _ _ us hl => match us, hl with | [_], _ => rfl⟩
    have H__law_taken := h__law_taken (P := l.prog) (w := w) (mg := mg) (base := base) (k := 0) O0   m_len m_int
    have H__law_word := h__law_word (P := l.prog) (w := w) (mg := mg) (base := base) (k := 0) O1   
    have H__law_number := h__law_number (P := l.prog) (w := w) (mg := mg) (base := base) (k := 1) O2  (H__law_taken.mono (by omega)) 
    have H__law_begun := h__law_begun (P := l.prog) (w := w) (mg := mg) (base := base) (k := 1) O3  (H__law_taken.mono (by omega)) m_int m_len
    have H_is_word := h_is_word (P := l.prog) (w := w) (mg := mg) (base := base) (k := 0) tb O4   m_all m_LETTERS m_len m_LONGEST_WORD m_isinstance m_str
    have H_is_whole := h_is_whole (P := l.prog) (w := w) (mg := mg) (base := base) (k := 0) O5   m_isinstance m_bool m_int
    have H_is_between := h_is_between (P := l.prog) (w := w) (mg := mg) (base := base) (k := 1) O6  (H_is_whole.mono (by omega)) 
    have H_is_amount := h_is_amount (P := l.prog) (w := w) (mg := mg) (base := base) (k := 1) O7  (H_is_whole.mono (by omega)) m_TOO_LARGE
    have H__need_steps := h__need_steps (P := l.prog) (w := w) (mg := mg) (base := base) (k := 2) O8 X_BadMarket (H_is_between.mono (by omega)) (H_is_amount.mono (by omega)) m_len m_set m_MOST_WEIGHT m_isinstance m_tuple m_MOST_STEPS m_list
    have H__need_names := h__need_names (P := l.prog) (w := w) (mg := mg) (base := base) (k := 3) O9 X_BadMarket (H__need_steps.mono (by omega)) (H_is_amount.mono (by omega)) (H_is_word.mono (by omega)) m_len m_set m_isinstance m_tuple m_MOST_NAMES m_list
    have H__law_amiss := h__law_amiss (P := l.prog) (w := w) (mg := mg) (base := base) (k := 1) O10  (H__law_taken.mono (by omega)) 
    have H__law_is_count := h__law_is_count (P := l.prog) (w := w) (mg := mg) (base := base) (k := 0) O11   m_isinstance m_bool m_int
    have H__law_are_steps := h__law_are_steps (P := l.prog) (w := w) (mg := mg) (base := base) (k := 1) O12  (H__law_is_count.mono (by omega)) m_len m_isinstance m_tuple m_list
    have H__law_is_market := h__law_is_market (P := l.prog) (w := w) (mg := mg) (base := base) (k := 2) O13  (H__law_are_steps.mono (by omega)) (H__law_is_count.mono (by omega)) m_len m_isinstance m_str m_tuple m_list
    have H__law_loose_count := h__law_loose_count (P := l.prog) (w := w) (mg := mg) (base := base) (k := 2) O14  (H__law_taken.mono (by omega)) (H__law_amiss.mono (by omega)) 
    have H__law_loose_steps := h__law_loose_steps (P := l.prog) (w := w) (mg := mg) (base := base) (k := 3) O15  (H__law_amiss.mono (by omega)) (H__law_taken.mono (by omega)) (H__law_loose_count.mono (by omega)) m_tuple m_range m_list m_len m_isinstance
    have H__law_loose_name := h__law_loose_name (P := l.prog) (w := w) (mg := mg) (base := base) (k := 4) O16  (H__law_amiss.mono (by omega)) (H__law_taken.mono (by omega)) (H__law_loose_steps.mono (by omega)) (H__law_number.mono (by omega)) (H__law_word.mono (by omega)) m_list m_len m_isinstance m_tuple
    have H_Market := h_Market (P := l.prog) (w := w) (mg := mg) (base := base) (k := 4) T17 O17 n_Market_last n_Market_names X_BadMarket (H__need_names.mono (by omega)) (H_is_between.mono (by omega)) m_tuple m_LAST_HOUR
    have H_Market__first := h_Market__first (P := l.prog) (w := w) (mg := mg) (base := base) (k := 0) cl_Market M18 O18 n_Market_names  
    have H_Market__row := h_Market__row (P := l.prog) (w := w) (mg := mg) (base := base) (k := 0) cl_Market M19 O19 n_Market_names  m_zip
    have H_Market_first_row := h_Market_first_row (P := l.prog) (w := w) (mg := mg) (base := base) (k := 1) cl_Market M20 O20  (H_Market__row.mono (by omega)) (H_Market__first.mono (by omega)) 
    have H_Market__has_names := h_Market__has_names (P := l.prog) (w := w) (mg := mg) (base := base) (k := 0) cl_Market M21 O21 n_Market_names  m_all m_len
    have H_Market__leads := h_Market__leads (P := l.prog) (w := w) (mg := mg) (base := base) (k := 0) cl_Market M22 O22 n_Market_names  m_all
    have H_Market_is_future := h_Market_is_future (P := l.prog) (w := w) (mg := mg) (base := base) (k := 2) cl_Market M23 O23 n_Market_last (H_Market__leads.mono (by omega)) (H_Market_first_row.mono (by omega)) (H_Market__has_names.mono (by omega)) m_all m_zip m_len
    have H_Market__count := h_Market__count (P := l.prog) (w := w) (mg := mg) (base := base) (k := 0) cl_Market M24 O24 n_Market_last  m_range
    have H_Market_futures := h_Market_futures (P := l.prog) (w := w) (mg := mg) (base := base) (k := 1) cl_Market M25 O25 n_Market_last (H_Market__row.mono (by omega)) (H_Market__first.mono (by omega)) (H_Market__count.mono (by omega)) m_range m_MOST_FUTURES
    have H_law := h_law (P := l.prog) (w := w) (mg := mg) (base := base) (k := 6) O26 X_BookError X_BadMarket X_TooMany X_BadText X_BadContract ER cl_Market (H_Market_is_future.mono (by omega)) (H_Market_futures.mono (by omega)) (H_Market.mono (by omega)) (H__law_is_market.mono (by omega)) (H__law_amiss.mono (by omega)) (H__law_taken.mono (by omega)) (H__law_loose_name.mono (by omega)) (H__law_loose_count.mono (by omega)) (H__law_begun.mono (by omega)) m_isinstance m_ValueError m_list m_tuple m_range
    exact H_law.G
end Bk
open PySem PySem.W PyProof.Rows
set_option maxHeartbeats 0 in
theorem PySem.Challenge.cw_contractbook_k33_whole_markets_that_are_holds : PySem.Challenge.rw_contractbook_k33_whole_markets_that_are.Holds := by
  w_on; o_law; k_head; (case hw => w_witness2)
  k_fill
  refine Bk.walk_tabs (l := PySem.Challenge.rw_contractbook_k33_whole_markets_that_are) (n := 63) (k := 7) (x := "_law_script") (CX := fun _ => L2.CX0) rfl (by decide) rfl ⟨rfl, by decide, by decide⟩ (fun w h Y => PySem.W.kIn_of Y) ?F (fun _ _ _ _ _ h => h)
  case F =>
    intro w mg fa h KX G hmg TO
    refine' Bk.all_mk KX G hmg TO ?ca_Market ?pg_Market ?hd_Market ?po_Market ?sa_Market ?n_Market_last ?n_Market_names ?a0 ?l0 ?c0 ?k0 ?a1 ?l1 ?c1 ?k1 ?a2 ?l2 ?c2 ?k2 ?a3 ?l3 ?c3 ?k3 ?a4 ?l4 ?c4 ?k4 ?cc ?v11 ?rT ?nP ?a5 ?l5 ?c5 ?k5 ?a6 ?l6 ?c6 ?k6 ?a7 ?l7 ?c7 ?k7 ?a8 ?l8 ?c8 ?k8 ?a9 ?l9 ?c9 ?k9 ?a10 ?l10 ?c10 ?k10 ?a11 ?l11 ?c11 ?k11 ?a12 ?l12 ?c12 ?k12 ?a13 ?l13 ?c13 ?k13 ?a14 ?l14 ?c14 ?k14 ?a15 ?l15 ?c15 ?k15 ?a16 ?l16 ?c16 ?k16 ?i17 ?j17 ?l17 ?c17 ?k17 ?mk17 ?kc17 ?i18 ?j18 ?l18 ?c18 ?k18 ?i19 ?j19 ?l19 ?c19 ?k19 ?i20 ?j20 ?l20 ?c20 ?k20 ?i21 ?j21 ?l21 ?c21 ?k21 ?i22 ?j22 ?l22 ?c22 ?k22 ?i23 ?j23 ?l23 ?c23 ?k23 ?i24 ?j24 ?l24 ?c24 ?k24 ?i25 ?j25 ?l25 ?c25 ?k25 ?a26 ?l26 ?c26 ?k26 ?xg_BadMarket ?xx_BadMarket ?xk_BadMarket ?xs_BadMarket ?xt_BadMarket ?xg_BookError ?xx_BookError ?xk_BookError ?xs_BookError ?xt_BookError ?xg_TooMany ?xx_TooMany ?xk_TooMany ?xs_TooMany ?xt_TooMany ?xg_BadText ?xx_BadText ?xk_BadText ?xs_BadText ?xt_BadText ?xg_BadContract ?xx_BadContract ?xk_BadContract ?xs_BadContract ?xt_BadContract ?e1 ?e2 ?e3 ?e4 ?e5 ?e6 ?e7 ?e8 ?e9 ?e10 ?e11 ?e12 ?e13 ?z_len ?z_int ?z_all ?z_LETTERS ?z_LONGEST_WORD ?z_isinstance ?z_str ?z_bool ?z_TOO_LARGE ?z_set ?z_MOST_WEIGHT ?z_tuple ?z_MOST_STEPS ?z_list ?z_MOST_NAMES ?z_range ?z_LAST_HOUR ?z_zip ?z_MOST_FUTURES ?z_ValueError
    (case ca_Market => k_is)
    (case pg_Market => k_is)
    (case hd_Market => k_is)
    (case po_Market => k_is)
    (case sa_Market => k_is)
    (case n_Market_last => k_is)
    (case n_Market_names => k_is)
    (case a0 => k_is)
    (case l0 => k_is)
    (case c0 => k_is)
    (case k0 => k_is)
    (case a1 => k_is)
    (case l1 => k_is)
    (case c1 => k_is)
    (case k1 => k_is)
    (case a2 => k_is)
    (case l2 => k_is)
    (case c2 => k_is)
    (case k2 => k_is)
    (case a3 => k_is)
    (case l3 => k_is)
    (case c3 => k_is)
    (case k3 => k_is)
    (case a4 => k_is)
    (case l4 => k_is)
    (case c4 => k_is)
    (case k4 => k_is)
    (case cc => k_is)
    (case v11 => rfl)
    (case rT => kernel_rfl)
    (case nP => kernel_rfl)
    (case a5 => k_is)
    (case l5 => k_is)
    (case c5 => k_is)
    (case k5 => k_is)
    (case a6 => k_is)
    (case l6 => k_is)
    (case c6 => k_is)
    (case k6 => k_is)
    (case a7 => k_is)
    (case l7 => k_is)
    (case c7 => k_is)
    (case k7 => k_is)
    (case a8 => k_is)
    (case l8 => k_is)
    (case c8 => k_is)
    (case k8 => k_is)
    (case a9 => k_is)
    (case l9 => k_is)
    (case c9 => k_is)
    (case k9 => k_is)
    (case a10 => k_is)
    (case l10 => k_is)
    (case c10 => k_is)
    (case k10 => k_is)
    (case a11 => k_is)
    (case l11 => k_is)
    (case c11 => k_is)
    (case k11 => k_is)
    (case a12 => k_is)
    (case l12 => k_is)
    (case c12 => k_is)
    (case k12 => k_is)
    (case a13 => k_is)
    (case l13 => k_is)
    (case c13 => k_is)
    (case k13 => k_is)
    (case a14 => k_is)
    (case l14 => k_is)
    (case c14 => k_is)
    (case k14 => k_is)
    (case a15 => k_is)
    (case l15 => k_is)
    (case c15 => k_is)
    (case k15 => k_is)
    (case a16 => k_is)
    (case l16 => k_is)
    (case c16 => k_is)
    (case k16 => k_is)
    (case i17 => k_is)
    (case j17 => k_is)
    (case l17 => k_is)
    (case c17 => k_is)
    (case k17 => k_is)
    (case mk17 => k_is)
    (case kc17 => k_is)
    (case i18 => k_is)
    (case j18 => k_is)
    (case l18 => k_is)
    (case c18 => k_is)
    (case k18 => k_is)
    (case i19 => k_is)
    (case j19 => k_is)
    (case l19 => k_is)
    (case c19 => k_is)
    (case k19 => k_is)
    (case i20 => k_is)
    (case j20 => k_is)
    (case l20 => k_is)
    (case c20 => k_is)
    (case k20 => k_is)
    (case i21 => k_is)
    (case j21 => k_is)
    (case l21 => k_is)
    (case c21 => k_is)
    (case k21 => k_is)
    (case i22 => k_is)
    (case j22 => k_is)
    (case l22 => k_is)
    (case c22 => k_is)
    (case k22 => k_is)
    (case i23 => k_is)
    (case j23 => k_is)
    (case l23 => k_is)
    (case c23 => k_is)
    (case k23 => k_is)
    (case i24 => k_is)
    (case j24 => k_is)
    (case l24 => k_is)
    (case c24 => k_is)
    (case k24 => k_is)
    (case i25 => k_is)
    (case j25 => k_is)
    (case l25 => k_is)
    (case c25 => k_is)
    (case k25 => k_is)
    (case a26 => k_is)
    (case l26 => k_is)
    (case c26 => k_is)
    (case k26 => k_is)
    (case xg_BadMarket => k_is)
    (case xx_BadMarket => k_exc)
    (case xk_BadMarket => k_is)
    (case xs_BadMarket => k_is)
    (case xt_BadMarket => k_is)
    (case xg_BookError => k_is)
    (case xx_BookError => k_exc)
    (case xk_BookError => k_is)
    (case xs_BookError => k_is)
    (case xt_BookError => k_is)
    (case xg_TooMany => k_is)
    (case xx_TooMany => k_exc)
    (case xk_TooMany => k_is)
    (case xs_TooMany => k_is)
    (case xt_TooMany => k_is)
    (case xg_BadText => k_is)
    (case xx_BadText => k_exc)
    (case xk_BadText => k_is)
    (case xs_BadText => k_is)
    (case xt_BadText => k_is)
    (case xg_BadContract => k_is)
    (case xx_BadContract => k_exc)
    (case xk_BadContract => k_is)
    (case xs_BadContract => k_is)
    (case xt_BadContract => k_is)
    (case e1 => kernel_rfl)
    (case e2 => k_is)
    (case e3 => k_is)
    (case e4 => k_is)
    (case e5 => k_is)
    (case e6 => k_is)
    (case e7 => k_is)
    (case e8 => k_is)
    (case e9 => kernel_rfl)
    (case e10 => kernel_rfl)
    (case e11 => kernel_rfl)
    (case e12 => kernel_rfl)
    (case e13 => kernel_rfl)
    (case z_len => k_is)
    (case z_int => k_is)
    (case z_all => k_is)
    (case z_LETTERS => k_is)
    (case z_LONGEST_WORD => k_is)
    (case z_isinstance => k_is)
    (case z_str => k_is)
    (case z_bool => k_is)
    (case z_TOO_LARGE => k_is)
    (case z_set => k_is)
    (case z_MOST_WEIGHT => k_is)
    (case z_tuple => k_is)
    (case z_MOST_STEPS => k_is)
    (case z_list => k_is)
    (case z_MOST_NAMES => k_is)
    (case z_range => k_is)
    (case z_LAST_HOUR => k_is)
    (case z_zip => k_is)
    (case z_MOST_FUTURES => k_is)
    (case z_ValueError => k_is)
