import PyProof.Rows.All
import Wide.All
import OpenK.AllK
import Wide.FinOn
import HandS.ForMost
import HandS.More
import HandS.DictComp
import HandS.IsInst
import HandS.Wide
import HandS.TupAny
import PyProof.StrOps2
import HandS.AnyAll
import HandS.Text
import HandS.ForExc
import HandS.FStr
import HandS.Small
import HandS.Zip
import HandS.ExcIs
import HandS.EndTab
import KE.KNest
import HandS.Walk
import HandS.Deep
import HandS.HeadHook3
import HandS.Strs
import HandS.RaiseMore
import HandS.Evl
import PySem.Challenge.RW_contractbook_k17_parted_as_told
set_option Elab.async false
set_option linter.all false
set_option maxRecDepth 100000
namespace Bk
open PySem PySem.Spec PyProof.Rows L2

/-! ### steps of a reading -/
section steps
variable {D : Ends} {σ : L2.St} {H : Hp} {Q : VK} {v : V}
theorem g_seq {t u : TS} (h : t { D with nx := u D } σ H) : tSeq t u D σ H := h
theorem g_next (h : D.nx σ H) : tNext D σ H := h
theorem g_asg {te : TE} {g : TG} (h : te σ H fun x H1 => g x σ H1 D.nx) : tAsg te g D σ H := h
theorem g_name {i : Nat} {R : L2.St → Hp → Prop} (h : R (σ.set i (some v)) H) : gName i v σ H R := h
theorem g_ret {te : TE} (h : te σ H D.rt) : tRet te D σ H := h
theorem g_drop {te : TE} (h : te σ H fun _ H1 => D.nx σ H1) : tDrop te D σ H := h
theorem g_ifs {c : TT} {t u : TS} (h : c σ H fun b H1 => if b = true then t D σ H1 else u D σ H1) : tIfS c t u D σ H := h
theorem g_if {c : TT} {t u : TE} (h : c σ H fun b H1 => if b = true then t σ H1 Q else u σ H1 Q) : tIf c t u σ H Q := h
theorem g_c (h : Q v H) : tC v σ H Q := h
theorem g_op {r : R2} {ta tb : TE} (h : ta σ H fun x H1 => tb σ H1 fun y H2 => r x y H2 Q) : tOp r ta tb σ H Q := h
theorem g_un {r : V → Hp → VK → Prop} {ta : TE} (h : ta σ H fun x H1 => r x H1 Q) : tUn r ta σ H Q := h
theorem g_neg {g : Int → V} {i : Int} (h : Q (g i) H) : rU g (.int i) H Q := ⟨i, rfl, h⟩
theorem g_I0 {g : Int → Int → V} {i j : Int} (h : Q (g i j) H) : rI0 g (.int i) (.int j) H Q := ⟨i, j, rfl, rfl, h⟩
theorem g_I {C : Int → Int → Prop} {g : Int → Int → V} {i j : Int} (hc : C i j) (h : Q (g i j) H) : rI C g (.int i) (.int j) H Q := ⟨i, j, rfl, rfl, hc, h⟩
theorem dec_int {i j : Int} : decide (V.int i = V.int j) = decide (i = j) := by
  by_cases e : i = j
  · rw [e]; simp
  · rw [decide_eq_false e]
    exact decide_eq_false (fun z => e (V.int.inj z))
theorem dec_str {i j : Str} : decide (V.str i = V.str j) = decide (i = j) := by
  by_cases e : i = j
  · rw [e]; simp
  · rw [decide_eq_false e]
    exact decide_eq_false (fun z => e (V.str.inj z))
theorem dec_bl {i j : Bool} : decide (V.bl i = V.bl j) = decide (i = j) := by
  cases i <;> cases j <;> rfl
theorem g_eqI {i j : Int} (h : Q (.bl (decide (i = j))) H) : rEq (.int i) (.int j) H Q := ⟨rfl, by rw [dec_int]; exact h⟩
theorem g_eqS {i j : Str} (h : Q (.bl (decide (i = j))) H) : rEq (.str i) (.str j) H Q := ⟨rfl, by rw [dec_str]; exact h⟩
theorem g_eqB {i j : Bool} (h : Q (.bl (decide (i = j))) H) : rEq (.bl i) (.bl j) H Q := ⟨rfl, by rw [dec_bl]; exact h⟩
theorem g_neI {i j : Int} (h : Q (.bl (!decide (i = j))) H) : rNe (.int i) (.int j) H Q := ⟨rfl, by rw [dec_int]; exact h⟩
theorem g_neS {i j : Str} (h : Q (.bl (!decide (i = j))) H) : rNe (.str i) (.str j) H Q := ⟨rfl, by rw [dec_str]; exact h⟩
theorem g_neB {i j : Bool} (h : Q (.bl (!decide (i = j))) H) : rNe (.bl i) (.bl j) H Q := ⟨rfl, by rw [dec_bl]; exact h⟩
theorem g_test {te : TE} {R : Bool → Hp → Prop} (h : te σ H fun x H' => ∃ k, x = .bl k ∧ R k H') : tTest te σ H R := h
theorem g_b {te : TE} {R : Bool → Hp → Prop} (h : te σ H fun x H' => ∃ k, x = .bl k ∧ R k H') : tB te σ H R := h
theorem g_and {t u : TT} {R : Bool → Hp → Prop} (h : t σ H fun c H1 => if c = true then u σ H1 R else R false H1) : tAnd t u σ H R := h
theorem g_or {t u : TT} {R : Bool → Hp → Prop} (h : t σ H fun c H1 => if c = true then R true H1 else u σ H1 R) : tOr t u σ H R := h
theorem g_not {t : TT} {R : Bool → Hp → Prop} (h : t σ H fun c H1 => R (!c) H1) : tNot t σ H R := h
theorem g_andV {ta tb : TE} (h : ta σ H fun x H1 => ∃ c, x = .bl c ∧ if c = true then tb σ H1 Q else Q (.bl false) H1) : tAndV ta tb σ H Q := h
theorem g_orV {ta tb : TE} (h : ta σ H fun x H1 => ∃ c, x = .bl c ∧ if c = true then Q (.bl true) H1 else tb σ H1 Q) : tOrV ta tb σ H Q := h
theorem g_notV {ta : TE} (h : ta σ H fun x H1 => ∃ c, x = .bl c ∧ Q (.bl (!c)) H1) : tNotV ta σ H Q := h
theorem g_cons {ta : TE} {tr : TA} {R : List V → Hp → Prop} (h : ta σ H fun x H1 => tr σ H1 fun xs H2 => R (x :: xs) H2) : tCons ta tr σ H R := h
theorem g_chain {r r' : R2} {ta tb tc : TE} (h : ta σ H fun x H1 => tb σ H1 fun y H2 => r x y H2 fun z H3 => ∃ k, z = .bl k ∧ (if k = true then tc σ H3 fun z' H4 => r' y z' H4 Q else Q (.bl false) H3)) : tChain r r' ta tb tc σ H Q := h
theorem g_nil {R : List V → Hp → Prop} (h : R [] H) : tNil σ H R := h
theorem g_call {sp : Sp} {dvs : List V} {E : XK} {t : TA} (h : t σ H fun vs H1 => sp (vs ++ dvs) H1 Q E) : tCall sp dvs E t σ H Q := h
theorem g_cb {r : List V → Hp → VK → Prop} {t : TA} (h : t σ H fun vs H1 => r vs H1 Q) : tCB r t σ H Q := h
theorem g_dget {td ty : TE} (h : td σ H fun x H1 => ty σ H1 fun y H2 => ∃ a v, x = .ref a ∧ DGet H2 a y (some v) ∧ Q v H2) : tDGet td ty σ H Q := h
theorem g_dput {td ty tv : TE} (h : tv σ H fun v H1 => td σ H1 fun x H2 => ty σ H2 fun y H3 => ∃ a H4, x = .ref a ∧ DPut H3 a y v H4 ∧ D.nx σ H4) : sDPut td ty tv D σ H := h
theorem g_tup {t : TA} (h : t σ H fun xs H1 => xs.length ≤ sizeLine ∧ ∀ p, H1 p = none → Q (.ref p) (upd H1 p (.tup xs))) : tTup t σ H Q := h
theorem g_lst {t : TA} (h : t σ H fun xs H1 => xs.length ≤ sizeLine ∧ ∀ p, H1 p = none → Q (.ref p) (upd H1 p (.lst xs))) : tLst t σ H Q := h
theorem g_for {wi : TI} {g : TG} {tb : TS} (h : wi σ H fun J H1 => ∃ W : Nat → Nat → L2.St → Hp → Prop, (∃ m, W 0 m σ H1) ∧ ∀ i m σ H, W i m σ H →
  (J.stop i H ∧ D.nx σ H) ∨ (J.go i H ∧ ∃ N : L2.St → Hp → Prop, (∀ σ' H', N σ' H' → ∃ m', m' < m ∧ W (i + 1) m' σ' H') ∧ ∀ x H', J.yld i H x H' → g x σ H' fun σ2 H2 => tb { D with nx := N, ct := N, bk := D.nx } σ2 H2)) : tFor wi g tb D σ H := h
theorem g_rng1 {ta : TA} {R : It → Hp → Prop} (h : ta σ H fun vs H1 => ∃ j : Int, vs = [.int j] ∧ -(2 ^ 62) ≤ j ∧ j < 2 ^ 62 ∧ R (Itr 0 j.toNat) H1) : iRng1 ta σ H R := h
theorem g_rng2 {ta : TA} {R : It → Hp → Prop} (h : ta σ H fun vs H1 => ∃ i j : Int, vs = [.int i, .int j] ∧ (-(2 ^ 62) ≤ i ∧ i < 2 ^ 62 ∧ -(2 ^ 62) ≤ j ∧ j < 2 ^ 62) ∧ R (Itr i (j - i).toNat) H1) : iRng2 ta σ H R := h
theorem g_ilist {K : PySem.W.Frag} {tl : TE} {R : It → Hp → Prop} (h : tl σ H fun x H1 => ∃ a, x = .ref a ∧ (∃ xs, SqL K H1 a xs) ∧ R (Itl K a) H1) : iList K tl σ H R := h
theorem g_itup {K : PySem.W.Frag} {tl : TE} {R : It → Hp → Prop} (h : tl σ H fun x H1 => ∃ a, x = .ref a ∧ (∃ xs, SqT K H1 a xs) ∧ R (Itt K a) H1) : iTup K tl σ H R := h
theorem g_lc {wi : TI} {g : TG} {tt : TT} {te : TE} {vs : List Nat} (h : wi σ H fun J H1 => ∀ D, H1 D = none → ∃ W : Nat → Nat → Hp → Prop, (∃ m, W 0 m (upd H1 D (.lst []))) ∧ ∀ i m H, W i m H →
  (J.stop i H ∧ Q (.ref D) H) ∨ (J.go i H ∧ ∃ Nx : Hp → Prop, (∀ H', Nx H' → ∃ m', m' < m ∧ W (i + 1) m' H') ∧ ∀ x H', J.yld i H x H' → g x (wipe σ vs) H' fun σ2 H2 => wipe σ2 vs = wipe σ vs ∧ tt σ2 H2 fun b H3 =>
    if b = true then te σ2 H3 fun y H4 => ∃ acc, H4 D = some (.lst acc) ∧ acc.length < sizeLine ∧ Nx (upd H4 D (.lst (acc ++ [y]))) else Nx H3)) : tLc wi g tt te vs σ H Q := h
theorem g_yes {R : Bool → Hp → Prop} (h : R true H) : tYes σ H R := h
theorem g_sl {r : V → Option Int → Option Int → Hp → VK → Prop} {te : TE} {tl th : TO} (h : te σ H fun x H1 => tl σ H1 fun l H2 => th σ H2 fun u H3 => r x l u H3 Q) : tSl r te tl th σ H Q := h
theorem g_nopart {R : Option Int → Hp → Prop} (h : R none H) : tNoPart σ H R := h
theorem g_part {t : TE} {R : Option Int → Hp → Prop} (h : t σ H fun x H1 => ∃ i, x = .int i ∧ R (some i) H1) : tPart t σ H R := h
theorem g_disp {trs : List (TE × TE)} (h : ∀ p, H p = none → tPairs trs σ (upd H p (.dK [])) fun ps H2 => H2 p = some (.dK []) ∧ ∃ kvs : List (Key × V), ps = kvs.map (fun kv => (kV kv.1, kv.2)) ∧ kvs.length ≤ 15 ∧ Q (.ref p) (upd H2 p (.dK (mergeK [] kvs)))) : tDisp trs σ H Q := h
theorem g_pairs0 {R : List (V × V) → Hp → Prop} (h : R [] H) : tPairs [] σ H R := h
theorem g_pairs {tk tv : TE} {r : List (TE × TE)} {R : List (V × V) → Hp → Prop} (h : tk σ H fun x H1 => tv σ H1 fun y H2 => tPairs r σ H2 fun ps H3 => R ((x, y) :: ps) H3) : tPairs ((tk, tv) :: r) σ H R := h
theorem g_gtup {K : PySem.W.Frag} {n : Nat} {t : TGs} {a : Addr} {xs : List V} {R : L2.St → Hp → Prop} (h : SqT K H a xs) (hl : xs.length = n) (q : t xs σ H R) : gTup K n t (.ref a) σ H R := ⟨a, xs, rfl, h, hl, q⟩
theorem g_gcons {t : TG} {u : TGs} {x : V} {r : List V} {R : L2.St → Hp → Prop} (q : t x σ H fun σ' H' => u r σ' H' R) : gCons t u (x :: r) σ H R := ⟨x, r, rfl, q⟩
theorem g_gnil {R : L2.St → Hp → Prop} (q : R σ H) : gNil [] σ H R := ⟨rfl, q⟩
theorem g_isN {x : V} {R : Bool → Hp → Prop} (h : R (decide (x = .non)) H) : ∃ k, V.bl (decide (x = .non)) = .bl k ∧ R k H := ⟨_, rfl, h⟩
theorem g_bm {K : PySem.W.Frag} {T : String} {r : V → List V → Hp → VK → Prop} {to : TE} {t : TA} (h : to σ H fun x H1 => tyV K T x H1 ∧ t σ H1 fun xs H2 => r x xs H2 Q) : tBM K T r to t σ H Q := h
theorem g_bm0 {K : PySem.W.Frag} {T : String} {r : V → List V → Hp → VK → Prop} {to : TE} (h : to σ H fun x H1 => tyV K T x H1 ∧ r x [] H1 Q) : tBM0 K T r to σ H Q := h
theorem ifd {p A B : Prop} [Decidable p] (h1 : p → A) (h2 : ¬ p → B) : if decide p = true then A else B := by
  by_cases h : p
  · rw [if_pos (decide_eq_true h)]; exact h1 h
  · rw [if_neg (by simp [h])]; exact h2 h
theorem ifdn {p A B : Prop} [Decidable p] (h1 : p → B) (h2 : ¬ p → A) : if (!decide p) = true then A else B := by
  by_cases h : p
  · rw [if_neg (by simp [h])]; exact h1 h
  · rw [if_pos (by simp [h])]; exact h2 h
theorem ifn {b : Bool} {A B : Prop} (h1 : b = true → B) (h2 : b = false → A) : if (!b) = true then A else B := by
  cases b
  · exact h2 rfl
  · exact h1 rfl
theorem ifb {b : Bool} {A B : Prop} (h1 : b = true → A) (h2 : b = false → B) : if b = true then A else B := by
  cases b
  · exact h2 rfl
  · exact h1 rfl
theorem iteNF {A B : Prop} (h : A) : if (!false) = true then A else B := h
theorem iteNT {A B : Prop} (h : B) : if (!true) = true then A else B := h
/-- a and b, a or b: the way that two tests may take is read once -/
theorem and_cut {p U F : Prop} [Decidable p] (q : Prop) (hF : ¬ (p ∧ q) → F) (hU : p → (¬ q → F) → U) : if decide p = true then U else F :=
  ifd (fun c => hU c fun z => hF fun y => z y.2) (fun c => hF fun y => c y.1)
theorem or_cut {p U T : Prop} [Decidable p] (q : Prop) (hT : p ∨ q → T) (hU : ¬ p → (q → T) → U) : if decide p = true then T else U :=
  ifd (fun c => hT (.inl c)) (fun c => hU c fun z => hT (.inr z))
/-- a key of a dict that stands at a -/
theorem g_key {a : Addr} {kvs : List (Key × V)} {k : Str} {w : V} {R : V → Prop} (hd : H a = some (.dK kvs)) (hv : valV kvs (.inr k) = some w) (h : R w) :
    ∃ b v, V.ref a = .ref b ∧ DGet H b (.str k) (some v) ∧ R v := ⟨a, w, rfl, .inl ⟨kvs, .inr k, .inl hd, rfl, hv.symm⟩, h⟩
theorem g_put {a : Addr} {kvs kvs' : List (Key × V)} {k : Str} {w : V} {R : Hp → Prop} (hd : H a = some (.dK kvs)) (hl : kvs.length < sizeLine) (hv : putK kvs (.inr k) w = kvs') (h : R (upd H a (.dK kvs'))) :
    ∃ b H4, V.ref a = .ref b ∧ DPut H b (.str k) w H4 ∧ R H4 := ⟨a, _, rfl, .inl ⟨kvs, .inr k, hd, rfl, hl, rfl⟩, by rw [hv]; exact h⟩
end steps

/-! ### what a def of the text is known to keep -/
structure Own (K : PySem.W.Frag) (mg : Str → Option Value) (x : Str) (st : Stmt) (ps : List Str) (f : Addr) (fd : FuncData) : Prop where
  F : Fun K x x st f fd
  g : mg x = some (.ref f)
  b : Binds K fd ps []
structure Has (P : Program) (w : World) (K : PySem.W.Frag) (mg : Str → Option Value) (base : Heap) (x : Str) (ps : List Str) (lv : Nat) (CX : CXT) (sp : Sp) (f : Addr) (fd : FuncData) : Prop where
  G : FnOk P w K mg base CX lv f fd ps sp
  g : mg x = some (.ref f)
  k : PySem.W.keepIn K (.ref f) = true
  b : Binds K fd ps []
theorem Has.mono {P : Program} {w : World} {K : PySem.W.Frag} {mg : Str → Option Value} {base : Heap} {x : Str} {ps : List Str} {j i : Nat} {CX : CXT} {sp : Sp} {f : Addr} {fd : FuncData} (D : Has P w K mg base x ps j CX sp f fd) (h : j ≤ i) :
    Has P w K mg base x ps i CX sp f fd := ⟨D.G.mono h, D.g, D.k, D.b⟩
theorem Own.has {P : Program} {w : World} {K : PySem.W.Frag} {mg : Str → Option Value} {base : Heap} {x : Str} {st : Stmt} {ps : List Str} {f : Addr} {fd : FuncData} {lv : Nat} {CX : CXT} {sp : Sp} (O : Own K mg x st ps f fd)
    (G : FnOk P w K mg base CX lv f fd ps sp) : Has P w K mg base x ps lv CX sp f fd := ⟨G, O.g, O.F.kp, O.b⟩

/-! ### what stays -/
/-- all stays but what stands at s -/
def KB (s : Addr) (H H' : Hp) : Prop := ∀ a o, a ≠ s → H a = some o → H' a = some o
theorem KB.refl (s : Addr) (H : Hp) : KB s H H := fun _ _ _ h => h
theorem KB.trans {s : Addr} {H H1 H2 : Hp} (a : KB s H H1) (b : KB s H1 H2) : KB s H H2 := fun x o n h => b x o n (a x o n h)
theorem KB.of {s : Addr} {H H' : Hp} (e : Same H H') : KB s H H' := fun a o _ h => e a o h
theorem KB.upd {s : Addr} {H : Hp} {o : HO} : KB s H (upd H s o) := fun a u n h => by rw [upd_ne n]; exact h
theorem same_new {H : Hp} {p : Addr} {o : HO} (h : H p = none) : Same H (upd H p o) := fun b x e => by
  rw [upd_ne (ne_of_none e h)]
  exact e
theorem Rd.same {H H' : Hp} {a : Addr} {u : HO} (e : Same H H') (h : Rd H a u) : Rd H' a u := by
  rcases h with h | ⟨o, h⟩
  · exact .inl (e _ _ h)
  · exact .inr ⟨o, e _ _ h⟩
theorem SqT.same {K : PySem.W.Frag} {H H' : Hp} {a : Addr} {xs : List V} (e : Same H H') (h : SqT K H a xs) : SqT K H' a xs := by
  rcases h with h | h
  · exact .inl (Rd.same e h)
  · exact .inr h
theorem sqt {K : PySem.W.Frag} {H : Hp} {a : Addr} {xs : List V} (h : H a = some (.tup xs)) : SqT K H a xs := .inl (.inl h)
theorem sql {K : PySem.W.Frag} {H : Hp} {a : Addr} {xs : List V} (h : H a = some (.lst xs)) : SqL K H a xs := .inl (.inl h)
theorem KB.rd {s : Addr} {H H' : Hp} {a : Addr} {u : HO} {kvs : List (Key × V)} (e : KB s H H') (hs : H s = some (.dK kvs)) (hu : ∀ k, u ≠ .dK k) (h : Rd H a u) : Rd H' a u := by
  rcases h with h | ⟨o, h⟩
  · exact .inl (e _ _ (fun z => by rw [z, hs] at h; exact hu _ (Option.some.inj h).symm) h)
  · exact .inr ⟨o, e _ _ (fun z => by rw [z, hs] at h; cases h) h⟩
theorem KB.seq {K : PySem.W.Frag} {s : Addr} {H H' : Hp} {a : Addr} {xs : List V} {kvs : List (Key × V)} (e : KB s H H') (hs : H s = some (.dK kvs)) (h : SqL K H a xs) : SqL K H' a xs := by
  rcases h with h | h
  · exact .inl (e.rd hs (fun _ z => by cases z) h)
  · exact .inr h
theorem KB.tup {K : PySem.W.Frag} {s : Addr} {H H' : Hp} {a : Addr} {xs : List V} {kvs : List (Key × V)} (e : KB s H H') (hs : H s = some (.dK kvs)) (h : SqT K H a xs) : SqT K H' a xs := by
  rcases h with h | h
  · exact .inl (e.rd hs (fun _ z => by cases z) h)
  · exact .inr h
/-- tuples stay -/
def TM (K : PySem.W.Frag) (H H' : Hp) : Prop := ∀ a xs, SqT K H a xs → SqT K H' a xs
theorem TM.refl {K : PySem.W.Frag} (H : Hp) : TM K H H := fun _ _ h => h
theorem TM.trans {K : PySem.W.Frag} {H H1 H2 : Hp} (a : TM K H H1) (b : TM K H1 H2) : TM K H H2 := fun x y h => b x y (a x y h)
theorem TM.of {K : PySem.W.Frag} {H H' : Hp} (e : Same H H') : TM K H H' := fun _ _ h => SqT.same e h
theorem KB.tm {K : PySem.W.Frag} {s : Addr} {H H' : Hp} {kvs : List (Key × V)} (e : KB s H H') (hs : H s = some (.dK kvs)) : TM K H H' := fun _ _ h => e.tup hs h
theorem sz {n : Nat} (h : n ≤ 1000) : n ≤ sizeLine := Nat.le_of_lt (small1000 h)

theorem at_any {α : Type} {xs : List α} {z : Int} {j : Nat} {v : α} (e : z = (j : Int)) (h : xs[j]? = some v) : atI xs z = some v := by
  rw [e]
  exact atI_nat h

/-! ### a text told n times -/
/-- one sign, n times -/
def rp (c : Nat) (n : Int) : Str := ⟨(List.replicate n.toNat c).toArray⟩
theorem rp_fold (c : Nat) : ∀ (k : Nat) (a : Array Nat), (List.replicate k (#[c] : Array Nat)).foldl (· ++ ·) a = a ++ (List.replicate k c).toArray
  | 0, a => by simp
  | k + 1, a => by
    rw [List.replicate_succ, List.foldl_cons, rp_fold c k, List.replicate_succ]
    apply Array.ext'
    simp
theorem rp_len {c : Nat} {n : Int} : (rp c n).length = n.toNat := by
  show ((List.replicate n.toNat c).toArray).size = n.toNat
  simp
def rRepS : R2 := fun x y H Q => ∃ (c : Nat) (n : Int), x = .str ⟨#[c]⟩ ∧ y = .int n ∧ 0 ≤ n ∧ n ≤ 1000 ∧ Q (.str (rp c n)) H
theorem op_rep_str {X : Cx} : OpR X (binaryOp .Mult) rRepS := by
  intro pins s σ H x y v u Q I rx ry h
  obtain ⟨c, n, rfl, rfl, h0, h1, q⟩ := h
  obtain ⟨t, rfl⟩ := rx
  obtain ⟨t', rfl⟩ := ry
  have hz : (1000 : Nat) ≤ sizeLine := by decide
  refine PySem.P.mul_str (by simp; omega) (fun h2 h3 => ?_) (fun h2 h3 => ?_) ?_
  · have : (1 : Int) ≤ (2 ^ 63 - 1) / n := by
      apply (Int.le_ediv_iff_mul_le (by omega)).mpr
      omega
    show ¬ ((1 : Nat) : Int) > _
    omega
  · show decide _ = false
    refine decide_eq_false ?_
    show ¬ (1 * n.toNat > _)
    have : n.toNat ≤ 1000 := by omega
    omega
  · by_cases h2 : n < 1
    · rw [if_pos h2]
      have e : rp c n = Str.empty := by
        unfold rp
        rw [show n.toNat = 0 by omega]
        rfl
      rw [e] at q
      exact ⟨by decide, ⟨.str Str.empty, H, I.tok _, ⟨_, rfl⟩, q⟩⟩
    · rw [if_neg h2]
      by_cases h3 : n = 1
      · subst h3
        rw [if_pos (by rfl)]
        have e : rp c 1 = ⟨#[c]⟩ := rfl
        rw [e] at q
        exact ⟨.str ⟨#[c]⟩, H, I, ⟨_, rfl⟩, q⟩
      · rw [if_neg (by simp [h3]; intro z; cases z)]
        have e : (⟨(List.replicate n.toNat (#[c] : Array Nat)).foldl (· ++ ·) #[]⟩ : Str) = rp c n := by
          rw [rp_fold]
          simp [rp]
        rw [e]
        refine ⟨?_, ⟨.str (rp c n), H, I.tok _, ⟨_, rfl⟩, q⟩⟩
        rw [rp_len]
        omega
end Bk

set_option Elab.async false
set_option linter.all false
set_option maxRecDepth 100000
set_option maxHeartbeats 2000000
namespace Bk
open PySem PySem.Spec PyProof.Rows L2 GxR
/-! ### all(.. for x in text) where the element reads the module's names -/
/-- an element, with the module's names at hand -/
def Elm (prog : Program) (w : World) (mg : Str → Option Value) (sc : Scope) (x : Str) (elt : Expr) (pb : Nat → Bool) : Prop :=
  ∀ (en : Env) (B : Around) (Er : Value → Shared → Prop) (c : Nat) (t : Tok) (u : Shared) (m : Str → Option Value), en.scope = sc → en.globals = mainGlobals →
    u.heap.Ns mainGlobals mg → u.heap.Ns en.locals m → m x = some (.str ⟨#[c]⟩ t) → wpAny (model prog w) B (eval elt en) (fun y u' => y = .bool (pb c) ∧ Keeps u u') Er u
/-- x in NAME, a text of the module -/
theorem elm_in {prog : Program} {w : World} {mg : Str → Option Value} {sc : Scope} {x n : Str} {z : Str} {tz : Tok} {p1 p2 p3 : Pos} (hk : sc.kind = .function) (hl : sc.names.lookup x = some .local) (hn : sc.names.lookup n = some .globalImplicit)
    (hz : mg n = some (.str z tz)) (dx : (x == ("__debug__" : Str)) = false := by decide) (dn : (n == ("__debug__" : Str)) = false := by decide) :
    Elm prog w mg sc x (.Compare (.Name x p1) [.In] [.Name n p2] p3) (fun c => decide (c ∈ z.cps.toList)) := by
  intro en B Er c t u m es eg hg hloc hm
  refine wpAny_Compare1 (wpAny_Name (wpAny_loadName_local (by rw [es]; exact hk) (show en.scope.names.lookup x = some .local by rw [es]; exact hl) hloc hm ?_) dx)
  refine Calls.Name_function_global (by rw [es]; exact hk) (show en.scope.names.lookup n = some .globalImplicit by rw [es]; exact hn) (Calls.loadGlobal_global (by rw [eg]; exact hg) hz ?_) dn
  exact PyProof.Rows.in_str ⟨congrArg Value.bool (PySem.StrLaws.found_one z c), keeps_tok _ _⟩
/-- the code of a generator expression is found or made: the def's table may grow -/
theorem code_any {prog : Program} {w : World} {A : Around} {Er : Value → Shared → Prop} {env : Env} {c P : Addr} {u : Shared} {ps : Array Value} {sc : Scope} {q : Str} {gpos : Pos} {Q : Value → Shared → Prop}
    (hc : env.code = .ref c) (cd : PySem.W.CodeHd u.heap c P) (hP : u.heap.get? P = some { cls := .none, data := .fields ps }) (ht : TriplesOk ps.toList)
    (h : ∀ (code : Value) (g : Heap) (tk : Nat) (more : Array Value), Heap.ExtBut P u.heap g → u.heap.objs.size ≤ g.objs.size → g.get? P = some { cls := .none, data := .fields (ps ++ more) } → TriplesOk (ps ++ more).toList → Q code { u with heap := g, toks := tk }) :
    wpAny (model prog w) A (genexprCode env gpos q sc) Q Er u := by
  cases hf : codeAmong gpos ps.toList with
  | some cv => exact wpAny_genexprCode_hit hc (cd.code hP ht) hf (h cv u.heap u.toks #[] (Heap.ExtBut.refl _ _) (Nat.le_refl _) (by simpa using hP) (by simpa using ht))
  | none =>
    refine wpAny_genexprCodeX hc (cd.code hP ht) (cd.tab hP) hf fun c' g tk gx gge glt gco _ gtab _ => ?_
    obtain ⟨_, _, _, _, _, _, _, _, _, _, _, _, _, _, _, _, _, _, _, tr, _⟩ := gco
    exact h _ g tk _ gx (Nat.le_trans gge (Nat.le_of_lt glt)) gtab.2 tr
section
variable {X : Cx} {pins : List (Addr × Obj)} {σ : L2.St} {H : Hp} {s : Shared}
theorem gen_text {c P : Addr} {elt iter : Expr} {x : Str} {px gpos : Pos} {sc : Scope} {pb : Nat → Bool} {te : TE} {k : Nat} {W : Value → Shared → Prop} {R : Str → Hp → Prop}
    (hr : Room k X.A) (tb : TabB X.base X.mg c P) (hc : X.env.code = .ref c) (S : GenS X.env sc x) (hi : PE X iter te) (hel : Elm X.prog X.w X.mg sc x elt pb)
    (hs : ∀ v, genFold iter X.env v = pure v) (I : Inv X pins σ H s) (h : te σ H fun v H1 => ∃ a : Str, v = .str a ∧ TabG H1 P ∧ R a H1)
    (hW : ∀ (a : Str) (H1 : Hp) (g : Addr) (u : Shared), R a H1 → Ready X pins σ H1 P a pb g u → W (.ref g) u) :
    wpAny (model X.prog X.w) X.A (eval (.GeneratorExp elt [⟨.Name x px, iter, [], 0⟩] sc gpos) X.env) W X.xe s := by
  refine wpAny_GeneratorExp_walksQ hr.hd S.co (closure_ok S.free) S.cell S.dot S.loc S.kind (by have := hr.dp; omega) (thn (hi.run pins s σ H _ I h) ?_) hs
  rintro xv u ⟨v, H1, I1, r1, a, rfl, ⟨ps, hP, ht⟩, hR⟩
  obtain ⟨t, rfl⟩ := _root_.id r1
  refine wpAny_pyIter_str fun o St Wk st0 => ?_
  have atP : u.heap.get? P = some { cls := .none, data := .fields ps } := I1.hok P _ hP
  have atP2 := Heap.get?_push_of_some o atP
  have free := I1.nolimit
  have free2 := free.push o
  have old : ∀ b v, X.base.get? b = some v → (u.heap.push o).get? b = some v := fun b v e => Heap.get?_push_of_some _ (I1.bk b v e)
  refine ⟨free2, code_any hc (tb.code.keeps old) atP2 ht fun code g tk more gx gge gP gt => ?_⟩
  have hsz : (u.heap.push o).objs.size = u.heap.objs.size + 1 := Heap.size_push ..
  have hg : u.heap.objs.size < g.objs.size := by
    have gge : (u.heap.push o).objs.size ≤ g.objs.size := gge
    omega
  have ltP : P < u.heap.objs.size := Heap.lt_size atP
  have stat : cStatics ≠ P ∧ cStatics < u.heap.objs.size := by
    obtain ⟨_, ns, _⟩ := free
    refine ⟨fun e => ?_, ns.lt⟩
    obtain ⟨ob, es, ep, ho, hd, _⟩ := ns
    rw [e, atP] at ho
    cases ho
    cases hd
  obtain ⟨bm, ob, b1, b2, b3, b4, b5, b6, b7, b8⟩ := tb.bm
  have toG : ∀ b v, b ≠ P → u.heap.get? b = some v → g.get? b = some v := fun b v n e => gx b v n (Heap.get?_push_of_some _ e)
  have names : g.Ns mainGlobals X.mg := ((I1.mod.glob.keeps I1.bk).push o).extBut gx tb.gP
  have notW : ∀ b v, u.heap.get? b = some v → b ≠ u.heap.objs.size := fun b v e => Nat.ne_of_lt (Heap.lt_size e)
  refine wpAny_builtinsFor (m := X.mg) (by rw [I1.ok.glob]; exact names) b1 b2 (toG _ _ b4 (I1.bk _ _ b5)) b6 b7 b8 ?_
  refine ⟨u.heap.objs.size, [u.heap.objs.size], [u.heap.objs.size], a.cps.size, SignAt a, St, fun _ => true, fun i y => ∃ z, a.cps[i]? = some z ∧ y = .bool (pb z), rfl, Wk,
    (Wk X.A hr.hd).frame _ _ _ st0 fun b hb v e => gx b v (fun q => ?_) e, fun b hb => ?_, free2.extBut gx stat.1, fun q => ?_, fun hf hhf => ⟨?_, ?_⟩, ?_⟩
  · rw [List.mem_singleton.mp hb] at q
    exact Nat.ne_of_lt ltP q.symm
  · rw [List.mem_singleton.mp hb]
    exact hg
  · exact Nat.ne_of_lt stat.2 (List.mem_singleton.mp q)
  · intro A' E' i v s2 m2 _ _ _ _ _
    simp only [List.forIn_nil]
    exact wpAny_pure ⟨rfl, keeps_refl _⟩
  · intro A' E' i v s2 m2 _ hv _ hloc hm hk
    obtain ⟨z, tz, hz, rfl⟩ := hv
    have names2 : s2.heap.Ns mainGlobals X.mg := by
      obtain ⟨og, es, ep, e0, rr⟩ := names
      refine ⟨og, es, ep, hk mainGlobals (List.mem_range.mpr (Heap.lt_size e0)) (fun q => ?_) og (hhf _ _ e0), rr⟩
      obtain ⟨o3, _, _, e3, _⟩ := I1.mod.glob
      exact notW _ _ (I1.bk _ _ e3) (List.mem_singleton.mp q)
    refine wpAny_mono (hel _ A' E' z tz s2 m2 rfl I1.ok.glob names2 hloc hm) (fun y s3 r => ⟨⟨z, hz, r.1⟩, r.2⟩) fun _ _ e => e
  · intro q h5 tk5 gs bare ltq sz5 to5 W5 st5
    simp only [GxR.passing_true, List.length_range] at W5
    refine hW a H1 q _ hR ⟨_, _, _, _, _, W5.in4_1, st5, ?_, fun s' hm => ?_⟩
    · intro j y sj Qj Ej hy hQj
      obtain ⟨i, hi, z, hz, rfl⟩ := hy
      obtain ⟨hj, ej⟩ := List.getElem?_eq_some_iff.mp hi
      rw [List.getElem_range] at ej
      subst ej
      have ez : a.cps.toList[j]? = some z := by rw [Array.getElem?_toList]; exact hz
      have q2 : Qj (trF pb a.cps.toList j) sj := hQj
      rw [trF_some ez] at q2
      exact wpAny_truthy_bool q2
    · have out : ∀ b v, u.heap.get? b = some v → b ∉ g.objs.size :: [u.heap.objs.size] := fun b v e hb => by
        have hl := Heap.lt_size e
        rcases List.mem_cons.mp hb with z | z
        · rw [z] at hl
          exact absurd hl (Nat.not_lt.mpr (Nat.le_of_lt hg))
        · exact notW b v e (List.mem_singleton.mp z)
      have J := inv_tab (more := more) (h' := s'.heap) (g' := s'.gens) (d' := s'.drawn) (t' := s'.toks) I1 hP (fun b v n e => hm.heap b v (out b v e) (to5 b v (toG b v n e))) (hm.heap P _ (out P _ atP) (to5 P _ gP)) (AllBare.movedS (I1.bare.push bare) hm)
      rw [sh_eta u s' hm.os] at J
      exact ⟨_, ⟨⟨_, upd_same, gt⟩, fun b n => upd_ne n⟩, J⟩
/-- all(element for x in text) -/
theorem pe_allG {c P : Addr} {elt iter : Expr} {x : Str} {px p pos gpos : Pos} {sc : Scope} {pb : Nat → Bool} {te : TE} {k : Nat}
    (hr : Room k X.A) (gl : Gl X "all") (hm : X.mg "all" = none) (hb : bootBuiltins "all" = some (.builtin "all")) (tb : TabB X.base X.mg c P) (hc : X.env.code = .ref c) (S : GenS X.env sc x) (hi : PE X iter te) (hel : Elm X.prog X.w X.mg sc x elt pb)
    (hs : ∀ v, genFold iter X.env v = pure v)
    (he : starEach [.GeneratorExp elt [⟨.Name x px, iter, [], 0⟩] sc gpos] X.env = (false, eval (.GeneratorExp elt [⟨.Name x px, iter, [], 0⟩] sc gpos) X.env) :: starEach [] X.env := by rfl) :
    PE X (.Call (.Name "all" p) [.GeneratorExp elt [⟨.Name x px, iter, [], 0⟩] sc gpos] [] pos) (tAllS P pb te) := by
  refine ⟨fun pins s σ H Q I h => wpAny_Call_Name_kw (ld_blt (u := .builtin "all") I gl hm hb (PyProof.Rows.callWith_builtin1 ?_ he (by rfl)))⟩
  rw [he]
  refine Calls.spliced_cons (gen_text (R := fun a H1 => ∀ H2, Tabbed P H1 H2 → Q (.bl (a.cps.toList.all pb)) H2) hr tb hc S hi hel hs I h fun a H1 g u hR ⟨fp, wr, G, F, Sw, W, st, tr, hI⟩ => Calls.spliced_nil ?_)
  refine call_all_walkS (W.self 0 _ _ _ st ⟨g, fp, wr, G, _, F, Sw, _, rfl, W, st, tr, fun s' mv => ?_⟩)
  obtain ⟨H2, hT, J⟩ := hI s' mv
  exact ⟨.bl _, H2, J, rfl, by rw [all_signs a pb]; exact hR H2 hT⟩
end
end Bk

set_option Elab.async false
set_option linter.all false
set_option maxRecDepth 100000
set_option maxHeartbeats 2000000
namespace Bk
open PySem PySem.Spec PyProof.Rows L2
/-! ### NAME.get(key): a dict of the module whose keys are texts -/
def tKGet (K : PySem.W.Frag) (d : Addr) (ty : TE) : TE := fun σ H Q => ty σ H fun y H1 => ∃ (z : Str) (r : Option Value) (v : V), y = .str z ∧ PySem.W.nsIn K d z = some r ∧ RelV v (r.getD .none) ∧ Q v H1
theorem pe_kget {X : Cx} {n : Str} {p apos cpos : Pos} {e : Expr} {ty : TE} {d : Addr} {es : Array DictEntry} {c : Nat} (D : KDict X.K X.w d es c) (hg : Gl X n) (hm : X.mg n = some (.ref d)) (he : PE X e ty) (m : M1 X (.Name n p) "get" apos e cpos)
    (dn : (n == ("__debug__" : Str)) = false := by decide) : PE X (.Call (.Attribute (.Name n p) "get" apos) [e] [] cpos) (tKGet X.K d ty) := by
  refine ⟨fun pn u τ G W I h => wpAny_Call_method m.base m.few m.line PySem.F.plainAttrs_dict PySem.F.slot_dict_get PySem.F.type_dict_get (ld_glob I hg hm ?_ dn)⟩
  have M0 := PySem.W.mapOf_K (prog := X.prog) (w := X.w) I.kIn D.at_ D.lit
  refine ⟨M0.typeIs, M0.noDict, ?_⟩
  rw [m.trees]
  refine Calls.callWith_builtin rfl (Calls.evalArgs_plain (Calls.spliced_cons (thn (he.run pn u τ G _ I h) fun uv u1 hh => Calls.spliced_nil ?_)))
  obtain ⟨y, G1, I1, ry, z, r, v, ey, en, rv, q⟩ := hh
  subst ey
  obtain ⟨t, rfl⟩ := ry
  have M1 := PySem.W.mapOf_K (prog := X.prog) (w := X.w) I1.kIn D.at_ D.lit
  refine call_meetsIn PySem.F.slot_dict_get M1.typeIs PySem.F.entry_dict_get (PySem.F.args_dict_get_2 _ _) (meets_dict_get (strKind X.prog X.w) d (PySem.strKind_is X.prog X.w z t) D.low) ⟨_, M1, ?_⟩
  rw [PySem.W.find_K D.at_ en]
  exact ⟨v, G1, I1.tok _, rv, q⟩

/-! ### handed-in data -/
/-- what is told by tuples and lists stays -/
structure DM (K : PySem.W.Frag) (H H' : Hp) : Prop where
  t : ∀ a xs, SqT K H a xs → SqT K H' a xs
  l : ∀ a xs, SqL K H a xs → SqL K H' a xs
theorem DM.refl {K : PySem.W.Frag} (H : Hp) : DM K H H := ⟨fun _ _ h => h, fun _ _ h => h⟩
theorem DM.trans {K : PySem.W.Frag} {H H1 H2 : Hp} (a : DM K H H1) (b : DM K H1 H2) : DM K H H2 := ⟨fun x y h => b.t x y (a.t x y h), fun x y h => b.l x y (a.l x y h)⟩
theorem DM.of {K : PySem.W.Frag} {H H' : Hp} (e : Same H H') : DM K H H' := ⟨fun _ _ h => SqT.same e h, fun _ _ h => e.seq h⟩
theorem DM.tm {K : PySem.W.Frag} {H H' : Hp} (d : DM K H H') : TM K H H' := d.t
theorem KB.dm {K : PySem.W.Frag} {s : Addr} {H H' : Hp} {kvs : List (Key × V)} (e : KB s H H') (hs : H s = some (.dK kvs)) : DM K H H' := ⟨fun _ _ h => e.tup hs h, fun _ _ h => e.seq hs h⟩
mutual
theorem Dp.dm {K : PySem.W.Frag} {H H' : Hp} (m : DM K H H') : ∀ {d : PyData} {v : V}, Dp K H v d → Dp K H' v d
  | .none, _, .non => .non
  | .bool _, _, .bl b => .bl b
  | .int _, _, .int i => .int i
  | .str _, _, .str x => .str x
  | .list _, _, .lst h r => .lst (m.l _ _ h) (DpAll.dm m r)
  | .tuple _, _, .tup h r => .tup (m.t _ _ h) (DpAll.dm m r)
theorem DpAll.dm {K : PySem.W.Frag} {H H' : Hp} (m : DM K H H') : ∀ {ds : List PyData} {vs : List V}, DpAll K H vs ds → DpAll K H' vs ds
  | [], _, .nil => .nil
  | _ :: _, _, .cons h r => .cons (Dp.dm m h) (DpAll.dm m r)
end
theorem DpAll.len {K : PySem.W.Frag} {H : Hp} : ∀ {ds : List PyData} {vs : List V}, DpAll K H vs ds → vs.length = ds.length
  | [], _, .nil => rfl
  | _ :: _, _, .cons _ r => by rw [List.length_cons, List.length_cons, DpAll.len r]
theorem DpAll.at {K : PySem.W.Frag} {H : Hp} : ∀ {ds : List PyData} {vs : List V} {i : Nat} {d : PyData}, DpAll K H vs ds → ds[i]? = some d → ∃ v, vs[i]? = some v ∧ Dp K H v d
  | [], _, i, d, .nil, h => by simp at h
  | e :: ds, v :: vs, 0, d, .cons a r, h => by
    simp only [List.getElem?_cons_zero, Option.some.injEq] at h
    subst h
    exact ⟨v, rfl, a⟩
  | e :: ds, v :: vs, i + 1, d, .cons a r, h => by
    simp only [List.getElem?_cons_succ] at h
    obtain ⟨u, h1, h2⟩ := DpAll.at r h
    exact ⟨u, by simpa using h1, h2⟩
theorem DpAll.app {K : PySem.W.Frag} {H : Hp} : ∀ {ds es : List PyData} {vs us : List V}, DpAll K H vs ds → DpAll K H us es → DpAll K H (vs ++ us) (ds ++ es)
  | [], _, _, _, .nil, s => s
  | _ :: _, _, _, _, .cons a r, s => .cons a (DpAll.app r s)
theorem DpAll.drop {K : PySem.W.Frag} {H : Hp} : ∀ (n : Nat) {ds : List PyData} {vs : List V}, DpAll K H vs ds → DpAll K H (vs.drop n) (ds.drop n)
  | 0, _, _, r => r
  | _ + 1, [], _, .nil => .nil
  | n + 1, _ :: _, _, .cons _ r => DpAll.drop n r
theorem DpAll.take {K : PySem.W.Frag} {H : Hp} : ∀ (n : Nat) {ds : List PyData} {vs : List V}, DpAll K H vs ds → DpAll K H (vs.take n) (ds.take n)
  | 0, _, _, _ => .nil
  | _ + 1, [], _, .nil => .nil
  | n + 1, _ :: _, _, .cons a r => .cons a (DpAll.take n r)
/-- the built-in type's name -/
def tyn : PyData → String
  | .none => "NoneType"
  | .bool _ => "bool"
  | .int _ => "int"
  | .str _ => "str"
  | .list _ => "list"
  | .tuple _ => "tuple"
  | .dict _ => "dict"
theorem ty_of {K : PySem.W.Frag} {H : Hp} {v : V} {d : PyData} (h : Dp K H v d) : TyX K H v (.type (tyn d)) := by
  cases h with
  | non => exact .base .non
  | bl b => exact .base (.bl b)
  | int i => exact .base (.int i)
  | str x => exact .base (.str x)
  | lst a r =>
    rcases a with (a | ⟨o, a⟩) | ⟨o, its, n, a, c, _⟩
    · exact .base (.lst a)
    · exact .base (.frz a)
    · exact .kList a c
  | tup a r =>
    rcases a with (a | ⟨o, a⟩) | ⟨o, its, n, a, c, _⟩
    · exact .base (.tup a)
    · exact .fTuple a
    · exact .kTuple a c
def isStr : PyData → Bool
  | .str _ => true
  | _ => false
def isTup : PyData → Bool
  | .tuple _ => true
  | _ => false
def isLst : PyData → Bool
  | .list _ => true
  | _ => false
def isInt : PyData → Bool
  | .int _ => true
  | .bool _ => true
  | _ => false
def isBool : PyData → Bool
  | .bool _ => true
  | _ => false
section
variable {K : PySem.W.Frag} {H : Hp} {v : V} {d : PyData} {Q : VK}
theorem use_isStr (h : Dp K H v d) (q : Q (.bl (isStr d)) H) : rIsi K [v, .ty "str"] H Q := ⟨v, .ty "str", _, _, isStr d, rfl, .ty _, ty_of h, kit_ty (by cases h with | non => exact (by decide +kernel : kitB "NoneType" "str" = some false) | bl _ => exact (by decide +kernel : kitB "bool" "str" = some false) | int _ => exact (by decide +kernel : kitB "int" "str" = some false) | str _ => exact (by decide +kernel : kitB "str" "str" = some true) | lst _ _ => exact (by decide +kernel : kitB "list" "str" = some false) | tup _ _ => exact (by decide +kernel : kitB "tuple" "str" = some false)), q⟩
theorem use_isTup (h : Dp K H v d) (q : Q (.bl (isTup d)) H) : rIsi K [v, .ty "tuple"] H Q := ⟨v, .ty "tuple", _, _, isTup d, rfl, .ty _, ty_of h, kit_ty (by cases h with | non => exact (by decide +kernel : kitB "NoneType" "tuple" = some false) | bl _ => exact (by decide +kernel : kitB "bool" "tuple" = some false) | int _ => exact (by decide +kernel : kitB "int" "tuple" = some false) | str _ => exact (by decide +kernel : kitB "str" "tuple" = some false) | lst _ _ => exact (by decide +kernel : kitB "list" "tuple" = some false) | tup _ _ => exact (by decide +kernel : kitB "tuple" "tuple" = some true)), q⟩
theorem use_isLst (h : Dp K H v d) (q : Q (.bl (isLst d)) H) : rIsi K [v, .ty "list"] H Q := ⟨v, .ty "list", _, _, isLst d, rfl, .ty _, ty_of h, kit_ty (by cases h with | non => exact (by decide +kernel : kitB "NoneType" "list" = some false) | bl _ => exact (by decide +kernel : kitB "bool" "list" = some false) | int _ => exact (by decide +kernel : kitB "int" "list" = some false) | str _ => exact (by decide +kernel : kitB "str" "list" = some false) | lst _ _ => exact (by decide +kernel : kitB "list" "list" = some true) | tup _ _ => exact (by decide +kernel : kitB "tuple" "list" = some false)), q⟩
theorem use_isInt (h : Dp K H v d) (q : Q (.bl (isInt d)) H) : rIsi K [v, .ty "int"] H Q := ⟨v, .ty "int", _, _, isInt d, rfl, .ty _, ty_of h, kit_ty (by cases h with | non => exact (by decide +kernel : kitB "NoneType" "int" = some false) | bl _ => exact (by decide +kernel : kitB "bool" "int" = some true) | int _ => exact (by decide +kernel : kitB "int" "int" = some true) | str _ => exact (by decide +kernel : kitB "str" "int" = some false) | lst _ _ => exact (by decide +kernel : kitB "list" "int" = some false) | tup _ _ => exact (by decide +kernel : kitB "tuple" "int" = some false)), q⟩
theorem use_isBool (h : Dp K H v d) (q : Q (.bl (isBool d)) H) : rIsi K [v, .ty "bool"] H Q := ⟨v, .ty "bool", _, _, isBool d, rfl, .ty _, ty_of h, kit_ty (by cases h with | non => exact (by decide +kernel : kitB "NoneType" "bool" = some false) | bl _ => exact (by decide +kernel : kitB "bool" "bool" = some true) | int _ => exact (by decide +kernel : kitB "int" "bool" = some false) | str _ => exact (by decide +kernel : kitB "str" "bool" = some false) | lst _ _ => exact (by decide +kernel : kitB "list" "bool" = some false) | tup _ _ => exact (by decide +kernel : kitB "tuple" "bool" = some false)), q⟩
end
/-- all stays but a def's table at P, which may grow -/
structure Tb (P : Addr) (H H' : Hp) : Prop where
  g : GxR.TabG H' P
  k : ∀ a o, a ≠ P → H a = some o → H' a = some o
theorem Tb.refl {P : Addr} {H : Hp} (g : GxR.TabG H P) : Tb P H H := ⟨g, fun _ _ _ h => h⟩
theorem Tb.trans {P : Addr} {H H1 H2 : Hp} (a : Tb P H H1) (b : Tb P H1 H2) : Tb P H H2 := ⟨b.g, fun x o n h => b.k x o n (a.k x o n h)⟩
theorem tab_same {P : Addr} {H H' : Hp} (g : GxR.TabG H P) (e : Same H H') : GxR.TabG H' P := by
  obtain ⟨ps, h, t⟩ := g
  exact ⟨ps, e _ _ h, t⟩
theorem Tb.of {P : Addr} {H H' : Hp} (g : GxR.TabG H P) (e : Same H H') : Tb P H H' := ⟨tab_same g e, fun _ _ _ h => e _ _ h⟩
theorem Tb.grown {P : Addr} {H H' : Hp} (t : GxR.Tabbed P H H') : Tb P H H' := ⟨t.1, fun a o n h => by rw [t.2 a n]; exact h⟩
theorem Tb.rd {P : Addr} {H H' : Hp} {a : Addr} {u : HO} (g : GxR.TabG H P) (t : Tb P H H') (hu : ∀ ps, u ≠ .tbl ps) (h : Rd H a u) : Rd H' a u := by
  obtain ⟨ps, e, _⟩ := g
  rcases h with h | ⟨o, h⟩
  · exact .inl (t.k _ _ (fun z => by rw [z, e] at h; exact hu _ (Option.some.inj h).symm) h)
  · exact .inr ⟨o, t.k _ _ (fun z => by rw [z, e] at h; cases h) h⟩
theorem Tb.dm {K : PySem.W.Frag} {P : Addr} {H H' : Hp} (g : GxR.TabG H P) (t : Tb P H H') : DM K H H' := by
  refine ⟨fun a xs h => ?_, fun a xs h => ?_⟩
  · rcases h with h | h
    · exact .inl (t.rd g (fun _ z => by cases z) h)
    · exact .inr h
  · rcases h with h | h
    · exact .inl (t.rd g (fun _ z => by cases z) h)
    · exact .inr h
theorem tab_kb {P s : Addr} {H H' : Hp} {kvs : List (Key × V)} (g : GxR.TabG H P) (e : KB s H H') (hs : H s = some (.dK kvs)) : GxR.TabG H' P := by
  obtain ⟨ps, h, t⟩ := g
  exact ⟨ps, e _ _ (fun z => by rw [z, hs] at h; cases h) h, t⟩
/-! ### sizes -/
mutual
def szOk : PyData → Bool
  | .str x => decide (x.length ≤ 1000)
  | .list xs => szAll xs
  | .tuple xs => szAll xs
  | _ => true
def szAll : List PyData → Bool
  | [] => true
  | d :: ds => szOk d && szAll ds
end
theorem szAll_at : ∀ {ds : List PyData} {i : Nat} {d : PyData}, szAll ds = true → ds[i]? = some d → szOk d = true
  | [], i, d, _, h => by simp at h
  | e :: ds, 0, d, h, q => by
    simp only [List.getElem?_cons_zero, Option.some.injEq] at q
    subst q
    unfold szAll at h
    exact (Bool.and_eq_true_iff.mp h).1
  | e :: ds, i + 1, d, h, q => by
    simp only [List.getElem?_cons_succ] at q
    unfold szAll at h
    exact szAll_at (Bool.and_eq_true_iff.mp h).2 q
end Bk

set_option Elab.async false
set_option linter.all false
set_option maxRecDepth 100000
set_option maxHeartbeats 2000000
namespace Bk
open PySem PySem.Spec PyProof.Rows L2
/-! ### the forms -/
abbrev Forms := List (Str × List Str)
def numForms : Forms := [("num", ["amount"]), ("read", ["name"]), ("plus", ["number", "number"]), ("minus", ["number", "number"]), ("times", ["number", "number"]), ("most", ["number", "number"]), ("least", ["number", "number"])]
def condForms : Forms := [("below", ["number", "number"]), ("not", ["condition"]), ("all", ["condition", "condition"]), ("any", ["condition", "condition"])]
def ctrForms : Forms := [("none", []), ("give", ["side", "side", "good", "number"]), ("both", ["contract", "contract"]), ("turned", ["side", "side", "contract"]), ("later", ["wait", "contract"]), ("often", ["times", "gap", "contract"]),
  ("if", ["condition", "contract", "contract"]), ("when", ["condition", "contract"]), ("until", ["condition", "contract"])]
def strsAre : List Value → List Str → Bool
  | [], [] => true
  | .str x _ :: r, y :: s => decide (x = y) && strsAre r s
  | _, _ => false
theorem strsAre_vals : ∀ {us : List Value} {ks : List Str}, strsAre us ks = true → Vals (ks.map V.str) us
  | [], [], _ => .nil
  | .str x t :: r, y :: s, h => by
    have h' : (decide (x = y) && strsAre r s) = true := h
    rw [Bool.and_eq_true] at h'
    have e := of_decide_eq_true h'.1
    subst e
    exact .cons ⟨t, rfl⟩ (strsAre_vals h'.2)
def tupOk (K : PySem.W.Frag) (a : Addr) (ks : List Str) : Bool := match K.lookup a with
  | some ⟨.type c, _, .seq its _, _⟩ => decide (c = "tuple") && (decide (its.size ≤ 100) && strsAre its.toList ks)
  | _ => false
theorem tupOk_sq {K : PySem.W.Frag} {a : Addr} {ks : List Str} (h : tupOk K a ks = true) (H : Hp) : SqT K H a (ks.map V.str) := by
  unfold tupOk at h
  split at h
  · rename_i c dd its n sl e
    simp only [Bool.and_eq_true, decide_eq_true_eq] at h
    obtain ⟨h1, h2, h3⟩ := h
    subst h1
    exact .inr ⟨_, its, n, e, rfl, rfl, Nat.le_trans h2 (by decide), strsAre_vals h3⟩
  · cases h
def rowOk (K : PySem.W.Frag) (e : DictEntry) (p : Str × List Str) : Bool := match e.key, e.val with
  | .str x _, .ref a => decide (x = p.1) && tupOk K a p.2
  | _, _ => false
def rowsOk (K : PySem.W.Frag) : List DictEntry → Forms → Bool
  | [], [] => true
  | e :: r, p :: s => rowOk K e p && rowsOk K r s
  | _, _ => false
def formOf (L : Forms) (z : Str) : Option (List Str) := match L with
  | [] => none
  | p :: s => if p.1 = z then some p.2 else formOf s z
theorem rowsOk_find {K : PySem.W.Frag} {z : Str} : ∀ {es : List DictEntry} {L : Forms}, rowsOk K es L = true →
    match formOf L z with
    | none => es.find? (fun e => e.key.isStr z) = none
    | some ks => ∃ e a, es.find? (fun e => e.key.isStr z) = some e ∧ e.val = .ref a ∧ tupOk K a ks = true
  | [], [], _ => rfl
  | e :: r, p :: s, h => by
    have h' : (rowOk K e p && rowsOk K r s) = true := h
    rw [Bool.and_eq_true] at h'
    obtain ⟨h1, h2⟩ := h'
    have ih := rowsOk_find (z := z) h2
    unfold rowOk at h1
    split at h1
    · rename_i x t a ek ev
      rw [Bool.and_eq_true, decide_eq_true_eq] at h1
      obtain ⟨e1, e2⟩ := h1
      by_cases c : p.1 = z
      · have e3 : e.key.isStr z = true := by rw [ek, PySem.W.isStr_of, e1, c]; simp [Value.isStrOf]
        unfold formOf
        rw [if_pos c]
        exact ⟨e, a, by rw [List.find?_cons, e3], ev, e2⟩
      · have e3 : e.key.isStr z = false := by
          rw [ek, PySem.W.isStr_of, e1]
          simp only [Value.isStrOf]
          simpa using c
        unfold formOf
        rw [if_neg c, List.find?_cons, e3]
        exact ih
    · cases h1
def tabOk (K : PySem.W.Frag) (d : Addr) (L : Forms) : Bool := match K.lookup d with
  | some ⟨_, _, .dict es _, _⟩ => !(es.toList.any (·.refKey)) && rowsOk K es.toList L
  | _ => false
theorem tabOk_ns {K : PySem.W.Frag} {d : Addr} {L : Forms} (h : tabOk K d L = true) (z : Str) :
    match formOf L z with
    | none => PySem.W.nsIn K d z = some none
    | some ks => ∃ a, PySem.W.nsIn K d z = some (some (.ref a)) ∧ ∀ H, SqT K H a (ks.map V.str) := by
  unfold tabOk at h
  split at h
  · rename_i c dd es n sl e
    rw [Bool.and_eq_true] at h
    have q := rowsOk_find (z := z) h.2
    have r : es.toList.any (·.refKey) = false := by simpa using h.1
    unfold PySem.W.nsIn
    rw [e]
    cases hf : formOf L z with
    | none =>
      rw [hf] at q
      dsimp only at q ⊢
      rw [q, r]
      rfl
    | some ks =>
      rw [hf] at q
      obtain ⟨en, a, q1, q2, q3⟩ := q
      dsimp only
      rw [q1]
      dsimp only
      exact ⟨a, by rw [q2], tupOk_sq q3⟩
  · cases h
/-- a dict of the module that tells the forms of a kind -/
structure FTab (K : PySem.W.Frag) (w : World) (mg : Str → Option Value) (n : Str) (L : Forms) (d : Addr) : Prop where
  g : mg n = some (.ref d)
  kd : ∃ es c, KDict K w d es c
  ok : tabOk K d L = true
/-! ### what a contract is -/
def kindsOf (kind w : Str) : Option (List Str) := if kind = "contract" then formOf ctrForms w else if kind = "condition" then formOf condForms w else formOf numForms w
def isDeep (k : Str) : Bool := decide (k = "contract") || (decide (k = "condition") || decide (k = "number"))
def isW' : PyData → Bool
  | .str x => decide (1 ≤ x.length) && (decide (x.length ≤ 8) && x.cps.toList.all fun c => decide (97 ≤ c) && decide (c ≤ 122))
  | _ => false
def inB (lo hi : Int) : PyData → Bool
  | .int i => decide (lo ≤ i) && decide (i ≤ hi)
  | _ => false
def plainOk (k : Str) (d : PyData) : Bool :=
  if k = "amount" then inB (-999999999999) 999999999999 d else if k = "wait" then inB 0 99 d else if k = "times" then inB 1 9 d else if k = "gap" then inB 1 99 d else isW' d
def sameSides : List PyData → Bool
  | .str a :: .str b :: _ => decide (a = b)
  | _ => false
def twoSides (ks : List Str) : Bool := decide (ks.take 2 = [("side" : Str), ("side" : Str)])
/-- a contract, condition or number (by its kind) of at most so many levels -/
def wf : Nat → Str → PyData → Bool
  | 0, _, _ => false
  | n + 1, kind, .tuple (.str w :: ds) => match kindsOf kind w with
    | none => false
    | some ks => decide (ks.length = ds.length) && ((List.zip ks ds).all (fun p => if isDeep p.1 = true then wf n p.1 p.2 else plainOk p.1 p.2) && !(twoSides ks && sameSides ds))
  | _ + 1, _, _ => false
theorem wf_tup {n : Nat} {kind w : Str} {ds : List PyData} : wf (n + 1) kind (.tuple (.str w :: ds)) = match kindsOf kind w with
    | none => false
    | some ks => decide (ks.length = ds.length) && ((List.zip ks ds).all (fun p => if isDeep p.1 = true then wf n p.1 p.2 else plainOk p.1 p.2) && !(twoSides ks && sameSides ds)) := rfl
theorem wf_not {n : Nat} {kind : Str} {d : PyData} (h : ∀ w ds, d ≠ .tuple (.str w :: ds)) : wf n kind d = false := by
  cases n with
  | zero => rfl
  | succ n =>
    cases d with
    | tuple ds =>
      cases ds with
      | nil => rfl
      | cons x r =>
        cases x with
        | str w => exact absurd rfl (h w r)
        | _ => rfl
    | _ => rfl
end Bk

set_option Elab.async false
set_option linter.all false
set_option maxRecDepth 100000
set_option maxHeartbeats 2000000
namespace Bk
open PySem PySem.Spec PyProof.Rows L2
/-! ### a def whose code object is known -/
structure FunC (c : Addr) (K : PySem.W.Frag) (x : Str) (st : Stmt) (f : Addr) (fd : FuncData) : Prop where
  ex : ∃ (oc : Value) (od : Option Addr) (kV doc pm : Value) (an : Option Addr) (ct : Value) (osl : Array (Option Value)),
    fd = PySem.W.fnOf x x (defArgs st) (defBody st) (defScope st) .none kV doc pm an (.ref c) ct ∧ K.lookup f = some ⟨oc, od, .func fd, osl⟩ ∧ PySem.W.codeIn K (.ref c) x = true
  kp : PySem.W.keepIn K (.ref f) = true
theorem FunC.ok {c : Addr} {P : Program} {w : World} {K : PySem.W.Frag} {mg : Str → Option Value} {base : Heap} {x : Str} {st : Stmt} {f : Addr} {fd : FuncData} {N ps : List Str} {k : Nat} {sp : Sp} (F : FunC c K x st f fd) (S : FnScope N ps (defScope st))
    (len : ∀ vs H Q E, sp vs H Q E → vs.length = ps.length)
    (hb : ∀ (A : Around) (outer : List Env) (s : Shared) (H : Hp) (vs : List V) (Q : VK) (E : XK), Room k (A.deeper (envOfC x (defScope st) s.heap.objs.size f (.ref c))) → sp vs H Q E →
      ∃ t, PSs (cxOf CX0 P w K mg base N x (defScope st) f (.ref c) A outer s H E).nox (defBody st) t ∧ t { nx := fun _ H' => Q .non H', rt := Q } (start N vs) H) : FnOk P w K mg base CX0 (k + 1) f fd ps sp := by
  obtain ⟨oc, od, kV, doc, pm, an, ct, osl, rfl, lk, hcd⟩ := F.ex
  refine fn_of lk hcd S len fun A outer s H vs Q E hr hsp => ?_
  obtain ⟨t, h, q⟩ := hb A outer s H vs Q E hr hsp
  exact ⟨t, h.nox, q⟩
structure OwnC (c : Addr) (K : PySem.W.Frag) (mg : Str → Option Value) (x : Str) (st : Stmt) (ps : List Str) (f : Addr) (fd : FuncData) : Prop where
  F : FunC c K x st f fd
  g : mg x = some (.ref f)
  b : Binds K fd ps []
theorem OwnC.has {c : Addr} {P : Program} {w : World} {K : PySem.W.Frag} {mg : Str → Option Value} {base : Heap} {x : Str} {st : Stmt} {ps : List Str} {f : Addr} {fd : FuncData} {lv : Nat} {CX : CXT} {sp : Sp} (O : OwnC c K mg x st ps f fd)
    (G : FnOk P w K mg base CX lv f fd ps sp) : Has P w K mg base x ps lv CX sp f fd := ⟨G, O.g, O.F.kp, O.b⟩
theorem OwnC.mk' {c : Addr} {K : PySem.W.Frag} {mg : Str → Option Value} {x : Str} {st : Stmt} {ps : List Str} {f : Addr} {oc : Value} {od an : Option Addr} {osl : Array (Option Value)} {kV doc pm ct : Value}
    (l : K.lookup f = some ⟨oc, od, .func (PySem.W.fnOf x x (defArgs st) (defBody st) (defScope st) .none kV doc pm an (.ref c) ct), osl⟩) (hc : PySem.W.codeIn K (.ref c) x = true) (kp : PySem.W.keepIn K (.ref f) = true) (g : mg x = some (.ref f))
    (b : Binds K (PySem.W.fnOf x x (defArgs st) (defBody st) (defScope st) .none kV doc pm an (.ref c) ct) ps []) : OwnC c K mg x st ps f (PySem.W.fnOf x x (defArgs st) (defBody st) (defScope st) .none kV doc pm an (.ref c) ct) :=
  ⟨⟨⟨oc, od, kV, doc, pm, an, ct, osl, rfl, l, hc⟩, kp⟩, g, b⟩
/-! ### the package's errors -/
structure ExcT (K : PySem.W.Frag) (mg : Str → Option Value) (x : Str) (C : Addr) : Prop where
  g : mg x = some (.ref C)
  x : PySem.W.excIn K C [.type "ValueError", .type "Exception", .type "BaseException", .type "object"] "ValueError.__new__" = true
  k : PySem.W.keepIn K (.ref C) = true
  s : PySem.W.subIn K (.ref C) (.type "BaseException") = some true
  t : PySem.W.typeIn K (.ref C) = some (.type "type")
/-- isinstance(e, c) in a suite: the reading asks of what class e is -/
def rIsX (K : PySem.W.Frag) (a : Addr) (cls : Value) (d : Option Addr) : List V → Hp → VK → Prop := fun xs H Q => ∃ D, cls = .ref D ∧ d = none ∧ ExcC K D ∧ rIsE K D a xs H Q
theorem call_isX {X : Cx} {a : Addr} {cls : Value} {d : Option Addr} {oe : Obj} {pn : List (Addr × Obj)} (hz : Zc cls d oe) (hf : ∃ vs, oe.data = .fields vs) : CallR (X.suite a ((a, oe) :: pn)) (.builtin "isinstance") (rIsX X.K a cls d) := by
  intro pins s τ G xs us W I r h
  obtain ⟨D, rfl, rfl, C, h⟩ := h
  exact call_isE C hz hf pins s τ G xs us W I r h
/-! ### a raised text -/
theorem str_app_len (a b : Str) : (a ++ b).length = a.length + b.length := by
  show (a.cps ++ b.cps).size = a.cps.size + b.cps.size
  simp
theorem five_k : (5000 : Nat) ≤ sizeLine := by decide
section
variable {σ : L2.St} {H : Hp} {R : List V → Hp → Prop} {a b x : Str} {i : Nat}
theorem fs3 (hx : σ[i]? = some (some (.str x))) (lx : x.length ≤ 1000) (la : a.length ≤ 1000) (lb : b.length ≤ 1000) (h : ∀ z, R [.str z] H) :
    tCons (fun σ H Q => tJs [tC (.str a), tFmt (tVar i), tC (.str b)] Str.empty σ H fun out H1 => Q (.str out) H1) tNil σ H R := by
  have e0 : (Str.empty : Str).length = 0 := rfl
  have z := five_k
  refine ⟨a, rfl, by rw [str_app_len]; omega, _, hx, .inl ⟨x, rfl, by omega, x, rfl, by rw [str_app_len, str_app_len]; omega, b, rfl, by rw [str_app_len, str_app_len, str_app_len]; omega, h _⟩⟩
theorem fs2 (hx : σ[i]? = some (some (.str x))) (lx : x.length ≤ 1000) (la : a.length ≤ 1000) (h : ∀ z, R [.str z] H) :
    tCons (fun σ H Q => tJs [tC (.str a), tFmt (tVar i)] Str.empty σ H fun out H1 => Q (.str out) H1) tNil σ H R := by
  have e0 : (Str.empty : Str).length = 0 := rfl
  have z := five_k
  refine ⟨a, rfl, by rw [str_app_len]; omega, _, hx, .inl ⟨x, rfl, by omega, x, rfl, by rw [str_app_len, str_app_len]; omega, h _⟩⟩
end
theorem inDeep (k : Str) : inV (.str k) [.str "contract", .str "condition", .str "number"] = isDeep k := by
  have e : ∀ a b : Str, (a == b) = decide (b = a) := fun a b => by
    by_cases c : a = b
    · subst c; simp
    · rw [decide_eq_false (fun z => c z.symm)]
      simpa using c
  simp only [inV, List.any_cons, List.any_nil, eqV, isDeep, e, Bool.or_false]
theorem cut1 (x : V) (xs : List V) : cutV (x :: xs) (some 1) none = xs := by
  have e : HT.sIx (xs.length + 1) 0 (some 1) = 1 := by
    have q := HT.sIx_nat (xs.length + 1) 0 1
    refine q.trans ?_
    omega
  unfold cutV
  rw [List.length_cons, HT.sIx_none, e]
  simp
theorem not_whole1 (x : V) (xs : List V) : ¬ (HT.sIx (x :: xs).length 0 (some 1) = 0 ∧ HT.sIx (x :: xs).length (x :: xs).length none = (x :: xs).length) := by
  rintro ⟨h, _⟩
  have e : HT.sIx (xs.length + 1) 0 (some 1) = 1 := by
    have q := HT.sIx_nat (xs.length + 1) 0 1
    refine q.trans ?_
    omega
  rw [List.length_cons, e] at h
  cases h
theorem formOf_mem {z : Str} {ks : List Str} : ∀ {L : Forms}, formOf L z = some ks → ∃ p ∈ L, p.2 = ks
  | [], h => by cases h
  | p :: s, h => by
    unfold formOf at h
    split at h
    · exact ⟨p, List.mem_cons_self, Option.some.inj h⟩
    · obtain ⟨q, hq, e⟩ := formOf_mem h
      exact ⟨q, List.mem_cons_of_mem _ hq, e⟩
def allKinds : List (List Str) := (ctrForms ++ condForms ++ numForms).map (·.2)
theorem kinds_mem {kind z : Str} {ks : List Str} (h : kindsOf kind z = some ks) : ks ∈ allKinds := by
  unfold kindsOf at h
  unfold allKinds
  rw [List.mem_map]
  split at h
  · obtain ⟨p, hp, e⟩ := formOf_mem h
    exact ⟨p, List.mem_append_left _ (List.mem_append_left _ hp), e⟩
  · split at h
    · obtain ⟨p, hp, e⟩ := formOf_mem h
      exact ⟨p, List.mem_append_left _ (List.mem_append_right _ hp), e⟩
    · obtain ⟨p, hp, e⟩ := formOf_mem h
      exact ⟨p, List.mem_append_right _ hp, e⟩
theorem kinds_short : ∀ ks ∈ allKinds, ∀ k ∈ ks, k.length ≤ 100 := by decide +kernel
theorem kinds_two : ∀ ks ∈ allKinds, twoSides ks = true → ∃ s, ks = ("side" : Str) :: ("side" : Str) :: s := by
  intro ks h e
  unfold twoSides at e
  have e := of_decide_eq_true e
  cases ks with
  | nil => cases e
  | cons x r =>
    cases r with
    | nil => cases e
    | cons y s =>
      injection e with e1 e2
      injection e2 with e2 e3
      exact ⟨s, by rw [e1, e2]⟩
/-- the parts, so far -/
def partOk (n : Nat) (p : Str × PyData) : Bool := if isDeep p.1 = true then wf n p.1 p.2 else plainOk p.1 p.2
theorem zip_at {ks : List Str} {ds : List PyData} {i : Nat} {k : Str} {d : PyData} (h1 : ks[i]? = some k) (h2 : ds[i]? = some d) : (List.zip ks ds)[i]? = some (k, d) := by
  rw [List.getElem?_zip_eq_some]
  exact ⟨h1, h2⟩
theorem all_not {α : Type} {f : α → Bool} {l : List α} {i : Nat} {x : α} (h : l[i]? = some x) (e : f x = false) : l.all f = false := by
  rw [Bool.eq_false_iff]
  intro z
  have := List.all_eq_true.mp z x (List.mem_of_getElem? h)
  rw [e] at this
  cases this
theorem take_all {α : Type} {f : α → Bool} {l : List α} {i : Nat} {x : α} (h : l[i]? = some x) (e : f x = true) (q : (l.take i).all f = true) : (l.take (i + 1)).all f = true := by
  have hi : i < l.length := (List.getElem?_eq_some_iff.mp h).1
  have hx : l[i] = x := (List.getElem?_eq_some_iff.mp h).2
  rw [List.take_succ_eq_append_getElem hi, List.all_append, q, hx]
  simp [e]
theorem g_zipA {K : PySem.W.Frag} {ta : TA} {σ : L2.St} {H : Hp} {R : It → Hp → Prop} (h : ta σ H fun vs H1 => ∃ a b xs ys, vs = [.ref a, .ref b] ∧ ((SqL K H1 a xs ∧ SqL K H1 b ys ∧ R (Itz K a b) H1) ∨ (SqT K H1 a xs ∧ SqT K H1 b ys ∧ R (RZ.ItzT K a b) H1))) : RZ.iZipA K ta σ H R := h
theorem wf_tup' {n : Nat} {kind w : Str} {ds : List PyData} : wf (n + 1) kind (.tuple (.str w :: ds)) = match kindsOf kind w with
    | none => false
    | some ks => decide (ks.length = ds.length) && ((List.zip ks ds).all (partOk n) && !(twoSides ks && sameSides ds)) := rfl
theorem two_shaped : ∀ ks ∈ allKinds, SeqAt.shaped (.tuple ((ks.take 2).map PyData.str)) = true := by decide +kernel
theorem two_eqv : ∀ ks ∈ allKinds, PyData.eqv (.tuple ((ks.take 2).map PyData.str)) (.tuple [.str "side", .str "side"]) = twoSides ks := by decide +kernel
theorem dpStrs {K : PySem.W.Frag} {H : Hp} : ∀ ks : List Str, DpAll K H (ks.map V.str) (ks.map PyData.str)
  | [] => .nil
  | k :: ks => .cons (.str k) (dpStrs ks)
theorem word_str {m : Nat} {d : PyData} (h : partOk m ("side", d) = true) : ∃ x, d = .str x := by
  have e : partOk m ("side", d) = isW' d := by
    have e1 : isDeep "side" = false := by decide +kernel
    unfold partOk
    rw [if_neg (by rw [e1]; exact Bool.false_ne_true)]
    show plainOk "side" d = isW' d
    have e1 : ¬ ("side" : Str) = "amount" := by decide +kernel
    have e2 : ¬ ("side" : Str) = "wait" := by decide +kernel
    have e3 : ¬ ("side" : Str) = "times" := by decide +kernel
    have e4 : ¬ ("side" : Str) = "gap" := by decide +kernel
    unfold plainOk
    rw [if_neg e1, if_neg e2, if_neg e3, if_neg e4]
  rw [e] at h
  cases d with
  | str x => exact ⟨x, rfl⟩
  | _ => cases h
end Bk

set_option Elab.async false
set_option linter.all false
set_option maxRecDepth 100000
set_option maxHeartbeats 2000000
namespace Bk
open PySem PySem.Spec PyProof.Rows L2
/-! ### what displays evaluate to -/
abbrev Env4 := Nat → Option PyData
def SlotsOk (K : PySem.W.Frag) (Γ : Env4) (σ : L2.St) (H : Hp) : Prop := ∀ i d, Γ i = some d → ∃ v, σ[i]? = some (some v) ∧ Dp K H v d
theorem SlotsOk.same {K : PySem.W.Frag} {Γ : Env4} {σ : L2.St} {H H' : Hp} (s : SlotsOk K Γ σ H) (e : Same H H') : SlotsOk K Γ σ H' := fun i d h => by
  obtain ⟨v, h1, h2⟩ := s i d h
  exact ⟨v, h1, Dp.dm (.of e) h2⟩
def EvD (K : PySem.W.Frag) (Γ : Env4) (t : TE) (d : PyData) : Prop := ∀ (σ : L2.St) (H : Hp) (Q : VK), SlotsOk K Γ σ H → (∀ v H', Same H H' → Dp K H' v d → Q v H') → t σ H Q
def EvA (K : PySem.W.Frag) (Γ : Env4) (t : TA) (ds : List PyData) : Prop := ∀ (σ : L2.St) (H : Hp) (Q : List V → Hp → Prop), SlotsOk K Γ σ H → (∀ vs H', Same H H' → DpAll K H' vs ds → Q vs H') → t σ H Q
section
variable {K : PySem.W.Frag} {Γ : Env4}
theorem evd_str (x : Str) : EvD K Γ (tC (.str x)) (.str x) := fun σ H Q _ q => q _ _ (Same.refl H) (.str x)
theorem evd_int (x : Int) : EvD K Γ (tC (.int x)) (.int x) := fun σ H Q _ q => q _ _ (Same.refl H) (.int x)
theorem evd_bl (x : Bool) : EvD K Γ (tC (.bl x)) (.bool x) := fun σ H Q _ q => q _ _ (Same.refl H) (.bl x)
theorem evd_non : EvD K Γ (tC .non) .none := fun σ H Q _ q => q _ _ (Same.refl H) .non
theorem evd_var {i : Nat} {d : PyData} (h : Γ i = some d) : EvD K Γ (tVar i) d := fun σ H Q s q => by
  obtain ⟨v, h1, h2⟩ := s i d h
  exact ⟨v, h1, q _ _ (Same.refl H) h2⟩
theorem eva_nil : EvA K Γ tNil [] := fun σ H Q _ q => q _ _ (Same.refl H) .nil
theorem eva_cons {t : TE} {r : TA} {d : PyData} {ds : List PyData} (h : EvD K Γ t d) (hr : EvA K Γ r ds) : EvA K Γ (tCons t r) (d :: ds) := fun σ H Q s q =>
  h σ H _ s fun v H1 e1 d1 => hr σ H1 _ (s.same e1) fun vs H2 e2 d2 => q _ _ (e1.trans e2) (.cons (Dp.dm (.of e2) d1) d2)
theorem evd_tup {t : TA} {ds : List PyData} (h : EvA K Γ t ds) (hl : ds.length ≤ 1000) : EvD K Γ (tTup t) (.tuple ds) := fun σ H Q s q =>
  h σ H _ s fun vs H1 e1 d1 => ⟨sz (by rw [DpAll.len d1]; exact hl), fun p np => q _ _ (e1.trans (same_new np)) (.tup (sqt upd_same) (DpAll.dm (.of (same_new np)) d1))⟩
theorem evd_lst {t : TA} {ds : List PyData} (h : EvA K Γ t ds) (hl : ds.length ≤ 1000) : EvD K Γ (tLst t) (.list ds) := fun σ H Q s q =>
  h σ H _ s fun vs H1 e1 d1 => ⟨sz (by rw [DpAll.len d1]; exact hl), fun p np => q _ _ (e1.trans (same_new np)) (.lst (sql upd_same) (DpAll.dm (.of (same_new np)) d1))⟩
theorem evd_I0 {f : Int → Int → Int} {ta tb : TE} {i j : Int} (ha : EvD K Γ ta (.int i)) (hb : EvD K Γ tb (.int j)) : EvD K Γ (tOp (rI0 fun i j => .int (f i j)) ta tb) (.int (f i j)) := fun σ H Q s q =>
  ha σ H _ s fun v H1 e1 d1 => hb σ H1 _ (s.same e1) fun u H2 e2 d2 => by
    cases d1
    cases d2
    exact ⟨i, j, rfl, rfl, q _ _ (e1.trans e2) (.int _)⟩
theorem evd_I {C : Int → Int → Prop} {f : Int → Int → Int} {ta tb : TE} {i j : Int} (ha : EvD K Γ ta (.int i)) (hb : EvD K Γ tb (.int j)) (hc : C i j) : EvD K Γ (tOp (rI C fun i j => .int (f i j)) ta tb) (.int (f i j)) := fun σ H Q s q =>
  ha σ H _ s fun v H1 e1 d1 => hb σ H1 _ (s.same e1) fun u H2 e2 d2 => by
    cases d1
    cases d2
    exact ⟨i, j, rfl, rfl, hc, q _ _ (e1.trans e2) (.int _)⟩
theorem evd_neg {f : Int → Int} {ta : TE} {i : Int} (ha : EvD K Γ ta (.int i)) : EvD K Γ (tUn (rU fun i => .int (f i)) ta) (.int (f i)) := fun σ H Q s q =>
  ha σ H _ s fun v H1 e1 d1 => by
    cases d1
    exact ⟨i, rfl, q _ _ e1 (.int _)⟩
/-- a list that is laid anew -/
theorem ev_lst {t : TA} {ds : List PyData} {σ : L2.St} {H : Hp} {Q : VK} (h : EvA K Γ t ds) (hl : ds.length ≤ 1000) (s : SlotsOk K Γ σ H) (q : ∀ p xs H1, Same H H1 → H1 p = none → DpAll K H1 xs ds → Q (.ref p) (upd H1 p (.lst xs))) : tLst t σ H Q :=
  h σ H _ s fun vs H1 e1 d1 => ⟨sz (by rw [DpAll.len d1]; exact hl), fun p np => q p vs H1 e1 np d1⟩
end
/-! ### fewer levels tell no more -/
theorem wf_more : ∀ {n m : Nat} {kind : Str} {d : PyData}, n ≤ m → wf n kind d = true → wf m kind d = true
  | 0, _, _, _, _, h => by cases h
  | n + 1, 0, _, _, hl, _ => by omega
  | n + 1, m + 1, kind, d, hl, h => by
    have hl : n ≤ m := by omega
    cases d with
    | tuple ds =>
      cases ds with
      | nil => cases h
      | cons x r =>
        cases x with
        | str w =>
          rw [wf_tup'] at h ⊢
          split at h
          · cases h
          · rename_i ks hk
            rw [Bool.and_eq_true, Bool.and_eq_true] at h ⊢
            refine ⟨h.1, ?_, h.2.2⟩
            rw [List.all_eq_true] at *
            intro p hp
            have z := h.2.1 p hp
            unfold partOk at z ⊢
            split
            · rename_i c
              rw [if_pos c] at z
              exact wf_more hl z
            · rename_i c
              rw [if_neg c] at z
              exact z
        | _ => cases h
    | _ => cases h
theorem wf_fewer {n m : Nat} {kind : Str} {d : PyData} (hl : n ≤ m) (h : wf m kind d = false) : wf n kind d = false := by
  cases e : wf n kind d with
  | false => rfl
  | true =>
    rw [wf_more hl e] at h
    cases h
theorem g_callS {sp : Sp} {E : L2.St → XK} {t : TA} {σ : L2.St} {H : Hp} {Q : VK} (h : t σ H fun vs H1 => sp vs H1 Q (E σ)) : tCallS sp E t σ H Q := h
/-- what the classes of the errors are to one another, C being raised -/
structure Errs (K : PySem.W.Frag) (B C M X T : Addr) : Prop where
  exm : PySem.W.exmOne K (.ref C) (.ref B) = some true
  ec : ExcC K C
  iM : PySem.W.kitOne K (.ref C) (.ref M) = some false
  iX : PySem.W.kitOne K (.ref C) (.ref X) = some false
  iT : PySem.W.kitOne K (.ref C) (.ref T) = some false
  iC : PySem.W.kitOne K (.ref C) (.ref C) = some true
  iV : PySem.W.kitOne K (.ref C) (.type "ValueError") = some true
theorem use_isX {K : PySem.W.Frag} {a D : Addr} {c : V} {cv : Value} {b : Bool} {H : Hp} {Q : VK} (ec : ExcC K D) (hc : ∀ u, RelV c u → u = cv) (h : PySem.W.kitOne K (.ref D) cv = some b) (q : Q (.bl b) H) : rIsX K a (.ref D) none [.ref a, c] H Q :=
  ⟨D, rfl, rfl, ec, c, cv, b, rfl, hc, h, q⟩
end Bk

set_option Elab.async false
set_option linter.all false
set_option maxRecDepth 100000
set_option maxHeartbeats 2000000
namespace Bk
open PySem PySem.Spec PyProof.Rows L2
/-! ### the end: a law over a package with tables of code objects -/
/-- what the top tells of a def's table -/
def TabsOf (q : Program) (K : PySem.W.Frag) (h : Heap) : Prop := ∀ (x : Str) (c P : Addr), ((recsOf q).find? (fun e => e.name == x)).isSome = true → PySem.W.tabIn K x = some (c, P) → PySem.W.CodeHd h c P ∧ h.get? P = some (PySem.W.tabObj #[])
theorem walk_tabs {l : PySem.W.OpenLaw} {n k : Nat} {q : Program} {loose : List Str} {XP : (Str → Option Value) → Heap → Prop} {YP : World → Heap → Prop} {d : DefRec} {K : Params → PySem.W.Frag} {CX : World → CXT} {x : Str}
    (hn : l.most = some n) (hn2 : n ≤ sizeLine) (hdf : d.params.defaults = []) (hr : Room k callerA) (hY : ∀ (w : World) (h : Heap), YP w h → (K w.params).In h)
    (F : ∀ (w : World) (mg : Str → Option Value) (fa : Addr) (h : Heap), (K w.params).In h → h.Ns mainGlobals mg → mg d.name = some (.ref fa) → TabsOf q (K w.params) h → LamX.LawAtS l w (K w.params) (CX w) k n x mg fa h)
    (hCX : ∀ (w : World) (H : Hp) (s : Shared) (e : Value) (s' : Shared), CX w [] H s (fun _ _ _ => False) e s' → False) :
    PySem.W.WalkO q loose XP YP l.row.toRowW d [] (fun f vs => PySem.call f vs) :=
  Att.attach_callB hn hdf fun w u u1 mg mb fa ob pm cd doc a vs ns gr yp hob hda hco hmg hls hin hlen hbits hge => by
    have kin := hY w _ yp
    obtain ⟨fd, cs, sp, c1, c2, c3, c4, c5, c6⟩ := F w mg fa _ kin gr.T.g hmg fun z c P hs ht => by
      obtain ⟨e, he⟩ := Option.isSome_iff_exists.mp hs
      exact PySem.W.tab_of gr.T kin he ht
    exact LamX.law_callTs kin gr.T.g gr.T.b gr.T.builtins gr.T.nolimit hge c1 c2 c3 gr.T.bmain hls hin (Nat.le_trans hlen hn2) hr c6 c4 (fun G g1 g2 => c5 G a ns hlen hbits g1 g2) fun G e u2 => hCX w G u1 e u2
theorem tabIn_of {K : PySem.W.Frag} {x : Str} {f c P : Addr} {oc oc2 : Value} {od od2 : Option Addr} {sl sl2 : Array (Option Value)} {fd : FuncData} {vs : Array Value} (a : PySem.W.nsIn K mainGlobals x = some (some (.ref f))) (l : K.lookup f = some ⟨oc, od, .func fd, sl⟩)
    (hc : fd.code = .ref c) (cc : K.lookup c = some ⟨oc2, od2, .fields vs, sl2⟩) (v : (vs[11]? : Option Value) = some (.ref P)) : PySem.W.tabIn K x = some (c, P) := by
  unfold PySem.W.tabIn
  rw [a]
  dsimp only
  rw [l]
  dsimp only
  rw [hc]
  dsimp only
  rw [cc]
  dsimp only
  rw [v]
theorem FTab.of {K : PySem.W.Frag} {w : World} {mg : Str → Option Value} {n : Str} {L : Forms} {d : Addr} (g : mg n = some (.ref d)) (k : He.dicW K d = some (He.keysIn w.params (L.map (·.1)))) (ok : tabOk K d L = true) : FTab K w mg n L d := ⟨g, He.dicW_ok k, ok⟩
end Bk

set_option Elab.async false
set_option linter.all false
set_option maxRecDepth 100000
/-! len(set(xs)), xs a list of texts or of whole numbers, alike ones among them. -/
namespace BkS
open PySem PySem.Spec PyProof.Rows

section
variable {K : Type} [DecidableEq K]
/-- the unlike ones, each where it is first met, behind these -/
def metA : List K → List K → List K
  | ys, [] => ys
  | ys, x :: xs => metA (if x ∈ ys then ys else ys ++ [x]) xs
def met (xs : List K) : List K := metA [] xs
theorem metA_snoc : ∀ (xs ys : List K) (x : K), metA ys (xs ++ [x]) = if x ∈ metA ys xs then metA ys xs else metA ys xs ++ [x]
  | [], _, _ => rfl
  | _ :: xs, _, x => metA_snoc xs _ x
theorem mem_metA : ∀ (xs ys : List K) (y : K), y ∈ metA ys xs ↔ y ∈ ys ∨ y ∈ xs
  | [], ys, y => by simp [metA]
  | x :: xs, ys, y => by
    show y ∈ metA _ xs ↔ _
    rw [mem_metA xs _ y]
    by_cases h : x ∈ ys
    · rw [if_pos h, List.mem_cons]
      exact ⟨fun q => q.elim .inl fun z => .inr (.inr z), fun q => q.elim .inl fun z => z.elim (fun e => .inl (e ▸ h)) .inr⟩
    · rw [if_neg h]
      simp [or_assoc]
theorem metA_le : ∀ (xs ys : List K), (metA ys xs).length ≤ ys.length + xs.length
  | [], ys => Nat.le_refl _
  | x :: xs, ys => by
    have h := metA_le xs (if x ∈ ys then ys else ys ++ [x])
    show (metA _ xs).length ≤ _
    split at h <;> simp at h ⊢ <;> split <;> simp_all <;> omega
theorem met_mem (xs : List K) (y : K) : y ∈ met xs ↔ y ∈ xs := by
  rw [met, mem_metA]; simp
theorem met_le (xs : List K) : (met xs).length ≤ xs.length := by
  have h := metA_le xs []
  simpa [met] using h
theorem met_snoc (xs : List K) (x : K) : met (xs ++ [x]) = if x ∈ xs then met xs else met xs ++ [x] := by
  unfold met
  rw [metA_snoc]
  by_cases h : x ∈ xs
  · rw [if_pos h]; exact if_pos ((met_mem xs x).mpr h)
  · rw [if_neg h]; exact if_neg fun z => h ((met_mem xs x).mp z)
theorem metA_eq : ∀ (xs ys : List K), (ys ++ xs).Nodup → metA ys xs = ys ++ xs
  | [], ys, _ => by simp [metA]
  | x :: xs, ys, h => by
    have hx : x ∉ ys := fun z => (List.pairwise_append.mp h).2.2 x z x (by simp) rfl
    show metA _ xs = _
    rw [if_neg hx, metA_eq xs (ys ++ [x]) (by simpa using h)]
    simp
theorem metA_lt : ∀ (xs ys : List K), ys.Nodup → ¬ (ys ++ xs).Nodup → (metA ys xs).length < ys.length + xs.length
  | [], ys, h, n => absurd (by simpa using h) n
  | x :: xs, ys, h, n => by
    show (metA _ xs).length < _
    by_cases hx : x ∈ ys
    · rw [if_pos hx]
      have := metA_le xs ys
      simp; omega
    · rw [if_neg hx]
      have z := metA_lt xs (ys ++ [x]) (List.pairwise_append.mpr ⟨h, by simp, fun a ha b hb => by simp at hb; subst hb; exact fun e => hx (e ▸ ha)⟩) (by simpa using n)
      simp at z ⊢
      omega
theorem met_eq {xs : List K} (h : xs.Nodup) : (met xs).length = xs.length := by rw [met, metA_eq xs [] (by simpa using h)]; simp
theorem met_lt {xs : List K} (h : ¬ xs.Nodup) : (met xs).length < xs.length := by
  have z := metA_lt xs [] (by simp) (by simpa using h)
  simpa [met] using z
end

section
variable {prog : Program} {w : World} {K : Type} [DecidableEq K] {knd : KeyKind prog w K}
theorem setOf_to {h : Heap} {a : Addr} {S S' : K → Bool} {n n' : Nat} (hS : h.SetOf knd a S n) (e : ∀ k, S k = S' k) (en : n = n') : h.SetOf knd a S' n' := by
  have : S = S' := funext e
  subst this; subst en; exact hS
variable {A : Around} {R : Result → Shared → Prop} {I : Addr} {fp wr : List Addr} {G : Array GenState → Array GenState → Prop} {n : Nat} {P : Nat → Value → Prop} {St : Nat → Shared → Prop}
/-- the set takes the iterator's items, one by one -/
theorem taken_all (W : WalksS prog w A.in1 I fp wr G n P St) (S : Addr) (hSf : S ∉ fp) (xs : List K) (hn : xs.length = n) (hb : n + 1 < scanBound)
    (hv : ∀ i v, P i v → ∃ k, xs[i]? = some k ∧ knd.is k v = true ∧ v.scannable = true) :
    ∀ (k i : Nat) (s : Shared), n - i = k → i ≤ n → St i s → s.heap.SetOf knd S (fun k => decide (k ∈ xs.take i)) (met (xs.take i)).length →
      (∀ s', Moved (S :: wr) G s s' → s'.heap.SetOf knd S (fun k => decide (k ∈ xs)) (met xs).length → R (.ok (.ret .none)) s') →
      codeAny (model prog w) A (.builtin "set.update.loop" ⟨[.ref S, .ref I], []⟩) R s := by
  have hSw : S ∉ wr := fun h => hSf (W.sub _ h)
  have up : ∀ b ∈ wr, b ∈ S :: wr := fun b hb => List.mem_cons_of_mem _ hb
  intro k
  induction k with
  | zero =>
    intro i s hk hi hst hS hq
    obtain rfl : i = n := by omega
    refine codeAny_builtin PyProof.Rows.F.entry_set_update_loop ?_
    rw [Around.under_plainId PyProof.Rows.F.plain_set_update_loop _]
    show wpAny _ A.in1 (pyNext (.ref I) >>= _) _ _ s
    refine wpAny_bind (W.done s _ _ hst fun s' hm => ?_)
    show wpAny _ A.in1 (ret Value.none) _ _ s'
    refine wpAny_pure (hq s' (hm.mono up) ?_)
    rw [← hn, List.take_length] at hS
    obtain ⟨o, es, ep, t, ho, z⟩ := hS
    exact ⟨o, es, ep, t, hm.heap S _ hSw ho, z⟩
  | succ k ih =>
    intro i s hk hi hst hS hq
    have hlt : i < n := by omega
    refine codeAny_builtin PyProof.Rows.F.entry_set_update_loop ?_
    rw [Around.under_plainId PyProof.Rows.F.plain_set_update_loop _]
    show wpAny _ A.in1 (pyNext (.ref I) >>= _) _ _ s
    refine wpAny_bind (W.item i s _ _ hlt hst fun v s' hP hst' hm => ?_)
    obtain ⟨x, ex, hx, hs⟩ := hv i v hP
    have et : xs.take (i + 1) = xs.take i ++ [x] := by rw [List.take_add_one, ex]; rfl
    have hS' : s'.heap.SetOf knd S (fun k => decide (k ∈ xs.take i)) (met (xs.take i)).length := by
      obtain ⟨o, es, ep, t, ho, z⟩ := hS
      exact ⟨o, es, ep, t, hm.heap S _ hSw ho, z⟩
    show wpAny _ A.in1 (holding [v] (setAdd S v) >>= _) _ _ s'
    refine wpAny_bind (wpAny_holding ?_)
    unfold setAdd
    refine wpAny_holding ?_
    refine wpAny_bind (knd.pyHash (k := x) hx ?_)
    have room : (met (xs.take i)).length + 1 < scanBound := by
      have h1 := met_le (xs.take i)
      have h2 : (xs.take i).length ≤ i := by rw [List.length_take]; omega
      omega
    refine wpAny_setAddHashed_of (knd := knd) (s := { s' with toks := s'.toks + 1 }) hx hs hS' room fun h' hsb hS2 => ?_
    have hSi : h'.SetOf knd S (fun k => decide (k ∈ xs.take (i + 1))) (met (xs.take (i + 1))).length := by
      refine setOf_to hS2 (fun k' => ?_) ?_
      · rw [et]; simp
      · rw [et, met_snoc]
        by_cases h : x ∈ xs.take i
        · rw [if_pos (by simpa using h), if_pos h]
        · rw [if_neg (by simpa using h), if_neg h]; simp
    refine wpAny_pure ⟨plainId_quiet PyProof.Rows.F.plain_set_update_loop _, ih (i + 1) _ (by omega) hlt (W.frame _ s' _ _ hst' (Nat.le_succ _) fun b hb o e => ?_) hSi fun s'' hm'' hS'' => ?_⟩
    · rw [hsb.2 b (fun h : b = S => hSf (by rw [← h]; exact hb))]; exact e
    · refine hq s'' (Moved.trans W.gtrans ((hm.mono up).then_heap (Nat.le_succ _) fun b o hb e => ?_) hm'') hS''
      rw [hsb.2 b (fun h : b = S => hb (by rw [h]; exact List.mem_cons_self))]; exact e
end

section
variable {prog : Program} {w : World} {A : Around} {E : Value → Shared → Prop} {s : Shared} {K : Type} [DecidableEq K] {knd : KeyKind prog w K}
set_option maxHeartbeats 3200000 in
/-- set(l) of a list whose items tell these keys -/
theorem call_set_keys {l : Addr} {items : Array Value} {xs : List K} {Q : Value → Shared → Prop} (hh : A.handled = none) (hl : s.heap.IsList l items) (hn : xs.length = items.size)
    (hv : ∀ (i : Nat) v, items[i]? = some v → ∃ k, xs[i]? = some k ∧ knd.is k v = true ∧ v.scannable = true) (hb : items.size + 1 < scanBound)
    (h : ∀ (h' : Heap) (tk : Nat), h'.SetOf knd s.heap.objs.size (fun k => decide (k ∈ xs)) (met xs).length → (∀ b o, b < s.heap.objs.size → s.heap.get? b = some o → h'.get? b = some o) →
      Q (.ref s.heap.objs.size) { s with heap := h', toks := tk }) :
    wpAny (model prog w) A (call (.type "set") [.ref l]) Q E s := by
  have hc := PySem.F.called_set
  obtain ⟨_, _, hmro⟩ := hc.mro
  have hmade := hc.made
  have hsub := hc.sub
  have h1 := hc.notType
  have h2 := hc.canCreate
  have h3 := PySem.F.typeCall_set_1 (.ref l)
  refine wpAny_call (codeAny_of_tree ?_)
  show wpAny _ _ (callAny (.type "set") _) _ _ _
  refine wpAny_pure ⟨Code.quiet_builtin _ (by decide +kernel), codeAny_builtin PySem.F.entry_type_call ?_⟩
  rw [Around.under_plain (weight_type_call_type "set" [.ref l] []) rfl]
  repeat (any_goals (first | assumption | wp_step))
  let ob : Bool → Obj := fun led => { cls := .type "set", dict := none, data := .set #[] 0 (.fresh 0 0 led) }
  refine codeAny_mono (code_set_new_1 (.ref l) (E := E) (Q₁ := fun v t => ∃ led : Bool, v = .ref s.heap.objs.size ∧ t = { s with heap := s.heap.push (ob led) }) fun led => ⟨led, rfl, rfl⟩) fun r t hr => ?_
  rcases r with e | fl
  · exact hr
  cases fl with
  | ret v =>
    obtain ⟨led, rfl, rfl⟩ := hr
    have hS : (s.heap.push (ob led)).get? s.heap.objs.size = some (ob led) := Heap.get?_push_size _ rfl
    have hT : Shared.TypeIs { s with heap := s.heap.push (ob led) } (.ref s.heap.objs.size) "set" := ⟨_, hS, rfl⟩
    have hli := hc.init.lookup
    have hbi := hc.init.bind (.ref s.heap.objs.size)
    repeat (any_goals (first | assumption | wp_step))
    let After : Value → Shared → Prop := fun r t => r = .none ∧ ∃ h' tk, t = { s with heap := h', toks := tk } ∧ h'.SetOf knd s.heap.objs.size (fun k => decide (k ∈ xs)) (met xs).length ∧
      (∀ b o, b < s.heap.objs.size → s.heap.get? b = some o → h'.get? b = some o)
    refine codeAny_mono (codeAny_call_builtin (R := wants After E) hc.init.plain PySem.F.entry_set_init (check_set_init_1 hT ?_)) fun r t hr => ?_
    · obtain ⟨⟨oc, od, ot, os⟩, hol, hcl, nl, hdl⟩ := hl
      obtain rfl : oc = _ := hcl
      obtain rfl : ot = _ := hdl
      have hol2 : (s.heap.push (ob led)).get? l = _ := Heap.get?_push_of_some _ hol
      have hl1 : (s.heap.push (ob led)).IsList l items := ⟨_, hol2, rfl, nl, rfl⟩
      have hs1 := PySem.F.sub_list_set
      have hs2 := PySem.F.sub_list_frozenset
      have hne : (Value.type "list" == Value.type "dict") = false := by decide
      have hlS : l < s.heap.objs.size := Heap.lt_size hol
      have h5 : A.in1.in1.in1.handled = none := by simp [hh]
      have z1 : (s.heap.push (ob led)).objs.size = s.heap.objs.size + 1 := Heap.size_push _ _
      have hI : l ≠ (s.heap.push (ob led)).objs.size := by rw [z1]; exact Nat.ne_of_lt (Nat.lt_succ_of_lt hlS)
      have hSf : s.heap.objs.size ∉ [(s.heap.push (ob led)).objs.size, l] := by
        rw [z1]; simp only [List.mem_cons, List.not_mem_nil, or_false, not_or]
        exact ⟨Nat.ne_of_lt (Nat.lt_succ_self _), Nat.ne_of_gt hlS⟩
      unfold Builtin.«set.__init__» noKeywords Builtin.Frozenset.updateFrom
      generalize hPI : pyIter = PI
      wp_walk
      subst hPI
      refine wpAny_pyIter_list hl1 ?_
      refine wpAny_bind (wpAny_runValue ?_)
      refine taken_all ((Walks.list h5 _ l hI items).toS) s.heap.objs.size hSf xs hn hb (fun i v hp => hv i v hp) (items.size - 0) 0 _ (by omega) (Nat.zero_le _) ⟨⟨_, Heap.get?_push_size _ rfl, rfl, rfl⟩, (hl1.push _)⟩ ?hS0 ?hR
      case hS0 =>
        have hget : ((s.heap.push (ob led)).push { cls := .type "list_iterator", data := .fields #[.ref l, .int 0 0] }).get? s.heap.objs.size = some (ob led) := Heap.get?_push_of_some _ hS
        exact setOf_to ((PyProof.Rows.setObjOf_fresh (knd := knd) led).setOf hget (by unfold scanBound; omega)) (fun _ => by simp) rfl
      case hR =>
        intro t hm hS'
        obtain ⟨h', g', d', tk', os'⟩ := t
        obtain rfl : g' = s.gens := hm.gens
        obtain rfl : d' = s.drawn := hm.drawn
        obtain rfl : os' = s.os := hm.os
        show wpAny _ _ _ _ _ _
        refine wpAny_pure ?_
        show wpAny _ _ (ret Value.none) _ _ _
        refine wpAny_pure ⟨rfl, h', tk', rfl, hS', fun b o hb e => hm.heap b o ?_ (Heap.get?_push_of_some _ (Heap.get?_push_of_some _ e))⟩
        simp only [List.mem_cons, List.not_mem_nil, or_false, not_or]
        exact ⟨Nat.ne_of_lt hb, by rw [z1]; exact Nat.ne_of_lt (Nat.lt_succ_of_lt hb)⟩
    · rcases r with e | fl
      · exact hr
      cases fl with
      | ret r =>
        obtain ⟨rfl, h', tk, rfl, hS', hk'⟩ := hr
        repeat (any_goals (first | assumption | wp_step))
        exact h _ _ hS' hk'
      | _ => exact hr.elim
  | _ => exact hr.elim
end

section
open L2
theorem strs_of : ∀ {ys : List Str} {us : List Value}, Vals (ys.map V.str) us → ∀ (i : Nat) v, us[i]? = some v → ∃ x t, ys[i]? = some x ∧ v = .str x t
  | [], _, .nil, i, v, h => by simp at h
  | y :: ys, _, .cons r t, 0, v, h => by
    obtain ⟨k, rfl⟩ := r
    simp at h
    exact ⟨y, k, rfl, h.symm⟩
  | y :: ys, _, .cons r t, i + 1, v, h => strs_of t i v (by simpa using h)
theorem ints_of : ∀ {ys : List Int} {us : List Value}, Vals (ys.map V.int) us → ∀ (i : Nat) v, us[i]? = some v → ∃ x t, ys[i]? = some x ∧ v = .int x t
  | [], _, .nil, i, v, h => by simp at h
  | y :: ys, _, .cons r t, 0, v, h => by
    obtain ⟨k, rfl⟩ := r
    simp at h
    exact ⟨y, k, rfl, h.symm⟩
  | y :: ys, _, .cons r t, i + 1, v, h => ints_of t i v (by simpa using h)
/-- how many unlike ones there are: all, or fewer -/
def Unlike {K : Type} (xs : List K) (Q : V → Prop) : Prop := ∀ m : Nat, (xs.Nodup → m = xs.length) → (¬ xs.Nodup → m < xs.length) → Q (.int (m : Nat))
def tLenU (K : PySem.W.Frag) (ta : TE) : TE := fun σ H Q => ta σ H fun x H1 => ∃ l, x = .ref l ∧
  ((∃ ns : List Int, SqL K H1 l (ns.map V.int) ∧ ns.length ≤ 4000 ∧ Unlike ns fun v => Q v H1) ∨ (∃ xs : List Str, SqL K H1 l (xs.map V.str) ∧ xs.length ≤ 4000 ∧ Unlike xs fun v => Q v H1))
theorem pe_lenU {X : Cx} {a : Expr} {ta : TE} {p p2 q pos : Pos} (hc : X.calm = true) (hg : Gl X "len") (hm : X.mg "len" = none) (hg2 : Gl X "set") (hm2 : X.mg "set" = none) (ha : PE X a ta)
    (na : starEach [a] X.env = (false, eval a X.env) :: starEach [] X.env := by rfl) : PE X (.Call (.Name "len" p) [.Call (.Name "set" p2) [a] [] q] [] pos) (tLenU X.K ta) := by
  refine ⟨fun pins s σ H Q I h => ?_⟩
  refine Call_ (ld_blt I hg hm PySem.boot_len ?_)
  refine PyProof.Rows.callWith_builtin1 (PyProof.Rows.args_cons ?_ rfl) rfl rfl
  refine Call_ (ld_blt I hg2 hm2 PyProof.Rows.boot_set ?_)
  refine PyProof.Rows.callWith_type1 (PyProof.Rows.args_cons (thn (ha.run pins s σ H _ I h) fun v s1 ⟨x, H1, I1, r1, q1⟩ => PyProof.Rows.args_nil ?_) na) na rfl
  obtain ⟨l, rfl, q1⟩ := q1
  cases r1
  have fin : ∀ {K : Type} [DecidableEq K] {knd : KeyKind X.prog X.w K} {xs : List K}, xs.length ≤ 4000 → Unlike xs (fun v => Q v H1) → ∀ (h' : Heap) (tk : Nat),
      h'.SetOf knd s1.heap.objs.size (fun k => decide (k ∈ xs)) (met xs).length → (∀ b o, b < s1.heap.objs.size → s1.heap.get? b = some o → h'.get? b = some o) →
      wpAny (model X.prog X.w) X.A (spliced (backTo pos (starEach [] X.env))) (fun vs s₂ => wpAny (model X.prog X.w) X.A (call (.builtin "len") (Value.ref s1.heap.objs.size :: vs)) (EP X pins σ Q) X.xe s₂) X.xe { s1 with heap := h', toks := tk } := fun {K} _ {knd xs} hl q h' tk hS hk => by
    refine PyProof.Rows.args_nil ?_
    have hle := met_le xs
    obtain ⟨o, es, ep, t, ho, hex, hd, _, _, _, hf, hn⟩ := hS
    have I2 : Inv X pins σ H1 { s1 with heap := h', toks := tk } := I1.kept fun b o e => hk b o (Heap.lt_size e) e
    refine call_len_set ho hex hd hf (by rw [hn] <;> omega) ⟨.int (met xs).length, H1, I2.tok _, ⟨_, by rw [hn]⟩, q _ met_eq met_lt⟩
  rcases q1 with ⟨ns, hq, hl, q⟩ | ⟨xs, hq, hl, q⟩
  · obtain ⟨its, r, pl, hz⟩ := I1.list hq
    have e : ns.length = its.toArray.size := by rw [List.size_toArray, ← r.length, List.length_map]
    exact call_set_keys (knd := intKind X.prog X.w) (I1.ok.hd hc) pl.isList e (fun i v hv => by
      obtain ⟨x, t, ex, rfl⟩ := ints_of r i v (by simpa using hv)
      exact ⟨x, ex, intKind_is _ _ _ _, rfl⟩) (by rw [← e]; unfold scanBound; omega) fun h' tk hS hk => fin hl q h' tk hS hk
  · obtain ⟨its, r, pl, hz⟩ := I1.list hq
    have e : xs.length = its.toArray.size := by rw [List.size_toArray, ← r.length, List.length_map]
    exact call_set_keys (knd := strKind X.prog X.w) (I1.ok.hd hc) pl.isList e (fun i v hv => by
      obtain ⟨x, t, ex, rfl⟩ := strs_of r i v (by simpa using hv)
      exact ⟨x, ex, strKind_is _ _ _ _, rfl⟩) (by rw [← e]; unfold scanBound; omega) fun h' tk hS hk => fin hl q h' tk hS hk
end
end BkS

set_option Elab.async false
set_option linter.all false
set_option maxRecDepth 100000
set_option maxHeartbeats 2000000
namespace Bk
open PySem PySem.Spec PyProof.Rows L2
/-! ### a class of the package: made within a try -/
structure OwnM (K : PySem.W.Frag) (m q : Str) (st : Stmt) (ps : List Str) (f : Addr) (fd : FuncData) : Prop where
  F : Fun K m q st f fd
  b : Binds K fd ps []
structure ClsT (K : PySem.W.Frag) (mg : Str → Option Value) (x : Str) (C f : Addr) : Prop where
  g : mg x = some (.ref C)
  M : Mk K C f
  cl : Cls K C
/-- the class, and what its __init__ promises -/
structure HasM (P : Program) (w : World) (K : PySem.W.Frag) (mg : Str → Option Value) (base : Heap) (x : Str) (ps : List Str) (lv : Nat) (CX : CXT) (sp : Sp) (C f : Addr) (fd : FuncData) : Prop where
  G : ∃ k, lv = k + 1 ∧ FnOk P w K mg base CX k f fd ps sp
  g : mg x = some (.ref C)
  M : Mk K C f
  b : Binds K fd ps []
section
variable {P : Program} {w : World} {K : PySem.W.Frag} {mg : Str → Option Value} {base : Heap} {x : Str} {ps : List Str} {C f : Addr} {fd : FuncData} {CX : CXT} {sp : Sp}
theorem HasM.mono {j i : Nat} (D : HasM P w K mg base x ps j CX sp C f fd) (h : j ≤ i) : HasM P w K mg base x ps i CX sp C f fd := by
  obtain ⟨⟨k, e, G⟩, g, M, b⟩ := D
  exact ⟨⟨i - 1, by omega, G.mono (by omega)⟩, g, M, b⟩
theorem HasM.of {k : Nat} {m q : Str} {st : Stmt} (T : ClsT K mg x C f) (O : OwnM K m q st ps f fd) (G : FnOk P w K mg base CX k f fd ps sp) : HasM P w K mg base x ps (k + 1) CX sp C f fd := ⟨⟨k, rfl, G⟩, T.g, T.M, O.b⟩
end
section
variable {X : Cx} {CX : CXT} {f C : Addr} {fd : FuncData} {ps : List Str} {sp : Sp} {E : L2.St → XK} {x : Str} {p pos : Pos} {e : Expr} {es : List Expr} {t : TA}
/-- what the new object's __init__ is handed: a bare object first -/
def spNew (C : Addr) (sp : Sp) : Sp := fun vs H Q E => ∀ a dx, H a = none → H dx = none → dx ≠ a → sp (.ref a :: vs) (upd (upd H dx (.own a)) a (.ins C dx [])) (fun v H2 => v = .non ∧ Q (.ref a) H2) E
theorem new_at {k : Nat} {pins : List (Addr × Obj)} {σ : L2.St} {H : Hp} {s : Shared} {Q : VK} {us : List Value} {vs : List V} (M : Mk X.K C f) (F : FnOk X.prog X.w X.K X.mg X.base CX k f fd ps sp) (hr : Room (k + 1) X.A) (hb : Binds X.K fd ps [])
    (hx : PassesAt CX X σ (E σ)) (I : Inv X pins σ H s) (r : Vals vs us) (h : spNew C sp vs H Q (E σ)) : wpAny (model X.prog X.w) X.A (call (.ref C) us) (EP X pins σ Q) X.xe s := by
  have q := h (s.heap.objs.size + 1) s.heap.objs.size (I.hok.fresh (Nat.le_succ _)) (I.hok.fresh (Nat.le_refl _)) (Nat.ne_of_lt (Nat.lt_succ_self _))
  have J := Inv.made (C := C) I
  have rr : Vals (V.ref (s.heap.objs.size + 1) :: vs) (Value.ref (s.heap.objs.size + 1) :: us) := .cons rfl r
  have hl : (Value.ref (s.heap.objs.size + 1) :: us).length = ps.length := rr.length.symm.trans (F.len _ _ _ _ q)
  have b := hb _ (Value.ref (s.heap.objs.size + 1) :: us) J.kIn (by rw [List.append_nil]; exact hl)
  rw [List.append_nil] at b
  have go := F.run _ X.stack _ _ ⟨Value.ref (s.heap.objs.size + 1) :: us, []⟩ _ _ _ (E σ) (hr.make C us []) (J.env0.make C us []) b rr q
  refine wpAny_call (make_map (f := f) I.kIn M.makes M.init (beq_iff_eq.mp M.fn) (codeAny_mono go fun r s' hq => ?_))
  rcases r with e | fl
  · exact hx pins _ _ e s' J hq
  cases fl with
  | ret u =>
    obtain ⟨v, H', I3, rv, ev, z⟩ := J.after hq
    subst ev
    exact ⟨rv, ⟨.ref (s.heap.objs.size + 1), H', I3, rfl, z⟩⟩
  | _ => exact False.elim hq
theorem pe_new {lv : Nat} (D : HasM X.prog X.w X.K X.mg X.base x ps lv CX sp C f fd) (hr : Room lv X.A) (hg : Gl X x) (hx : ∀ σ, PassesAt CX X σ (E σ)) (ha : PA X (e :: es) t)
    (hdb : (x == ("__debug__" : Str)) = false := by decide) (he : starEach (e :: es) X.env = (false, eval e X.env) :: starEach es X.env := by rfl) (hpl : (backTo pos (starEach es X.env)).any (·.1) = false := by rfl) :
    PE X (.Call (.Name x p) (e :: es) [] pos) (tCallS (spNew C sp) E t) := by
  obtain ⟨⟨k, rfl, G⟩, g, M, b⟩ := D
  refine ⟨fun pins s σ H Q I h => ?_⟩
  refine wpAny_Call_Name_kw (ld_glob I hg g ?_ hdb)
  exact PySem.W.callWith_K (h₀ := X.base) I.ok.mod.kin M.kp (thn (ha.run pos pins s σ H _ I h) fun us s1 ⟨vs, H1, I1, r, q⟩ => ⟨I1.kIn, new_at M G hr b (hx σ) I1 r q⟩) he hpl
end
/-! ### comprehensions over a list that stays -/
/-- so far fs of the xs stand in the new list, and all else as it stood -/
structure Comp (H0 : Hp) (D : Addr) (R : Nat → V → Hp → Prop) (i : Nat) (H : Hp) : Prop where
  e : Same H0 H
  n : H0 D = none
  acc : ∃ ys, H D = some (.lst ys) ∧ ys.length = i ∧ ∀ j y, ys[j]? = some y → R j y H
theorem Comp.start {H : Hp} {D : Addr} {R : Nat → V → Hp → Prop} (n : H D = none) : Comp H D R 0 (upd H D (.lst [])) := ⟨same_new n, n, [], upd_same, rfl, fun j y h => by simp at h⟩
theorem Comp.next {H0 H H' : Hp} {D : Addr} {R : Nat → V → Hp → Prop} {i : Nat} {y : V} (hR : ∀ j y Ha Hb, R j y Ha → (∀ b o, b ≠ D → Ha b = some o → Hb b = some o) → R j y Hb) (c : Comp H0 D R i H) (e : Same H H') (hi : i < 4000) (q : R i y H') :
    ∃ acc, H' D = some (.lst acc) ∧ acc.length < sizeLine ∧ Comp H0 D R (i + 1) (upd H' D (.lst (acc ++ [y]))) := by
  obtain ⟨e0, n, ys, h, hl, hy⟩ := c
  have k1 : ∀ b o, b ≠ D → H b = some o → upd H' D (.lst (ys ++ [y])) b = some o := fun b o hb z => by rw [upd_ne hb]; exact e _ _ z
  have k2 : ∀ b o, b ≠ D → H' b = some o → upd H' D (.lst (ys ++ [y])) b = some o := fun b o hb z => by rw [upd_ne hb]; exact z
  refine ⟨ys, e _ _ h, Nat.lt_of_lt_of_le (show ys.length < 4000 by omega) (by decide), fun b o z => ?_, n, ys ++ [y], upd_same, by rw [List.length_append, hl]; rfl, fun j v z => ?_⟩
  · have hb : b ≠ D := fun h => by rw [h, n] at z; cases z
    exact k1 b o hb (e0 _ _ z)
  · rcases Nat.lt_or_ge j ys.length with lt | ge
    · rw [List.getElem?_append_left lt] at z
      exact hR j v H _ (hy j v z) k1
    · rw [List.getElem?_append_right ge] at z
      obtain ⟨rfl, rfl⟩ : j = i ∧ v = y := by
        rcases Nat.eq_zero_or_pos (j - ys.length) with h0 | h0
        · rw [h0] at z
          exact ⟨by omega, (Option.some.inj z).symm⟩
        · rw [List.getElem?_eq_none (by simp; omega)] at z; cases z
      exact hR _ _ H' _ q k2
def rTupOf (K : PySem.W.Frag) : List V → Hp → VK → Prop := fun xs H Q => ∃ p ys, xs = [.ref p] ∧ ((SqL K H p ys ∧ ∀ l, H l = none → Q (.ref l) (upd H l (.tup ys))) ∨ (SqT K H p ys ∧ Q (.ref p) H))
def rLstOf (K : PySem.W.Frag) : List V → Hp → VK → Prop := fun xs H Q => ∃ p ys, xs = [.ref p] ∧ (SqL K H p ys ∨ SqT K H p ys) ∧ ∀ l, H l = none → Q (.ref l) (upd H l (.lst ys))
theorem callTupOf {X : Cx} : CallR X (.type "tuple") (rTupOf X.K) := call_tuple_of
theorem callLstOf {X : Cx} : CallR X (.type "list") (rLstOf X.K) := call_list_of
end Bk

set_option Elab.async false
set_option linter.all false
set_option maxRecDepth 100000
set_option maxHeartbeats 2000000
namespace Bk
open PySem PySem.Spec PyProof.Rows L2
def isx (i : Int) : Str := toString i
def rStrA : List V → Hp → VK → Prop := fun xs H Q => (∃ i, xs = [.int i] ∧ i.natAbs.log2 < 1920 ∧ Q (.str (isx i)) H) ∨ (∃ a, xs = [.str a] ∧ Q (.str a) H)
theorem call_strA {X : Cx} : CallR X (.type "str") rStrA := by
  intro pins s τ G xs us W I r h
  rcases h with h | h
  · exact call_str_int pins s τ G xs us W I r h
  · exact SkE.call_str_str pins s τ G xs us W I r h
end Bk

set_option Elab.async false
set_option linter.all false
set_option maxRecDepth 100000
set_option maxHeartbeats 2000000
namespace Bk
open PySem PySem.Spec PyProof.Rows L2
/-- zip of two tuples -/
theorem walk_zipT {K : PySem.W.Frag} {a b : Addr} {xs ys : List V} {n : Nat} (hn : n = min xs.length ys.length) : Walk (RZ.ItzT K a b) n (fun H => SqT K H a xs ∧ SqT K H b ys) (YPair (fun i => xs[i]?) (fun i => ys[i]?)) := by
  subst hn
  refine ⟨fun i _ hi q => ?_, fun _ q => ⟨xs, ys, q.1, q.2, by omega⟩, fun i H v H' _ q y => ?_⟩
  · have h1 : i < xs.length := by omega
    have h2 : i < ys.length := by omega
    exact ⟨xs, ys, xs[i], ys[i], q.1, q.2, by simp [h1], by simp [h2]⟩
  · obtain ⟨T, x, z, h1, h2, h3, h4, h5⟩ := y
    exact ⟨T, x, z, h1, h2, h3, h4 xs q.1, h5 ys q.2⟩
/-- a dict of the module that tells the forms: read at a word -/
theorem FTab.at {K : PySem.W.Frag} {w : World} {mg : Str → Option Value} {n : Str} {L : Forms} {d : Addr} (F : FTab K w mg n L d) {z : Str} {ks : List Str} (h : formOf L z = some ks) :
    ∃ a : Addr, KDct K w d z (.ref a) ∧ ∀ H, SqT K H a (ks.map V.str) := by
  obtain ⟨g, ⟨es, c, k⟩, ok⟩ := F
  have q := tabOk_ns ok z
  rw [h] at q
  obtain ⟨a, q1, q2⟩ := q
  exact ⟨a, ⟨es, c, _, k.at_, k.lit, q1, rfl⟩, q2⟩
/-- a tuple of texts of the module -/
structure TupC (K : PySem.W.Frag) (mg : Str → Option Value) (n : Str) (ks : List Str) (d : Addr) : Prop where
  g : mg n = some (.ref d)
  ok : tupOk K d ks = true
theorem TupC.sq {K : PySem.W.Frag} {mg : Str → Option Value} {n : Str} {ks : List Str} {d : Addr} (T : TupC K mg n ks d) (H : Hp) : SqT K H d (ks.map V.str) := tupOk_sq T.ok H
theorem use_isDict {K : PySem.W.Frag} {H : Hp} {v : V} {d : PyData} {Q : VK} (h : Dp K H v d) (q : Q (.bl false) H) : rIsi K [v, .ty "dict"] H Q := ⟨v, .ty "dict", _, _, false, rfl, .ty _, ty_of h, kit_ty (by cases h with | non => exact (by decide +kernel : kitB "NoneType" "dict" = some false) | bl _ => exact (by decide +kernel : kitB "bool" "dict" = some false) | int _ => exact (by decide +kernel : kitB "int" "dict" = some false) | str _ => exact (by decide +kernel : kitB "str" "dict" = some false) | lst _ _ => exact (by decide +kernel : kitB "list" "dict" = some false) | tup _ _ => exact (by decide +kernel : kitB "tuple" "dict" = some false)), q⟩
theorem inTwo (s a b : Str) : inV (.str s) [.str a, .str b] = decide (s = a ∨ s = b) := by
  have e : ∀ a b : Str, (a == b) = decide (b = a) := fun a b => by
    by_cases c : a = b
    · subst c; simp
    · rw [decide_eq_false (fun z => c z.symm)]
      simpa using c
  simp only [inV, List.any_cons, List.any_nil, eqV, e, Bool.or_false, Bool.decide_or]
/-! ### data that are alike -/
def aOk : Nat → PyData → Prop
  | _ + 1, .none => True
  | _ + 1, .bool _ => True
  | _ + 1, .int _ => True
  | _ + 1, .str _ => True
  | n + 1, .list ds => ds.length ≤ 2000 ∧ ∀ d ∈ ds, aOk n d
  | n + 1, .tuple ds => ds.length ≤ 2000 ∧ ∀ d ∈ ds, aOk n d
  | _, _ => False
def spAlike (K : PySem.W.Frag) (n : Nat) : Sp := fun vs H Q _ => ∃ (v u : V) (d : PyData), vs = [v, u] ∧ Dp K H v d ∧ Dp K H u d ∧ aOk n d ∧ ∀ H', Same H H' → Q (.bl true) H'
theorem use_alike {K : PySem.W.Frag} {n : Nat} {v u : V} {d : PyData} {H : Hp} {Q : VK} {E : XK} (h1 : Dp K H v d) (h2 : Dp K H u d) (k : aOk n d) (q : ∀ H', Same H H' → Q (.bl true) H') : spAlike K n ([v, u] ++ []) H Q E := ⟨v, u, d, rfl, h1, h2, k, q⟩
theorem none_alike {P : Program} {w : World} {K : PySem.W.Frag} {mg : Str → Option Value} {base : Heap} {f : Addr} {fd : FuncData} {ps : List Str} : FnOk P w K mg base CX0 0 f fd ps (spAlike K 0) := by
  have no : ∀ vs H Q E, ¬ spAlike K 0 vs H Q E := fun vs H Q E h => by
    obtain ⟨v, u, d, _, _, _, h1, _⟩ := h
    cases d <;> exact h1
  exact ⟨fun vs H Q E h => absurd h (no vs H Q E), fun A outer s H args us vs Q E _ _ _ _ h => absurd h (no vs H Q E)⟩
end Bk

set_option maxHeartbeats 4000000
namespace Bk
open PySem PySem.Spec PyProof.Rows L2
local macro_rules
  | `(tactic| walk_at "go") => `(tactic| repeat (first
      | with_reducible refine g_seq ?_
      | with_reducible refine g_next ?_
      | with_reducible refine g_asg ?_
      | with_reducible refine g_name ?_
      | with_reducible refine g_ret ?_
      | with_reducible refine g_drop ?_
      | with_reducible refine g_ifs ?_
      | with_reducible refine g_if ?_
      | with_reducible refine g_c ?_
      | ((with_reducible refine (?_ : tVar _ _ _ _)); refine ⟨_, rfl, ?_⟩)
      | with_reducible refine g_op ?_
      | with_reducible refine g_un ?_
      | with_reducible refine g_I0 ?_
      | with_reducible refine g_neg ?_
      | with_reducible refine g_eqI ?_
      | with_reducible refine g_eqS ?_
      | with_reducible refine g_neI ?_
      | with_reducible refine g_neS ?_
      | with_reducible refine g_eqB ?_
      | with_reducible refine g_neB ?_
      | with_reducible refine g_test ?_
      | with_reducible refine g_b ?_
      | with_reducible refine g_and ?_
      | with_reducible refine g_or ?_
      | with_reducible refine g_not ?_
      | with_reducible refine g_andV ?_
      | with_reducible refine g_orV ?_
      | with_reducible refine g_notV ?_
      | with_reducible refine iteT ?_
      | with_reducible refine iteF ?_
      | with_reducible refine iteNF ?_
      | with_reducible refine iteNT ?_
      | with_reducible refine ⟨_, rfl, ?_⟩
      | with_reducible refine ⟨rfl, ?_⟩
      | with_reducible refine ⟨_, _, rfl, rfl, ?_⟩
      | with_reducible refine ⟨_, _, rfl, ?_⟩
      | with_reducible refine g_call ?_
      | with_reducible refine g_cb ?_
      | with_reducible refine g_cons ?_
      | with_reducible refine g_nil ?_
      | with_reducible refine g_chain ?_
      | with_reducible refine g_dget ?_
      | with_reducible refine g_dput ?_
      | with_reducible refine g_tup ?_
      | with_reducible refine g_lst ?_
      | with_reducible refine g_bm ?_
      | with_reducible refine g_disp ?_
      | with_reducible refine g_pairs0 ?_
      | with_reducible refine g_pairs ?_
      | with_reducible refine g_for ?_
      | with_reducible refine g_gcons ?_
      | with_reducible refine g_gnil ?_
      | with_reducible refine g_rng1 ?_
      | with_reducible refine g_rng2 ?_
      | with_reducible refine g_ilist ?_
      | with_reducible refine g_itup ?_
      | with_reducible refine g_lc ?_
      | with_reducible refine g_yes ?_
      | with_reducible refine g_sl ?_
      | with_reducible refine g_nopart ?_
      | with_reducible refine g_part ?_
      | with_reducible refine g_bm0 ?_
      ))

local macro_rules
  | `(tactic| walk_at "ev") => `(tactic| repeat' (first
      | exact eva_nil
      | apply eva_cons
      | exact evd_str _
      | exact evd_int _
      | exact evd_bl _
      | exact evd_non
      | exact evd_var rfl
      | apply evd_tup
      | apply evd_lst
      | apply evd_I0
      | apply evd_I
      | apply evd_neg
      | exact Nat.le_of_ble_eq_true rfl
      | decide
      | exact ⟨by decide, by decide, by decide⟩))
def topS (i : Nat) : Stmt := PySem.Challenge.pw_contractbook_k17_parted_as_told.main.body.getD i (.Pass ⟨0, 0, 0, 0⟩)
/-! ### the law's own drawing: what stands in the dict of the script -/
structure Cfg where
  sz : Int
  pl : Int
  tu : Int
  ta : Int
structure Cfg.Ok (c : Cfg) : Prop where
  sz1 : 1 ≤ c.sz
  sz8 : c.sz ≤ 8
  pl0 : 0 ≤ c.pl
  plz : c.pl < c.sz
  tu0 : 0 ≤ c.tu
  tuz : c.tu < 26
  ta : c.ta = 0 ∨ c.ta = 1
def sd (c : Cfg) (na nm : Addr) (n re mx : Int) : List (Key × V) :=
  [(.inr "numbers", .ref na), (.inr "at", .int n), (.inr "size", .int c.sz), (.inr "place", .int c.pl), (.inr "turn", .int c.tu), (.inr "talk", .int c.ta), (.inr "rest", .int re), (.inr "names", .ref nm), (.inr "mixed", .int mx)]
structure LS (K : PySem.W.Frag) (c : Cfg) (ns : List Int) (xs : List Str) (s na nm : Addr) (H : Hp) : Prop where
  st : ∃ n re mx : Int, H s = some (.dK (sd c na nm n re mx)) ∧ 0 ≤ n ∧ 0 ≤ re ∧ 0 ≤ mx ∧ mx < 2147483647
  num : SqL K H na (ns.map V.int)
  nms : SqL K H nm (xs.map V.str)
  ok : c.Ok
  len : ns.length ≤ 63
  few : xs.length ≤ 8
theorem LS.same {K : PySem.W.Frag} {c : Cfg} {ns : List Int} {xs : List Str} {s na nm : Addr} {H H' : Hp} (L : LS K c ns xs s na nm H) (e : Same H H') : LS K c ns xs s na nm H' := by
  obtain ⟨⟨n, re, mx, h, r⟩, h1, h2, h3, h4, h5⟩ := L
  exact ⟨⟨n, re, mx, e _ _ h, r⟩, e.seq h1, e.seq h2, h3, h4, h5⟩
theorem LS.put {K : PySem.W.Frag} {c : Cfg} {ns : List Int} {xs : List Str} {s na nm : Addr} {H : Hp} (L : LS K c ns xs s na nm H) {n re mx : Int} (h0 : 0 ≤ n) (h1 : 0 ≤ re) (h2 : 0 ≤ mx) (h3 : mx < 2147483647) :
    LS K c ns xs s na nm (upd H s (.dK (sd c na nm n re mx))) := by
  obtain ⟨⟨n', re', mx', h, r⟩, g1, g2, g3, g4, g5⟩ := L
  exact ⟨⟨n, re, mx, upd_same, h0, h1, h2, h3⟩, KB.seq KB.upd h g1, KB.seq KB.upd h g2, g3, g4, g5⟩
theorem LS.tm {K : PySem.W.Frag} {c : Cfg} {ns : List Int} {xs : List Str} {s na nm : Addr} {H H' : Hp} (L : LS K c ns xs s na nm H) (e : KB s H H') : TM K H H' := by
  obtain ⟨⟨n, re, mx, h, r⟩, _⟩ := L
  exact e.tm h
/-- a number is taken: 0 up to m -/
def spTaken (K : PySem.W.Frag) : Sp := fun vs H Q _ => ∃ (c : Cfg) (ns : List Int) (xs : List Str) (s na nm : Addr) (m : Int), vs = [.ref s, .int m] ∧ LS K c ns xs s na nm H ∧ 0 < m ∧ m ≤ 10000000000000 ∧
  ∀ (r : Int) (H' : Hp), 0 ≤ r → r < m → KB s H H' → LS K c ns xs s na nm H' → Q (.int r) H'
theorem use_taken {K : PySem.W.Frag} {c : Cfg} {ns : List Int} {xs : List Str} {s na nm : Addr} {m : Int} {H : Hp} {Q : VK} {E : XK} (L : LS K c ns xs s na nm H) (h0 : 0 < m) (h1 : m ≤ 10000000000000)
    (q : ∀ (r : Int) (H' : Hp), 0 ≤ r → r < m → KB s H H' → LS K c ns xs s na nm H' → Q (.int r) H') : spTaken K ([.ref s, .int m] ++ []) H Q E := ⟨c, ns, xs, s, na, nm, m, rfl, L, h0, h1, q⟩
theorem log_small {i m : Int} (h0 : 0 < m) (h1 : m ≤ 10000000000000) : CDivW i m := wide_div (b := 64) h0 (by omega) (by decide) (by decide)
section
variable {P : Program} {w : World} {K : PySem.W.Frag} {mg : Str → Option Value} {base : Heap}
abbrev s__law_taken : Stmt := topS 11
theorem sc__law_taken : FnScope ["_law_s", "_law_most", "_law_found", "_law_number_here"] ["_law_s", "_law_most"] (defScope s__law_taken) := ⟨rfl, rfl, rfl, by decide +kernel, rfl, by decide +kernel, by decide +kernel⟩
theorem h__law_taken {k : Nat} {f : Addr} {fd : FuncData} (O : Own K mg "_law_taken" s__law_taken ["_law_s", "_law_most"] f fd)  (m_len : mg "len" = none) (m_int : mg "int" = none) : Has P w K mg base "_law_taken" ["_law_s", "_law_most"] (k + 1) CX0 (spTaken K) f fd := by
  refine O.has (O.F.ok sc__law_taken (fun vs H Q E h => ?_) (fun cdv A outer s H vs Q E hr h => ?_))
  · obtain ⟨c, ns, xs, s, na, nm, m, rfl, _⟩ := h
    rfl
  obtain ⟨c, ns, xs, s, na, nm, m, rfl, L, h0, h1, q⟩ := h
  obtain ⟨n, re, mx, hs, g0, g1, g2, g3⟩ := L.st
  refine ⟨_, (pss_cons (ps_if (pt_cmpR op_gt (pe_dget (hu_of hr) (pv 0) pe_str (fun _ _ => rfl)) pe_int (nomark _)) (pss_cons (ps_set (i := 2) sc__law_taken.nd rfl (.inl rfl) (pe_op op_mod (pe_dget (hu_of hr) (pv 0) pe_str (fun _ _ => rfl)) (pv 1))) (pss_cons (ps_dput (hu_of hr) (pv 0) pe_str (pe_op op_fdivW (pe_dget (hu_of hr) (pv 0) pe_str (fun _ _ => rfl)) (pv 1)) (by rfl)) (pss_one (ps_ret (pv 2))))) pss_nil) (pss_cons (ps_dput (hu_of hr) (pv 0) pe_str (pe_op op_add (pe_dget (hu_of hr) (pv 0) pe_str (fun _ _ => rfl)) pe_int) (by rfl)) (pss_cons (ps_if (pt_cmpR op_le (pe_dget (hu_of hr) (pv 0) pe_str (fun _ _ => rfl)) (pe_callB call_len_seq (by rfl) m_len (by decide +kernel) (pa_cons (pe_dget (hu_of hr) (pv 0) pe_str (fun _ _ => rfl)) pa_nil)) (nomark _)) (pss_cons (ps_set (i := 3) sc__law_taken.nd rfl (.inl rfl) (pe_ix ix_list (pe_dget (hu_of hr) (pv 0) pe_str (fun _ _ => rfl)) (pe_op op_sub (pe_dget (hu_of hr) (pv 0) pe_str (fun _ _ => rfl)) pe_int) (fun _ _ => rfl))) (pss_cons (ps_dput (hu_of hr) (pv 0) pe_str (pe_op op_mul (pe_op op_fdivW (pv 3) (pv 1)) (pe_callTy call_int1 (by rfl) m_int (by decide +kernel) (pa_cons (pe_cmpR op_ge (pv 3) (pe_op op_pow pe_int pe_int) (nomark _)) pa_nil))) (by rfl)) (pss_one (ps_ret (pe_op op_mod (pv 3) (pv 1)))))) pss_nil) (pss_cons (ps_dput (hu_of hr) (pv 0) pe_str (pe_op op_mod (pe_op op_mul (pe_dget (hu_of hr) (pv 0) pe_str (fun _ _ => rfl)) pe_int) pe_int) (by rfl)) (pss_one (ps_ret (pe_ifExp (pt_cmpR op_gt (pv 1) (pe_op op_pow pe_int pe_int) (nomark _)) (pe_op op_mod (pe_op op_pow (pe_op op_fdivW (pe_dget (hu_of hr) (pv 0) pe_str (fun _ _ => rfl)) pe_int) pe_int) (pv 1)) (pe_op op_mod (pe_op op_fdivW (pe_dget (hu_of hr) (pv 0) pe_str (fun _ _ => rfl)) pe_int) (pv 1))))))))), ?_⟩
  walk_at "go"
  refine g_key hs (by rfl) ?_
  walk_at "go"
  refine ifd (fun c1 => ?_) (fun c1 => ?_)
  · walk_at "go"
    refine g_key hs (by rfl) ?_
    walk_at "go"
    refine g_I h0 ?_
    walk_at "go"
    refine g_key hs (by rfl) ?_
    walk_at "go"
    refine g_I (log_small h0 h1) ?_
    walk_at "go"
    refine g_put hs (by show 9 < sizeLine; decide) (by rfl) ?_
    walk_at "go"
    exact q _ _ (Int.emod_nonneg _ (by omega)) (Int.emod_lt_of_pos _ h0) KB.upd (L.put g0 (Int.ediv_nonneg g1 (by omega)) g2 g3)
  walk_at "go"
  refine g_key hs (by rfl) ?_
  walk_at "go"
  refine g_put hs (by show 9 < sizeLine; decide) (by rfl) ?_
  have L2 := L.put (n := n + 1) (re := re) (mx := mx) (by omega) g1 g2 g3
  have hs2 : (upd H s (.dK (sd c na nm (n + 1) re mx))) s = some (.dK (sd c na nm (n + 1) re mx)) := upd_same
  walk_at "go"
  refine g_key hs2 (by rfl) ?_
  walk_at "go"
  refine g_key hs2 (by rfl) ?_
  walk_at "go"
  refine ⟨_, _, rfl, .inl L2.num, ?_⟩
  walk_at "go"
  refine ifd (fun c2 => ?_) (fun c2 => ?_)
  · walk_at "go"
    refine g_key hs2 (by rfl) ?_
    walk_at "go"
    refine g_key hs2 (by rfl) ?_
    walk_at "go"
    rw [List.length_map] at c2
    have hk : n.toNat < ns.length := by omega
    refine ⟨_, _, _, .int ns[n.toNat], rfl, rfl, L2.num, at_of (j := n.toNat) (by omega) (by rw [List.getElem?_map, List.getElem?_eq_getElem hk]; rfl), ?_⟩
    generalize ns[n.toNat] = z
    walk_at "go"
    refine g_I (log_small h0 h1) ?_
    walk_at "go"
    refine g_I ⟨by decide, by decide, by decide⟩ ?_
    walk_at "go"
    refine .inr ⟨_, rfl, ?_⟩
    refine g_I (.inr (by split <;> decide)) ?_
    walk_at "go"
    refine g_put hs2 (by show 9 < sizeLine; decide) (by rfl) ?_
    walk_at "go"
    refine g_I h0 ?_
    rw [upd_upd]
    refine q _ _ (Int.emod_nonneg _ (by omega)) (Int.emod_lt_of_pos _ h0) KB.upd (L.put (by omega) ?_ g2 g3)
    by_cases hz : (10 : Int) ^ (18 : Int).toNat ≤ z
    · rw [decide_eq_true hz]
      have : 0 ≤ z := Int.le_trans (by decide) hz
      exact Int.mul_nonneg (Int.ediv_nonneg this (by omega)) (by decide)
    · rw [decide_eq_false hz]
      simp
  walk_at "go"
  refine g_key hs2 (by rfl) ?_
  walk_at "go"
  refine g_I (.inl (by omega)) ?_
  walk_at "go"
  refine g_I (by decide) ?_
  walk_at "go"
  refine g_put hs2 (by show 9 < sizeLine; decide) (by rfl) ?_
  rw [upd_upd]
  have b0 : 0 ≤ mx * 48271 % 2147483647 := Int.emod_nonneg _ (by decide)
  have b1 : mx * 48271 % 2147483647 < 2147483647 := Int.emod_lt_of_pos _ (by decide)
  generalize mx * 48271 % 2147483647 = my at b0 b1 ⊢
  have L3 := L.put (n := n + 1) (re := re) (mx := my) (by omega) g1 b0 b1
  have hs3 : (upd H s (.dK (sd c na nm (n + 1) re my))) s = some (.dK (sd c na nm (n + 1) re my)) := upd_same
  walk_at "go"
  refine g_I ⟨by decide, by decide, by decide⟩ ?_
  walk_at "go"
  refine ifd (fun c3 => ?_) (fun c3 => ?_)
  · walk_at "go"
    refine g_key hs3 (by rfl) ?_
    walk_at "go"
    refine g_I ⟨by decide, by decide⟩ ?_
    walk_at "go"
    refine g_I ⟨by decide, by decide, by omega⟩ ?_
    walk_at "go"
    refine g_I h0 ?_
    exact q _ _ (Int.emod_nonneg _ (by omega)) (Int.emod_lt_of_pos _ h0) KB.upd L3
  · walk_at "go"
    refine g_key hs3 (by rfl) ?_
    walk_at "go"
    refine g_I ⟨by decide, by decide⟩ ?_
    walk_at "go"
    refine g_I h0 ?_
    exact q _ _ (Int.emod_nonneg _ (by omega)) (Int.emod_lt_of_pos _ h0) KB.upd L3
end

/-! ### words, numbers -/
def wordsL : List Str := ["none", "give", "both", "turned", "later", "often", "if", "num", "read", "plus", "below", "all"]
def wd (c : Cfg) (k : Int) : Str := if c.ta = 1 ∧ k < 12 then wordsL.getD k.toNat "none" else rp 113 c.pl ++ ⟨#[97 + ((k + c.tu) % 26).toNat]⟩ ++ rp 113 (c.sz - c.pl - 1)
theorem letters_at : ∀ j : Fin 26, (Str.ofString "abcdefghijklmnopqrstuvwxyz").cps.toList[j.val]? = some (97 + j.val) := by decide +kernel
theorem app_len (a b : Str) : (a ++ b).length = a.length + b.length := by
  show (a.cps ++ b.cps).size = a.cps.size + b.cps.size
  simp
def spWord (K : PySem.W.Frag) : Sp := fun vs H Q _ => ∃ (c : Cfg) (ns : List Int) (xs : List Str) (s na nm : Addr) (k : Int), vs = [.ref s, .int k] ∧ LS K c ns xs s na nm H ∧ 0 ≤ k ∧ k ≤ 1000 ∧ ∀ H', Same H H' → Q (.str (wd c k)) H'
theorem use_word {K : PySem.W.Frag} {c : Cfg} {ns : List Int} {xs : List Str} {s na nm : Addr} {k : Int} {H : Hp} {Q : VK} {E : XK} (L : LS K c ns xs s na nm H) (h0 : 0 ≤ k) (h1 : k ≤ 1000) (q : ∀ H', Same H H' → Q (.str (wd c k)) H') :
    spWord K ([.ref s, .int k] ++ []) H Q E := ⟨c, ns, xs, s, na, nm, k, rfl, L, h0, h1, q⟩
def spNumber (K : PySem.W.Frag) : Sp := fun vs H Q _ => ∃ (c : Cfg) (ns : List Int) (xs : List Str) (s na nm : Addr), vs = [.ref s] ∧ LS K c ns xs s na nm H ∧
  ∀ (r : Int) (H' : Hp), -1000000000000 < r → r < 1000000000000 → KB s H H' → LS K c ns xs s na nm H' → Q (.int r) H'
theorem use_number {K : PySem.W.Frag} {c : Cfg} {ns : List Int} {xs : List Str} {s na nm : Addr} {H : Hp} {Q : VK} {E : XK} (L : LS K c ns xs s na nm H)
    (q : ∀ (r : Int) (H' : Hp), -1000000000000 < r → r < 1000000000000 → KB s H H' → LS K c ns xs s na nm H' → Q (.int r) H') : spNumber K ([.ref s] ++ []) H Q E := ⟨c, ns, xs, s, na, nm, rfl, L, q⟩
section
variable {P : Program} {w : World} {K : PySem.W.Frag} {mg : Str → Option Value} {base : Heap}
abbrev s__law_word : Stmt := topS 12
theorem sc__law_word : FnScope ["_law_s", "_law_k", "_law_words", "_law_sign"] ["_law_s", "_law_k"] (defScope s__law_word) := ⟨rfl, rfl, rfl, by decide +kernel, rfl, by decide +kernel, by decide +kernel⟩
theorem h__law_word {k : Nat} {f : Addr} {fd : FuncData} (O : Own K mg "_law_word" s__law_word ["_law_s", "_law_k"] f fd)  : Has P w K mg base "_law_word" ["_law_s", "_law_k"] (k + 1) CX0 (spWord K) f fd := by
  refine O.has (O.F.ok sc__law_word (fun vs H Q E h => ?_) (fun cdv A outer s H vs Q E hr h => ?_))
  · obtain ⟨c, ns, xs, s, na, nm, k, rfl, _⟩ := h
    rfl
  obtain ⟨c, ns, xs, s, na, nm, k, rfl, L, h0, h1, q⟩ := h
  obtain ⟨n, re, mx, hs, g0, g1, g2, g3⟩ := L.st
  have c0 := L.ok
  refine ⟨_, (pss_cons (ps_if (PW.pt (pw_and (pt_cmpR op_eq (pe_dget (hu_of hr) (pv 0) pe_str (fun _ _ => rfl)) pe_int (nomark _)) (pw_and1 (pt_cmpR op_lt (pv 1) pe_int (nomark _))))) (pss_cons (ps_set (i := 2) sc__law_word.nd rfl (.inl rfl) (pe_lst (pa_cons pe_str (pa_cons pe_str (pa_cons pe_str (pa_cons pe_str (pa_cons pe_str (pa_cons pe_str (pa_cons pe_str (pa_cons pe_str (pa_cons pe_str (pa_cons pe_str (pa_cons pe_str (pa_cons pe_str pa_nil)))))))))))))) (pss_one (ps_ret (pe_ix ix_list (pv 2) (pv 1) (fun _ _ => rfl))))) pss_nil) (pss_cons (ps_set (i := 3) sc__law_word.nd rfl (.inl rfl) (pe_ix ix_str pe_str (pe_op op_mod (pe_op op_add (pv 1) (pe_dget (hu_of hr) (pv 0) pe_str (fun _ _ => rfl))) pe_int) (fun _ _ => rfl))) (pss_one (ps_ret (pe_op op_add_str (pe_op op_add_str (pe_op op_rep_str pe_str (pe_dget (hu_of hr) (pv 0) pe_str (fun _ _ => rfl))) (pv 3)) (pe_op op_rep_str pe_str (pe_op op_sub (pe_op op_sub (pe_dget (hu_of hr) (pv 0) pe_str (fun _ _ => rfl)) (pe_dget (hu_of hr) (pv 0) pe_str (fun _ _ => rfl))) pe_int))))))), ?_⟩
  have tail : ∀ (H1 : Hp), Same H H1 → ¬ (c.ta = 1 ∧ k < 12) → Q (.str (rp 113 c.pl ++ ⟨#[97 + ((k + c.tu) % 26).toNat]⟩ ++ rp 113 (c.sz - c.pl - 1))) H1 := fun H1 e hc => by
    have z := q H1 e
    unfold wd at z
    rw [if_neg hc] at z
    exact z
  walk_at "go"
  refine g_key hs (by rfl) ?_
  walk_at "go"
  refine and_cut (k < 12) (fun hc => ?_) (fun c1 back => ?_)
  · walk_at "go"
    refine g_key hs (by rfl) ?_
    walk_at "go"
    refine g_I (by decide) ?_
    have b0 : 0 ≤ (k + c.tu) % 26 := Int.emod_nonneg _ (by decide)
    have b1 : (k + c.tu) % 26 < 26 := Int.emod_lt_of_pos _ (by decide)
    have bn : ((k + c.tu) % 26).toNat < 26 := by omega
    refine ⟨_, (k + c.tu) % 26, 97 + ((k + c.tu) % 26).toNat, rfl, rfl, by decide +kernel, at_any (j := ((k + c.tu) % 26).toNat) (by omega) (letters_at ⟨((k + c.tu) % 26).toNat, bn⟩), ?_⟩
    walk_at "go"
    refine g_key hs (by rfl) ?_
    have p0 := c0.pl0
    have p1 := c0.plz
    have p2 := c0.sz8
    refine ⟨113, c.pl, rfl, rfl, p0, by omega, ?_⟩
    walk_at "go"
    have e1 : (rp 113 c.pl).length ≤ 8 := by rw [rp_len]; omega
    have e2 : (⟨#[97 + ((k + c.tu) % 26).toNat]⟩ : Str).length = 1 := rfl
    have hz : (1000 : Nat) ≤ sizeLine := by decide
    refine ⟨by omega, ?_⟩
    walk_at "go"
    refine g_key hs (by rfl) ?_
    walk_at "go"
    refine g_key hs (by rfl) ?_
    walk_at "go"
    refine ⟨113, c.sz - c.pl - 1, rfl, rfl, by omega, by omega, ?_⟩
    have e3 : (rp 113 (c.sz - c.pl - 1)).length ≤ 8 := by rw [rp_len]; omega
    walk_at "go"
    refine ⟨?_, ?_⟩
    · rw [app_len]; omega
    · exact tail H (Same.refl H) hc
  · walk_at "go"
    refine ifd (fun c2 => ?_) back
    walk_at "go"
    refine ⟨by show 12 ≤ sizeLine; decide, fun p hp => ?_⟩
    walk_at "go"
    have hk : k.toNat < wordsL.length := by show k.toNat < 12; omega
    have hi : (wordsL.map V.str)[k.toNat]? = some (.str (wordsL.getD k.toNat "none")) := by
      rw [List.getElem?_map, List.getD, List.getElem?_eq_getElem hk]
      rfl
    refine ⟨_, wordsL.map V.str, _, _, rfl, rfl, sql upd_same, at_of (j := k.toNat) (by omega) hi, ?_⟩
    have z := q _ (same_new (o := .lst (wordsL.map V.str)) hp)
    unfold wd at z
    rw [if_pos ⟨c1, c2⟩] at z
    exact z
abbrev s__law_number : Stmt := topS 13
theorem sc__law_number : FnScope ["_law_s"] ["_law_s"] (defScope s__law_number) := ⟨rfl, rfl, rfl, by decide +kernel, rfl, by decide +kernel, by decide +kernel⟩
theorem h__law_number {k : Nat} {f : Addr} {fd : FuncData} (O : Own K mg "_law_number" s__law_number ["_law_s"] f fd)  {f__law_taken : Addr} {fd__law_taken : FuncData} (D__law_taken : Has P w K mg base "_law_taken" ["_law_s", "_law_most"] k CX0 (spTaken K) f__law_taken fd__law_taken) : Has P w K mg base "_law_number" ["_law_s"] (k + 1) CX0 (spNumber K) f fd := by
  refine O.has (O.F.ok sc__law_number (fun vs H Q E h => ?_) (fun cdv A outer s H vs Q E hr h => ?_))
  · obtain ⟨c, ns, xs, s, na, nm, rfl, _⟩ := h
    rfl
  obtain ⟨c, ns, xs, s, na, nm, rfl, L, q⟩ := h
  refine ⟨_, (pss_cons (ps_if (pt_cmpR op_eq (pe_call D__law_taken.G hr (by rfl) D__law_taken.g D__law_taken.k D__law_taken.b .nil pass0 (pa_cons (pv 0) (pa_cons pe_int pa_nil))) pe_int (nomark _)) (pss_one (ps_ret (pe_op op_add (pe_op op_sub (pe_call D__law_taken.G hr (by rfl) D__law_taken.g D__law_taken.k D__law_taken.b .nil pass0 (pa_cons (pv 0) (pa_cons (pe_op op_sub (pe_op op_mul pe_int (pe_op op_pow pe_int pe_int)) pe_int) pa_nil))) (pe_op op_pow pe_int pe_int)) pe_int))) pss_nil) (pss_one (ps_ret (pe_op op_sub (pe_call D__law_taken.G hr (by rfl) D__law_taken.g D__law_taken.k D__law_taken.b .nil pass0 (pa_cons (pv 0) (pa_cons pe_int pa_nil))) pe_int)))), ?_⟩
  walk_at "go"
  refine use_taken L (by decide) (by decide) fun r H1 a0 a1 e1 L1 => ?_
  walk_at "go"
  refine ifd (fun c1 => ?_) (fun c1 => ?_)
  · walk_at "go"
    refine g_I ⟨by decide, by decide, by decide⟩ ?_
    walk_at "go"
    refine g_I (.inl ⟨by decide, by decide⟩) ?_
    walk_at "go"
    refine use_taken L1 (by decide) (by decide) fun r2 H2 b0 b1 e2 L2 => ?_
    walk_at "go"
    refine g_I ⟨by decide, by decide, by decide⟩ ?_
    walk_at "go"
    have e : (10 : Int) ^ (12 : Int).toNat = 1000000000000 := by decide
    rw [e] at b1 ⊢
    exact q _ _ (by omega) (by omega) (e1.trans e2) L2
  · walk_at "go"
    refine use_taken L1 (by decide) (by decide) fun r2 H2 b0 b1 e2 L2 => ?_
    walk_at "go"
    exact q _ _ (by omega) (by omega) (e1.trans e2) L2
end

/-! ### told numbers -/
inductive Op where
  | plus | minus | times | most | least
def Op.word : Op → Str
  | .plus => "plus"
  | .minus => "minus"
  | .times => "times"
  | .most => "most"
  | .least => "least"
def Op.app : Op → Int → Int → Int
  | .plus, a, b => a + b
  | .minus, a, b => a - b
  | .times, a, b => a * b
  | .most, a, b => if b > a then b else a
  | .least, a, b => if b < a then b else a
inductive Num where
  | num (n : Int)
  | read (x : Str)
  | bin (o : Op) (a b : Num)
def Num.deep : Num → Nat
  | .num _ => 0
  | .read _ => 0
  | .bin _ a b => max a.deep b.deep + 1
def Num.In (xs : List Str) : Num → Prop
  | .num n => -1000000000000 < n ∧ n < 1000000000000
  | .read x => x ∈ xs
  | .bin _ a b => a.In xs ∧ b.In xs
/-- the value v tells the number in the heap -/
def DN (K : PySem.W.Frag) (H : Hp) : Num → V → Prop
  | .num n, v => ∃ a, v = .ref a ∧ SqT K H a [.str "num", .int n]
  | .read x, v => ∃ a, v = .ref a ∧ SqT K H a [.str "read", .str x]
  | .bin o p q, v => ∃ a u z, v = .ref a ∧ SqT K H a [.str o.word, u, z] ∧ DN K H p u ∧ DN K H q z
theorem DN.tm {K : PySem.W.Frag} {H H' : Hp} (e : TM K H H') : ∀ {t : Num} {v : V}, DN K H t v → DN K H' t v
  | .num n, v, ⟨a, h1, h2⟩ => ⟨a, h1, e _ _ h2⟩
  | .read x, v, ⟨a, h1, h2⟩ => ⟨a, h1, e _ _ h2⟩
  | .bin o p q, v, ⟨a, u, z, h1, h2, h3, h4⟩ => ⟨a, u, z, h1, e _ _ h2, DN.tm e h3, DN.tm e h4⟩
def opWords : List V := [.str "plus", .str "minus", .str "times", .str "most", .str "least"]
theorem op_at {i : Int} (h0 : 0 ≤ i) (h1 : i < 5) : ∃ o : Op, atI opWords i = some (.str o.word) := by
  have : i = 0 ∨ i = 1 ∨ i = 2 ∨ i = 3 ∨ i = 4 := by omega
  rcases this with rfl | rfl | rfl | rfl | rfl
  · exact ⟨.plus, at_any (j := 0) rfl rfl⟩
  · exact ⟨.minus, at_any (j := 1) rfl rfl⟩
  · exact ⟨.times, at_any (j := 2) rfl rfl⟩
  · exact ⟨.most, at_any (j := 3) rfl rfl⟩
  · exact ⟨.least, at_any (j := 4) rfl rfl⟩
def spTold (K : PySem.W.Frag) (n : Nat) : Sp := fun vs H Q _ => ∃ (c : Cfg) (ns : List Int) (xs : List Str) (s na nm : Addr) (d : Int), vs = [.ref s, .int d] ∧ LS K c ns xs s na nm H ∧ 0 ≤ d ∧ d < n ∧
  ∀ (v : V) (t : Num) (H' : Hp), KB s H H' → LS K c ns xs s na nm H' → DN K H' t v → t.In xs → (t.deep : Int) ≤ d → Q v H'
theorem use_told {K : PySem.W.Frag} {n : Nat} {c : Cfg} {ns : List Int} {xs : List Str} {s na nm : Addr} {d : Int} {H : Hp} {Q : VK} {E : XK} (L : LS K c ns xs s na nm H) (h0 : 0 ≤ d) (h1 : d < n)
    (q : ∀ (v : V) (t : Num) (H' : Hp), KB s H H' → LS K c ns xs s na nm H' → DN K H' t v → t.In xs → (t.deep : Int) ≤ d → Q v H') : spTold K n ([.ref s, .int d] ++ []) H Q E := ⟨c, ns, xs, s, na, nm, d, rfl, L, h0, h1, q⟩
section
variable {P : Program} {w : World} {K : PySem.W.Frag} {mg : Str → Option Value} {base : Heap}
abbrev s__law_told : Stmt := topS 14
theorem sc__law_told : FnScope ["_law_s", "_law_deep", "_law_way", "_law_one"] ["_law_s", "_law_deep"] (defScope s__law_told) := ⟨rfl, rfl, rfl, by decide +kernel, rfl, by decide +kernel, by decide +kernel⟩
theorem h__law_told {n : Nat} {k : Nat} {f : Addr} {fd : FuncData} (O : Own K mg "_law_told" s__law_told ["_law_s", "_law_deep"] f fd)  {f__law_told : Addr} {fd__law_told : FuncData} (D__law_told : Has P w K mg base "_law_told" ["_law_s", "_law_deep"] k CX0 (spTold K n) f__law_told fd__law_told) {f__law_number : Addr} {fd__law_number : FuncData} (D__law_number : Has P w K mg base "_law_number" ["_law_s"] k CX0 (spNumber K) f__law_number fd__law_number) {f__law_taken : Addr} {fd__law_taken : FuncData} (D__law_taken : Has P w K mg base "_law_taken" ["_law_s", "_law_most"] k CX0 (spTaken K) f__law_taken fd__law_taken) (m_len : mg "len" = none) : Has P w K mg base "_law_told" ["_law_s", "_law_deep"] (k + 1) CX0 (spTold K (n + 1)) f fd := by
  refine O.has (O.F.ok sc__law_told (fun vs H Q E h => ?_) (fun cdv A outer s H vs Q E hr h => ?_))
  · obtain ⟨c, ns, xs, s, na, nm, d, rfl, _⟩ := h
    rfl
  obtain ⟨c, ns, xs, s, na, nm, d, rfl, L, h0, h1, q⟩ := h
  refine ⟨_, (pss_cons (ps_set (i := 2) sc__law_told.nd rfl (.inl rfl) (pe_call D__law_taken.G hr (by rfl) D__law_taken.g D__law_taken.k D__law_taken.b .nil pass0 (pa_cons (pv 0) (pa_cons pe_int pa_nil)))) (pss_cons (ps_if (PW.pt (pw_or (pt_cmpR op_lt (pv 2) pe_int (nomark _)) (pw_or1 (pt_cmpR op_eq (pv 1) pe_int (nomark _))))) (pss_cons (ps_if (PW.pt (pw_and (pt_cmpR op_eq (pe_op op_mod (pv 2) pe_int) pe_int (nomark _)) (pw_and1 (pt_cmpR op_gt (pe_callB call_len_seq (by rfl) m_len (by decide +kernel) (pa_cons (pe_dget (hu_of hr) (pv 0) pe_str (fun _ _ => rfl)) pa_nil)) pe_int (nomark _))))) (pss_one (ps_ret (pe_tup (pa_cons pe_str (pa_cons (pe_ix ix_list (pe_dget (hu_of hr) (pv 0) pe_str (fun _ _ => rfl)) (pe_call D__law_taken.G hr (by rfl) D__law_taken.g D__law_taken.k D__law_taken.b .nil pass0 (pa_cons (pv 0) (pa_cons (pe_callB call_len_seq (by rfl) m_len (by decide +kernel) (pa_cons (pe_dget (hu_of hr) (pv 0) pe_str (fun _ _ => rfl)) pa_nil)) pa_nil))) (fun _ _ => rfl)) pa_nil))))) pss_nil) (pss_one (ps_ret (pe_tup (pa_cons pe_str (pa_cons (pe_call D__law_number.G hr (by rfl) D__law_number.g D__law_number.k D__law_number.b .nil pass0 (pa_cons (pv 0) pa_nil)) pa_nil)))))) pss_nil) (pss_cons (ps_set (i := 3) sc__law_told.nd rfl (.inl rfl) (pe_call D__law_told.G hr (by rfl) D__law_told.g D__law_told.k D__law_told.b .nil pass0 (pa_cons (pv 0) (pa_cons (pe_op op_sub (pv 1) pe_int) pa_nil)))) (pss_one (ps_ret (pe_tup (pa_cons (pe_ix ix_list (pe_lst (pa_cons pe_str (pa_cons pe_str (pa_cons pe_str (pa_cons pe_str (pa_cons pe_str pa_nil)))))) (pe_op op_sub (pv 2) pe_int) (fun _ _ => rfl)) (pa_cons (pv 3) (pa_cons (pe_call D__law_told.G hr (by rfl) D__law_told.g D__law_told.k D__law_told.b .nil pass0 (pa_cons (pv 0) (pa_cons (pe_op op_sub (pv 1) pe_int) pa_nil))) pa_nil))))))))), ?_⟩
  walk_at "go"
  refine use_taken L (by decide) (by decide) fun r H1 a0 a1 e1 L1 => ?_
  have leaf : ∀ (Hx : Hp), KB s H Hx → LS K c ns xs s na nm Hx → ∀ (m : Int) (p : Addr), -1000000000000 < m → m < 1000000000000 → Hx p = none → Q (.ref p) (upd Hx p (.tup [.str "num", .int m])) := fun Hx ex Lx m p b0 b1 np =>
    q _ (.num m) _ (ex.trans (.of (same_new np))) (Lx.same (same_new np)) ⟨p, rfl, sqt upd_same⟩ ⟨b0, b1⟩ h0
  walk_at "go"
  refine or_cut (d = 0) (fun hc => ?_) (fun c1 back => ?_)
  · walk_at "go"
    refine g_I (by decide) ?_
    walk_at "go"
    obtain ⟨n1, re1, mx1, hs1, _⟩ := L1.st
    refine and_cut (0 < (xs.length : Int)) (fun hc => ?_) (fun c1 back => ?_)
    · walk_at "go"
      refine use_number L1 fun m H2 b0 b1 e2 L2 => ?_
      walk_at "go"
      refine ⟨by show 2 ≤ sizeLine; decide, fun p np => ?_⟩
      exact leaf H2 (e1.trans e2) L2 m p b0 b1 np
    · walk_at "go"
      refine g_key hs1 (by rfl) ?_
      walk_at "go"
      refine ⟨_, _, rfl, .inl L1.nms, ?_⟩
      walk_at "go"
      rw [List.length_map]
      refine ifd (fun c2 => ?_) back
      walk_at "go"
      refine g_key hs1 (by rfl) ?_
      walk_at "go"
      refine g_key hs1 (by rfl) ?_
      walk_at "go"
      refine ⟨_, _, rfl, .inl L1.nms, ?_⟩
      walk_at "go"
      rw [List.length_map]
      have few := L1.few
      refine use_taken L1 c2 (by omega) fun j H2 b0 b1 e2 L2 => ?_
      have hj : j.toNat < xs.length := by omega
      refine ⟨_, _, _, .str xs[j.toNat], rfl, rfl, L2.nms, at_of (j := j.toNat) (by omega) (by rw [List.getElem?_map, List.getElem?_eq_getElem hj]; rfl), ?_⟩
      walk_at "go"
      refine ⟨by show 2 ≤ sizeLine; decide, fun p np => ?_⟩
      exact q _ (.read xs[j.toNat]) _ ((e1.trans e2).trans (.of (same_new np))) (L2.same (same_new np)) ⟨p, rfl, sqt upd_same⟩ (List.getElem_mem hj) h0
  · walk_at "go"
    refine ifd back (fun c2 => ?_)
    walk_at "go"
    refine use_told L1 (by omega) (by omega) fun u t1 H2 e2 L2 d1 i1 p1 => ?_
    walk_at "go"
    refine ⟨by show 5 ≤ sizeLine; decide, fun p np => ?_⟩
    walk_at "go"
    obtain ⟨o, ho⟩ := op_at (i := r - 3) (by omega) (by omega)
    refine ⟨_, opWords, _, _, rfl, rfl, sql upd_same, ho, ?_⟩
    have s3 := same_new (o := .lst opWords) np
    have L3 := L2.same s3
    walk_at "go"
    refine use_told L3 (by omega) (by omega) fun z t2 H4 e4 L4 d2 i2 p2 => ?_
    walk_at "go"
    refine ⟨by show 3 ≤ sizeLine; decide, fun p' np' => ?_⟩
    have s5 := same_new (o := .tup [.str o.word, u, z]) np'
    refine q _ (.bin o t1 t2) _ ((((e1.trans e2).trans (.of s3)).trans e4).trans (.of s5)) (L4.same s5) ⟨p', u, z, rfl, sqt upd_same, ?_, ?_⟩ ⟨i1, i2⟩ ?_
    · exact DN.tm (((TM.of s3).trans (L3.tm e4)).trans (.of s5)) d1
    · exact DN.tm (.of s5) d2
    · show ((max t1.deep t2.deep + 1 : Nat) : Int) ≤ d
      omega
theorem none_told {f : Addr} {fd : FuncData} : FnOk P w K mg base CX0 0 f fd ["_law_s", "_law_deep"] (spTold K 0) := by
  have no : ∀ vs H Q E, ¬ spTold K 0 vs H Q E := fun vs H Q E h => by
    obtain ⟨c, ns, xs, s, na, nm, d, _, _, h0, h1, _⟩ := h
    omega
  exact ⟨fun vs H Q E h => absurd h (no vs H Q E), fun A outer s H args us vs Q E _ _ _ _ h => absurd h (no vs H Q E)⟩
end

/-! ### the drawing's beginning -/
def spBegun (K : PySem.W.Frag) : Sp := fun vs H Q _ => ∃ (ns : List Int) (na : Addr), vs = [.ref na] ∧ SqL K H na (ns.map V.int) ∧ ns.length ≤ 63 ∧
  ∀ (c : Cfg) (s nm : Addr) (H' : Hp), Same H H' → H s = none → LS K c ns [] s na nm H' → Q (.ref s) H'
theorem use_begun {K : PySem.W.Frag} {ns : List Int} {na : Addr} {H : Hp} {Q : VK} {E : XK} (h : SqL K H na (ns.map V.int)) (hl : ns.length ≤ 63)
    (q : ∀ (c : Cfg) (s nm : Addr) (H' : Hp), Same H H' → H s = none → LS K c ns [] s na nm H' → Q (.ref s) H') : spBegun K ([.ref na] ++ []) H Q E := ⟨ns, na, rfl, h, hl, q⟩
def sd0 (na : Addr) : List (Key × V) :=
  [(.inr "numbers", .ref na), (.inr "at", .int 0), (.inr "size", .int 1), (.inr "place", .int 0), (.inr "turn", .int 0), (.inr "talk", .int 0), (.inr "rest", .int 0)]
def cfg0 : Cfg := ⟨1, 0, 0, 0⟩
theorem cfg0_ok : cfg0.Ok := ⟨by decide, by decide, by decide, by decide, by decide, by decide, .inl rfl⟩
/-- a number of the dict is set anew -/
theorem LS.cfg {K : PySem.W.Frag} {c c' : Cfg} {ns : List Int} {xs : List Str} {s na nm : Addr} {H : Hp} {n re mx : Int} (L : LS K c ns xs s na nm H) (h0 : 0 ≤ n) (h1 : 0 ≤ re) (h2 : 0 ≤ mx) (h3 : mx < 2147483647) (ok : c'.Ok) :
    LS K c' ns xs s na nm (upd H s (.dK (sd c' na nm n re mx))) := by
  obtain ⟨⟨n', re', mx', h, r⟩, g1, g2, g3, g4, g5⟩ := L
  exact ⟨⟨n, re, mx, upd_same, h0, h1, h2, h3⟩, KB.seq KB.upd h g1, KB.seq KB.upd h g2, ok, g4, g5⟩
theorem same_kb {s : Addr} {H H1 H2 : Hp} (a : Same H H1) (n : H s = none) (b : KB s H1 H2) : Same H H2 := fun x o h => b x o (ne_of_none h n) (a x o h)
section
variable {P : Program} {w : World} {K : PySem.W.Frag} {mg : Str → Option Value} {base : Heap}
abbrev s__law_begun : Stmt := topS 10
theorem sc__law_begun : FnScope ["_law_script", "_law_mixed", "_law_cell", "_law_s"] ["_law_script"] (defScope s__law_begun) := ⟨rfl, rfl, rfl, by decide +kernel, rfl, by decide +kernel, by decide +kernel⟩
theorem h__law_begun {k : Nat} {f : Addr} {fd : FuncData} (O : Own K mg "_law_begun" s__law_begun ["_law_script"] f fd)  {f__law_taken : Addr} {fd__law_taken : FuncData} (D__law_taken : Has P w K mg base "_law_taken" ["_law_s", "_law_most"] k CX0 (spTaken K) f__law_taken fd__law_taken) (m_int : mg "int" = none) (m_len : mg "len" = none) : Has P w K mg base "_law_begun" ["_law_script"] (k + 1) CX0 (spBegun K) f fd := by
  refine O.has (O.F.ok sc__law_begun (fun vs H Q E h => ?_) (fun cdv A outer s H vs Q E hr h => ?_))
  · obtain ⟨ns, na, rfl, _⟩ := h
    rfl
  obtain ⟨ns, na, rfl, hS, h63, q⟩ := h
  refine ⟨_, (pss_cons (ps_set (i := 1) sc__law_begun.nd rfl (.inl rfl) pe_int) (pss_cons (ps_for PassesOwn.never rfl (pi_list (pv 0)) (pg_name (i := 2) sc__law_begun.nd rfl (.inl rfl)) (pss_one (ps_set (i := 1) sc__law_begun.nd rfl (.inl rfl) (pe_op op_mod (pe_op op_add (pe_op op_add (pe_op op_mul (pv 1) pe_int) (pe_op op_mul (pv 2) pe_int)) pe_int) pe_int)))) (pss_cons (ps_set (i := 3) sc__law_begun.nd rfl (.inl rfl) (pe_disp (pps_cons pe_str (pv 0) (pps_cons pe_str pe_int (pps_cons pe_str pe_int (pps_cons pe_str pe_int (pps_cons pe_str pe_int (pps_cons pe_str pe_int (pps_cons pe_str pe_int pps_nil))))))) (by rfl) (by rfl) (fun z => by cases z) (by decide))) (pss_cons (ps_dput (hu_of hr) (pv 3) pe_str (pe_lst pa_nil) (by rfl)) (pss_cons (ps_dput (hu_of hr) (pv 3) pe_str (pe_op op_mul (pv 1) (pe_callTy call_int1 (by rfl) m_int (by decide +kernel) (pa_cons (pe_cmpR op_gt (pe_callB call_len_seq (by rfl) m_len (by decide +kernel) (pa_cons (pv 0) pa_nil)) pe_int (nomark _)) pa_nil))) (by rfl)) (pss_cons (ps_dput (hu_of hr) (pv 3) pe_str (pe_op op_add pe_int (pe_call D__law_taken.G hr (by rfl) D__law_taken.g D__law_taken.k D__law_taken.b .nil pass0 (pa_cons (pv 3) (pa_cons pe_int pa_nil)))) (by rfl)) (pss_cons (ps_dput (hu_of hr) (pv 3) pe_str (pe_call D__law_taken.G hr (by rfl) D__law_taken.g D__law_taken.k D__law_taken.b .nil pass0 (pa_cons (pv 3) (pa_cons (pe_dget (hu_of hr) (pv 3) pe_str (fun _ _ => rfl)) pa_nil))) (by rfl)) (pss_cons (ps_dput (hu_of hr) (pv 3) pe_str (pe_call D__law_taken.G hr (by rfl) D__law_taken.g D__law_taken.k D__law_taken.b .nil pass0 (pa_cons (pv 3) (pa_cons pe_int pa_nil))) (by rfl)) (pss_cons (ps_dput (hu_of hr) (pv 3) pe_str (pe_callTy call_int1 (by rfl) m_int (by decide +kernel) (pa_cons (pe_cmpR op_eq (pe_call D__law_taken.G hr (by rfl) D__law_taken.g D__law_taken.k D__law_taken.b .nil pass0 (pa_cons (pv 3) (pa_cons pe_int pa_nil))) pe_int (nomark _)) pa_nil)) (by rfl)) (pss_one (ps_ret (pv 3)))))))))))), ?_⟩
  walk_at "go"
  refine ⟨⟨_, hS⟩, for_list (xs := ns.map V.int) (fun i σ H3 => H3 = H ∧ ∃ (m : Int) (y : Option V), σ = [some (.ref na), some (.int m), y, none] ∧ 0 ≤ m ∧ m < 2147483647)
    ⟨rfl, 0, none, rfl, by decide, by decide⟩ (fun i σ H3 hi hW => ?_) (fun i x σ H3 hx hW => ?_) (fun σ H3 hW => ?_)⟩
  · obtain ⟨rfl, _⟩ := hW
    exact hS
  · obtain ⟨rfl, m, y, rfl, m0, m1⟩ := hW
    rw [List.getElem?_map] at hx
    obtain ⟨z, hz, rfl⟩ := Option.map_eq_some_iff.mp hx
    walk_at "go"
    refine g_I (.inl (by omega)) ?_
    walk_at "go"
    refine g_I (.inr (by decide)) ?_
    walk_at "go"
    refine g_I (by decide) ?_
    walk_at "go"
    exact ⟨Int.emod_nonneg _ (by decide), Int.emod_lt_of_pos _ (by decide)⟩
  obtain ⟨rfl, m, y, rfl, m0, m1⟩ := hW
  walk_at "go"
  intro s nsn
  walk_at "go"
  refine ⟨upd_same, sd0 na, rfl, by show 7 ≤ 15; decide, ?_⟩
  rw [upd_upd]
  have s1 := same_new (o := .dK (sd0 na)) nsn
  have hs1 : (upd H3 s (.dK (sd0 na))) s = some (.dK (sd0 na)) := upd_same
  show _
  walk_at "go"
  refine ⟨by show 0 ≤ sizeLine; decide, fun nm nn => ?_⟩
  walk_at "go"
  have s2 := same_new (o := .lst []) nn
  have hsn : s ≠ nm := ne_of_none hs1 nn
  refine g_put (s2 _ _ hs1) (by show 7 < sizeLine; decide) (by rfl) ?_
  walk_at "go"
  refine ⟨_, _, rfl, .inl (KB.seq KB.upd (s2 _ _ hs1) ((s1.trans s2).seq hS)), ?_⟩
  walk_at "go"
  refine .inr ⟨_, rfl, ?_⟩
  refine g_I (.inl (by omega)) ?_
  walk_at "go"
  refine g_put upd_same (by show 8 < sizeLine; decide) (by rfl) ?_
  rw [upd_upd]
  have hmx : 0 ≤ m * (if decide (2 < (((ns.map V.int).length : Nat) : Int)) = true then 1 else 0) ∧ m * (if decide (2 < (((ns.map V.int).length : Nat) : Int)) = true then 1 else 0) < 2147483647 := by
    split <;> omega
  generalize m * (if decide (2 < (((ns.map V.int).length : Nat) : Int)) = true then 1 else 0) = mx at hmx ⊢
  have L1 : LS K cfg0 ns [] s na nm (upd (upd (upd H3 s (.dK (sd0 na))) nm (.lst [])) s (.dK (sd cfg0 na nm 0 0 mx))) :=
    ⟨⟨0, 0, mx, upd_same, by decide, by decide, hmx.1, hmx.2⟩, KB.seq KB.upd (s2 _ _ hs1) ((s1.trans s2).seq hS), sql (by rw [upd_ne hsn.symm]; exact upd_same), cfg0_ok, h63, by decide⟩
  have e1 : Same H3 (upd (upd (upd H3 s (.dK (sd0 na))) nm (.lst [])) s (.dK (sd cfg0 na nm 0 0 mx))) := same_kb (s1.trans s2) nsn KB.upd
  show tSeq _ _ _ _ (upd (upd (upd H3 s (.dK (sd0 na))) nm (.lst [])) s (.dK (sd cfg0 na nm 0 0 mx)))
  generalize upd (upd (upd H3 s (.dK (sd0 na))) nm (.lst [])) s (.dK (sd cfg0 na nm 0 0 mx)) = H4 at L1 e1 ⊢
  -- size
  walk_at "go"
  refine use_taken L1 (by decide) (by decide) fun a H5 a0 a1 e5 L5 => ?_
  walk_at "go"
  obtain ⟨n5, re5, mx5, hs5, g0, g1, g2, g3⟩ := L5.st
  refine g_put hs5 (by show 9 < sizeLine; decide) (by rfl) ?_
  have L6 := L5.cfg (c' := ⟨1 + a, 0, 0, 0⟩) g0 g1 g2 g3 ⟨by show 1 ≤ 1 + a; omega, by show 1 + a ≤ 8; omega, Int.le_refl 0, by show 0 < 1 + a; omega, Int.le_refl 0, (by decide : (0 : Int) < 26), .inl rfl⟩
  have hs6 : upd H5 s (.dK (sd ⟨1 + a, 0, 0, 0⟩ na nm n5 re5 mx5)) s = some (.dK (sd ⟨1 + a, 0, 0, 0⟩ na nm n5 re5 mx5)) := upd_same
  have e6 : KB s H4 (upd H5 s (.dK (sd ⟨1 + a, 0, 0, 0⟩ na nm n5 re5 mx5))) := e5.trans KB.upd
  -- place
  walk_at "go"
  refine g_key hs6 (by rfl) ?_
  walk_at "go"
  refine use_taken L6 (by show 0 < 1 + a; omega) (by show 1 + a ≤ 10000000000000; omega) fun b H7 b0 b1 e7 L7 => ?_
  walk_at "go"
  obtain ⟨n7, re7, mx7, hs7, i0, i1, i2, i3⟩ := L7.st
  refine g_put hs7 (by show 9 < sizeLine; decide) (by rfl) ?_
  have L8 := L7.cfg (c' := ⟨1 + a, b, 0, 0⟩) i0 i1 i2 i3 ⟨by show 1 ≤ 1 + a; omega, by show 1 + a ≤ 8; omega, b0, b1, Int.le_refl 0, (by decide : (0 : Int) < 26), .inl rfl⟩
  -- turn
  walk_at "go"
  refine use_taken L8 (by decide) (by decide) fun t H9 t0 t1 e9 L9 => ?_
  walk_at "go"
  obtain ⟨n9, re9, mx9, hs9, j0, j1, j2, j3⟩ := L9.st
  refine g_put hs9 (by show 9 < sizeLine; decide) (by rfl) ?_
  have L10 := L9.cfg (c' := ⟨1 + a, b, t, 0⟩) j0 j1 j2 j3 ⟨by show 1 ≤ 1 + a; omega, by show 1 + a ≤ 8; omega, b0, b1, t0, t1, .inl rfl⟩
  -- talk
  walk_at "go"
  refine use_taken L10 (by decide) (by decide) fun u H11 u0 u1 e11 L11 => ?_
  walk_at "go"
  refine .inr ⟨_, rfl, ?_⟩
  walk_at "go"
  obtain ⟨n11, re11, mx11, hs11, k0, k1, k2, k3⟩ := L11.st
  refine g_put hs11 (by show 9 < sizeLine; decide) (by rfl) ?_
  have L12 := L11.cfg (c' := ⟨1 + a, b, t, if decide (u = 8) = true then 1 else 0⟩) k0 k1 k2 k3 ⟨by show 1 ≤ 1 + a; omega, by show 1 + a ≤ 8; omega, b0, b1, t0, t1, by
    show (if decide (u = 8) = true then (1 : Int) else 0) = 0 ∨ (if decide (u = 8) = true then (1 : Int) else 0) = 1
    split
    · exact .inr rfl
    · exact .inl rfl⟩
  walk_at "go"
  refine q _ s nm _ (same_kb e1 nsn ?_) nsn L12
  exact ((((((e6.trans e7).trans KB.upd).trans e9).trans KB.upd).trans e11).trans KB.upd)
end

/-! ### conditions -/
inductive Cond where
  | lt (a b : Num)
  | neg (a : Cond)
  | con (a b : Cond)
  | dis (a b : Cond)
def Cond.deep : Cond → Nat
  | .lt _ _ => 0
  | .neg a => a.deep + 1
  | .con a b => max a.deep b.deep + 1
  | .dis a b => max a.deep b.deep + 1
def Cond.In (xs : List Str) (m : Nat) : Cond → Prop
  | .lt a b => (a.In xs ∧ a.deep ≤ m) ∧ b.In xs ∧ b.deep ≤ m
  | .neg a => a.In xs m
  | .con a b => a.In xs m ∧ b.In xs m
  | .dis a b => a.In xs m ∧ b.In xs m
def DC (K : PySem.W.Frag) (H : Hp) : Cond → V → Prop
  | .lt p q, v => ∃ a u z, v = .ref a ∧ SqT K H a [.str "below", u, z] ∧ DN K H p u ∧ DN K H q z
  | .neg p, v => ∃ a u, v = .ref a ∧ SqT K H a [.str "not", u] ∧ DC K H p u
  | .con p q, v => ∃ a u z, v = .ref a ∧ SqT K H a [.str "all", u, z] ∧ DC K H p u ∧ DC K H q z
  | .dis p q, v => ∃ a u z, v = .ref a ∧ SqT K H a [.str "any", u, z] ∧ DC K H p u ∧ DC K H q z
theorem DC.tm {K : PySem.W.Frag} {H H' : Hp} (e : TM K H H') : ∀ {t : Cond} {v : V}, DC K H t v → DC K H' t v
  | .lt p q, v, ⟨a, u, z, h1, h2, h3, h4⟩ => ⟨a, u, z, h1, e _ _ h2, DN.tm e h3, DN.tm e h4⟩
  | .neg p, v, ⟨a, u, h1, h2, h3⟩ => ⟨a, u, h1, e _ _ h2, DC.tm e h3⟩
  | .con p q, v, ⟨a, u, z, h1, h2, h3, h4⟩ => ⟨a, u, z, h1, e _ _ h2, DC.tm e h3, DC.tm e h4⟩
  | .dis p q, v, ⟨a, u, z, h1, h2, h3, h4⟩ => ⟨a, u, z, h1, e _ _ h2, DC.tm e h3, DC.tm e h4⟩
def spAsked (K : PySem.W.Frag) (n : Nat) : Sp := fun vs H Q _ => ∃ (c : Cfg) (ns : List Int) (xs : List Str) (s na nm : Addr) (d : Int), vs = [.ref s, .int d] ∧ LS K c ns xs s na nm H ∧ 0 ≤ d ∧ d < n ∧
  ∀ (v : V) (t : Cond) (H' : Hp), KB s H H' → LS K c ns xs s na nm H' → DC K H' t v → t.In xs 1 → (t.deep : Int) ≤ d → Q v H'
theorem use_asked {K : PySem.W.Frag} {n : Nat} {c : Cfg} {ns : List Int} {xs : List Str} {s na nm : Addr} {d : Int} {H : Hp} {Q : VK} {E : XK} (L : LS K c ns xs s na nm H) (h0 : 0 ≤ d) (h1 : d < n)
    (q : ∀ (v : V) (t : Cond) (H' : Hp), KB s H H' → LS K c ns xs s na nm H' → DC K H' t v → t.In xs 1 → (t.deep : Int) ≤ d → Q v H') : spAsked K n ([.ref s, .int d] ++ []) H Q E := ⟨c, ns, xs, s, na, nm, d, rfl, L, h0, h1, q⟩
section
variable {P : Program} {w : World} {K : PySem.W.Frag} {mg : Str → Option Value} {base : Heap}
abbrev s__law_asked : Stmt := topS 15
theorem sc__law_asked : FnScope ["_law_s", "_law_deep", "_law_way", "_law_one"] ["_law_s", "_law_deep"] (defScope s__law_asked) := ⟨rfl, rfl, rfl, by decide +kernel, rfl, by decide +kernel, by decide +kernel⟩
theorem h__law_asked {n : Nat} {k : Nat} {f : Addr} {fd : FuncData} (O : Own K mg "_law_asked" s__law_asked ["_law_s", "_law_deep"] f fd)  {f__law_asked : Addr} {fd__law_asked : FuncData} (D__law_asked : Has P w K mg base "_law_asked" ["_law_s", "_law_deep"] k CX0 (spAsked K n) f__law_asked fd__law_asked) {f__law_told : Addr} {fd__law_told : FuncData} (D__law_told : Has P w K mg base "_law_told" ["_law_s", "_law_deep"] k CX0 (spTold K 4) f__law_told fd__law_told) {f__law_taken : Addr} {fd__law_taken : FuncData} (D__law_taken : Has P w K mg base "_law_taken" ["_law_s", "_law_most"] k CX0 (spTaken K) f__law_taken fd__law_taken) : Has P w K mg base "_law_asked" ["_law_s", "_law_deep"] (k + 1) CX0 (spAsked K (n + 1)) f fd := by
  refine O.has (O.F.ok sc__law_asked (fun vs H Q E h => ?_) (fun cdv A outer s H vs Q E hr h => ?_))
  · obtain ⟨c, ns, xs, s, na, nm, d, rfl, _⟩ := h
    rfl
  obtain ⟨c, ns, xs, s, na, nm, d, rfl, L, h0, h1, q⟩ := h
  refine ⟨_, (pss_cons (ps_set (i := 2) sc__law_asked.nd rfl (.inl rfl) (pe_call D__law_taken.G hr (by rfl) D__law_taken.g D__law_taken.k D__law_taken.b .nil pass0 (pa_cons (pv 0) (pa_cons pe_int pa_nil)))) (pss_cons (ps_if (PW.pt (pw_or (pt_cmpR op_lt (pv 2) pe_int (nomark _)) (pw_or1 (pt_cmpR op_eq (pv 1) pe_int (nomark _))))) (pss_cons (ps_set (i := 3) sc__law_asked.nd rfl (.inl rfl) (pe_call D__law_told.G hr (by rfl) D__law_told.g D__law_told.k D__law_told.b .nil pass0 (pa_cons (pv 0) (pa_cons pe_int pa_nil)))) (pss_one (ps_ret (pe_tup (pa_cons pe_str (pa_cons (pv 3) (pa_cons (pe_call D__law_told.G hr (by rfl) D__law_told.g D__law_told.k D__law_told.b .nil pass0 (pa_cons (pv 0) (pa_cons pe_int pa_nil))) pa_nil))))))) pss_nil) (pss_cons (ps_set (i := 3) sc__law_asked.nd rfl (.inl rfl) (pe_call D__law_asked.G hr (by rfl) D__law_asked.g D__law_asked.k D__law_asked.b .nil pass0 (pa_cons (pv 0) (pa_cons (pe_op op_sub (pv 1) pe_int) pa_nil)))) (pss_cons (ps_if (pt_cmpR op_eq (pv 2) pe_int (nomark _)) (pss_one (ps_ret (pe_tup (pa_cons pe_str (pa_cons (pv 3) pa_nil))))) pss_nil) (pss_one (ps_ret (pe_tup (pa_cons (pe_ix ix_list (pe_lst (pa_cons pe_str (pa_cons pe_str pa_nil))) (pe_op op_sub (pv 2) pe_int) (fun _ _ => rfl)) (pa_cons (pv 3) (pa_cons (pe_call D__law_asked.G hr (by rfl) D__law_asked.g D__law_asked.k D__law_asked.b .nil pass0 (pa_cons (pv 0) (pa_cons (pe_op op_sub (pv 1) pe_int) pa_nil))) pa_nil)))))))))), ?_⟩
  walk_at "go"
  refine use_taken L (by decide) (by decide) fun r H1 a0 a1 e1 L1 => ?_
  walk_at "go"
  refine or_cut (d = 0) (fun hc => ?_) (fun c1 back => ?_)
  · walk_at "go"
    refine use_told L1 (by decide) (by decide) fun u t1 H2 e2 L2 d1 i1 p1 => ?_
    walk_at "go"
    refine use_told L2 (by decide) (by decide) fun z t2 H3 e3 L3 d2 i2 p2 => ?_
    walk_at "go"
    refine ⟨by show 3 ≤ sizeLine; decide, fun p np => ?_⟩
    have s4 := same_new (o := .tup [.str "below", u, z]) np
    refine q _ (.lt t1 t2) _ (((e1.trans e2).trans e3).trans (.of s4)) (L3.same s4) ⟨p, u, z, rfl, sqt upd_same, ?_, ?_⟩ ⟨⟨i1, by omega⟩, i2, by omega⟩ h0
    · exact DN.tm ((L2.tm e3).trans (.of s4)) d1
    · exact DN.tm (.of s4) d2
  · walk_at "go"
    refine ifd back (fun c2 => ?_)
    walk_at "go"
    refine use_asked L1 (by omega) (by omega) fun u t1 H2 e2 L2 d1 i1 p1 => ?_
    walk_at "go"
    refine ifd (fun c3 => ?_) (fun c3 => ?_)
    · walk_at "go"
      refine ⟨by show 2 ≤ sizeLine; decide, fun p np => ?_⟩
      have s3 := same_new (o := .tup [.str "not", u]) np
      exact q _ (.neg t1) _ ((e1.trans e2).trans (.of s3)) (L2.same s3) ⟨p, u, rfl, sqt upd_same, DC.tm (.of s3) d1⟩ i1 (by show ((t1.deep + 1 : Nat) : Int) ≤ d; omega)
    · walk_at "go"
      refine ⟨by show 2 ≤ sizeLine; decide, fun p np => ?_⟩
      have s3 := same_new (o := .lst [.str "all", .str "any"]) np
      have L3 := L2.same s3
      walk_at "go"
      have fin : ∀ (o : Bool), atI [V.str "all", V.str "any"] (r - 4) = some (.str (if o then "all" else "any")) → _ := fun o => id
      have hw : atI [V.str "all", V.str "any"] (r - 4) = some (.str "all") ∨ atI [V.str "all", V.str "any"] (r - 4) = some (.str "any") := by
        have : r - 4 = 0 ∨ r - 4 = 1 := by omega
        rcases this with e | e
        · rw [e]; exact .inl (at_any (j := 0) rfl rfl)
        · rw [e]; exact .inr (at_any (j := 1) rfl rfl)
      rcases hw with hw | hw
      · refine ⟨_, _, _, _, rfl, rfl, sql upd_same, hw, ?_⟩
        walk_at "go"
        refine use_asked L3 (by omega) (by omega) fun z t2 H4 e4 L4 d2 i2 p2 => ?_
        walk_at "go"
        refine ⟨by show 3 ≤ sizeLine; decide, fun p' np' => ?_⟩
        have s5 := same_new (o := .tup [.str "all", u, z]) np'
        refine q _ (.con t1 t2) _ ((((e1.trans e2).trans (.of s3)).trans e4).trans (.of s5)) (L4.same s5) ⟨p', u, z, rfl, sqt upd_same, ?_, ?_⟩ ⟨i1, i2⟩ ?_
        · exact DC.tm (((TM.of s3).trans (L3.tm e4)).trans (.of s5)) d1
        · exact DC.tm (.of s5) d2
        · show ((max t1.deep t2.deep + 1 : Nat) : Int) ≤ d
          omega
      · refine ⟨_, _, _, _, rfl, rfl, sql upd_same, hw, ?_⟩
        walk_at "go"
        refine use_asked L3 (by omega) (by omega) fun z t2 H4 e4 L4 d2 i2 p2 => ?_
        walk_at "go"
        refine ⟨by show 3 ≤ sizeLine; decide, fun p' np' => ?_⟩
        have s5 := same_new (o := .tup [.str "any", u, z]) np'
        refine q _ (.dis t1 t2) _ ((((e1.trans e2).trans (.of s3)).trans e4).trans (.of s5)) (L4.same s5) ⟨p', u, z, rfl, sqt upd_same, ?_, ?_⟩ ⟨i1, i2⟩ ?_
        · exact DC.tm (((TM.of s3).trans (L3.tm e4)).trans (.of s5)) d1
        · exact DC.tm (.of s5) d2
        · show ((max t1.deep t2.deep + 1 : Nat) : Int) ≤ d
          omega
theorem none_asked {f : Addr} {fd : FuncData} : FnOk P w K mg base CX0 0 f fd ["_law_s", "_law_deep"] (spAsked K 0) := by
  have no : ∀ vs H Q E, ¬ spAsked K 0 vs H Q E := fun vs H Q E h => by
    obtain ⟨c, ns, xs, s, na, nm, d, _, _, h0, h1, _⟩ := h
    omega
  exact ⟨fun vs H Q E h => absurd h (no vs H Q E), fun A outer s H args us vs Q E _ _ _ _ h => absurd h (no vs H Q E)⟩
end

/-! ### words are words, and differ -/
def isW (x : Str) : Bool := decide (1 ≤ x.length) && (decide (x.length ≤ 8) && x.cps.toList.all fun c => decide (97 ≤ c) && decide (c ≤ 122))
theorem wd_codes {c : Cfg} {k : Int} (h : ¬ (c.ta = 1 ∧ k < 12)) : (wd c k).cps.toList = List.replicate c.pl.toNat 113 ++ (97 + ((k + c.tu) % 26).toNat) :: List.replicate (c.sz - c.pl - 1).toNat 113 := by
  unfold wd
  rw [if_neg h]
  show ((rp 113 c.pl).cps ++ #[97 + ((k + c.tu) % 26).toNat] ++ (rp 113 (c.sz - c.pl - 1)).cps).toList = _
  simp [rp]
theorem talk_words : ∀ i : Fin 12, isW (wordsL.getD i.val "none") = true := by decide +kernel
theorem talk_ne : ∀ i j : Fin 12, wordsL.getD i.val "none" = wordsL.getD j.val "none" → i = j := by decide +kernel
theorem wd_word {c : Cfg} (ok : c.Ok) {k : Int} (h0 : 0 ≤ k) : isW (wd c k) = true := by
  by_cases h : c.ta = 1 ∧ k < 12
  · unfold wd
    rw [if_pos h]
    exact talk_words ⟨k.toNat, by omega⟩
  · have e := wd_codes h
    have h1 := ok.pl0
    have h2 := ok.plz
    have h3 := ok.sz8
    have l : (wd c k).length = c.pl.toNat + (1 + (c.sz - c.pl - 1).toNat) := by
      show (wd c k).cps.size = _
      rw [← Array.length_toList, e]
      simp
      omega
    unfold isW
    rw [l, e]
    have b0 : 0 ≤ (k + c.tu) % 26 := Int.emod_nonneg _ (by decide)
    have b1 : (k + c.tu) % 26 < 26 := Int.emod_lt_of_pos _ (by decide)
    simp only [Bool.and_eq_true, decide_eq_true_eq, List.all_eq_true, List.mem_append, List.mem_cons, List.mem_replicate]
    refine ⟨by omega, by omega, fun x hx => ?_⟩
    rcases hx with hx | hx | hx <;> omega
theorem wd_ne {c : Cfg} (ok : c.Ok) {i j : Int} (h0 : 0 ≤ i) (h1 : i < 12) (h2 : 0 ≤ j) (h3 : j < 12) (h : i ≠ j) : wd c i ≠ wd c j := fun e => by
  by_cases ht : c.ta = 1
  · have e1 : wd c i = wordsL.getD i.toNat "none" := by unfold wd; rw [if_pos ⟨ht, h1⟩]
    have e2 : wd c j = wordsL.getD j.toNat "none" := by unfold wd; rw [if_pos ⟨ht, h3⟩]
    rw [e1, e2] at e
    have := talk_ne ⟨i.toNat, by omega⟩ ⟨j.toNat, by omega⟩ e
    have := congrArg Fin.val this
    simp at this
    omega
  · have q := congrArg (fun z : Str => z.cps.toList) e
    simp only [wd_codes (fun z => ht z.1)] at q
    have q2 := List.append_cancel_left q
    have q3 := (List.cons.inj q2).1
    omega
/-! ### contracts -/
inductive Con where
  | none
  | give (a b g : Str) (o : Num)
  | both (c d : Con)
  | turned (a b : Str) (c : Con)
  | later (n : Int) (c : Con)
  | often (n g : Int) (c : Con)
  | ite (q : Cond) (c d : Con)
  | whn (q : Cond) (c : Con)
  | untl (q : Cond) (c : Con)
def Con.deep : Con → Nat
  | .none => 0
  | .give _ _ _ _ => 0
  | .both c d => max c.deep d.deep + 1
  | .turned _ _ c => c.deep + 1
  | .later _ c => c.deep + 1
  | .often _ _ c => c.deep + 1
  | .ite _ c d => max c.deep d.deep + 1
  | .whn _ c => c.deep + 1
  | .untl _ c => c.deep + 1
def Con.In (xs : List Str) : Con → Prop
  | .none => True
  | .give a b g o => ((isW a = true ∧ isW b = true ∧ isW g = true) ∧ a ≠ b) ∧ o.In xs ∧ o.deep ≤ 2
  | .both c d => c.In xs ∧ d.In xs
  | .turned a b c => ((isW a = true ∧ isW b = true) ∧ a ≠ b) ∧ c.In xs
  | .later n c => (0 ≤ n ∧ n ≤ 99) ∧ c.In xs
  | .often n g c => (1 ≤ n ∧ n ≤ 9) ∧ (1 ≤ g ∧ g ≤ 99) ∧ c.In xs
  | .ite q c d => (q.In xs 1 ∧ q.deep ≤ 2) ∧ c.In xs ∧ d.In xs
  | .whn q c => (q.In xs 1 ∧ q.deep ≤ 2) ∧ c.In xs
  | .untl q c => (q.In xs 1 ∧ q.deep ≤ 2) ∧ c.In xs
def DK (K : PySem.W.Frag) (H : Hp) : Con → V → Prop
  | .none, v => ∃ p, v = .ref p ∧ SqT K H p [.str "none"]
  | .give a b g o, v => ∃ p u, v = .ref p ∧ SqT K H p [.str "give", .str a, .str b, .str g, u] ∧ DN K H o u
  | .both c d, v => ∃ p u z, v = .ref p ∧ SqT K H p [.str "both", u, z] ∧ DK K H c u ∧ DK K H d z
  | .turned a b c, v => ∃ p u, v = .ref p ∧ SqT K H p [.str "turned", .str a, .str b, u] ∧ DK K H c u
  | .later n c, v => ∃ p u, v = .ref p ∧ SqT K H p [.str "later", .int n, u] ∧ DK K H c u
  | .often n g c, v => ∃ p u, v = .ref p ∧ SqT K H p [.str "often", .int n, .int g, u] ∧ DK K H c u
  | .ite q c d, v => ∃ p x u z, v = .ref p ∧ SqT K H p [.str "if", x, u, z] ∧ DC K H q x ∧ DK K H c u ∧ DK K H d z
  | .whn q c, v => ∃ p x u, v = .ref p ∧ SqT K H p [.str "when", x, u] ∧ DC K H q x ∧ DK K H c u
  | .untl q c, v => ∃ p x u, v = .ref p ∧ SqT K H p [.str "until", x, u] ∧ DC K H q x ∧ DK K H c u
theorem DK.tm {K : PySem.W.Frag} {H H' : Hp} (e : TM K H H') : ∀ {t : Con} {v : V}, DK K H t v → DK K H' t v
  | .none, v, ⟨p, h1, h2⟩ => ⟨p, h1, e _ _ h2⟩
  | .give a b g o, v, ⟨p, u, h1, h2, h3⟩ => ⟨p, u, h1, e _ _ h2, DN.tm e h3⟩
  | .both c d, v, ⟨p, u, z, h1, h2, h3, h4⟩ => ⟨p, u, z, h1, e _ _ h2, DK.tm e h3, DK.tm e h4⟩
  | .turned a b c, v, ⟨p, u, h1, h2, h3⟩ => ⟨p, u, h1, e _ _ h2, DK.tm e h3⟩
  | .later n c, v, ⟨p, u, h1, h2, h3⟩ => ⟨p, u, h1, e _ _ h2, DK.tm e h3⟩
  | .often n g c, v, ⟨p, u, h1, h2, h3⟩ => ⟨p, u, h1, e _ _ h2, DK.tm e h3⟩
  | .ite q c d, v, ⟨p, x, u, z, h1, h2, h3, h4, h5⟩ => ⟨p, x, u, z, h1, e _ _ h2, DC.tm e h3, DK.tm e h4, DK.tm e h5⟩
  | .whn q c, v, ⟨p, x, u, h1, h2, h3, h4⟩ => ⟨p, x, u, h1, e _ _ h2, DC.tm e h3, DK.tm e h4⟩
  | .untl q c, v, ⟨p, x, u, h1, h2, h3, h4⟩ => ⟨p, x, u, h1, e _ _ h2, DC.tm e h3, DK.tm e h4⟩
theorem pick2 {α : Type} (x y : α) (b : Bool) : atI [x, y] (if b = true then 1 else 0) = some (if b = true then y else x) := by
  cases b
  · exact at_any (j := 0) rfl rfl
  · exact at_any (j := 1) rfl rfl
theorem pick3 {i : Int} (x y z : V) (h0 : 0 ≤ i) (h1 : i < 3) : atI [x, y, z] i = some x ∨ atI [x, y, z] i = some y ∨ atI [x, y, z] i = some z := by
  have : i = 0 ∨ i = 1 ∨ i = 2 := by omega
  rcases this with rfl | rfl | rfl
  · exact .inl (at_any (j := 0) rfl rfl)
  · exact .inr (.inl (at_any (j := 1) rfl rfl))
  · exact .inr (.inr (at_any (j := 2) rfl rfl))
theorem pick2i {i : Int} (x y : V) (h0 : 0 ≤ i) (h1 : i < 2) : atI [x, y] i = some x ∨ atI [x, y] i = some y := by
  have : i = 0 ∨ i = 1 := by omega
  rcases this with rfl | rfl
  · exact .inl (at_any (j := 0) rfl rfl)
  · exact .inr (at_any (j := 1) rfl rfl)
/-- two sides -/
def spSides (K : PySem.W.Frag) : Sp := fun vs H Q _ => ∃ (c : Cfg) (ns : List Int) (xs : List Str) (s na nm : Addr), vs = [.ref s] ∧ LS K c ns xs s na nm H ∧
  ∀ (p : Addr) (i j : Int) (H' : Hp), 0 ≤ i → i < 4 → 0 ≤ j → j < 4 → i ≠ j → KB s H H' → LS K c ns xs s na nm H' → SqT K H' p [.str (wd c i), .str (wd c j)] → Q (.ref p) H'
theorem use_sides {K : PySem.W.Frag} {c : Cfg} {ns : List Int} {xs : List Str} {s na nm : Addr} {H : Hp} {Q : VK} {E : XK} (L : LS K c ns xs s na nm H)
    (q : ∀ (p : Addr) (i j : Int) (H' : Hp), 0 ≤ i → i < 4 → 0 ≤ j → j < 4 → i ≠ j → KB s H H' → LS K c ns xs s na nm H' → SqT K H' p [.str (wd c i), .str (wd c j)] → Q (.ref p) H') : spSides K ([.ref s] ++ []) H Q E := ⟨c, ns, xs, s, na, nm, rfl, L, q⟩
def spGood (K : PySem.W.Frag) : Sp := fun vs H Q _ => ∃ (c : Cfg) (ns : List Int) (xs : List Str) (s na nm : Addr), vs = [.ref s] ∧ LS K c ns xs s na nm H ∧
  ∀ (i : Int) (H' : Hp), 4 ≤ i → i < 8 → KB s H H' → LS K c ns xs s na nm H' → Q (.str (wd c i)) H'
theorem use_good {K : PySem.W.Frag} {c : Cfg} {ns : List Int} {xs : List Str} {s na nm : Addr} {H : Hp} {Q : VK} {E : XK} (L : LS K c ns xs s na nm H)
    (q : ∀ (i : Int) (H' : Hp), 4 ≤ i → i < 8 → KB s H H' → LS K c ns xs s na nm H' → Q (.str (wd c i)) H') : spGood K ([.ref s] ++ []) H Q E := ⟨c, ns, xs, s, na, nm, rfl, L, q⟩
def spGive (K : PySem.W.Frag) : Sp := fun vs H Q _ => ∃ (c : Cfg) (ns : List Int) (xs : List Str) (s na nm : Addr), vs = [.ref s] ∧ LS K c ns xs s na nm H ∧
  ∀ (v : V) (t : Con) (H' : Hp), KB s H H' → LS K c ns xs s na nm H' → DK K H' t v → t.In xs → t.deep = 0 → Q v H'
theorem use_give {K : PySem.W.Frag} {c : Cfg} {ns : List Int} {xs : List Str} {s na nm : Addr} {H : Hp} {Q : VK} {E : XK} (L : LS K c ns xs s na nm H)
    (q : ∀ (v : V) (t : Con) (H' : Hp), KB s H H' → LS K c ns xs s na nm H' → DK K H' t v → t.In xs → t.deep = 0 → Q v H') : spGive K ([.ref s] ++ []) H Q E := ⟨c, ns, xs, s, na, nm, rfl, L, q⟩
section
variable {P : Program} {w : World} {K : PySem.W.Frag} {mg : Str → Option Value} {base : Heap}
abbrev s__law_sides : Stmt := topS 16
theorem sc__law_sides : FnScope ["_law_s", "_law_many", "_law_one", "_law_other"] ["_law_s"] (defScope s__law_sides) := ⟨rfl, rfl, rfl, by decide +kernel, rfl, by decide +kernel, by decide +kernel⟩
theorem h__law_sides {k : Nat} {f : Addr} {fd : FuncData} (O : Own K mg "_law_sides" s__law_sides ["_law_s"] f fd)  {f__law_word : Addr} {fd__law_word : FuncData} (D__law_word : Has P w K mg base "_law_word" ["_law_s", "_law_k"] k CX0 (spWord K) f__law_word fd__law_word) {f__law_taken : Addr} {fd__law_taken : FuncData} (D__law_taken : Has P w K mg base "_law_taken" ["_law_s", "_law_most"] k CX0 (spTaken K) f__law_taken fd__law_taken) : Has P w K mg base "_law_sides" ["_law_s"] (k + 1) CX0 (spSides K) f fd := by
  refine O.has (O.F.ok sc__law_sides (fun vs H Q E h => ?_) (fun cdv A outer s H vs Q E hr h => ?_))
  · obtain ⟨c, ns, xs, s, na, nm, rfl, _⟩ := h
    rfl
  obtain ⟨c, ns, xs, s, na, nm, rfl, L, q⟩ := h
  refine ⟨_, (pss_cons (ps_set (i := 1) sc__law_sides.nd rfl (.inl rfl) (pe_ix ix_list (pe_lst (pa_cons pe_int (pa_cons pe_int (pa_cons pe_int pa_nil)))) (pe_call D__law_taken.G hr (by rfl) D__law_taken.g D__law_taken.k D__law_taken.b .nil pass0 (pa_cons (pv 0) (pa_cons pe_int pa_nil))) (fun _ _ => rfl))) (pss_cons (ps_set (i := 2) sc__law_sides.nd rfl (.inl rfl) (pe_call D__law_taken.G hr (by rfl) D__law_taken.g D__law_taken.k D__law_taken.b .nil pass0 (pa_cons (pv 0) (pa_cons (pv 1) pa_nil)))) (pss_cons (ps_set (i := 3) sc__law_sides.nd rfl (.inl rfl) (pe_op op_mod (pe_op op_add (pe_op op_add (pv 2) pe_int) (pe_call D__law_taken.G hr (by rfl) D__law_taken.g D__law_taken.k D__law_taken.b .nil pass0 (pa_cons (pv 0) (pa_cons (pe_op op_sub (pv 1) pe_int) pa_nil)))) (pv 1))) (pss_one (ps_ret (pe_tup (pa_cons (pe_call D__law_word.G hr (by rfl) D__law_word.g D__law_word.k D__law_word.b .nil pass0 (pa_cons (pv 0) (pa_cons (pv 2) pa_nil))) (pa_cons (pe_call D__law_word.G hr (by rfl) D__law_word.g D__law_word.k D__law_word.b .nil pass0 (pa_cons (pv 0) (pa_cons (pv 3) pa_nil))) pa_nil)))))))), ?_⟩
  walk_at "go"
  refine ⟨by show 3 ≤ sizeLine; decide, fun p0 np0 => ?_⟩
  have s0 := same_new (o := .lst [.int 3, .int 3, .int 4]) np0
  have L0 := L.same s0
  walk_at "go"
  refine use_taken L0 (by decide) (by decide) fun r H1 a0 a1 e1 L1 => ?_
  obtain ⟨n0, re0, mx0, hs0, _⟩ := L0.st
  have hp0 : H1 p0 = some (.lst [.int 3, .int 3, .int 4]) := e1 _ _ (fun z => by rw [← z, upd_same] at hs0; cases hs0) upd_same
  have hm : ∃ m : Int, atI [V.int 3, V.int 3, V.int 4] r = some (.int m) ∧ 3 ≤ m ∧ m ≤ 4 := by
    rcases pick3 (.int 3) (.int 3) (.int 4) a0 a1 with z | z | z
    · exact ⟨3, z, by decide, by decide⟩
    · exact ⟨3, z, by decide, by decide⟩
    · exact ⟨4, z, by decide, by decide⟩
  obtain ⟨m, hm, m0, m1⟩ := hm
  refine ⟨_, _, _, _, rfl, rfl, sql hp0, hm, ?_⟩
  walk_at "go"
  refine use_taken L1 (by omega) (by omega) fun i H2 b0 b1 e2 L2 => ?_
  walk_at "go"
  refine use_taken L2 (by omega) (by omega) fun j H3 c0 c1 e3 L3 => ?_
  walk_at "go"
  refine g_I (by omega) ?_
  have d0 : 0 ≤ (i + 1 + j) % m := Int.emod_nonneg _ (by omega)
  have d1 : (i + 1 + j) % m < m := Int.emod_lt_of_pos _ (by omega)
  have d2 : (i + 1 + j) % m ≠ i := by
    have hm3 : m = 3 ∨ m = 4 := by omega
    rcases hm3 with rfl | rfl <;> omega
  generalize (i + 1 + j) % m = o at d0 d1 d2 ⊢
  walk_at "go"
  refine use_word L3 b0 (by omega) fun H4 e4 => ?_
  walk_at "go"
  refine use_word (L3.same e4) d0 (by omega) fun H5 e5 => ?_
  refine ⟨by show 2 ≤ sizeLine; decide, fun p np => ?_⟩
  have s6 := (e4.trans e5).trans (same_new (o := .tup [.str (wd c i), .str (wd c o)]) np)
  exact q p i o _ b0 (by omega) d0 (by omega) d2.symm (((((KB.of s0).trans e1).trans e2).trans e3).trans (.of s6)) (L3.same s6) (sqt upd_same)
abbrev s__law_good : Stmt := topS 17
theorem sc__law_good : FnScope ["_law_s"] ["_law_s"] (defScope s__law_good) := ⟨rfl, rfl, rfl, by decide +kernel, rfl, by decide +kernel, by decide +kernel⟩
theorem h__law_good {k : Nat} {f : Addr} {fd : FuncData} (O : Own K mg "_law_good" s__law_good ["_law_s"] f fd)  {f__law_word : Addr} {fd__law_word : FuncData} (D__law_word : Has P w K mg base "_law_word" ["_law_s", "_law_k"] k CX0 (spWord K) f__law_word fd__law_word) {f__law_taken : Addr} {fd__law_taken : FuncData} (D__law_taken : Has P w K mg base "_law_taken" ["_law_s", "_law_most"] k CX0 (spTaken K) f__law_taken fd__law_taken) : Has P w K mg base "_law_good" ["_law_s"] (k + 1) CX0 (spGood K) f fd := by
  refine O.has (O.F.ok sc__law_good (fun vs H Q E h => ?_) (fun cdv A outer s H vs Q E hr h => ?_))
  · obtain ⟨c, ns, xs, s, na, nm, rfl, _⟩ := h
    rfl
  obtain ⟨c, ns, xs, s, na, nm, rfl, L, q⟩ := h
  refine ⟨_, (pss_one (ps_ret (pe_call D__law_word.G hr (by rfl) D__law_word.g D__law_word.k D__law_word.b .nil pass0 (pa_cons (pv 0) (pa_cons (pe_op op_add pe_int (pe_call D__law_taken.G hr (by rfl) D__law_taken.g D__law_taken.k D__law_taken.b .nil pass0 (pa_cons (pv 0) (pa_cons (pe_ix ix_list (pe_lst (pa_cons pe_int (pa_cons pe_int (pa_cons pe_int pa_nil)))) (pe_call D__law_taken.G hr (by rfl) D__law_taken.g D__law_taken.k D__law_taken.b .nil pass0 (pa_cons (pv 0) (pa_cons pe_int pa_nil))) (fun _ _ => rfl)) pa_nil)))) pa_nil))))), ?_⟩
  walk_at "go"
  refine ⟨by show 3 ≤ sizeLine; decide, fun p0 np0 => ?_⟩
  have s0 := same_new (o := .lst [.int 2, .int 2, .int 4]) np0
  have L0 := L.same s0
  walk_at "go"
  refine use_taken L0 (by decide) (by decide) fun r H1 a0 a1 e1 L1 => ?_
  obtain ⟨n0, re0, mx0, hs0, _⟩ := L0.st
  have hp0 : H1 p0 = some (.lst [.int 2, .int 2, .int 4]) := e1 _ _ (fun z => by rw [← z, upd_same] at hs0; cases hs0) upd_same
  have hm : ∃ m : Int, atI [V.int 2, V.int 2, V.int 4] r = some (.int m) ∧ 2 ≤ m ∧ m ≤ 4 := by
    rcases pick3 (.int 2) (.int 2) (.int 4) a0 a1 with z | z | z
    · exact ⟨2, z, by decide, by decide⟩
    · exact ⟨2, z, by decide, by decide⟩
    · exact ⟨4, z, by decide, by decide⟩
  obtain ⟨m, hm, m0, m1⟩ := hm
  refine ⟨_, _, _, _, rfl, rfl, sql hp0, hm, ?_⟩
  walk_at "go"
  refine use_taken L1 (by omega) (by omega) fun i H2 b0 b1 e2 L2 => ?_
  walk_at "go"
  refine use_word L2 (by omega) (by omega) fun H3 e3 => ?_
  exact q (4 + i) _ (by omega) (by omega) ((((KB.of s0).trans e1).trans e2).trans (.of e3)) (L2.same e3)
abbrev s__law_give : Stmt := topS 18
theorem sc__law_give : FnScope ["_law_s", "_law_one", "_law_other", "_law_good_here"] ["_law_s"] (defScope s__law_give) := ⟨rfl, rfl, rfl, by decide +kernel, rfl, by decide +kernel, by decide +kernel⟩
theorem h__law_give {k : Nat} {f : Addr} {fd : FuncData} (O : Own K mg "_law_give" s__law_give ["_law_s"] f fd)  {f__law_told : Addr} {fd__law_told : FuncData} (D__law_told : Has P w K mg base "_law_told" ["_law_s", "_law_deep"] k CX0 (spTold K 4) f__law_told fd__law_told) {f__law_good : Addr} {fd__law_good : FuncData} (D__law_good : Has P w K mg base "_law_good" ["_law_s"] k CX0 (spGood K) f__law_good fd__law_good) {f__law_sides : Addr} {fd__law_sides : FuncData} (D__law_sides : Has P w K mg base "_law_sides" ["_law_s"] k CX0 (spSides K) f__law_sides fd__law_sides) : Has P w K mg base "_law_give" ["_law_s"] (k + 1) CX0 (spGive K) f fd := by
  refine O.has (O.F.ok sc__law_give (fun vs H Q E h => ?_) (fun cdv A outer s H vs Q E hr h => ?_))
  · obtain ⟨c, ns, xs, s, na, nm, rfl, _⟩ := h
    rfl
  obtain ⟨c, ns, xs, s, na, nm, rfl, L, q⟩ := h
  refine ⟨_, (pss_cons (ps_asg (pe_call D__law_sides.G hr (by rfl) D__law_sides.g D__law_sides.k D__law_sides.b .nil pass0 (pa_cons (pv 0) pa_nil)) (pg_tup rfl (pgs_cons (pg_name (i := 1) sc__law_give.nd rfl (.inl rfl)) (pgs_cons (pg_name (i := 2) sc__law_give.nd rfl (.inl rfl)) pgs_nil)))) (pss_cons (ps_set (i := 3) sc__law_give.nd rfl (.inl rfl) (pe_call D__law_good.G hr (by rfl) D__law_good.g D__law_good.k D__law_good.b .nil pass0 (pa_cons (pv 0) pa_nil))) (pss_one (ps_ret (pe_tup (pa_cons pe_str (pa_cons (pv 1) (pa_cons (pv 2) (pa_cons (pv 3) (pa_cons (pe_call D__law_told.G hr (by rfl) D__law_told.g D__law_told.k D__law_told.b .nil pass0 (pa_cons (pv 0) (pa_cons pe_int pa_nil))) pa_nil)))))))))), ?_⟩
  walk_at "go"
  refine use_sides L fun p i j H1 i0 i1 j0 j1 ij e1 L1 hp => ?_
  refine g_gtup hp rfl ?_
  walk_at "go"
  refine use_good L1 fun g H2 g0 g1 e2 L2 => ?_
  walk_at "go"
  refine use_told L2 (by decide) (by decide) fun u t H3 e3 L3 d3 i3 p3 => ?_
  walk_at "go"
  refine ⟨by show 5 ≤ sizeLine; decide, fun p' np => ?_⟩
  have s4 := same_new (o := .tup [.str "give", .str (wd c i), .str (wd c j), .str (wd c g), u]) np
  have ok := L.ok
  exact q _ (.give (wd c i) (wd c j) (wd c g) t) _ (((e1.trans e2).trans e3).trans (.of s4)) (L3.same s4) ⟨p', u, rfl, sqt upd_same, DN.tm (.of s4) d3⟩
    ⟨⟨⟨wd_word ok i0, wd_word ok j0, wd_word ok (by omega)⟩, wd_ne ok i0 (by omega) j0 (by omega) ij⟩, i3, by omega⟩ rfl
end

/-- the dict's names are set anew -/
theorem LS.names {K : PySem.W.Frag} {c : Cfg} {ns : List Int} {xs ys : List Str} {s na nm l : Addr} {H : Hp} {n re mx : Int} (L : LS K c ns xs s na nm H) (h0 : 0 ≤ n) (h1 : 0 ≤ re) (h2 : 0 ≤ mx) (h3 : mx < 2147483647) (hl : H l = some (.lst (ys.map V.str))) (hy : ys.length ≤ 8) :
    LS K c ns ys s na l (upd H s (.dK (sd c na l n re mx))) := by
  obtain ⟨⟨n', re', mx', h, r⟩, g1, g2, g3, g4, g5⟩ := L
  exact ⟨⟨n, re, mx, upd_same, h0, h1, h2, h3⟩, KB.seq KB.upd h g1, KB.seq KB.upd h (sql hl), g3, g4, hy⟩
/-- a list that was made while the drawing stood is changed -/
theorem LS.push {K : PySem.W.Frag} {c : Cfg} {ns : List Int} {xs : List Str} {s na nm D : Addr} {H2 H4 : Hp} {zs : List V} {o : HO} (L2 : LS K c ns xs s na nm H2) (nD : H2 D = none) (L4 : LS K c ns xs s na nm H4) (hD : H4 D = some (.lst zs)) :
    LS K c ns xs s na nm (upd H4 D o) := by
  obtain ⟨n, re, mx, hs, bd⟩ := L4.st
  have hDs : D ≠ s := ne_of hD hs (fun z => by cases z)
  have hlp : ∀ a u, a ≠ D → H4 a = some u → upd H4 D o a = some u := fun a u n h => by rw [upd_ne n]; exact h
  have ap : ∀ {b : Addr} {zs : List V}, SqL K H2 b zs → SqL K H4 b zs → SqL K (upd H4 D o) b zs := fun {b zs} y z => by
    have far : b ≠ D → SqL K (upd H4 D o) b zs := fun ne => by
      rcases z with (z | ⟨u, z⟩) | z
      · exact .inl (.inl (hlp _ _ ne z))
      · exact .inl (.inr ⟨u, hlp _ _ ne z⟩)
      · exact .inr z
    rcases y with (y | ⟨u, y⟩) | y
    · exact far (ne_of_none y nD)
    · exact far (ne_of_none y nD)
    · exact .inr y
  exact ⟨⟨n, re, mx, hlp _ _ hDs.symm hs, bd⟩, ap L2.num L4.num, ap L2.nms L4.nms, L4.ok, L4.len, L4.few⟩

def spContract (K : PySem.W.Frag) (n : Nat) : Sp := fun vs H Q _ => ∃ (c : Cfg) (ns : List Int) (xs : List Str) (s na nm : Addr) (d : Int), vs = [.ref s, .int d] ∧ LS K c ns xs s na nm H ∧ 0 ≤ d ∧ d < n ∧
  ∀ (v : V) (t : Con) (H' : Hp), KB s H H' → LS K c ns xs s na nm H' → DK K H' t v → t.In xs → (t.deep : Int) ≤ d → Q v H'
theorem use_contract {K : PySem.W.Frag} {n : Nat} {c : Cfg} {ns : List Int} {xs : List Str} {s na nm : Addr} {d : Int} {H : Hp} {Q : VK} {E : XK} (L : LS K c ns xs s na nm H) (h0 : 0 ≤ d) (h1 : d < n)
    (q : ∀ (v : V) (t : Con) (H' : Hp), KB s H H' → LS K c ns xs s na nm H' → DK K H' t v → t.In xs → (t.deep : Int) ≤ d → Q v H') : spContract K n ([.ref s, .int d] ++ []) H Q E := ⟨c, ns, xs, s, na, nm, d, rfl, L, h0, h1, q⟩
theorem none_contract {P : Program} {w : World} {K : PySem.W.Frag} {mg : Str → Option Value} {base : Heap} {f : Addr} {fd : FuncData} {ps : List Str} : FnOk P w K mg base CX0 0 f fd ps (spContract K 0) := by
  have no : ∀ vs H Q E, ¬ spContract K 0 vs H Q E := fun vs H Q E h => by
    obtain ⟨c, ns, xs, s, na, nm, d, _, _, h0, h1, _⟩ := h
    omega
  exact ⟨fun vs H Q E h => absurd h (no vs H Q E), fun A outer s H args us vs Q E _ _ _ _ h => absurd h (no vs H Q E)⟩
/-- a tuple told by two tuples put together -/
theorem cat2 {K : PySem.W.Frag} {H : Hp} {Q : VK} {a b : Addr} {xs ys : List V} (h1 : SqT K H a xs) (h2 : SqT K H b ys) (n1 : xs ≠ []) (n2 : ys ≠ []) (hl : xs.length + ys.length ≤ 1000) (q : ∀ p, H p = none → Q (.ref p) (upd H p (.tup (xs ++ ys)))) :
    rCatA K (.ref a) (.ref b) H Q := ⟨a, b, xs, ys, rfl, rfl, h1, h2, sz hl, fun z => absurd z n1, fun _ z => absurd z n2, fun _ _ => q⟩
section
variable {P : Program} {w : World} {K : PySem.W.Frag} {mg : Str → Option Value} {base : Heap}
abbrev s__law_contract : Stmt := topS 19
theorem sc__law_contract : FnScope ["_law_s", "_law_deep", "_law_way", "_law_one", "_law_hours", "_law_many", "_law_asked_here"] ["_law_s", "_law_deep"] (defScope s__law_contract) := ⟨rfl, rfl, rfl, by decide +kernel, rfl, by decide +kernel, by decide +kernel⟩
theorem h__law_contract {n : Nat} {k : Nat} {f : Addr} {fd : FuncData} (O : Own K mg "_law_contract" s__law_contract ["_law_s", "_law_deep"] f fd)  {f__law_contract : Addr} {fd__law_contract : FuncData} (D__law_contract : Has P w K mg base "_law_contract" ["_law_s", "_law_deep"] k CX0 (spContract K n) f__law_contract fd__law_contract) {f__law_asked : Addr} {fd__law_asked : FuncData} (D__law_asked : Has P w K mg base "_law_asked" ["_law_s", "_law_deep"] k CX0 (spAsked K 4) f__law_asked fd__law_asked) {f__law_taken : Addr} {fd__law_taken : FuncData} (D__law_taken : Has P w K mg base "_law_taken" ["_law_s", "_law_most"] k CX0 (spTaken K) f__law_taken fd__law_taken) {f__law_sides : Addr} {fd__law_sides : FuncData} (D__law_sides : Has P w K mg base "_law_sides" ["_law_s"] k CX0 (spSides K) f__law_sides fd__law_sides) {f__law_give : Addr} {fd__law_give : FuncData} (D__law_give : Has P w K mg base "_law_give" ["_law_s"] k CX0 (spGive K) f__law_give fd__law_give) (m_int : mg "int" = none) : Has P w K mg base "_law_contract" ["_law_s", "_law_deep"] (k + 1) CX0 (spContract K (n + 1)) f fd := by
  refine O.has (O.F.ok sc__law_contract (fun vs H Q E h => ?_) (fun cdv A outer s H vs Q E hr h => ?_))
  · obtain ⟨c, ns, xs, s, na, nm, d, rfl, _⟩ := h
    rfl
  obtain ⟨c, ns, xs, s, na, nm, d, rfl, L, h0, h1, q⟩ := h
  refine ⟨_, (pss_cons (ps_set (i := 2) sc__law_contract.nd rfl (.inl rfl) (pe_call D__law_taken.G hr (by rfl) D__law_taken.g D__law_taken.k D__law_taken.b .nil pass0 (pa_cons (pv 0) (pa_cons pe_int pa_nil)))) (pss_cons (ps_if (PW.pt (pw_or (pt_cmpR op_eq (pv 1) pe_int (nomark _)) (pw_or1 (pt_cmpR op_lt (pv 2) pe_int (nomark _))))) (pss_one (ps_ret (pe_call D__law_give.G hr (by rfl) D__law_give.g D__law_give.k D__law_give.b .nil pass0 (pa_cons (pv 0) pa_nil)))) pss_nil) (pss_cons (ps_if (pt_cmpR op_eq (pv 2) pe_int (nomark _)) (pss_one (ps_ret (pe_tup (pa_cons pe_str pa_nil)))) pss_nil) (pss_cons (ps_if (pt_cmpR op_lt (pv 2) pe_int (nomark _)) (pss_cons (ps_set (i := 3) sc__law_contract.nd rfl (.inl rfl) (pe_call D__law_contract.G hr (by rfl) D__law_contract.g D__law_contract.k D__law_contract.b .nil pass0 (pa_cons (pv 0) (pa_cons (pe_op op_sub (pv 1) pe_int) pa_nil)))) (pss_one (ps_ret (pe_tup (pa_cons pe_str (pa_cons (pv 3) (pa_cons (pe_call D__law_contract.G hr (by rfl) D__law_contract.g D__law_contract.k D__law_contract.b .nil pass0 (pa_cons (pv 0) (pa_cons (pe_op op_sub (pv 1) pe_int) pa_nil))) pa_nil))))))) pss_nil) (pss_cons (ps_if (pt_cmpR op_eq (pv 2) pe_int (nomark _)) (pss_one (ps_ret (pe_op op_catA (pe_op op_catA (pe_tup (pa_cons pe_str pa_nil)) (pe_call D__law_sides.G hr (by rfl) D__law_sides.g D__law_sides.k D__law_sides.b .nil pass0 (pa_cons (pv 0) pa_nil))) (pe_tup (pa_cons (pe_call D__law_contract.G hr (by rfl) D__law_contract.g D__law_contract.k D__law_contract.b .nil pass0 (pa_cons (pv 0) (pa_cons (pe_op op_sub (pv 1) pe_int) pa_nil))) pa_nil))))) pss_nil) (pss_cons (ps_if (pt_cmpR op_eq (pv 2) pe_int (nomark _)) (pss_cons (ps_set (i := 4) sc__law_contract.nd rfl (.inl rfl) (pe_ix ix_list (pe_lst (pa_cons (pe_call D__law_taken.G hr (by rfl) D__law_taken.g D__law_taken.k D__law_taken.b .nil pass0 (pa_cons (pv 0) (pa_cons pe_int pa_nil))) (pa_cons (pe_call D__law_taken.G hr (by rfl) D__law_taken.g D__law_taken.k D__law_taken.b .nil pass0 (pa_cons (pv 0) (pa_cons pe_int pa_nil))) pa_nil))) (pe_callTy call_int1 (by rfl) m_int (by decide +kernel) (pa_cons (pe_cmpR op_eq (pe_call D__law_taken.G hr (by rfl) D__law_taken.g D__law_taken.k D__law_taken.b .nil pass0 (pa_cons (pv 0) (pa_cons pe_int pa_nil))) pe_int (nomark _)) pa_nil)) (fun _ _ => rfl))) (pss_one (ps_ret (pe_tup (pa_cons pe_str (pa_cons (pv 4) (pa_cons (pe_call D__law_contract.G hr (by rfl) D__law_contract.g D__law_contract.k D__law_contract.b .nil pass0 (pa_cons (pv 0) (pa_cons (pe_op op_sub (pv 1) pe_int) pa_nil))) pa_nil))))))) pss_nil) (pss_cons (ps_if (pt_cmpR op_eq (pv 2) pe_int (nomark _)) (pss_cons (ps_set (i := 5) sc__law_contract.nd rfl (.inl rfl) (pe_ix ix_list (pe_lst (pa_cons (pe_op op_add pe_int (pe_call D__law_taken.G hr (by rfl) D__law_taken.g D__law_taken.k D__law_taken.b .nil pass0 (pa_cons (pv 0) (pa_cons pe_int pa_nil)))) (pa_cons (pe_op op_add pe_int (pe_call D__law_taken.G hr (by rfl) D__law_taken.g D__law_taken.k D__law_taken.b .nil pass0 (pa_cons (pv 0) (pa_cons pe_int pa_nil)))) pa_nil))) (pe_callTy call_int1 (by rfl) m_int (by decide +kernel) (pa_cons (pe_cmpR op_eq (pe_call D__law_taken.G hr (by rfl) D__law_taken.g D__law_taken.k D__law_taken.b .nil pass0 (pa_cons (pv 0) (pa_cons pe_int pa_nil))) pe_int (nomark _)) pa_nil)) (fun _ _ => rfl))) (pss_one (ps_ret (pe_tup (pa_cons pe_str (pa_cons (pv 5) (pa_cons (pe_op op_add pe_int (pe_call D__law_taken.G hr (by rfl) D__law_taken.g D__law_taken.k D__law_taken.b .nil pass0 (pa_cons (pv 0) (pa_cons pe_int pa_nil)))) (pa_cons (pe_call D__law_contract.G hr (by rfl) D__law_contract.g D__law_contract.k D__law_contract.b .nil pass0 (pa_cons (pv 0) (pa_cons (pe_op op_sub (pv 1) pe_int) pa_nil))) pa_nil)))))))) pss_nil) (pss_cons (ps_set (i := 6) sc__law_contract.nd rfl (.inl rfl) (pe_call D__law_asked.G hr (by rfl) D__law_asked.g D__law_asked.k D__law_asked.b .nil pass0 (pa_cons (pv 0) (pa_cons pe_int pa_nil)))) (pss_cons (ps_if (pt_cmpR op_eq (pv 2) pe_int (nomark _)) (pss_cons (ps_set (i := 3) sc__law_contract.nd rfl (.inl rfl) (pe_call D__law_contract.G hr (by rfl) D__law_contract.g D__law_contract.k D__law_contract.b .nil pass0 (pa_cons (pv 0) (pa_cons (pe_op op_sub (pv 1) pe_int) pa_nil)))) (pss_one (ps_ret (pe_tup (pa_cons pe_str (pa_cons (pv 6) (pa_cons (pv 3) (pa_cons (pe_call D__law_contract.G hr (by rfl) D__law_contract.g D__law_contract.k D__law_contract.b .nil pass0 (pa_cons (pv 0) (pa_cons (pe_op op_sub (pv 1) pe_int) pa_nil))) pa_nil)))))))) pss_nil) (pss_one (ps_ret (pe_tup (pa_cons (pe_ix ix_list (pe_lst (pa_cons pe_str (pa_cons pe_str pa_nil))) (pe_op op_sub (pv 2) pe_int) (fun _ _ => rfl)) (pa_cons (pv 6) (pa_cons (pe_call D__law_contract.G hr (by rfl) D__law_contract.g D__law_contract.k D__law_contract.b .nil pass0 (pa_cons (pv 0) (pa_cons (pe_op op_sub (pv 1) pe_int) pa_nil))) pa_nil))))))))))))))), ?_⟩
  have ok := L.ok
  walk_at "go"
  refine use_taken L (by decide) (by decide) fun r H1 a0 a1 e1 L1 => ?_
  walk_at "go"
  refine or_cut (r < 3) (fun hc => ?_) (fun c1 back => ?_)
  · walk_at "go"
    refine use_give L1 fun v t H2 e2 L2 d2 i2 p2 => ?_
    exact q v t H2 (e1.trans e2) L2 d2 i2 (by omega)
  walk_at "go"
  refine ifd back (fun c2 => ?_)
  walk_at "go"
  refine ifd (fun c3 => ?_) (fun c3 => ?_)
  · walk_at "go"
    refine ⟨by show 1 ≤ sizeLine; decide, fun p np => ?_⟩
    have s2 := same_new (o := .tup [.str "none"]) np
    exact q _ .none _ (e1.trans (.of s2)) (L1.same s2) ⟨p, rfl, sqt upd_same⟩ trivial h0
  walk_at "go"
  refine ifd (fun c4 => ?_) (fun c4 => ?_)
  · walk_at "go"
    refine use_contract L1 (by omega) (by omega) fun u t1 H2 e2 L2 d1 i1 p1 => ?_
    walk_at "go"
    refine use_contract L2 (by omega) (by omega) fun z t2 H3 e3 L3 d2 i2 p2 => ?_
    walk_at "go"
    refine ⟨by show 3 ≤ sizeLine; decide, fun p np => ?_⟩
    have s4 := same_new (o := .tup [.str "both", u, z]) np
    refine q _ (.both t1 t2) _ (((e1.trans e2).trans e3).trans (.of s4)) (L3.same s4) ⟨p, u, z, rfl, sqt upd_same, DK.tm ((L2.tm e3).trans (.of s4)) d1, DK.tm (.of s4) d2⟩ ⟨i1, i2⟩ ?_
    show ((max t1.deep t2.deep + 1 : Nat) : Int) ≤ d
    omega
  walk_at "go"
  refine ifd (fun c5 => ?_) (fun c5 => ?_)
  · walk_at "go"
    refine ⟨by show 1 ≤ sizeLine; decide, fun p1 np1 => ?_⟩
    have s2 := same_new (o := .tup [.str "turned"]) np1
    have h2 : SqT K (upd H1 p1 (.tup [.str "turned"])) p1 [.str "turned"] := sqt upd_same
    have L2 := L1.same s2
    walk_at "go"
    refine use_sides L2 fun p i j H3 i0 i1 j0 j1 ij e3 L3 hp => ?_
    refine cat2 (L2.tm e3 _ _ h2) hp (by simp) (by simp) (by show 3 ≤ 1000; decide) fun p4 np4 => ?_
    have s4 := same_new (o := .tup ([V.str "turned"] ++ [.str (wd c i), .str (wd c j)])) np4
    have L4 := L3.same s4
    have h4 : SqT K (upd H3 p4 (.tup ([V.str "turned"] ++ [.str (wd c i), .str (wd c j)]))) p4 [.str "turned", .str (wd c i), .str (wd c j)] := sqt upd_same
    walk_at "go"
    refine use_contract L4 (by omega) (by omega) fun u t1 H5 e5 L5 d1 i5 p5 => ?_
    walk_at "go"
    refine ⟨by show 1 ≤ sizeLine; decide, fun p6 np6 => ?_⟩
    have s6 := same_new (o := .tup [u]) np6
    refine cat2 (SqT.same s6 (L4.tm e5 _ _ h4)) (sqt upd_same) (by simp) (by simp) (by show 4 ≤ 1000; decide) fun p7 np7 => ?_
    have s7 := s6.trans (same_new (o := .tup ([V.str "turned", .str (wd c i), .str (wd c j)] ++ [u])) np7)
    refine q _ (.turned (wd c i) (wd c j) t1) _ (((((e1.trans (.of s2)).trans e3).trans (.of s4)).trans e5).trans (.of s7)) (L5.same s7) ⟨p7, u, rfl, sqt upd_same, DK.tm (.of s7) d1⟩ ⟨⟨⟨wd_word ok i0, wd_word ok j0⟩, wd_ne ok i0 (by omega) j0 (by omega) ij⟩, i5⟩ ?_
    show ((t1.deep + 1 : Nat) : Int) ≤ d
    omega
  walk_at "go"
  refine ifd (fun c6 => ?_) (fun c6 => ?_)
  · walk_at "go"
    refine use_taken L1 (by decide) (by decide) fun x H2 x0 x1 e2 L2 => ?_
    walk_at "go"
    refine use_taken L2 (by decide) (by decide) fun y H3 y0 y1 e3 L3 => ?_
    walk_at "go"
    refine ⟨by show 2 ≤ sizeLine; decide, fun p4 np4 => ?_⟩
    have s4 := same_new (o := .lst [.int x, .int y]) np4
    have L4 := L3.same s4
    walk_at "go"
    refine use_taken L4 (by decide) (by decide) fun z H5 z0 z1 e5 L5 => ?_
    walk_at "go"
    refine .inr ⟨_, rfl, ?_⟩
    have h5 : SqL K H5 p4 [.int x, .int y] := KB.seq e5 (L4.st.choose_spec.choose_spec.choose_spec.1) (sql upd_same)
    refine ⟨_, _, _, _, rfl, rfl, h5, pick2 _ _ _, ?_⟩
    have hn : ∃ m : Int, (if decide (z = 7) = true then V.int y else V.int x) = .int m ∧ 0 ≤ m ∧ m ≤ 99 := by
      split
      · exact ⟨y, rfl, y0, by omega⟩
      · exact ⟨x, rfl, x0, by omega⟩
    obtain ⟨m, hm, m0, m1⟩ := hn
    rw [hm]
    walk_at "go"
    refine use_contract L5 (by omega) (by omega) fun u t1 H6 e6 L6 d1 i1 p1 => ?_
    walk_at "go"
    refine ⟨by show 3 ≤ sizeLine; decide, fun p7 np7 => ?_⟩
    have s7 := same_new (o := .tup [.str "later", .int m, u]) np7
    refine q _ (.later m t1) _ ((((((e1.trans e2).trans e3).trans (.of s4)).trans e5).trans e6).trans (.of s7)) (L6.same s7) ⟨p7, u, rfl, sqt upd_same, DK.tm (.of s7) d1⟩ ⟨⟨m0, m1⟩, i1⟩ ?_
    show ((t1.deep + 1 : Nat) : Int) ≤ d
    omega
  walk_at "go"
  refine ifd (fun c7 => ?_) (fun c7 => ?_)
  · walk_at "go"
    refine use_taken L1 (by decide) (by decide) fun x H2 x0 x1 e2 L2 => ?_
    walk_at "go"
    refine use_taken L2 (by decide) (by decide) fun y H3 y0 y1 e3 L3 => ?_
    walk_at "go"
    refine ⟨by show 2 ≤ sizeLine; decide, fun p4 np4 => ?_⟩
    have s4 := same_new (o := .lst [.int (1 + x), .int (1 + y)]) np4
    have L4 := L3.same s4
    walk_at "go"
    refine use_taken L4 (by decide) (by decide) fun z H5 z0 z1 e5 L5 => ?_
    walk_at "go"
    refine .inr ⟨_, rfl, ?_⟩
    have h5 : SqL K H5 p4 [.int (1 + x), .int (1 + y)] := KB.seq e5 (L4.st.choose_spec.choose_spec.choose_spec.1) (sql upd_same)
    refine ⟨_, _, _, _, rfl, rfl, h5, pick2 _ _ _, ?_⟩
    have hn : ∃ m : Int, (if decide (z = 7) = true then V.int (1 + y) else V.int (1 + x)) = .int m ∧ 1 ≤ m ∧ m ≤ 9 := by
      split
      · exact ⟨1 + y, rfl, by omega, by omega⟩
      · exact ⟨1 + x, rfl, by omega, by omega⟩
    obtain ⟨m, hm, m0, m1⟩ := hn
    rw [hm]
    walk_at "go"
    refine use_taken L5 (by decide) (by decide) fun g H6 g0 g1 e6 L6 => ?_
    walk_at "go"
    refine use_contract L6 (by omega) (by omega) fun u t1 H7 e7 L7 d1 i1 p1 => ?_
    walk_at "go"
    refine ⟨by show 4 ≤ sizeLine; decide, fun p8 np8 => ?_⟩
    have s8 := same_new (o := .tup [.str "often", .int m, .int (1 + g), u]) np8
    refine q _ (.often m (1 + g) t1) _ (((((((e1.trans e2).trans e3).trans (.of s4)).trans e5).trans e6).trans e7).trans (.of s8)) (L7.same s8) ⟨p8, u, rfl, sqt upd_same, DK.tm (.of s8) d1⟩ ⟨⟨m0, m1⟩, ⟨by omega, by omega⟩, i1⟩ ?_
    show ((t1.deep + 1 : Nat) : Int) ≤ d
    omega
  walk_at "go"
  refine use_asked L1 (by decide) (by decide) fun x qq H2 e2 L2 dq iq pq => ?_
  walk_at "go"
  refine ifd (fun c8 => ?_) (fun c8 => ?_)
  · walk_at "go"
    refine use_contract L2 (by omega) (by omega) fun u t1 H3 e3 L3 d1 i1 p1 => ?_
    walk_at "go"
    refine use_contract L3 (by omega) (by omega) fun z t2 H4 e4 L4 d2 i2 p2 => ?_
    walk_at "go"
    refine ⟨by show 4 ≤ sizeLine; decide, fun p np => ?_⟩
    have s5 := same_new (o := .tup [.str "if", x, u, z]) np
    refine q _ (.ite qq t1 t2) _ ((((e1.trans e2).trans e3).trans e4).trans (.of s5)) (L4.same s5)
      ⟨p, x, u, z, rfl, sqt upd_same, DC.tm (((L2.tm e3).trans (L3.tm e4)).trans (.of s5)) dq, DK.tm ((L3.tm e4).trans (.of s5)) d1, DK.tm (.of s5) d2⟩ ⟨⟨iq, by omega⟩, i1, i2⟩ ?_
    show ((max t1.deep t2.deep + 1 : Nat) : Int) ≤ d
    omega
  · walk_at "go"
    refine ⟨by show 2 ≤ sizeLine; decide, fun p np => ?_⟩
    have s3 := same_new (o := .lst [.str "when", .str "until"]) np
    have L3 := L2.same s3
    walk_at "go"
    rcases pick2i (.str "when") (.str "until") (i := r - 10) (by omega) (by omega) with hw | hw
    · refine ⟨_, _, _, _, rfl, rfl, sql upd_same, hw, ?_⟩
      walk_at "go"
      refine use_contract L3 (by omega) (by omega) fun u t1 H4 e4 L4 d1 i1 p1 => ?_
      walk_at "go"
      refine ⟨by show 3 ≤ sizeLine; decide, fun p' np' => ?_⟩
      have s5 := same_new (o := .tup [.str "when", x, u]) np'
      refine q _ (.whn qq t1) _ ((((e1.trans e2).trans (.of s3)).trans e4).trans (.of s5)) (L4.same s5) ⟨p', x, u, rfl, sqt upd_same, DC.tm (((TM.of s3).trans (L3.tm e4)).trans (.of s5)) dq, DK.tm (.of s5) d1⟩ ⟨⟨iq, by omega⟩, i1⟩ ?_
      show ((t1.deep + 1 : Nat) : Int) ≤ d
      omega
    · refine ⟨_, _, _, _, rfl, rfl, sql upd_same, hw, ?_⟩
      walk_at "go"
      refine use_contract L3 (by omega) (by omega) fun u t1 H4 e4 L4 d1 i1 p1 => ?_
      walk_at "go"
      refine ⟨by show 3 ≤ sizeLine; decide, fun p' np' => ?_⟩
      have s5 := same_new (o := .tup [.str "until", x, u]) np'
      refine q _ (.untl qq t1) _ ((((e1.trans e2).trans (.of s3)).trans e4).trans (.of s5)) (L4.same s5) ⟨p', x, u, rfl, sqt upd_same, DC.tm (((TM.of s3).trans (L3.tm e4)).trans (.of s5)) dq, DK.tm (.of s5) d1⟩ ⟨⟨iq, by omega⟩, i1⟩ ?_
      show ((t1.deep + 1 : Nat) : Int) ≤ d
      omega
end

/-- the names that are drawn -/
def nmsN (c : Cfg) (m : Nat) : List Str := (List.range m).map fun (i : Nat) => wd c (8 + (0 + (i : Int)))
theorem nms_len {c : Cfg} {m : Nat} : (nmsN c m).length = m := by unfold nmsN; rw [List.length_map, List.length_range]
theorem nms_snoc {c : Cfg} {m : Nat} : nmsN c (m + 1) = nmsN c m ++ [wd c (8 + (0 + (m : Int)))] := by
  unfold nmsN
  rw [List.range_succ, List.map_append]
  rfl
def spDrawn (K : PySem.W.Frag) : Sp := fun vs H Q _ => ∃ (c : Cfg) (ns : List Int) (xs : List Str) (s na nm : Addr) (m : Nat), vs = [.ref s, .int m] ∧ LS K c ns xs s na nm H ∧ m ≤ 3 ∧
  ∀ (v : V) (t : Con) (nm' : Addr) (H' : Hp), KB s H H' → LS K c ns (nmsN c m) s na nm' H' → DK K H' t v → t.In (nmsN c m) → t.deep ≤ 5 → Q v H'
theorem use_drawn {K : PySem.W.Frag} {c : Cfg} {ns : List Int} {xs : List Str} {s na nm : Addr} {m : Nat} {j : Int} {H : Hp} {Q : VK} {E : XK} (L : LS K c ns xs s na nm H) (hj : j = m) (hm : m ≤ 3)
    (q : ∀ (v : V) (t : Con) (nm' : Addr) (H' : Hp), KB s H H' → LS K c ns (nmsN c m) s na nm' H' → DK K H' t v → t.In (nmsN c m) → t.deep ≤ 5 → Q v H') :
    spDrawn K ([.ref s, .int j] ++ []) H Q E := ⟨c, ns, xs, s, na, nm, m, by rw [hj]; rfl, L, hm, q⟩
section
variable {P : Program} {w : World} {K : PySem.W.Frag} {mg : Str → Option Value} {base : Heap}
abbrev s__law_drawn : Stmt := topS 20
theorem sc__law_drawn : FnScope ["_law_s", "_law_many", "_law_k", "_law_contract_here", "_law_way"] ["_law_s", "_law_many"] (defScope s__law_drawn) := ⟨rfl, rfl, rfl, by decide +kernel, rfl, by decide +kernel, by decide +kernel⟩
theorem h__law_drawn {k : Nat} {f : Addr} {fd : FuncData} (O : Own K mg "_law_drawn" s__law_drawn ["_law_s", "_law_many"] f fd)  {f__law_taken : Addr} {fd__law_taken : FuncData} (D__law_taken : Has P w K mg base "_law_taken" ["_law_s", "_law_most"] k CX0 (spTaken K) f__law_taken fd__law_taken) {f__law_sides : Addr} {fd__law_sides : FuncData} (D__law_sides : Has P w K mg base "_law_sides" ["_law_s"] k CX0 (spSides K) f__law_sides fd__law_sides) {f__law_asked : Addr} {fd__law_asked : FuncData} (D__law_asked : Has P w K mg base "_law_asked" ["_law_s", "_law_deep"] k CX0 (spAsked K 4) f__law_asked fd__law_asked) {f__law_told : Addr} {fd__law_told : FuncData} (D__law_told : Has P w K mg base "_law_told" ["_law_s", "_law_deep"] k CX0 (spTold K 4) f__law_told fd__law_told) {f__law_good : Addr} {fd__law_good : FuncData} (D__law_good : Has P w K mg base "_law_good" ["_law_s"] k CX0 (spGood K) f__law_good fd__law_good) {f__law_contract : Addr} {fd__law_contract : FuncData} (D__law_contract : Has P w K mg base "_law_contract" ["_law_s", "_law_deep"] k CX0 (spContract K 4) f__law_contract fd__law_contract) {f__law_word : Addr} {fd__law_word : FuncData} (D__law_word : Has P w K mg base "_law_word" ["_law_s", "_law_k"] k CX0 (spWord K) f__law_word fd__law_word) (m_range : mg "range" = none) : Has P w K mg base "_law_drawn" ["_law_s", "_law_many"] (k + 1) CX0 (spDrawn K) f fd := by
  refine O.has (O.F.ok sc__law_drawn (fun vs H Q E h => ?_) (fun cdv A outer s H vs Q E hr h => ?_))
  · obtain ⟨c, ns, xs, s, na, nm, m, rfl, _⟩ := h
    rfl
  obtain ⟨c, ns, xs0, s, na, nm, m, rfl, L, hm, q⟩ := h
  refine ⟨_, (pss_cons (ps_dput (hu_of hr) (pv 0) pe_str (pe_lc (own := [("_law_k", 2)]) (g := gName 2) rfl sc__law_drawn.nd (pi_range1 (by rfl) m_range (pa_cons (pv 1) pa_nil)) (blkOk_by (own := [("_law_k", 2)]) (N := ["_law_s", "_law_many", "_law_k", "_law_contract_here", "_law_way"]) (sc := defScope s__law_drawn) (by decide +kernel)) (fun _ _ _ _ _ => pg_name (i := 2) sc__law_drawn.nd rfl (.inl rfl)) (fun _ _ _ _ _ => pts_nil) (fun _ _ _ _ _ => (pe_call D__law_word.G hr (by rfl) D__law_word.g D__law_word.k D__law_word.b .nil pass0 (pa_cons (pv 0) (pa_cons (pe_op op_add pe_int (pv 2)) pa_nil))))) (by rfl)) (pss_cons (ps_if (pt_cmpR op_lt (pe_call D__law_taken.G hr (by rfl) D__law_taken.g D__law_taken.k D__law_taken.b .nil pass0 (pa_cons (pv 0) (pa_cons pe_int pa_nil))) pe_int (nomark _)) (pss_one (ps_ret (pe_call D__law_contract.G hr (by rfl) D__law_contract.g D__law_contract.k D__law_contract.b .nil pass0 (pa_cons (pv 0) (pa_cons pe_int pa_nil))))) pss_nil) (pss_cons (ps_set (i := 3) sc__law_drawn.nd rfl (.inl rfl) (pe_op op_catA (pe_op op_catA (pe_tup (pa_cons pe_str pa_nil)) (pe_call D__law_sides.G hr (by rfl) D__law_sides.g D__law_sides.k D__law_sides.b .nil pass0 (pa_cons (pv 0) pa_nil))) (pe_tup (pa_cons (pe_call D__law_good.G hr (by rfl) D__law_good.g D__law_good.k D__law_good.b .nil pass0 (pa_cons (pv 0) pa_nil)) (pa_cons (pe_call D__law_told.G hr (by rfl) D__law_told.g D__law_told.k D__law_told.b .nil pass0 (pa_cons (pv 0) (pa_cons pe_int pa_nil))) pa_nil))))) (pss_cons (ps_for PassesOwn.never rfl (pi_range1 (by rfl) m_range (pa_cons pe_int pa_nil)) (pg_name (i := 2) sc__law_drawn.nd rfl (.inl rfl)) (pss_cons (ps_set (i := 4) sc__law_drawn.nd rfl (.inl rfl) (pe_call D__law_taken.G hr (by rfl) D__law_taken.g D__law_taken.k D__law_taken.b .nil pass0 (pa_cons (pv 0) (pa_cons pe_int pa_nil)))) (pss_one (ps_if (pt_cmpR op_eq (pv 4) pe_int (nomark _)) (pss_one (ps_set (i := 3) sc__law_drawn.nd rfl (.inl rfl) (pe_tup (pa_cons pe_str (pa_cons (pe_call D__law_taken.G hr (by rfl) D__law_taken.g D__law_taken.k D__law_taken.b .nil pass0 (pa_cons (pv 0) (pa_cons pe_int pa_nil))) (pa_cons (pv 3) pa_nil)))))) (pss_one (ps_if (pt_cmpR op_eq (pv 4) pe_int (nomark _)) (pss_one (ps_set (i := 3) sc__law_drawn.nd rfl (.inl rfl) (pe_op op_catA (pe_op op_catA (pe_tup (pa_cons pe_str pa_nil)) (pe_call D__law_sides.G hr (by rfl) D__law_sides.g D__law_sides.k D__law_sides.b .nil pass0 (pa_cons (pv 0) pa_nil))) (pe_tup (pa_cons (pv 3) pa_nil))))) (pss_one (ps_if (pt_cmpR op_eq (pv 4) pe_int (nomark _)) (pss_one (ps_set (i := 3) sc__law_drawn.nd rfl (.inl rfl) (pe_tup (pa_cons pe_str (pa_cons (pe_op op_add pe_int (pe_call D__law_taken.G hr (by rfl) D__law_taken.g D__law_taken.k D__law_taken.b .nil pass0 (pa_cons (pv 0) (pa_cons pe_int pa_nil)))) (pa_cons (pe_op op_add pe_int (pe_call D__law_taken.G hr (by rfl) D__law_taken.g D__law_taken.k D__law_taken.b .nil pass0 (pa_cons (pv 0) (pa_cons pe_int pa_nil)))) (pa_cons (pv 3) pa_nil))))))) (pss_one (ps_set (i := 3) sc__law_drawn.nd rfl (.inl rfl) (pe_tup (pa_cons (pe_ix ix_list (pe_lst (pa_cons pe_str (pa_cons pe_str pa_nil))) (pe_op op_sub (pv 4) pe_int) (fun _ _ => rfl)) (pa_cons (pe_call D__law_asked.G hr (by rfl) D__law_asked.g D__law_asked.k D__law_asked.b .nil pass0 (pa_cons (pv 0) (pa_cons pe_int pa_nil))) (pa_cons (pv 3) pa_nil)))))))))))))) (pss_one (ps_ret (pv 3))))))), ?_⟩
  have ok := L.ok
  walk_at "go"
  refine ⟨by omega, by omega, fun D nD => lc_range (lo := 0) (n := m) (fun i H3 => H3 D = some (.lst ((nmsN c i).map V.str)) ∧ LS K c ns xs0 s na nm H3 ∧ Same H H3) ⟨upd_same, L.same (same_new nD), same_new nD⟩ (fun i H3 hi hW => ?_) (fun H3 hW => ?_)⟩
  · obtain ⟨hD, L3, e3⟩ := hW
    walk_at "go"
    refine use_word L3 (by omega) (by omega) fun H4 e4 => ?_
    have hD4 := e4 _ _ hD
    refine ⟨_, hD4, by rw [List.length_map, nms_len]; exact small1000 (by omega), ?_, L.push nD (L3.same e4) hD4, fun a o h => ?_⟩
    · rw [upd_same, nms_snoc, List.map_append]
      rfl
    · rw [upd_ne (ne_of_none h nD)]
      exact e4 _ _ (e3 _ _ h)
  obtain ⟨hD, L3, e3⟩ := hW
  obtain ⟨n, re, mx, hs3, g0, g1, g2, g3⟩ := L3.st
  walk_at "go"
  refine g_put (kvs' := sd c na D n re mx) hs3 (by show 9 < sizeLine; decide) (by rfl) ?_
  have L4 := L3.names g0 g1 g2 g3 hD (by rw [nms_len]; omega)
  have k4 : KB s H (upd H3 s (.dK (sd c na D n re mx))) := (KB.of e3).trans KB.upd
  generalize upd H3 s (.dK (sd c na D n re mx)) = H4 at L4 k4 ⊢
  generalize nmsN c m = xs at L4 q
  walk_at "go"
  refine use_taken L4 (by decide) (by decide) fun r H5 a0 a1 e5 L5 => ?_
  walk_at "go"
  refine ifd (fun c1 => ?_) (fun c1 => ?_)
  · walk_at "go"
    refine use_contract L5 (by decide) (by decide) fun v t H6 e6 L6 d6 i6 p6 => ?_
    exact q v t D H6 ((k4.trans e5).trans e6) L6 d6 i6 (by omega)
  walk_at "go"
  refine ⟨by show 1 ≤ sizeLine; decide, fun p1 np1 => ?_⟩
  have s6 := same_new (o := .tup [.str "give"]) np1
  have h6 : SqT K (upd H5 p1 (.tup [.str "give"])) p1 [.str "give"] := sqt upd_same
  have L6 := L5.same s6
  walk_at "go"
  refine use_sides L6 fun p i j H7 i0 i1 j0 j1 ij e7 L7 hp => ?_
  refine cat2 (L6.tm e7 _ _ h6) hp (by simp) (by simp) (by show 3 ≤ 1000; decide) fun p8 np8 => ?_
  have s8 := same_new (o := .tup ([V.str "give"] ++ [.str (wd c i), .str (wd c j)])) np8
  have L8 := L7.same s8
  have h8 : SqT K (upd H7 p8 (.tup ([V.str "give"] ++ [.str (wd c i), .str (wd c j)]))) p8 [.str "give", .str (wd c i), .str (wd c j)] := sqt upd_same
  walk_at "go"
  refine use_good L8 fun g H9 g0 g1 e9 L9 => ?_
  walk_at "go"
  refine use_told L9 (by decide) (by decide) fun u t H10 e10 L10 d10 i10 p10 => ?_
  walk_at "go"
  refine ⟨by show 2 ≤ sizeLine; decide, fun p11 np11 => ?_⟩
  have s11 := same_new (o := .tup [.str (wd c g), u]) np11
  refine cat2 (SqT.same s11 (L9.tm e10 _ _ (L8.tm e9 _ _ h8))) (sqt upd_same) (by simp) (by simp) (by show 5 ≤ 1000; decide) fun p12 np12 => ?_
  have s12 := s11.trans (same_new (o := .tup ([V.str "give", .str (wd c i), .str (wd c j)] ++ [.str (wd c g), u])) np12)
  have L12 := L10.same s12
  have k12 := ((((((k4.trans e5).trans (.of s6)).trans e7).trans (.of s8)).trans e9).trans e10).trans (KB.of s12)
  have d12 : DK K (upd (upd H10 p11 (.tup [.str (wd c g), u])) p12 (.tup ([V.str "give", .str (wd c i), .str (wd c j)] ++ [.str (wd c g), u]))) (.give (wd c i) (wd c j) (wd c g) t) (.ref p12) := ⟨p12, u, rfl, sqt upd_same, DN.tm (.of s12) d10⟩
  have i12 : (Con.give (wd c i) (wd c j) (wd c g) t).In xs := ⟨⟨⟨wd_word ok i0, wd_word ok j0, wd_word ok (by omega)⟩, wd_ne ok i0 (by omega) j0 (by omega) ij⟩, i10, by omega⟩
  generalize (upd (upd H10 p11 (.tup [.str (wd c g), u])) p12 (.tup ([V.str "give", .str (wd c i), .str (wd c j)] ++ [.str (wd c g), u]))) = H12 at L12 k12 d12 ⊢
  walk_at "go"
  refine ⟨by decide, by decide, for_range (lo := 0) (n := 5) (fun l σ H13 => ∃ y3 y4 : Option V, ∃ (v : V) (t : Con), σ = [some (.ref s), some (.int m), y3, some v, y4] ∧ DK K H13 t v ∧ t.In xs ∧ t.deep ≤ l ∧ KB s H H13 ∧ LS K c ns xs s na D H13)
    ⟨none, none, _, _, rfl, d12, i12, Nat.le_refl 0, k12, L12⟩ (fun l σ H13 hl hW => ?_) (fun σ H13 hW => ?_)⟩
  · obtain ⟨y3, y4, v, t0, rfl, dt, it, pt, k13, L13⟩ := hW
    walk_at "go"
    refine use_taken L13 (by decide) (by decide) fun way H14 w0 w1 e14 L14 => ?_
    have dt14 := DK.tm (L13.tm e14) dt
    have k14 := k13.trans e14
    walk_at "go"
    refine ifd (fun c2 => ?_) (fun c2 => ?_)
    · walk_at "go"
      refine use_taken L14 (by decide) (by decide) fun z H15 z0 z1 e15 L15 => ?_
      walk_at "go"
      refine ⟨by show 3 ≤ sizeLine; decide, fun p np => ?_⟩
      have s16 := same_new (o := .tup [.str "later", .int z, v]) np
      refine ⟨_, _, _, .later z t0, rfl, ⟨p, v, rfl, sqt upd_same, DK.tm ((L14.tm e15).trans (.of s16)) dt14⟩, ⟨⟨z0, by omega⟩, it⟩, ?_, (k14.trans e15).trans (.of s16), L15.same s16⟩
      show t0.deep + 1 ≤ l + 1
      omega
    walk_at "go"
    refine ifd (fun c3 => ?_) (fun c3 => ?_)
    · walk_at "go"
      refine ⟨by show 1 ≤ sizeLine; decide, fun q1 nq1 => ?_⟩
      have s15 := same_new (o := .tup [.str "turned"]) nq1
      have h15 : SqT K (upd H14 q1 (.tup [.str "turned"])) q1 [.str "turned"] := sqt upd_same
      have L15 := L14.same s15
      walk_at "go"
      refine use_sides L15 fun pp a b H16 a0 a1 b0 b1 ab e16 L16 hpp => ?_
      refine cat2 (L15.tm e16 _ _ h15) hpp (by simp) (by simp) (by show 3 ≤ 1000; decide) fun q2 nq2 => ?_
      have s17 := same_new (o := .tup ([V.str "turned"] ++ [.str (wd c a), .str (wd c b)])) nq2
      have h17 : SqT K (upd H16 q2 (.tup ([V.str "turned"] ++ [.str (wd c a), .str (wd c b)]))) q2 [.str "turned", .str (wd c a), .str (wd c b)] := sqt upd_same
      have L17 := L16.same s17
      walk_at "go"
      refine ⟨by show 1 ≤ sizeLine; decide, fun q3 nq3 => ?_⟩
      have s18 := same_new (o := .tup [v]) nq3
      refine cat2 (SqT.same s18 h17) (sqt upd_same) (by simp) (by simp) (by show 4 ≤ 1000; decide) fun q4 nq4 => ?_
      have s19 := s18.trans (same_new (o := .tup ([V.str "turned", .str (wd c a), .str (wd c b)] ++ [v])) nq4)
      refine ⟨_, _, _, .turned (wd c a) (wd c b) t0, rfl, ⟨q4, v, rfl, sqt upd_same, DK.tm ((((TM.of s15).trans (L15.tm e16)).trans (.of s17)).trans (.of s19)) dt14⟩, ⟨⟨⟨wd_word ok a0, wd_word ok b0⟩, wd_ne ok a0 (by omega) b0 (by omega) ab⟩, it⟩, ?_, (((k14.trans (.of s15)).trans e16).trans (.of s17)).trans (.of s19), L17.same s19⟩
      show t0.deep + 1 ≤ l + 1
      omega
    walk_at "go"
    refine ifd (fun c4 => ?_) (fun c4 => ?_)
    · walk_at "go"
      refine use_taken L14 (by decide) (by decide) fun z H15 z0 z1 e15 L15 => ?_
      walk_at "go"
      refine use_taken L15 (by decide) (by decide) fun y H16 y0 y1 e16 L16 => ?_
      walk_at "go"
      refine ⟨by show 4 ≤ sizeLine; decide, fun p np => ?_⟩
      have s17 := same_new (o := .tup [.str "often", .int (1 + z), .int (1 + y), v]) np
      refine ⟨_, _, _, .often (1 + z) (1 + y) t0, rfl, ⟨p, v, rfl, sqt upd_same, DK.tm (((L14.tm e15).trans (L15.tm e16)).trans (.of s17)) dt14⟩, ⟨⟨by omega, by omega⟩, ⟨by omega, by omega⟩, it⟩, ?_, ((k14.trans e15).trans e16).trans (.of s17), L16.same s17⟩
      show t0.deep + 1 ≤ l + 1
      omega
    · walk_at "go"
      refine ⟨by show 2 ≤ sizeLine; decide, fun q1 nq1 => ?_⟩
      have s15 := same_new (o := .lst [.str "when", .str "until"]) nq1
      have L15 := L14.same s15
      walk_at "go"
      rcases pick2i (.str "when") (.str "until") (i := way - 3) (by omega) (by omega) with hw | hw
      · refine ⟨_, _, _, _, rfl, rfl, sql upd_same, hw, ?_⟩
        walk_at "go"
        refine use_asked L15 (by decide) (by decide) fun x qq H16 e16 L16 dq iq pq => ?_
        walk_at "go"
        refine ⟨by show 3 ≤ sizeLine; decide, fun p np => ?_⟩
        have s17 := same_new (o := .tup [.str "when", x, v]) np
        refine ⟨_, _, _, .whn qq t0, rfl, ⟨p, x, v, rfl, sqt upd_same, DC.tm (.of s17) dq, DK.tm (((TM.of s15).trans (L15.tm e16)).trans (.of s17)) dt14⟩, ⟨⟨iq, by omega⟩, it⟩, ?_, ((k14.trans (.of s15)).trans e16).trans (.of s17), L16.same s17⟩
        show t0.deep + 1 ≤ l + 1
        omega
      · refine ⟨_, _, _, _, rfl, rfl, sql upd_same, hw, ?_⟩
        walk_at "go"
        refine use_asked L15 (by decide) (by decide) fun x qq H16 e16 L16 dq iq pq => ?_
        walk_at "go"
        refine ⟨by show 3 ≤ sizeLine; decide, fun p np => ?_⟩
        have s17 := same_new (o := .tup [.str "until", x, v]) np
        refine ⟨_, _, _, .untl qq t0, rfl, ⟨p, x, v, rfl, sqt upd_same, DC.tm (.of s17) dq, DK.tm (((TM.of s15).trans (L15.tm e16)).trans (.of s17)) dt14⟩, ⟨⟨iq, by omega⟩, it⟩, ?_, ((k14.trans (.of s15)).trans e16).trans (.of s17), L16.same s17⟩
        show t0.deep + 1 ≤ l + 1
        omega
  · obtain ⟨y3, y4, v, t0, rfl, dt, it, pt, k13, L13⟩ := hW
    walk_at "go"
    exact q v t0 D H13 k13 L13 dt it pt
end

/-! ### what is drawn is a contract -/
theorem wf_of {n : Nat} {kind u : Str} {ks : List Str} {ds : List PyData} (hk : kindsOf kind u = some ks) (hl : ks.length = ds.length) (hp : (List.zip ks ds).all (partOk n) = true) (hs : twoSides ks = false ∨ sameSides ds = false) : wf (n + 1) kind (.tuple (.str u :: ds)) = true := by
  rw [wf_tup', hk]
  dsimp only
  rw [decide_eq_true hl, hp]
  rcases hs with h | h <;> simp [h]
theorem pk_deep {n : Nat} {k : Str} {d : PyData} (h : isDeep k = true) : partOk n (k, d) = wf n k d := by unfold partOk; rw [if_pos h]
theorem pk_plain {n : Nat} {k : Str} {d : PyData} (h : isDeep k = false) : partOk n (k, d) = plainOk k d := by unfold partOk; rw [if_neg (by rw [h]; exact Bool.false_ne_true)]
theorem pk_num {n : Nat} {d : PyData} : partOk n ("number", d) = wf n "number" d := pk_deep (by decide +kernel)
theorem pk_cond {n : Nat} {d : PyData} : partOk n ("condition", d) = wf n "condition" d := pk_deep (by decide +kernel)
theorem pk_con {n : Nat} {d : PyData} : partOk n ("contract", d) = wf n "contract" d := pk_deep (by decide +kernel)
theorem pl_word {k : Str} {d : PyData} (h1 : ¬ k = "amount") (h2 : ¬ k = "wait") (h3 : ¬ k = "times") (h4 : ¬ k = "gap") : plainOk k d = isW' d := by
  unfold plainOk
  rw [if_neg h1, if_neg h2, if_neg h3, if_neg h4]
theorem pk_side {n : Nat} {d : PyData} : partOk n ("side", d) = isW' d := (pk_plain (by decide +kernel)).trans (pl_word (by decide +kernel) (by decide +kernel) (by decide +kernel) (by decide +kernel))
theorem pk_good {n : Nat} {d : PyData} : partOk n ("good", d) = isW' d := (pk_plain (by decide +kernel)).trans (pl_word (by decide +kernel) (by decide +kernel) (by decide +kernel) (by decide +kernel))
theorem pk_name {n : Nat} {d : PyData} : partOk n ("name", d) = isW' d := (pk_plain (by decide +kernel)).trans (pl_word (by decide +kernel) (by decide +kernel) (by decide +kernel) (by decide +kernel))
theorem pk_amount {n : Nat} {d : PyData} : partOk n ("amount", d) = inB (-999999999999) 999999999999 d := by
  refine (pk_plain (by decide +kernel)).trans ?_
  unfold plainOk
  rw [if_pos rfl]
theorem pk_wait {n : Nat} {d : PyData} : partOk n ("wait", d) = inB 0 99 d := by
  refine (pk_plain (by decide +kernel)).trans ?_
  have e : ¬ ("wait" : Str) = "amount" := by decide +kernel
  unfold plainOk
  rw [if_neg e, if_pos rfl]
theorem pk_times {n : Nat} {d : PyData} : partOk n ("times", d) = inB 1 9 d := by
  refine (pk_plain (by decide +kernel)).trans ?_
  have e : ¬ ("times" : Str) = "amount" := by decide +kernel
  have e2 : ¬ ("times" : Str) = "wait" := by decide +kernel
  unfold plainOk
  rw [if_neg e, if_neg e2, if_pos rfl]
theorem pk_gap {n : Nat} {d : PyData} : partOk n ("gap", d) = inB 1 99 d := by
  refine (pk_plain (by decide +kernel)).trans ?_
  have e : ¬ ("gap" : Str) = "amount" := by decide +kernel
  have e2 : ¬ ("gap" : Str) = "wait" := by decide +kernel
  have e3 : ¬ ("gap" : Str) = "times" := by decide +kernel
  unfold plainOk
  rw [if_neg e, if_neg e2, if_neg e3, if_pos rfl]
theorem inB_of {lo hi i : Int} (h0 : lo ≤ i) (h1 : i ≤ hi) : inB lo hi (.int i) = true := by
  show (decide (lo ≤ i) && decide (i ≤ hi)) = true
  rw [decide_eq_true h0, decide_eq_true h1]
  rfl
/-- as data -/
def nD : Num → PyData
  | .num n => .tuple [.str "num", .int n]
  | .read x => .tuple [.str "read", .str x]
  | .bin o a b => .tuple [.str o.word, nD a, nD b]
def cD : Cond → PyData
  | .lt a b => .tuple [.str "below", nD a, nD b]
  | .neg a => .tuple [.str "not", cD a]
  | .con a b => .tuple [.str "all", cD a, cD b]
  | .dis a b => .tuple [.str "any", cD a, cD b]
def kD : Con → PyData
  | .none => .tuple [.str "none"]
  | .give a b g o => .tuple [.str "give", .str a, .str b, .str g, nD o]
  | .both c d => .tuple [.str "both", kD c, kD d]
  | .turned a b c => .tuple [.str "turned", .str a, .str b, kD c]
  | .later n c => .tuple [.str "later", .int n, kD c]
  | .often n g c => .tuple [.str "often", .int n, .int g, kD c]
  | .ite q c d => .tuple [.str "if", cD q, kD c, kD d]
  | .whn q c => .tuple [.str "when", cD q, kD c]
  | .untl q c => .tuple [.str "until", cD q, kD c]
section
variable {K : PySem.W.Frag} {H : Hp}
theorem DN.data : ∀ {t : Num} {v : V}, DN K H t v → Dp K H v (nD t)
  | .num n, _, ⟨a, e, h⟩ => e ▸ .tup h (.cons (.str _) (.cons (.int _) .nil))
  | .read x, _, ⟨a, e, h⟩ => e ▸ .tup h (.cons (.str _) (.cons (.str _) .nil))
  | .bin o p q, _, ⟨a, u, z, e, h, h1, h2⟩ => e ▸ .tup h (.cons (.str _) (.cons (DN.data h1) (.cons (DN.data h2) .nil)))
theorem DC.data : ∀ {t : Cond} {v : V}, DC K H t v → Dp K H v (cD t)
  | .lt p q, _, ⟨a, u, z, e, h, h1, h2⟩ => e ▸ .tup h (.cons (.str _) (.cons (DN.data h1) (.cons (DN.data h2) .nil)))
  | .neg p, _, ⟨a, u, e, h, h1⟩ => e ▸ .tup h (.cons (.str _) (.cons (DC.data h1) .nil))
  | .con p q, _, ⟨a, u, z, e, h, h1, h2⟩ => e ▸ .tup h (.cons (.str _) (.cons (DC.data h1) (.cons (DC.data h2) .nil)))
  | .dis p q, _, ⟨a, u, z, e, h, h1, h2⟩ => e ▸ .tup h (.cons (.str _) (.cons (DC.data h1) (.cons (DC.data h2) .nil)))
theorem DK.data : ∀ {t : Con} {v : V}, DK K H t v → Dp K H v (kD t)
  | .none, _, ⟨p, e, h⟩ => e ▸ .tup h (.cons (.str _) .nil)
  | .give a b g o, _, ⟨p, u, e, h, h1⟩ => e ▸ .tup h (.cons (.str _) (.cons (.str _) (.cons (.str _) (.cons (.str _) (.cons (DN.data h1) .nil)))))
  | .both c d, _, ⟨p, u, z, e, h, h1, h2⟩ => e ▸ .tup h (.cons (.str _) (.cons (DK.data h1) (.cons (DK.data h2) .nil)))
  | .turned a b c, _, ⟨p, u, e, h, h1⟩ => e ▸ .tup h (.cons (.str _) (.cons (.str _) (.cons (.str _) (.cons (DK.data h1) .nil))))
  | .later n c, _, ⟨p, u, e, h, h1⟩ => e ▸ .tup h (.cons (.str _) (.cons (.int _) (.cons (DK.data h1) .nil)))
  | .often n g c, _, ⟨p, u, e, h, h1⟩ => e ▸ .tup h (.cons (.str _) (.cons (.int _) (.cons (.int _) (.cons (DK.data h1) .nil))))
  | .ite q c d, _, ⟨p, x, u, z, e, h, h0, h1, h2⟩ => e ▸ .tup h (.cons (.str _) (.cons (DC.data h0) (.cons (DK.data h1) (.cons (DK.data h2) .nil))))
  | .whn q c, _, ⟨p, x, u, e, h, h0, h1⟩ => e ▸ .tup h (.cons (.str _) (.cons (DC.data h0) (.cons (DK.data h1) .nil)))
  | .untl q c, _, ⟨p, x, u, e, h, h0, h1⟩ => e ▸ .tup h (.cons (.str _) (.cons (DC.data h0) (.cons (DK.data h1) .nil)))
end
theorem op_kinds (o : Op) : kindsOf "number" o.word = some [("number" : Str), ("number" : Str)] := by cases o <;> decide +kernel
theorem op_short (o : Op) : szOk (.str o.word) = true := by cases o <;> decide +kernel
theorem isW_short {x : Str} (h : isW x = true) : szOk (.str x) = true := by
  unfold isW at h
  simp only [Bool.and_eq_true, decide_eq_true_eq] at h
  show decide (x.length ≤ 1000) = true
  exact decide_eq_true (by omega)
theorem wf_nD {xs : List Str} (hx : ∀ x ∈ xs, isW x = true) : ∀ {t : Num} {n : Nat}, t.In xs → t.deep + 1 ≤ n → wf n "number" (nD t) = true
  | .num i, n + 1, h, _ => by
    refine wf_of (ks := ["amount"]) (by decide +kernel) rfl ?_ (.inl (by decide +kernel))
    have h : -1000000000000 < i ∧ i < 1000000000000 := h
    simp only [List.zip_cons_cons, List.zip_nil_right, List.all_cons, List.all_nil, pk_amount, Bool.and_true]
    exact inB_of (by omega) (by omega)
  | .read x, n + 1, h, _ => by
    refine wf_of (ks := ["name"]) (by decide +kernel) rfl ?_ (.inl (by decide +kernel))
    simp only [List.zip_cons_cons, List.zip_nil_right, List.all_cons, List.all_nil, pk_name, Bool.and_true]
    exact hx x h
  | .bin o a b, n + 1, h, hn => by
    have hn : max a.deep b.deep + 1 + 1 ≤ n + 1 := hn
    refine wf_of (ks := ["number", "number"]) (op_kinds o) rfl ?_ (.inl (by decide +kernel))
    simp only [List.zip_cons_cons, List.zip_nil_right, List.all_cons, List.all_nil, pk_num, Bool.and_true]
    rw [wf_nD hx h.1 (by omega), wf_nD hx h.2 (by omega)]
    rfl
theorem wf_cD {xs : List Str} {m : Nat} (hx : ∀ x ∈ xs, isW x = true) : ∀ {t : Cond} {n : Nat}, t.In xs m → t.deep + m + 2 ≤ n → wf n "condition" (cD t) = true
  | .lt a b, n + 1, h, hn => by
    obtain ⟨⟨h1, d1⟩, h2, d2⟩ := h
    refine wf_of (ks := ["number", "number"]) (by decide +kernel) rfl ?_ (.inl (by decide +kernel))
    simp only [List.zip_cons_cons, List.zip_nil_right, List.all_cons, List.all_nil, pk_num, Bool.and_true]
    rw [wf_nD hx h1 (by omega), wf_nD hx h2 (by omega)]
    rfl
  | .neg a, n + 1, h, hn => by
    have hn : a.deep + 1 + m + 2 ≤ n + 1 := hn
    refine wf_of (ks := ["condition"]) (by decide +kernel) rfl ?_ (.inl (by decide +kernel))
    simp only [List.zip_cons_cons, List.zip_nil_right, List.all_cons, List.all_nil, pk_cond, Bool.and_true]
    exact wf_cD (m := m) hx h (by omega)
  | .con a b, n + 1, h, hn => by
    have hn : max a.deep b.deep + 1 + m + 2 ≤ n + 1 := hn
    refine wf_of (ks := ["condition", "condition"]) (by decide +kernel) rfl ?_ (.inl (by decide +kernel))
    simp only [List.zip_cons_cons, List.zip_nil_right, List.all_cons, List.all_nil, pk_cond, Bool.and_true]
    rw [wf_cD (m := m) hx h.1 (by omega), wf_cD (m := m) hx h.2 (by omega)]
    rfl
  | .dis a b, n + 1, h, hn => by
    have hn : max a.deep b.deep + 1 + m + 2 ≤ n + 1 := hn
    refine wf_of (ks := ["condition", "condition"]) (by decide +kernel) rfl ?_ (.inl (by decide +kernel))
    simp only [List.zip_cons_cons, List.zip_nil_right, List.all_cons, List.all_nil, pk_cond, Bool.and_true]
    rw [wf_cD (m := m) hx h.1 (by omega), wf_cD (m := m) hx h.2 (by omega)]
    rfl
theorem same_ne {a b : Str} {r : List PyData} (h : a ≠ b) : sameSides (.str a :: .str b :: r) = false := decide_eq_false h
theorem wf_kD {xs : List Str} (hx : ∀ x ∈ xs, isW x = true) : ∀ {t : Con} {n : Nat}, t.In xs → t.deep + 6 ≤ n → wf n "contract" (kD t) = true
  | .none, n + 1, _, _ => wf_of (ks := []) (by decide +kernel) rfl rfl (.inl (by decide +kernel))
  | .give a b g o, n + 1, ⟨⟨⟨ha, hb, hg⟩, hne⟩, ho, hd⟩, hn => by
    have hn : 0 + 6 ≤ n + 1 := hn
    refine wf_of (ks := ["side", "side", "good", "number"]) (by decide +kernel) rfl ?_ (.inr (same_ne hne))
    simp only [List.zip_cons_cons, List.zip_nil_right, List.all_cons, List.all_nil, pk_num, pk_side, pk_good, Bool.and_true]
    rw [wf_nD hx ho (by omega), show isW' (.str a) = true from ha, show isW' (.str b) = true from hb, show isW' (.str g) = true from hg]
    rfl
  | .both c d, n + 1, h, hn => by
    have hn : max c.deep d.deep + 1 + 6 ≤ n + 1 := hn
    refine wf_of (ks := ["contract", "contract"]) (by decide +kernel) rfl ?_ (.inl (by decide +kernel))
    simp only [List.zip_cons_cons, List.zip_nil_right, List.all_cons, List.all_nil, pk_con, Bool.and_true]
    rw [wf_kD hx h.1 (by omega), wf_kD hx h.2 (by omega)]
    rfl
  | .turned a b c, n + 1, ⟨⟨⟨ha, hb⟩, hne⟩, hc⟩, hn => by
    have hn : c.deep + 1 + 6 ≤ n + 1 := hn
    refine wf_of (ks := ["side", "side", "contract"]) (by decide +kernel) rfl ?_ (.inr (same_ne hne))
    simp only [List.zip_cons_cons, List.zip_nil_right, List.all_cons, List.all_nil, pk_con, pk_side, Bool.and_true]
    rw [wf_kD hx hc (by omega), show isW' (.str a) = true from ha, show isW' (.str b) = true from hb]
    rfl
  | .later i c, n + 1, ⟨⟨h0, h1⟩, hc⟩, hn => by
    have hn : c.deep + 1 + 6 ≤ n + 1 := hn
    refine wf_of (ks := ["wait", "contract"]) (by decide +kernel) rfl ?_ (.inl (by decide +kernel))
    simp only [List.zip_cons_cons, List.zip_nil_right, List.all_cons, List.all_nil, pk_con, pk_wait, Bool.and_true]
    rw [wf_kD hx hc (by omega), inB_of h0 h1]
    rfl
  | .often i g c, n + 1, ⟨⟨h0, h1⟩, ⟨g0, g1⟩, hc⟩, hn => by
    have hn : c.deep + 1 + 6 ≤ n + 1 := hn
    refine wf_of (ks := ["times", "gap", "contract"]) (by decide +kernel) rfl ?_ (.inl (by decide +kernel))
    simp only [List.zip_cons_cons, List.zip_nil_right, List.all_cons, List.all_nil, pk_con, pk_times, pk_gap, Bool.and_true]
    rw [wf_kD hx hc (by omega), inB_of h0 h1, inB_of g0 g1]
    rfl
  | .ite q c d, n + 1, ⟨⟨hq, hd⟩, h1, h2⟩, hn => by
    have hn : max c.deep d.deep + 1 + 6 ≤ n + 1 := hn
    refine wf_of (ks := ["condition", "contract", "contract"]) (by decide +kernel) rfl ?_ (.inl (by decide +kernel))
    simp only [List.zip_cons_cons, List.zip_nil_right, List.all_cons, List.all_nil, pk_con, pk_cond, Bool.and_true]
    rw [wf_kD hx h1 (by omega), wf_kD hx h2 (by omega), wf_cD (m := 1) hx hq (by omega)]
    rfl
  | .whn q c, n + 1, ⟨⟨hq, hd⟩, h1⟩, hn => by
    have hn : c.deep + 1 + 6 ≤ n + 1 := hn
    refine wf_of (ks := ["condition", "contract"]) (by decide +kernel) rfl ?_ (.inl (by decide +kernel))
    simp only [List.zip_cons_cons, List.zip_nil_right, List.all_cons, List.all_nil, pk_con, pk_cond, Bool.and_true]
    rw [wf_kD hx h1 (by omega), wf_cD (m := 1) hx hq (by omega)]
    rfl
  | .untl q c, n + 1, ⟨⟨hq, hd⟩, h1⟩, hn => by
    have hn : c.deep + 1 + 6 ≤ n + 1 := hn
    refine wf_of (ks := ["condition", "contract"]) (by decide +kernel) rfl ?_ (.inl (by decide +kernel))
    simp only [List.zip_cons_cons, List.zip_nil_right, List.all_cons, List.all_nil, pk_con, pk_cond, Bool.and_true]
    rw [wf_kD hx h1 (by omega), wf_cD (m := 1) hx hq (by omega)]
    rfl
theorem sz2 {a b : PyData} (ha : szOk a = true) (hb : szOk b = true) : szOk (.tuple [a, b]) = true := by simp [szOk, szAll, ha, hb]
theorem sz3 {a b c : PyData} (ha : szOk a = true) (hb : szOk b = true) (hc : szOk c = true) : szOk (.tuple [a, b, c]) = true := by simp [szOk, szAll, ha, hb, hc]
theorem sz4 {a b c d : PyData} (ha : szOk a = true) (hb : szOk b = true) (hc : szOk c = true) (hd : szOk d = true) : szOk (.tuple [a, b, c, d]) = true := by simp [szOk, szAll, ha, hb, hc, hd]
theorem sz_lit (x : Str) (h : x.length ≤ 1000 := by decide +kernel) : szOk (.str x) = true := decide_eq_true h
theorem sz_nD {xs : List Str} (hx : ∀ x ∈ xs, isW x = true) : ∀ {t : Num}, t.In xs → szOk (nD t) = true
  | .num i, _ => sz2 (sz_lit _) rfl
  | .read x, h => sz2 (sz_lit _) (isW_short (hx x h))
  | .bin o a b, h => sz3 (op_short o) (sz_nD hx h.1) (sz_nD hx h.2)
theorem sz_cD {xs : List Str} {m : Nat} (hx : ∀ x ∈ xs, isW x = true) : ∀ {t : Cond}, t.In xs m → szOk (cD t) = true
  | .lt a b, h => sz3 (sz_lit _) (sz_nD hx h.1.1) (sz_nD hx h.2.1)
  | .neg a, h => sz2 (sz_lit _) (sz_cD (m := m) hx h)
  | .con a b, h => sz3 (sz_lit _) (sz_cD (m := m) hx h.1) (sz_cD (m := m) hx h.2)
  | .dis a b, h => sz3 (sz_lit _) (sz_cD (m := m) hx h.1) (sz_cD (m := m) hx h.2)
theorem sz_kD {xs : List Str} (hx : ∀ x ∈ xs, isW x = true) : ∀ {t : Con}, t.In xs → szOk (kD t) = true
  | .none, _ => by decide +kernel
  | .give a b g o, ⟨⟨⟨ha, hb, hg⟩, hne⟩, ho, hd⟩ => by
    have := isW_short ha
    have := isW_short hb
    have := isW_short hg
    have := sz_nD hx ho
    have := sz_lit "give"
    simp [kD, szOk, szAll] at *
    simp [*]
  | .both c d, h => sz3 (sz_lit _) (sz_kD hx h.1) (sz_kD hx h.2)
  | .turned a b c, ⟨⟨⟨ha, hb⟩, hne⟩, hc⟩ => sz4 (sz_lit _) (isW_short ha) (isW_short hb) (sz_kD hx hc)
  | .later i c, h => sz3 (sz_lit _) rfl (sz_kD hx h.2)
  | .often i g c, h => sz4 (sz_lit _) rfl rfl (sz_kD hx h.2.2)
  | .ite q c d, h => sz4 (sz_lit _) (sz_cD hx h.1.1) (sz_kD hx h.2.1) (sz_kD hx h.2.2)
  | .whn q c, h => sz3 (sz_lit _) (sz_cD hx h.1.1) (sz_kD hx h.2)
  | .untl q c, h => sz3 (sz_lit _) (sz_cD hx h.1.1) (sz_kD hx h.2)

/-! ### alike -/
theorem aok_at {n : Nat} {ds : List PyData} {i : Nat} {d : PyData} (h : ∀ d ∈ ds, aOk n d) (hi : ds[i]? = some d) : aOk n d := h d (List.mem_of_getElem? hi)
section
variable {P : Program} {w : World} {K : PySem.W.Frag} {mg : Str → Option Value} {base : Heap}
abbrev s__law_alike : Stmt := topS 21
theorem sc__law_alike : FnScope ["_law_found", "_law_due", "_law_k", "_law_name"] ["_law_found", "_law_due"] (defScope s__law_alike) := ⟨rfl, rfl, rfl, by decide +kernel, rfl, by decide +kernel, by decide +kernel⟩
theorem h__law_alike {n : Nat} {k : Nat} {f : Addr} {fd : FuncData} (O : Own K mg "_law_alike" s__law_alike ["_law_found", "_law_due"] f fd)  {f__law_alike : Addr} {fd__law_alike : FuncData} (D__law_alike : Has P w K mg base "_law_alike" ["_law_found", "_law_due"] k CX0 (spAlike K n) f__law_alike fd__law_alike) (m_all : mg "all" = none) (m_range : mg "range" = none) (m_len : mg "len" = none) (m_isinstance : mg "isinstance" = none) (m_list : mg "list" = none) (m_tuple : mg "tuple" = none) (m_dict : mg "dict" = none) (m_str : mg "str" = none) (m_int : mg "int" = none) (m_bool : mg "bool" = none) : Has P w K mg base "_law_alike" ["_law_found", "_law_due"] (k + 1) CX0 (spAlike K (n + 1)) f fd := by
  refine O.has (O.F.ok sc__law_alike (fun vs H Q E h => ?_) (fun cdv A outer s H vs Q E hr h => ?_))
  · obtain ⟨v, u, d, rfl, _⟩ := h
    rfl
  obtain ⟨v, u, d, rfl, hv, hu, hk, q⟩ := h
  refine ⟨_, (pss_cons (ps_if (pt_cmpR op_isN (pv 1) pe_non (nomark _)) (pss_one (ps_ret (pe_cmpR op_isN (pv 0) pe_non (nomark _)))) pss_nil) (pss_cons (ps_if (pt_val (pe_callB call_isi (by rfl) m_isinstance (by decide +kernel) (pa_cons (pv 1) (pa_cons (pe_bltn (v := .ty "bool") (by rfl) m_bool (by decide +kernel) rfl) pa_nil)))) (pss_one (ps_ret (pe_and (pe_callB call_isi (by rfl) m_isinstance (by decide +kernel) (pa_cons (pv 0) (pa_cons (pe_bltn (v := .ty "bool") (by rfl) m_bool (by decide +kernel) rfl) pa_nil))) (pe_one (pe_cmpR op_eq (pv 0) (pv 1) (nomark _)))))) pss_nil) (pss_cons (ps_if (pt_val (pe_callB call_isi (by rfl) m_isinstance (by decide +kernel) (pa_cons (pv 1) (pa_cons (pe_bltn (v := .ty "int") (by rfl) m_int (by decide +kernel) rfl) pa_nil)))) (pss_one (ps_ret (pe_and (pe_callB call_isi (by rfl) m_isinstance (by decide +kernel) (pa_cons (pv 0) (pa_cons (pe_bltn (v := .ty "int") (by rfl) m_int (by decide +kernel) rfl) pa_nil))) (pe_and (pe_not (pe_callB call_isi (by rfl) m_isinstance (by decide +kernel) (pa_cons (pv 0) (pa_cons (pe_bltn (v := .ty "bool") (by rfl) m_bool (by decide +kernel) rfl) pa_nil)))) (pe_one (pe_cmpR op_eq (pv 0) (pv 1) (nomark _))))))) pss_nil) (pss_cons (ps_if (pt_val (pe_callB call_isi (by rfl) m_isinstance (by decide +kernel) (pa_cons (pv 1) (pa_cons (pe_bltn (v := .ty "str") (by rfl) m_str (by decide +kernel) rfl) pa_nil)))) (pss_one (ps_ret (pe_and (pe_callB call_isi (by rfl) m_isinstance (by decide +kernel) (pa_cons (pv 0) (pa_cons (pe_bltn (v := .ty "str") (by rfl) m_str (by decide +kernel) rfl) pa_nil))) (pe_one (pe_cmpR op_eq (pv 0) (pv 1) (nomark _)))))) pss_nil) (pss_cons (ps_if (pt_val (pe_callB call_isi (by rfl) m_isinstance (by decide +kernel) (pa_cons (pv 1) (pa_cons (pe_bltn (v := .ty "dict") (by rfl) m_dict (by decide +kernel) rfl) pa_nil)))) (pss_cons ps_never (pss_one ps_never)) pss_nil) (pss_cons (ps_if (PW.pt (pw_or (pt_cmpR op_ne (pe_callB call_isi (by rfl) m_isinstance (by decide +kernel) (pa_cons (pv 1) (pa_cons (pe_bltn (v := .ty "tuple") (by rfl) m_tuple (by decide +kernel) rfl) pa_nil))) (pe_callB call_isi (by rfl) m_isinstance (by decide +kernel) (pa_cons (pv 0) (pa_cons (pe_bltn (v := .ty "tuple") (by rfl) m_tuple (by decide +kernel) rfl) pa_nil))) (nomark _)) (pw_or1 (pt_cmpR op_ne (pe_callB call_isi (by rfl) m_isinstance (by decide +kernel) (pa_cons (pv 1) (pa_cons (pe_bltn (v := .ty "list") (by rfl) m_list (by decide +kernel) rfl) pa_nil))) (pe_callB call_isi (by rfl) m_isinstance (by decide +kernel) (pa_cons (pv 0) (pa_cons (pe_bltn (v := .ty "list") (by rfl) m_list (by decide +kernel) rfl) pa_nil))) (nomark _))))) (pss_one (ps_ret pe_bl)) pss_nil) (pss_cons (ps_if (pt_cmpR op_ne (pe_callB call_len_seq (by rfl) m_len (by decide +kernel) (pa_cons (pv 0) pa_nil)) (pe_callB call_len_seq (by rfl) m_len (by decide +kernel) (pa_cons (pv 1) pa_nil)) (nomark _)) (pss_one (ps_ret pe_bl)) pss_nil) (pss_one (ps_ret (pe_callB (cr_all rfl) (by rfl) m_all (by decide +kernel) (pa_cons (pe_lc (own := [("_law_k", 2)]) (g := gName 2) rfl sc__law_alike.nd (pi_range1 (by rfl) m_range (pa_cons (pe_callB call_len_seq (by rfl) m_len (by decide +kernel) (pa_cons (pv 1) pa_nil)) pa_nil)) (blkOk_by (own := [("_law_k", 2)]) (N := ["_law_found", "_law_due", "_law_k", "_law_name"]) (sc := defScope s__law_alike) (by decide +kernel)) (fun _ _ _ _ _ => pg_name (i := 2) sc__law_alike.nd rfl (.inl rfl)) (fun _ _ _ _ _ => pts_nil) (fun _ _ _ _ _ => (pe_call D__law_alike.G hr (by rfl) D__law_alike.g D__law_alike.k D__law_alike.b .nil pass0 (pa_cons (pe_ix (r := rIx K) ix_seq (pv 0) (pv 2) (fun _ _ => rfl)) (pa_cons (pe_ix (r := rIx K) ix_seq (pv 1) (pv 2) (fun _ _ => rfl)) pa_nil))))) pa_nil))))))))))), ?_⟩
  walk_at "go"
  cases hu with
  | non =>
    cases hv
    refine ifd (fun c => ?_) (fun c => absurd rfl c)
    walk_at "go"
    exact q _ (Same.refl H)
  | bl b =>
    cases hv
    refine ifd (fun c => by cases c) (fun c => ?_)
    walk_at "go"
    refine use_isBool (.bl b) ?_
    dsimp only [isBool]
    refine ⟨_, rfl, iteT ?_⟩
    walk_at "go"
    refine use_isBool (.bl b) ?_
    dsimp only [isBool]
    refine ⟨_, rfl, iteT ?_⟩
    walk_at "go"
    rw [decide_eq_true rfl]
    exact q _ (Same.refl H)
  | int i =>
    cases hv
    refine ifd (fun c => by cases c) (fun c => ?_)
    walk_at "go"
    refine use_isBool (.int i) ?_
    dsimp only [isBool]
    refine ⟨_, rfl, iteF ?_⟩
    walk_at "go"
    refine use_isInt (.int i) ?_
    dsimp only [isInt]
    refine ⟨_, rfl, iteT ?_⟩
    walk_at "go"
    refine use_isInt (.int i) ?_
    dsimp only [isInt]
    refine ⟨_, rfl, iteT ?_⟩
    walk_at "go"
    refine use_isBool (.int i) ?_
    dsimp only [isBool]
    refine ⟨_, rfl, ?_⟩
    walk_at "go"
    rw [decide_eq_true rfl]
    exact q _ (Same.refl H)
  | str x =>
    cases hv
    refine ifd (fun c => by cases c) (fun c => ?_)
    walk_at "go"
    refine use_isBool (.str x) ?_
    dsimp only [isBool]
    refine ⟨_, rfl, iteF ?_⟩
    walk_at "go"
    refine use_isInt (.str x) ?_
    dsimp only [isInt]
    refine ⟨_, rfl, iteF ?_⟩
    walk_at "go"
    refine use_isStr (.str x) ?_
    dsimp only [isStr]
    refine ⟨_, rfl, iteT ?_⟩
    walk_at "go"
    refine use_isStr (.str x) ?_
    dsimp only [isStr]
    refine ⟨_, rfl, iteT ?_⟩
    walk_at "go"
    rw [decide_eq_true rfl]
    exact q _ (Same.refl H)
  | @lst a xs ds ha hall =>
    cases hv with
    | @lst b ys _ hb hbll =>
    obtain ⟨hl, hk⟩ : ds.length ≤ 2000 ∧ ∀ d ∈ ds, aOk n d := hk
    refine ifd (fun c => by cases c) (fun c => ?_)
    walk_at "go"
    refine use_isBool (.lst ha hall) ?_
    dsimp only [isBool]
    refine ⟨_, rfl, iteF ?_⟩
    walk_at "go"
    refine use_isInt (.lst ha hall) ?_
    dsimp only [isInt]
    refine ⟨_, rfl, iteF ?_⟩
    walk_at "go"
    refine use_isStr (.lst ha hall) ?_
    dsimp only [isStr]
    refine ⟨_, rfl, iteF ?_⟩
    walk_at "go"
    refine use_isDict (.lst ha hall) ?_
    refine ⟨_, rfl, iteF ?_⟩
    walk_at "go"
    refine use_isTup (.lst ha hall) ?_
    walk_at "go"
    refine use_isTup (.lst hb hbll) ?_
    dsimp only [isTup]
    walk_at "go"
    refine ifdn (fun _ => ?_) (fun c => absurd rfl c)
    walk_at "go"
    refine use_isLst (.lst ha hall) ?_
    walk_at "go"
    refine use_isLst (.lst hb hbll) ?_
    dsimp only [isLst]
    walk_at "go"
    refine ifdn (fun _ => ?_) (fun c => absurd rfl c)
    walk_at "go"
    refine ⟨_, _, rfl, .inl hb, ?_⟩
    walk_at "go"
    refine ⟨_, _, rfl, .inl ha, ?_⟩
    walk_at "go"
    have l1 := DpAll.len hall
    have l2 := DpAll.len hbll
    refine ifdn (fun _ => ?_) (fun c => absurd (by rw [l1, l2]) c)
    walk_at "go"
    refine ⟨_, _, rfl, .inl ha, ?_⟩
    walk_at "go"
    refine ⟨by omega, by omega, fun D nD => lc_range (lo := 0) (n := xs.length) (fun i H3 => H3 D = some (.lst ((List.replicate i true).map V.bl)) ∧ Same H H3) ⟨upd_same, same_new nD⟩ (fun i H3 hi hW => ?_) (fun H3 hW => ?_)⟩
    · obtain ⟨hD, e3⟩ := hW
      have hdi : ds[i]? = some ds[i] := List.getElem?_eq_getElem (by omega)
      obtain ⟨xv, hx, dx⟩ := DpAll.at hall hdi
      obtain ⟨yv, hy, dy⟩ := DpAll.at hbll hdi
      walk_at "go"
      refine .inl ⟨_, _, _, _, rfl, rfl, e3.seq hb, at_any (j := i) (by omega) hy, ?_⟩
      walk_at "go"
      refine .inl ⟨_, _, _, _, rfl, rfl, e3.seq ha, at_any (j := i) (by omega) hx, ?_⟩
      walk_at "go"
      refine use_alike (Dp.dm (.of e3) dy) (Dp.dm (.of e3) dx) (aok_at hk hdi) fun H4 e4 => ?_
      refine ⟨_, e4 _ _ hD, by rw [List.length_map, List.length_replicate]; exact Nat.lt_of_lt_of_le (show i < 4000 by omega) (by decide), ?_, fun p o h => ?_⟩
      · rw [upd_same, List.replicate_succ', List.map_append]
        rfl
      · rw [upd_ne (ne_of_none h nD)]
        exact e4 _ _ (e3 _ _ h)
    · obtain ⟨hD, e3⟩ := hW
      walk_at "go"
      refine ⟨D, List.replicate xs.length true, rfl, sql hD, ?_⟩
      have e : (List.replicate xs.length true).all id = true := by simp
      rw [e]
      exact q _ e3
  | @tup a xs ds ha hall =>
    cases hv with
    | @tup b ys _ hb hbll =>
    obtain ⟨hl, hk⟩ : ds.length ≤ 2000 ∧ ∀ d ∈ ds, aOk n d := hk
    refine ifd (fun c => by cases c) (fun c => ?_)
    walk_at "go"
    refine use_isBool (.tup ha hall) ?_
    dsimp only [isBool]
    refine ⟨_, rfl, iteF ?_⟩
    walk_at "go"
    refine use_isInt (.tup ha hall) ?_
    dsimp only [isInt]
    refine ⟨_, rfl, iteF ?_⟩
    walk_at "go"
    refine use_isStr (.tup ha hall) ?_
    dsimp only [isStr]
    refine ⟨_, rfl, iteF ?_⟩
    walk_at "go"
    refine use_isDict (.tup ha hall) ?_
    refine ⟨_, rfl, iteF ?_⟩
    walk_at "go"
    refine use_isTup (.tup ha hall) ?_
    walk_at "go"
    refine use_isTup (.tup hb hbll) ?_
    dsimp only [isTup]
    walk_at "go"
    refine ifdn (fun _ => ?_) (fun c => absurd rfl c)
    walk_at "go"
    refine use_isLst (.tup ha hall) ?_
    walk_at "go"
    refine use_isLst (.tup hb hbll) ?_
    dsimp only [isLst]
    walk_at "go"
    refine ifdn (fun _ => ?_) (fun c => absurd rfl c)
    walk_at "go"
    refine ⟨_, _, rfl, .inr hb, ?_⟩
    walk_at "go"
    refine ⟨_, _, rfl, .inr ha, ?_⟩
    walk_at "go"
    have l1 := DpAll.len hall
    have l2 := DpAll.len hbll
    refine ifdn (fun _ => ?_) (fun c => absurd (by rw [l1, l2]) c)
    walk_at "go"
    refine ⟨_, _, rfl, .inr ha, ?_⟩
    walk_at "go"
    refine ⟨by omega, by omega, fun D nD => lc_range (lo := 0) (n := xs.length) (fun i H3 => H3 D = some (.lst ((List.replicate i true).map V.bl)) ∧ Same H H3) ⟨upd_same, same_new nD⟩ (fun i H3 hi hW => ?_) (fun H3 hW => ?_)⟩
    · obtain ⟨hD, e3⟩ := hW
      have hdi : ds[i]? = some ds[i] := List.getElem?_eq_getElem (by omega)
      obtain ⟨xv, hx, dx⟩ := DpAll.at hall hdi
      obtain ⟨yv, hy, dy⟩ := DpAll.at hbll hdi
      walk_at "go"
      refine .inr (.inl ⟨_, _, _, _, rfl, rfl, SqT.same e3 hb, at_any (j := i) (by omega) hy, ?_⟩)
      walk_at "go"
      refine .inr (.inl ⟨_, _, _, _, rfl, rfl, SqT.same e3 ha, at_any (j := i) (by omega) hx, ?_⟩)
      walk_at "go"
      refine use_alike (Dp.dm (.of e3) dy) (Dp.dm (.of e3) dx) (aok_at hk hdi) fun H4 e4 => ?_
      refine ⟨_, e4 _ _ hD, by rw [List.length_map, List.length_replicate]; exact Nat.lt_of_lt_of_le (show i < 4000 by omega) (by decide), ?_, fun p o h => ?_⟩
      · rw [upd_same, List.replicate_succ', List.map_append]
        rfl
      · rw [upd_ne (ne_of_none h nD)]
        exact e4 _ _ (e3 _ _ h)
    · obtain ⟨hD, e3⟩ := hW
      walk_at "go"
      refine ⟨D, List.replicate xs.length true, rfl, sql hD, ?_⟩
      have e : (List.replicate xs.length true).all id = true := by simp
      rw [e]
      exact q _ e3
end

/-! ### a contract's parts -/
inductive Part where
  | str (x : Str)
  | int (i : Int)
  | num (o : Num)
  | cond (q : Cond)
def DP (K : PySem.W.Frag) (H : Hp) : Part → V → Prop
  | .str x, v => v = .str x
  | .int i, v => v = .int i
  | .num o, v => DN K H o v
  | .cond q, v => DC K H q v
def All2 {α β : Type} (R : α → β → Prop) : List α → List β → Prop
  | [], [] => True
  | a :: as, b :: bs => R a b ∧ All2 R as bs
  | _, _ => False
theorem All2.len {α β : Type} {R : α → β → Prop} : ∀ {as : List α} {bs : List β}, All2 R as bs → as.length = bs.length
  | [], [], _ => rfl
  | _ :: _, _ :: _, h => by rw [List.length_cons, List.length_cons, All2.len h.2]
  | [], _ :: _, h => h.elim
  | _ :: _, [], h => h.elim
theorem All2.mono {α β : Type} {R S : α → β → Prop} (m : ∀ a b, R a b → S a b) : ∀ {as : List α} {bs : List β}, All2 R as bs → All2 S as bs
  | [], [], _ => trivial
  | _ :: _, _ :: _, h => ⟨m _ _ h.1, All2.mono m h.2⟩
  | [], _ :: _, h => h.elim
  | _ :: _, [], h => h.elim
theorem All2.at {α β : Type} {R : α → β → Prop} : ∀ {as : List α} {bs : List β} {i : Nat} {a : α}, All2 R as bs → as[i]? = some a → ∃ b, bs[i]? = some b ∧ R a b
  | a :: as, b :: bs, 0, x, h, e => by
    simp only [List.getElem?_cons_zero, Option.some.injEq] at e
    exact ⟨b, rfl, e ▸ h.1⟩
  | a :: as, b :: bs, i + 1, x, h, e => by
    simp only [List.getElem?_cons_succ] at e
    obtain ⟨c, h1, h2⟩ := All2.at h.2 e
    exact ⟨c, by simpa using h1, h2⟩
  | [], [], i, x, h, e => by simp at e
  | [], _ :: _, _, _, h, _ => h.elim
  | _ :: _, [], _, _, h, _ => h.elim
theorem All2.snoc {α β : Type} {R : α → β → Prop} : ∀ {as : List α} {bs : List β} {a : α} {b : β}, All2 R as bs → R a b → All2 R (as ++ [a]) (bs ++ [b])
  | [], [], _, _, _, r => ⟨r, trivial⟩
  | _ :: _, _ :: _, _, _, h, r => ⟨h.1, All2.snoc h.2 r⟩
  | [], _ :: _, _, _, h, _ => h.elim
  | _ :: _, [], _, _, h, _ => h.elim
theorem All2.nil_r {α β : Type} {R : α → β → Prop} {bs : List β} (h : All2 R ([] : List α) bs) : bs = [] := by
  cases bs with
  | nil => rfl
  | cons _ _ => exact h.elim
theorem DP.tm {K : PySem.W.Frag} {H H' : Hp} (e : TM K H H') : ∀ (p : Part) (v : V), DP K H p v → DP K H' p v
  | .str _, _, h => h
  | .int _, _, h => h
  | .num _, _, h => DN.tm e h
  | .cond _, _, h => DC.tm e h
def Con.word : Con → Str
  | .none => "none"
  | .give _ _ _ _ => "give"
  | .both _ _ => "both"
  | .turned _ _ _ => "turned"
  | .later _ _ => "later"
  | .often _ _ _ => "often"
  | .ite _ _ _ => "if"
  | .whn _ _ => "when"
  | .untl _ _ => "until"
/-- what stands ahead of the contracts within -/
def Con.pre : Con → List Part
  | .none => []
  | .give a b g o => [.str a, .str b, .str g, .num o]
  | .both _ _ => []
  | .turned a b _ => [.str a, .str b]
  | .later n _ => [.int n]
  | .often n g _ => [.int n, .int g]
  | .ite q _ _ => [.cond q]
  | .whn q _ => [.cond q]
  | .untl q _ => [.cond q]
def Con.ins : Con → List Con
  | .none => []
  | .give _ _ _ _ => []
  | .both c d => [c, d]
  | .turned _ _ c => [c]
  | .later _ c => [c]
  | .often _ _ c => [c]
  | .ite _ c d => [c, d]
  | .whn _ c => [c]
  | .untl _ c => [c]
/-- others in their place -/
def Con.wth : Con → List Con → Con
  | .both _ _, [c, d] => .both c d
  | .turned a b _, [c] => .turned a b c
  | .later n _, [c] => .later n c
  | .often n g _, [c] => .often n g c
  | .ite q _ _, [c, d] => .ite q c d
  | .whn q _, [c] => .whn q c
  | .untl q _, [c] => .untl q c
  | t, _ => t
def Con.pk : Con → List Str
  | .none => []
  | .give _ _ _ _ => ["side", "side", "good", "number"]
  | .both _ _ => []
  | .turned _ _ _ => ["side", "side"]
  | .later _ _ => ["wait"]
  | .often _ _ _ => ["times", "gap"]
  | .ite _ _ _ => ["condition"]
  | .whn _ _ => ["condition"]
  | .untl _ _ => ["condition"]
theorem Con.form : ∀ t : Con, formOf ctrForms t.word = some (t.pk ++ List.replicate t.ins.length ("contract" : Str))
  | .none => by decide +kernel
  | .give _ _ _ _ => (by decide +kernel : formOf ctrForms "give" = some ((["side", "side", "good", "number"] : List Str) ++ List.replicate 0 ("contract" : Str)))
  | .both _ _ => (by decide +kernel : formOf ctrForms "both" = some ([] ++ List.replicate 2 ("contract" : Str)))
  | .turned _ _ _ => (by decide +kernel : formOf ctrForms "turned" = some ((["side", "side"] : List Str) ++ List.replicate 1 ("contract" : Str)))
  | .later _ _ => (by decide +kernel : formOf ctrForms "later" = some ((["wait"] : List Str) ++ List.replicate 1 ("contract" : Str)))
  | .often _ _ _ => (by decide +kernel : formOf ctrForms "often" = some ((["times", "gap"] : List Str) ++ List.replicate 1 ("contract" : Str)))
  | .ite _ _ _ => (by decide +kernel : formOf ctrForms "if" = some ((["condition"] : List Str) ++ List.replicate 2 ("contract" : Str)))
  | .whn _ _ => (by decide +kernel : formOf ctrForms "when" = some ((["condition"] : List Str) ++ List.replicate 1 ("contract" : Str)))
  | .untl _ _ => (by decide +kernel : formOf ctrForms "until" = some ((["condition"] : List Str) ++ List.replicate 1 ("contract" : Str)))
theorem Con.pk_no (t : Con) : ∀ k ∈ t.pk, ¬ k = ("contract" : Str) := by
  have a : ∀ k ∈ (["side", "side", "good", "number"] : List Str), ¬ k = ("contract" : Str) := by decide +kernel
  have b : ∀ k ∈ (["side", "side"] : List Str), ¬ k = ("contract" : Str) := by decide +kernel
  have c : ∀ k ∈ (["wait"] : List Str), ¬ k = ("contract" : Str) := by decide +kernel
  have d : ∀ k ∈ (["times", "gap"] : List Str), ¬ k = ("contract" : Str) := by decide +kernel
  have e : ∀ k ∈ (["condition"] : List Str), ¬ k = ("contract" : Str) := by decide +kernel
  have f : ∀ k ∈ ([] : List Str), ¬ k = ("contract" : Str) := by decide +kernel
  cases t
  · exact f
  · exact a
  · exact f
  · exact b
  · exact c
  · exact d
  · exact e
  · exact e
  · exact e
theorem Con.pk_len (t : Con) : t.pk.length = t.pre.length := by cases t <;> rfl
theorem Con.pre_few (t : Con) : t.pre.length ≤ 4 := by cases t <;> exact Nat.le_of_ble_eq_true rfl
theorem Con.ins_few (t : Con) : t.ins.length ≤ 2 := by cases t <;> exact Nat.le_of_ble_eq_true rfl
theorem Con.wth_word (t : Con) (cs : List Con) : (t.wth cs).word = t.word := by
  cases t <;> match cs with
    | [] => rfl
    | [_] => rfl
    | [_, _] => rfl
    | _ :: _ :: _ :: _ => rfl
theorem Con.wth_pre (t : Con) (cs : List Con) : (t.wth cs).pre = t.pre := by
  cases t <;> match cs with
    | [] => rfl
    | [_] => rfl
    | [_, _] => rfl
    | _ :: _ :: _ :: _ => rfl
theorem Con.wth_ins {t : Con} {cs : List Con} (h : cs.length = t.ins.length) : (t.wth cs).ins = cs := by
  cases t <;> match cs, h with
    | [], h => first | rfl | (simp [Con.ins] at h)
    | [_], h => first | rfl | (simp [Con.ins] at h)
    | [_, _], h => first | rfl | (simp [Con.ins] at h)
    | _ :: _ :: _ :: _, h => simp [Con.ins] at h
theorem Con.ins_deep {t c : Con} (h : c ∈ t.ins) : c.deep + 1 ≤ t.deep := by
  cases t <;> simp only [Con.ins, List.mem_cons, List.not_mem_nil, or_false] at h
  · rcases h with rfl | rfl <;> (simp only [Con.deep]; omega)
  · subst h; simp [Con.deep]
  · subst h; simp [Con.deep]
  · subst h; simp [Con.deep]
  · rcases h with rfl | rfl <;> (simp only [Con.deep]; omega)
  · subst h; simp [Con.deep]
  · subst h; simp [Con.deep]
theorem DK.parts {K : PySem.W.Frag} {H : Hp} {t : Con} {v : V} (h : DK K H t v) : ∃ p vs us, v = .ref p ∧ SqT K H p (.str t.word :: (vs ++ us)) ∧ All2 (DP K H) t.pre vs ∧ All2 (DK K H) t.ins us := by
  cases t with
  | none => obtain ⟨p, e, h⟩ := h; exact ⟨p, [], [], e, h, trivial, trivial⟩
  | give a b g o => obtain ⟨p, u, e, h, h1⟩ := h; exact ⟨p, [.str a, .str b, .str g, u], [], e, h, ⟨rfl, rfl, rfl, h1, trivial⟩, trivial⟩
  | both c d => obtain ⟨p, u, z, e, h, h1, h2⟩ := h; exact ⟨p, [], [u, z], e, h, trivial, h1, h2, trivial⟩
  | turned a b c => obtain ⟨p, u, e, h, h1⟩ := h; exact ⟨p, [.str a, .str b], [u], e, h, ⟨rfl, rfl, trivial⟩, h1, trivial⟩
  | later n c => obtain ⟨p, u, e, h, h1⟩ := h; exact ⟨p, [.int n], [u], e, h, ⟨rfl, trivial⟩, h1, trivial⟩
  | often n g c => obtain ⟨p, u, e, h, h1⟩ := h; exact ⟨p, [.int n, .int g], [u], e, h, ⟨rfl, rfl, trivial⟩, h1, trivial⟩
  | ite q c d => obtain ⟨p, x, u, z, e, h, h0, h1, h2⟩ := h; exact ⟨p, [x], [u, z], e, h, ⟨h0, trivial⟩, h1, h2, trivial⟩
  | whn q c => obtain ⟨p, x, u, e, h, h0, h1⟩ := h; exact ⟨p, [x], [u], e, h, ⟨h0, trivial⟩, h1, trivial⟩
  | untl q c => obtain ⟨p, x, u, e, h, h0, h1⟩ := h; exact ⟨p, [x], [u], e, h, ⟨h0, trivial⟩, h1, trivial⟩
theorem DK.of {K : PySem.W.Frag} {H : Hp} {t : Con} {p : Addr} {vs us : List V} (h : SqT K H p (.str t.word :: (vs ++ us))) (h1 : All2 (DP K H) t.pre vs) (h2 : All2 (DK K H) t.ins us) : DK K H t (.ref p) := by
  cases t with
  | none =>
    cases All2.nil_r h1
    cases All2.nil_r h2
    exact ⟨p, rfl, h⟩
  | give a b g o =>
    cases All2.nil_r h2
    match vs, h1 with
    | [_, _, _, u], ⟨rfl, rfl, rfl, h3, _⟩ => exact ⟨p, u, rfl, h, h3⟩
  | both c d =>
    cases All2.nil_r h1
    match us, h2 with
    | [u, z], ⟨h3, h4, _⟩ => exact ⟨p, u, z, rfl, h, h3, h4⟩
  | turned a b c =>
    match vs, h1, us, h2 with
    | [_, _], ⟨rfl, rfl, _⟩, [u], ⟨h3, _⟩ => exact ⟨p, u, rfl, h, h3⟩
  | later n c =>
    match vs, h1, us, h2 with
    | [_], ⟨rfl, _⟩, [u], ⟨h3, _⟩ => exact ⟨p, u, rfl, h, h3⟩
  | often n g c =>
    match vs, h1, us, h2 with
    | [_, _], ⟨rfl, rfl, _⟩, [u], ⟨h3, _⟩ => exact ⟨p, u, rfl, h, h3⟩
  | ite q c d =>
    match vs, h1, us, h2 with
    | [x], ⟨h0, _⟩, [u, z], ⟨h3, h4, _⟩ => exact ⟨p, x, u, z, rfl, h, h0, h3, h4⟩
  | whn q c =>
    match vs, h1, us, h2 with
    | [x], ⟨h0, _⟩, [u], ⟨h3, _⟩ => exact ⟨p, x, u, rfl, h, h0, h3⟩
  | untl q c =>
    match vs, h1, us, h2 with
    | [x], ⟨h0, _⟩, [u], ⟨h3, _⟩ => exact ⟨p, x, u, rfl, h, h0, h3⟩
/-! ### contracts within, and others in their place -/
def spCIn (K : PySem.W.Frag) : Sp := fun vs H Q _ => ∃ (v : V) (t : Con), vs = [v] ∧ DK K H t v ∧ ∀ D us H', Same H H' → H D = none → H' D = some (.lst us) → All2 (DK K H') t.ins us → Q (.ref D) H'
theorem use_cin {K : PySem.W.Frag} {v : V} {t : Con} {H : Hp} {Q : VK} {E : XK} (h : DK K H t v) (q : ∀ D us H', Same H H' → H D = none → H' D = some (.lst us) → All2 (DK K H') t.ins us → Q (.ref D) H') : spCIn K ([v] ++ []) H Q E := ⟨v, t, rfl, h, q⟩
def spWth (K : PySem.W.Frag) : Sp := fun vs H Q _ => ∃ (v : V) (t : Con) (l : Addr) (us : List V) (cs : List Con), vs = [v, .ref l] ∧ DK K H t v ∧ SqL K H l us ∧ All2 (DK K H) cs us ∧ cs.length = t.ins.length ∧ ∀ v' H', Same H H' → DK K H' (t.wth cs) v' → Q v' H'
theorem use_wth {K : PySem.W.Frag} {v : V} {t : Con} {l : Addr} {us : List V} {cs : List Con} {H : Hp} {Q : VK} {E : XK} (h : DK K H t v) (h1 : SqL K H l us) (h2 : All2 (DK K H) cs us) (h3 : cs.length = t.ins.length) (q : ∀ v' H', Same H H' → DK K H' (t.wth cs) v' → Q v' H') :
    spWth K ([v, .ref l] ++ []) H Q E := ⟨v, t, l, us, cs, rfl, h, h1, h2, h3, q⟩
def tsd (s one other : Str) : Str := if s = one then other else if s = other then one else s
def spTsd : Sp := fun vs H Q _ => ∃ (s a b : Str), vs = [.str s, .str a, .str b] ∧ Q (.str (tsd s a b)) H
section
variable {P : Program} {w : World} {K : PySem.W.Frag} {mg : Str → Option Value} {base : Heap}
abbrev s_turned_side : Stmt := topS 5
theorem sc_turned_side : FnScope ["side", "one", "other"] ["side", "one", "other"] (defScope s_turned_side) := ⟨rfl, rfl, rfl, by decide +kernel, rfl, by decide +kernel, by decide +kernel⟩
theorem h_turned_side {k : Nat} {f : Addr} {fd : FuncData} (O : Own K mg "turned_side" s_turned_side ["side", "one", "other"] f fd)  : Has P w K mg base "turned_side" ["side", "one", "other"] (k + 1) CX0 spTsd f fd := by
  refine O.has (O.F.ok sc_turned_side (fun vs H Q E h => ?_) (fun cdv A outer s H vs Q E hr h => ?_))
  · obtain ⟨s, a, b, rfl, _⟩ := h
    rfl
  obtain ⟨s, a, b, rfl, q⟩ := h
  refine ⟨_, (pss_cons (ps_if (pt_cmpR op_eq (pv 0) (pv 1) (nomark _)) (pss_one (ps_ret (pv 2))) pss_nil) (pss_cons (ps_if (pt_cmpR op_eq (pv 0) (pv 2) (nomark _)) (pss_one (ps_ret (pv 1))) pss_nil) (pss_one (ps_ret (pv 0))))), ?_⟩
  unfold tsd at q
  walk_at "go"
  refine ifd (fun c => ?_) (fun c => ?_)
  · rw [if_pos c] at q
    walk_at "go"
    exact q
  rw [if_neg c] at q
  walk_at "go"
  refine ifd (fun c => ?_) (fun c => ?_)
  · rw [if_pos c] at q
    walk_at "go"
    exact q
  rw [if_neg c] at q
  walk_at "go"
  exact q
abbrev s_contracts_in : Stmt := topS 3
theorem sc_contracts_in : FnScope ["contract", "kinds", "kind", "part"] ["contract"] (defScope s_contracts_in) := ⟨rfl, rfl, rfl, by decide +kernel, rfl, by decide +kernel, by decide +kernel⟩
theorem h_contracts_in {k : Nat} {f : Addr} {fd : FuncData} (O : Own K mg "contracts_in" s_contracts_in ["contract"] f fd)  (m_zip : mg "zip" = none) {d_CONTRACTS : Addr} (F_CONTRACTS : FTab K w mg "CONTRACTS" ctrForms d_CONTRACTS) : Has P w K mg base "contracts_in" ["contract"] (k + 1) CX0 (spCIn K) f fd := by
  refine O.has (O.F.ok sc_contracts_in (fun vs H Q E h => ?_) (fun cdv A outer s H vs Q E hr h => ?_))
  · obtain ⟨v, t, rfl, _⟩ := h
    rfl
  obtain ⟨v, t, rfl, hd, q⟩ := h
  refine ⟨_, (pss_cons (ps_set (i := 1) sc_contracts_in.nd rfl (.inl rfl) (pe_ix ix_kdict (pe_glob (v := .ref d_CONTRACTS) (by rfl) F_CONTRACTS.g rfl) (pe_ix ix_tup (pv 0) pe_int (fun _ _ => rfl)) (fun _ _ => rfl))) (pss_one (ps_ret (pe_lc (own := [("kind", 2), ("part", 3)]) (g := gTup K 2 (gCons (gName 2) (gCons (gName 3) gNil))) rfl sc_contracts_in.nd (RZ.pi_zipA (by rfl) m_zip (pa_cons (pv 1) (pa_cons (pe_slice sl_tup (pv 0) (po_some pe_int) po_none) pa_nil))) (blkOk_by (own := [("kind", 2), ("part", 3)]) (N := ["contract", "kinds", "kind", "part"]) (sc := defScope s_contracts_in) (by decide +kernel)) (fun _ _ _ _ _ => pg_tup rfl (pgs_cons (pg_name (i := 2) sc_contracts_in.nd rfl (.inl rfl)) (pgs_cons (pg_name (i := 3) sc_contracts_in.nd rfl (.inl rfl)) pgs_nil))) (fun _ _ _ _ _ => pts_one (pt_cmpR op_eq (pv 2) pe_str (nomark _))) (fun _ _ _ _ _ => (pv 3)))))), ?_⟩
  obtain ⟨p, vs, us, rfl, hp, h1, h2⟩ := hd.parts
  obtain ⟨a, ka, sa⟩ := F_CONTRACTS.at t.form
  have lv := h1.len
  have lu := h2.len
  have lf := t.pre_few
  have li := t.ins_few
  walk_at "go"
  refine ⟨_, _, _, _, rfl, rfl, hp, at_any (j := 0) rfl rfl, ?_⟩
  refine ⟨_, _, _, rfl, rfl, ka, ?_⟩
  walk_at "go"
  refine g_zipA ?_
  walk_at "go"
  refine ⟨_, _, rfl, hp, not_whole1 _ _, fun b nb => ?_⟩
  rw [cut1]
  have s1 := same_new (o := .tup (vs ++ us)) nb
  have hb : SqT K (upd H b (.tup (vs ++ us))) b (vs ++ us) := sqt upd_same
  walk_at "go"
  refine ⟨_, _, _, _, rfl, .inr ⟨sa _, hb, fun D nD => ?_⟩⟩
  have nb' : b ≠ D := fun z => by rw [z] at hb; rw [z, upd_same] at nD; cases nD
  refine lc_it (walk_zipT (n := (vs ++ us).length) (by rw [List.length_map, List.length_append, List.length_append, List.length_replicate, t.pk_len]; omega)) (fun i H3 => H3 D = some (.lst (us.take (i - vs.length))) ∧ Same (upd H b (.tup (vs ++ us))) H3)
    ⟨by rw [upd_same, Nat.zero_sub]; rfl, same_new nD⟩ (fun i H3 _ hW => ⟨sa _, SqT.same hW.2 hb⟩) (fun i x H3 H4 hi hW hy => ?_) (fun H3 hW => ?_)
  · obtain ⟨hD, e3⟩ := hW
    obtain ⟨T, kx, y, rfl, nT, rfl, hx, hy⟩ := hy
    have hx : ((t.pk ++ List.replicate t.ins.length ("contract" : Str)).map V.str)[i]? = some kx := hx
    have hy : (vs ++ us)[i]? = some y := hy
    rw [List.getElem?_map] at hx
    obtain ⟨k, hk, rfl⟩ := Option.map_eq_some_iff.mp hx
    have s4 := same_new (o := .tup [.str k, y]) nT
    refine g_gtup (sqt upd_same) rfl ?_
    have hD4 := s4 _ _ hD
    have e4 := e3.trans s4
    generalize upd H3 T (.tup [.str k, y]) = H4 at hD4 e4 ⊢
    walk_at "go"
    have hc : k = ("contract" : Str) ↔ ¬ i < vs.length := by
      refine ⟨fun e z => ?_, fun z => ?_⟩
      · rw [List.getElem?_append_left (by rw [t.pk_len]; omega)] at hk
        exact t.pk_no k (List.mem_of_getElem? hk) e
      · rw [List.getElem?_append_right (by rw [t.pk_len]; omega)] at hk
        exact (List.mem_replicate.mp (List.mem_of_getElem? hk)).2
    refine ifd (fun c => ?_) (fun c => ?_)
    · have c := hc.mp c
      rw [List.getElem?_append_right (by omega)] at hy
      walk_at "go"
      refine ⟨_, hD4, ?_, ?_, fun x o h => by rw [upd_ne (ne_of_none h nD)]; exact e4 _ _ h⟩
      · rw [List.length_take]
        exact small1000 (by omega)
      · rw [upd_same, show i + 1 - vs.length = (i - vs.length) + 1 by omega, List.take_succ, hy]
        rfl
    · have c : i < vs.length := Decidable.byContradiction fun z => c (hc.mpr z)
      rw [show i - vs.length = 0 by omega] at hD4
      rw [show i + 1 - vs.length = 0 by omega]
      exact ⟨hD4, e4⟩
  · obtain ⟨hD, e3⟩ := hW
    rw [List.length_append, Nat.add_sub_cancel_left, List.take_length] at hD
    walk_at "go"
    refine q D us H3 (s1.trans e3) ?_ hD (h2.mono fun c u => DK.tm (.of (s1.trans e3)))
    exact (by rw [upd_ne (fun z => nb' z.symm)] at nD; exact nD)
abbrev s_with_contracts : Stmt := topS 4
theorem sc_with_contracts : FnScope ["contract", "inner"] ["contract", "inner"] (defScope s_with_contracts) := ⟨rfl, rfl, rfl, by decide +kernel, rfl, by decide +kernel, by decide +kernel⟩
theorem h_with_contracts {k : Nat} {f : Addr} {fd : FuncData} (O : Own K mg "with_contracts" s_with_contracts ["contract", "inner"] f fd)  (m_len : mg "len" = none) (m_tuple : mg "tuple" = none) : Has P w K mg base "with_contracts" ["contract", "inner"] (k + 1) CX0 (spWth K) f fd := by
  refine O.has (O.F.ok sc_with_contracts (fun vs H Q E h => ?_) (fun cdv A outer s H vs Q E hr h => ?_))
  · obtain ⟨v, t, l, us, cs, rfl, _⟩ := h
    rfl
  obtain ⟨v, t, l, us, cs, rfl, hd, hl, hcs, hn, q⟩ := h
  refine ⟨_, (pss_one (ps_ret (pe_op op_catA (pe_slice sl_tupA (pv 0) po_none (po_some (pe_op op_sub (pe_callB call_len_seq (by rfl) m_len (by decide +kernel) (pa_cons (pv 0) pa_nil)) (pe_callB call_len_seq (by rfl) m_len (by decide +kernel) (pa_cons (pv 1) pa_nil))))) (pe_callTy (r := rTupOf K) callTupOf (by rfl) m_tuple (by decide +kernel) (pa_cons (pv 1) pa_nil))))), ?_⟩
  obtain ⟨p, vs, us0, rfl, hp, h1, h2⟩ := hd.parts
  have lu := hcs.len
  have l0 := h2.len
  have l1 := h1.len
  have lf := t.pre_few
  have li := t.ins_few
  have ei : (t.wth cs).ins = cs := Con.wth_ins hn
  have ew := t.wth_word cs
  have ep := t.wth_pre cs
  walk_at "go"
  refine ⟨_, _, rfl, .inr hp, ?_⟩
  walk_at "go"
  refine ⟨_, _, rfl, .inl hl, ?_⟩
  walk_at "go"
  have hlen : (.str t.word :: (vs ++ us0) : List V).length = 1 + vs.length + us.length := by
    rw [List.length_cons, List.length_append]
    omega
  have e1 : HT.sIx (.str t.word :: (vs ++ us0) : List V).length 0 none = 0 := HT.sIx_none _ _
  have e2 : HT.sIx (.str t.word :: (vs ++ us0) : List V).length (.str t.word :: (vs ++ us0) : List V).length (some (((.str t.word :: (vs ++ us0) : List V).length : Int) - us.length)) = 1 + vs.length := by
    rw [show (((.str t.word :: (vs ++ us0) : List V).length : Int) - us.length) = ((1 + vs.length : Nat) : Int) by omega]
    have q := HT.sIx_nat (.str t.word :: (vs ++ us0) : List V).length (.str t.word :: (vs ++ us0) : List V).length (1 + vs.length)
    rw [q]
    omega
  refine ⟨_, _, rfl, hp, fun c => ?_, fun c p2 np2 => ?_⟩
  · have c := c.2
    rw [e2, hlen] at c
    have hz : us = [] := List.length_eq_zero_iff.mp (by omega)
    subst hz
    walk_at "go"
    refine ⟨_, _, rfl, .inl ⟨hl, fun p3 np3 => ?_⟩⟩
    have s3 := same_new (o := .tup []) np3
    refine ⟨_, _, _, _, rfl, rfl, SqT.same s3 hp, sqt upd_same, by rw [hlen]; exact sz (by simp; omega), fun z => (by cases z), fun _ _ => ?_, fun _ z => absurd rfl z⟩
    walk_at "go"
    have hc : cs = [] := List.length_eq_zero_iff.mp (by rw [lu]; rfl)
    subst hc
    have hu : us0 = [] := List.length_eq_zero_iff.mp (by rw [List.length_nil] at hn; omega)
    subst hu
    refine q _ _ s3 (DK.of (vs := vs) (us := []) (by rw [ew]; exact SqT.same s3 hp) (by rw [ep]; exact h1.mono (DP.tm (.of s3))) (by rw [ei]; trivial))
  · have hz : us ≠ [] := fun z => by
      subst z
      exact c ⟨e1, by rw [e2, hlen]; rfl⟩
    have ec : cutV (.str t.word :: (vs ++ us0)) none (some (((.str t.word :: (vs ++ us0) : List V).length : Int) - us.length)) = .str t.word :: vs := by
      unfold cutV
      rw [e1, e2, Nat.add_comm]
      simp
    rw [ec]
    have s2 := same_new (o := .tup (.str t.word :: vs)) np2
    walk_at "go"
    refine ⟨_, _, rfl, .inl ⟨s2.seq hl, fun p3 np3 => ?_⟩⟩
    have s3 := same_new (o := .tup us) np3
    refine cat2 (SqT.same s3 (sqt upd_same)) (sqt upd_same) (by simp) hz (by rw [List.length_cons]; omega) fun p4 np4 => ?_
    have s4 := same_new (o := .tup (.str t.word :: vs ++ us)) np4
    have e := (s2.trans s3).trans s4
    walk_at "go"
    exact q _ _ e (DK.of (vs := vs) (us := us) (by rw [ew]; exact sqt upd_same) (by rw [ep]; exact h1.mono (DP.tm (.of e))) (by rw [ei]; exact hcs.mono fun _ _ => DK.tm (.of e)))
end

/-! ### a contract's parts of a good, of a side -/
theorem tm_lst {K : PySem.W.Frag} {H : Hp} {D : Addr} {xs ys : List V} (h : H D = some (.lst xs)) : TM K H (upd H D (.lst ys)) := fun a zs q => by
  rcases q with (q | ⟨o, q⟩) | q
  · exact .inl (.inl (by rw [upd_ne (fun z => by rw [z, h] at q; cases q)]; exact q))
  · exact .inl (.inr ⟨o, by rw [upd_ne (fun z => by rw [z, h] at q; cases q)]; exact q⟩)
  · exact .inr q
theorem Con.give_or (t : Con) : (∃ a b g o, t = .give a b g o) ∨ t.word ≠ "give" := by
  cases t with
  | give a b g o => exact .inl ⟨a, b, g, o, rfl⟩
  | _ => exact .inr (by dsimp only [Con.word]; decide +kernel)
theorem Con.turn_or (t : Con) : (∃ a b c, t = .turned a b c) ∨ t.word ≠ "turned" := by
  cases t with
  | turned a b c => exact .inl ⟨a, b, c, rfl⟩
  | _ => exact .inr (by dsimp only [Con.word]; decide +kernel)
def goodC (g : Str) : Con → Con
  | .none => .none
  | .give a b x o => if x = g then .give a b x o else .none
  | .both c d => .both (goodC g c) (goodC g d)
  | .turned a b c => .turned a b (goodC g c)
  | .later n c => .later n (goodC g c)
  | .often n k c => .often n k (goodC g c)
  | .ite q c d => .ite q (goodC g c) (goodC g d)
  | .whn q c => .whn q (goodC g c)
  | .untl q c => .untl q (goodC g c)
def sideC : Con → Str → Con
  | .none, _ => .none
  | .give a b x o, s => if s = a ∨ s = b then .give a b x o else .none
  | .both c d, s => .both (sideC c s) (sideC d s)
  | .turned a b c, s => .turned a b (sideC c (tsd s a b))
  | .later n c, s => .later n (sideC c s)
  | .often n k c, s => .often n k (sideC c s)
  | .ite q c d, s => .ite q (sideC c s) (sideC d s)
  | .whn q c, s => .whn q (sideC c s)
  | .untl q c, s => .untl q (sideC c s)
/-- the side within -/
def Con.sd : Con → Str → Str
  | .turned a b _, s => tsd s a b
  | _, s => s
theorem Con.sd_eq {t : Con} (h : t.word ≠ "turned") (s : Str) : t.sd s = s := by
  cases t with
  | turned a b c => exact absurd rfl h
  | _ => rfl
theorem goodC_eq {g : Str} {t : Con} (h : t.word ≠ "give") : goodC g t = t.wth (t.ins.map (goodC g)) := by
  cases t with
  | give a b x o => exact absurd rfl h
  | _ => rfl
theorem sideC_eq {s : Str} {t : Con} (h : t.word ≠ "give") : sideC t s = t.wth (t.ins.map fun c => sideC c (t.sd s)) := by
  cases t with
  | give a b x o => exact absurd rfl h
  | _ => rfl
theorem take_map_snoc {α β : Type} {f : α → β} {l : List α} {i : Nat} {c : α} (h : l[i]? = some c) : (l.take (i + 1)).map f = (l.take i).map f ++ [f c] := by
  rw [List.take_succ, h, List.map_append]
  rfl
def spGdC (K : PySem.W.Frag) (n : Nat) : Sp := fun vs H Q _ => ∃ (v : V) (t : Con) (g : Str), vs = [v, .str g] ∧ DK K H t v ∧ t.deep < n ∧ ∀ v' H', Same H H' → DK K H' (goodC g t) v' → Q v' H'
theorem use_gdc {K : PySem.W.Frag} {n : Nat} {v : V} {t : Con} {g : Str} {H : Hp} {Q : VK} {E : XK} (h : DK K H t v) (hn : t.deep < n) (q : ∀ v' H', Same H H' → DK K H' (goodC g t) v' → Q v' H') : spGdC K n ([v, .str g] ++ []) H Q E := ⟨v, t, g, rfl, h, hn, q⟩
theorem none_gdc {P : Program} {w : World} {K : PySem.W.Frag} {mg : Str → Option Value} {base : Heap} {f : Addr} {fd : FuncData} {ps : List Str} : FnOk P w K mg base CX0 0 f fd ps (spGdC K 0) := by
  have no : ∀ vs H Q E, ¬ spGdC K 0 vs H Q E := fun vs H Q E h => by
    obtain ⟨v, t, g, _, _, h1, _⟩ := h
    omega
  exact ⟨fun vs H Q E h => absurd h (no vs H Q E), fun A outer s H args us vs Q E _ _ _ _ h => absurd h (no vs H Q E)⟩
def spSdC (K : PySem.W.Frag) (n : Nat) : Sp := fun vs H Q _ => ∃ (v : V) (t : Con) (s : Str), vs = [v, .str s] ∧ DK K H t v ∧ t.deep < n ∧ ∀ v' H', Same H H' → DK K H' (sideC t s) v' → Q v' H'
theorem use_sdc {K : PySem.W.Frag} {n : Nat} {v : V} {t : Con} {s : Str} {H : Hp} {Q : VK} {E : XK} (h : DK K H t v) (hn : t.deep < n) (q : ∀ v' H', Same H H' → DK K H' (sideC t s) v' → Q v' H') : spSdC K n ([v, .str s] ++ []) H Q E := ⟨v, t, s, rfl, h, hn, q⟩
theorem none_sdc {P : Program} {w : World} {K : PySem.W.Frag} {mg : Str → Option Value} {base : Heap} {f : Addr} {fd : FuncData} {ps : List Str} : FnOk P w K mg base CX0 0 f fd ps (spSdC K 0) := by
  have no : ∀ vs H Q E, ¬ spSdC K 0 vs H Q E := fun vs H Q E h => by
    obtain ⟨v, t, g, _, _, h1, _⟩ := h
    omega
  exact ⟨fun vs H Q E h => absurd h (no vs H Q E), fun A outer s H args us vs Q E _ _ _ _ h => absurd h (no vs H Q E)⟩
section
variable {P : Program} {w : World} {K : PySem.W.Frag} {mg : Str → Option Value} {base : Heap}
abbrev s_of_good : Stmt := topS 7
theorem sc_of_good : FnScope ["contract", "good", "inner"] ["contract", "good"] (defScope s_of_good) := ⟨rfl, rfl, rfl, by decide +kernel, rfl, by decide +kernel, by decide +kernel⟩
theorem h_of_good {n : Nat} {k : Nat} {f : Addr} {fd : FuncData} (O : Own K mg "of_good" s_of_good ["contract", "good"] f fd)  {f_with_contracts : Addr} {fd_with_contracts : FuncData} (D_with_contracts : Has P w K mg base "with_contracts" ["contract", "inner"] k CX0 (spWth K) f_with_contracts fd_with_contracts) {f_contracts_in : Addr} {fd_contracts_in : FuncData} (D_contracts_in : Has P w K mg base "contracts_in" ["contract"] k CX0 (spCIn K) f_contracts_in fd_contracts_in) {f_of_good : Addr} {fd_of_good : FuncData} (D_of_good : Has P w K mg base "of_good" ["contract", "good"] k CX0 (spGdC K n) f_of_good fd_of_good) {d_NONE : Addr} (T_NONE : TupC K mg "NONE" ["none"] d_NONE) : Has P w K mg base "of_good" ["contract", "good"] (k + 1) CX0 (spGdC K (n + 1)) f fd := by
  refine O.has (O.F.ok sc_of_good (fun vs H Q E h => ?_) (fun cdv A outer s H vs Q E hr h => ?_))
  · obtain ⟨v, t, g, rfl, _⟩ := h
    rfl
  obtain ⟨v, t, g, rfl, hd, hn, q⟩ := h
  refine ⟨_, (pss_cons (ps_if (pt_cmpR op_eq (pe_ix ix_tup (pv 0) pe_int (fun _ _ => rfl)) pe_str (nomark _)) (pss_one (ps_ret (pe_ifExp (pt_cmpR op_eq (pe_ix ix_tup (pv 0) pe_int (fun _ _ => rfl)) (pv 1) (nomark _)) (pv 0) (pe_glob (v := .ref d_NONE) (by rfl) T_NONE.g rfl)))) pss_nil) (pss_one (ps_ret (pe_call D_with_contracts.G hr (by rfl) D_with_contracts.g D_with_contracts.k D_with_contracts.b .nil pass0 (pa_cons (pv 0) (pa_cons (pe_lc (own := [("inner", 2)]) (g := gName 2) rfl sc_of_good.nd (pi_list (pe_call D_contracts_in.G hr (by rfl) D_contracts_in.g D_contracts_in.k D_contracts_in.b .nil pass0 (pa_cons (pv 0) pa_nil))) (blkOk_by (own := [("inner", 2)]) (N := ["contract", "good", "inner"]) (sc := defScope s_of_good) (by decide +kernel)) (fun _ _ _ _ _ => pg_name (i := 2) sc_of_good.nd rfl (.inl rfl)) (fun _ _ _ _ _ => pts_nil) (fun _ _ _ _ _ => (pe_call D_of_good.G hr (by rfl) D_of_good.g D_of_good.k D_of_good.b .nil pass0 (pa_cons (pv 2) (pa_cons (pv 1) pa_nil))))) pa_nil)))))), ?_⟩
  rcases t.give_or with ⟨a, b, x, o, rfl⟩ | hw
  · obtain ⟨p, u, rfl, hp, hu⟩ := hd
    have q : ∀ v' H', Same H H' → DK K H' (if x = g then .give a b x o else .none) v' → Q v' H' := q
    walk_at "go"
    refine ⟨_, _, _, _, rfl, rfl, hp, at_any (j := 0) rfl rfl, ?_⟩
    walk_at "go"
    refine ifd (fun _ => ?_) (fun c => absurd rfl c)
    walk_at "go"
    refine ⟨_, _, _, _, rfl, rfl, hp, at_any (j := 3) rfl rfl, ?_⟩
    walk_at "go"
    refine ifd (fun c => ?_) (fun c => ?_)
    · rw [if_pos c] at q
      walk_at "go"
      exact q _ _ (Same.refl H) ⟨p, u, rfl, hp, hu⟩
    · rw [if_neg c] at q
      walk_at "go"
      exact q _ _ (Same.refl H) ⟨d_NONE, rfl, T_NONE.sq H⟩
  rw [goodC_eq hw] at q
  obtain ⟨p, vs, us0, rfl, hp, h1, h2⟩ := hd.parts
  walk_at "go"
  refine ⟨_, _, _, _, rfl, rfl, hp, at_any (j := 0) rfl rfl, ?_⟩
  walk_at "go"
  refine ifd (fun c => absurd c hw) (fun _ => ?_)
  walk_at "go"
  refine use_cin hd fun D us H1 e1 nD hD hus => ?_
  walk_at "go"
  have lu := hus.len
  have li := t.ins_few
  refine ⟨⟨_, sql hD⟩, fun B nB => lc_list (xs := us) (fun i H3 => ∃ ys, H3 B = some (.lst ys) ∧ ys.length = i ∧ All2 (DK K H3) ((t.ins.take i).map (goodC g)) ys ∧ Same H1 H3) ⟨[], upd_same, rfl, trivial, same_new nB⟩ (fun i H3 hi hW => ?_) (fun i y H3 hy hW => ?_) (fun H3 hW => ?_)⟩
  · obtain ⟨ys, hB, _, hys, e3⟩ := hW
    exact sql (e3 _ _ hD)
  · obtain ⟨ys, hB, ly, hys, e3⟩ := hW
    have hi : i < t.ins.length := by have := (List.getElem?_eq_some_iff.mp hy).1; omega
    have hci : t.ins[i]? = some t.ins[i] := List.getElem?_eq_getElem hi
    obtain ⟨y', hy', dy⟩ := hus.at hci
    have ey : y' = y := Option.some.inj (hy'.symm.trans hy)
    subst ey
    have hdc := Con.ins_deep (List.getElem_mem hi)
    walk_at "go"
    refine use_gdc (DK.tm (.of e3) dy) (by omega) fun v' H4 e4 d4 => ?_
    have hB4 := e4 _ _ hB
    refine ⟨ys, hB4, small1000 (by omega), ys ++ [v'], upd_same, by simp [ly], ?_, fun x o h => by rw [upd_ne (ne_of_none h nB)]; exact e4 _ _ (e3 _ _ h)⟩
    rw [take_map_snoc hci]
    exact All2.snoc (hys.mono fun _ _ => DK.tm ((TM.of e4).trans (tm_lst hB4))) (DK.tm (tm_lst hB4) d4)
  · obtain ⟨ys, hB, ly, hys, e3⟩ := hW
    rw [List.take_of_length_le (by omega)] at hys
    walk_at "go"
    refine use_wth (DK.tm (.of (e1.trans e3)) hd) (sql hB) hys (by rw [List.length_map]) fun v' H4 e4 d4 => ?_
    exact q v' H4 ((e1.trans e3).trans e4) d4
abbrev s_of_side : Stmt := topS 8
theorem sc_of_side : FnScope ["contract", "side", "within", "inner"] ["contract", "side"] (defScope s_of_side) := ⟨rfl, rfl, rfl, by decide +kernel, rfl, by decide +kernel, by decide +kernel⟩
theorem h_of_side {n : Nat} {k : Nat} {f : Addr} {fd : FuncData} (O : Own K mg "of_side" s_of_side ["contract", "side"] f fd)  {f_with_contracts : Addr} {fd_with_contracts : FuncData} (D_with_contracts : Has P w K mg base "with_contracts" ["contract", "inner"] k CX0 (spWth K) f_with_contracts fd_with_contracts) {f_contracts_in : Addr} {fd_contracts_in : FuncData} (D_contracts_in : Has P w K mg base "contracts_in" ["contract"] k CX0 (spCIn K) f_contracts_in fd_contracts_in) {f_of_side : Addr} {fd_of_side : FuncData} (D_of_side : Has P w K mg base "of_side" ["contract", "side"] k CX0 (spSdC K n) f_of_side fd_of_side) {f_turned_side : Addr} {fd_turned_side : FuncData} (D_turned_side : Has P w K mg base "turned_side" ["side", "one", "other"] k CX0 spTsd f_turned_side fd_turned_side) {d_NONE : Addr} (T_NONE : TupC K mg "NONE" ["none"] d_NONE) : Has P w K mg base "of_side" ["contract", "side"] (k + 1) CX0 (spSdC K (n + 1)) f fd := by
  refine O.has (O.F.ok sc_of_side (fun vs H Q E h => ?_) (fun cdv A outer s H vs Q E hr h => ?_))
  · obtain ⟨v, t, g, rfl, _⟩ := h
    rfl
  obtain ⟨v, t, g, rfl, hd, hn, q⟩ := h
  refine ⟨_, (pss_cons (ps_if (pt_cmpR op_eq (pe_ix ix_tup (pv 0) pe_int (fun _ _ => rfl)) pe_str (nomark _)) (pss_one (ps_ret (pe_ifExp (pt_cmpR op_in_seq (pv 1) (pe_tup (pa_cons (pe_ix ix_tup (pv 0) pe_int (fun _ _ => rfl)) (pa_cons (pe_ix ix_tup (pv 0) pe_int (fun _ _ => rfl)) pa_nil))) (by rfl)) (pv 0) (pe_glob (v := .ref d_NONE) (by rfl) T_NONE.g rfl)))) pss_nil) (pss_cons (ps_set (i := 2) sc_of_side.nd rfl (.inr rfl) (pv 1)) (pss_cons (ps_if (pt_cmpR op_eq (pe_ix ix_tup (pv 0) pe_int (fun _ _ => rfl)) pe_str (nomark _)) (pss_one (ps_set (i := 2) sc_of_side.nd rfl (.inr rfl) (pe_call D_turned_side.G hr (by rfl) D_turned_side.g D_turned_side.k D_turned_side.b .nil pass0 (pa_cons (pv 1) (pa_cons (pe_ix ix_tup (pv 0) pe_int (fun _ _ => rfl)) (pa_cons (pe_ix ix_tup (pv 0) pe_int (fun _ _ => rfl)) pa_nil)))))) pss_nil) (pss_one (ps_ret (pe_call D_with_contracts.G hr (by rfl) D_with_contracts.g D_with_contracts.k D_with_contracts.b .nil pass0 (pa_cons (pv 0) (pa_cons (pe_lc (own := [("inner", 3)]) (g := gName 3) rfl sc_of_side.nd (pi_list (pe_call D_contracts_in.G hr (by rfl) D_contracts_in.g D_contracts_in.k D_contracts_in.b .nil pass0 (pa_cons (pv 0) pa_nil))) (blkOk_by (own := [("inner", 3)]) (N := ["contract", "side", "within", "inner"]) (sc := defScope s_of_side) (by decide +kernel)) (fun _ _ _ _ _ => pg_name (i := 3) sc_of_side.nd rfl (.inl rfl)) (fun _ _ _ _ _ => pts_nil) (fun _ _ _ _ _ => (pe_call D_of_side.G hr (by rfl) D_of_side.g D_of_side.k D_of_side.b .nil pass0 (pa_cons (pv 3) (pa_cons (pv 2) pa_nil))))) pa_nil)))))))), ?_⟩
  rcases t.give_or with ⟨a, b, x, o, rfl⟩ | hw
  · obtain ⟨p, u, rfl, hp, hu⟩ := hd
    have q : ∀ v' H', Same H H' → DK K H' (if g = a ∨ g = b then .give a b x o else .none) v' → Q v' H' := q
    walk_at "go"
    refine ⟨_, _, _, _, rfl, rfl, hp, at_any (j := 0) rfl rfl, ?_⟩
    walk_at "go"
    refine ifd (fun _ => ?_) (fun c => absurd rfl c)
    walk_at "go"
    refine ⟨_, _, _, _, rfl, rfl, hp, at_any (j := 1) rfl rfl, ?_⟩
    walk_at "go"
    refine ⟨_, _, _, _, rfl, rfl, hp, at_any (j := 2) rfl rfl, ?_⟩
    walk_at "go"
    refine ⟨by show 2 ≤ sizeLine; decide, fun p4 np4 => ?_⟩
    refine ⟨p4, _, rfl, .inr (sqt upd_same), rfl, rfl, ?_⟩
    rw [if_neg Bool.false_ne_true, inTwo]
    have s4 := same_new (o := .tup [.str a, .str b]) np4
    refine ⟨_, rfl, ifd (fun c => ?_) (fun c => ?_)⟩
    · rw [if_pos c] at q
      walk_at "go"
      exact q _ _ s4 ⟨p, u, rfl, SqT.same s4 hp, DN.tm (.of s4) hu⟩
    · rw [if_neg c] at q
      walk_at "go"
      exact q _ _ s4 ⟨d_NONE, rfl, T_NONE.sq _⟩
  rw [sideC_eq hw] at q
  have hdp := hd
  obtain ⟨p, vs, us0, rfl, hp, h1, h2⟩ := hd.parts
  walk_at "go"
  refine ⟨_, _, _, _, rfl, rfl, hp, at_any (j := 0) rfl rfl, ?_⟩
  walk_at "go"
  refine ifd (fun c => absurd c hw) (fun _ => ?_)
  walk_at "go"
  refine ⟨_, _, _, _, rfl, rfl, hp, at_any (j := 0) rfl rfl, ?_⟩
  walk_at "go"
  refine ifd (fun ct => ?_) (fun ct => ?_)
  · obtain ⟨a, b, c, rfl⟩ := t.turn_or.resolve_right fun hw2 => hw2 ct
    obtain ⟨pp, u, ep, hpp, hu⟩ := id hdp
    cases ep
    walk_at "go"
    refine ⟨_, _, _, _, rfl, rfl, hpp, at_any (j := 1) rfl rfl, ?_⟩
    walk_at "go"
    refine ⟨_, _, _, _, rfl, rfl, hpp, at_any (j := 2) rfl rfl, ?_⟩
    refine ⟨g, a, b, rfl, ?_⟩
    walk_at "go"
    refine use_cin hdp fun D us H1 e1 nD hD hus => ?_
    walk_at "go"
    have lu := hus.len
    have li := (Con.turned a b c).ins_few
    refine ⟨⟨_, sql hD⟩, fun B nB => lc_list (xs := us) (fun i H3 => ∃ ys, H3 B = some (.lst ys) ∧ ys.length = i ∧ All2 (DK K H3) (((Con.turned a b c).ins.take i).map fun c => sideC c (tsd g a b)) ys ∧ Same H1 H3) ⟨[], upd_same, rfl, trivial, same_new nB⟩ (fun i H3 hi hW => ?_) (fun i y H3 hy hW => ?_) (fun H3 hW => ?_)⟩
    · obtain ⟨ys, hB, _, hys, e3⟩ := hW
      exact sql (e3 _ _ hD)
    · obtain ⟨ys, hB, ly, hys, e3⟩ := hW
      have hi : i < (Con.turned a b c).ins.length := by have := (List.getElem?_eq_some_iff.mp hy).1; omega
      have hci : (Con.turned a b c).ins[i]? = some (Con.turned a b c).ins[i] := List.getElem?_eq_getElem hi
      obtain ⟨y', hy', dy⟩ := hus.at hci
      have ey : y' = y := Option.some.inj (hy'.symm.trans hy)
      subst ey
      have hdc := Con.ins_deep (List.getElem_mem hi)
      walk_at "go"
      refine use_sdc (DK.tm (.of e3) dy) (by omega) fun v' H4 e4 d4 => ?_
      have hB4 := e4 _ _ hB
      refine ⟨ys, hB4, small1000 (by omega), ys ++ [v'], upd_same, by simp [ly], ?_, fun x o h => by rw [upd_ne (ne_of_none h nB)]; exact e4 _ _ (e3 _ _ h)⟩
      rw [take_map_snoc hci]
      exact All2.snoc (hys.mono fun _ _ => DK.tm ((TM.of e4).trans (tm_lst hB4))) (DK.tm (tm_lst hB4) d4)
    · obtain ⟨ys, hB, ly, hys, e3⟩ := hW
      rw [List.take_of_length_le (by omega)] at hys
      walk_at "go"
      refine use_wth (DK.tm (.of (e1.trans e3)) hdp) (sql hB) hys (by rw [List.length_map]) fun v' H4 e4 d4 => ?_
      exact q v' H4 ((e1.trans e3).trans e4) d4
  · have es := Con.sd_eq ct g
    walk_at "go"
    refine use_cin hdp fun D us H1 e1 nD hD hus => ?_
    walk_at "go"
    have lu := hus.len
    have li := t.ins_few
    refine ⟨⟨_, sql hD⟩, fun B nB => lc_list (xs := us) (fun i H3 => ∃ ys, H3 B = some (.lst ys) ∧ ys.length = i ∧ All2 (DK K H3) ((t.ins.take i).map fun c => sideC c (t.sd g)) ys ∧ Same H1 H3) ⟨[], upd_same, rfl, trivial, same_new nB⟩ (fun i H3 hi hW => ?_) (fun i y H3 hy hW => ?_) (fun H3 hW => ?_)⟩
    · obtain ⟨ys, hB, _, hys, e3⟩ := hW
      exact sql (e3 _ _ hD)
    · obtain ⟨ys, hB, ly, hys, e3⟩ := hW
      have hi : i < t.ins.length := by have := (List.getElem?_eq_some_iff.mp hy).1; omega
      have hci : t.ins[i]? = some t.ins[i] := List.getElem?_eq_getElem hi
      obtain ⟨y', hy', dy⟩ := hus.at hci
      have ey : y' = y := Option.some.inj (hy'.symm.trans hy)
      subst ey
      have hdc := Con.ins_deep (List.getElem_mem hi)
      walk_at "go"
      refine use_sdc (DK.tm (.of e3) dy) (by omega) fun v' H4 e4 d4 => ?_
      have hB4 := e4 _ _ hB
      refine ⟨ys, hB4, small1000 (by omega), ys ++ [v'], upd_same, by simp [ly], ?_, fun x o h => by rw [upd_ne (ne_of_none h nB)]; exact e4 _ _ (e3 _ _ h)⟩
      rw [take_map_snoc hci]
      exact All2.snoc (hys.mono fun _ _ => DK.tm ((TM.of e4).trans (tm_lst hB4))) (by rw [es]; exact DK.tm (tm_lst hB4) d4)
    · obtain ⟨ys, hB, ly, hys, e3⟩ := hW
      rw [List.take_of_length_le (by omega)] at hys
      walk_at "go"
      refine use_wth (DK.tm (.of (e1.trans e3)) hdp) (sql hB) hys (by rw [List.length_map]) fun v' H4 e4 d4 => ?_
      exact q v' H4 ((e1.trans e3).trans e4) d4
end

/-! ### the law's own parting -/
def condWords : List V := [.str "below", .str "not", .str "all", .str "any"]
theorem DC.head {K : PySem.W.Frag} {H : Hp} {q : Cond} {v : V} (h : DC K H q v) : ∃ a w r, v = .ref a ∧ SqT K H a (.str w :: r) ∧ inV (.str w) condWords = true := by
  cases q with
  | lt _ _ => obtain ⟨a, u, z, e, h, _⟩ := h; exact ⟨a, "below", _, e, h, by decide +kernel⟩
  | neg _ => obtain ⟨a, u, e, h, _⟩ := h; exact ⟨a, "not", _, e, h, by decide +kernel⟩
  | con _ _ => obtain ⟨a, u, z, e, h, _⟩ := h; exact ⟨a, "all", _, e, h, by decide +kernel⟩
  | dis _ _ => obtain ⟨a, u, z, e, h, _⟩ := h; exact ⟨a, "any", _, e, h, by decide +kernel⟩
theorem Con.word_no (c : Con) : inV (.str c.word) condWords = false := by cases c <;> (dsimp only [Con.word]; decide +kernel)
theorem cD_tup (q : Cond) : isTup (cD q) = true := by cases q <;> rfl
theorem kD_tup (c : Con) : isTup (kD c) = true := by cases c <;> rfl
theorem Con.ins_in {xs : List Str} {t c : Con} (h : t.In xs) (hc : c ∈ t.ins) : c.In xs := by
  cases t <;> simp only [Con.ins, List.mem_cons, List.not_mem_nil, or_false] at hc
  · rcases hc with rfl | rfl
    · exact h.1
    · exact h.2
  · subst hc; exact h.2
  · subst hc; exact h.2
  · subst hc; exact h.2.2
  · rcases hc with rfl | rfl
    · exact h.2.1
    · exact h.2.2
  · subst hc; exact h.2
  · subst hc; exact h.2
/-- nothing but words, whole numbers and conditions stands ahead, but in a give -/
def Part.plainP : Part → Prop
  | .num _ => False
  | _ => True
theorem Con.pre_plain {t : Con} (h : t.word ≠ "give") : ∀ p ∈ t.pre, p.plainP := by
  cases t <;> simp only [Con.pre, List.mem_cons, List.not_mem_nil, or_false] <;> intro p hp
  · exact hp.elim
  · exact absurd rfl h
  · exact hp.elim
  · rcases hp with rfl | rfl <;> trivial
  · subst hp; trivial
  · rcases hp with rfl | rfl <;> trivial
  · subst hp; trivial
  · subst hp; trivial
  · subst hp; trivial
theorem isW_ne {x : Str} (h : isW x = true) : x ≠ "" := fun z => by
  rw [z] at h
  exact absurd h (by decide +kernel)
/-- by a good where no side is told, else by the side -/
def woC (g s : Str) (t : Con) : Con := if s = "" then goodC g t else sideC t s
theorem tsd_empty {s a b : Str} (ha : a ≠ "") (hb : b ≠ "") : (tsd s a b = "") ↔ s = "" := by
  unfold tsd
  by_cases h1 : s = a
  · rw [if_pos h1]
    exact ⟨fun z => absurd z hb, fun z => absurd (h1.symm.trans z) ha⟩
  · rw [if_neg h1]
    by_cases h2 : s = b
    · rw [if_pos h2]
      exact ⟨fun z => absurd z ha, fun z => absurd (h2.symm.trans z) hb⟩
    · rw [if_neg h2]
theorem Con.sd_empty {xs : List Str} {t : Con} (h : t.In xs) (s : Str) : (t.sd s = "") ↔ s = "" := by
  cases t with
  | turned a b c => exact tsd_empty (isW_ne h.1.1.1) (isW_ne h.1.1.2)
  | _ => exact Iff.rfl
theorem woC_eq {xs : List Str} {g s : Str} {t : Con} (h : t.word ≠ "give") (hi : t.In xs) : woC g s t = t.wth (t.ins.map (woC g (t.sd s))) := by
  unfold woC
  by_cases c : s = ""
  · have c2 := (Con.sd_empty hi s).mpr c
    rw [if_pos c, goodC_eq h]
    congr 2
    funext x
    rw [if_pos c2]
  · have c2 : ¬ t.sd s = "" := fun z => c ((Con.sd_empty hi s).mp z)
    rw [if_neg c, sideC_eq h]
    congr 2
    funext x
    rw [if_neg c2]
def spWo (K : PySem.W.Frag) (n : Nat) : Sp := fun vs H Q _ => ∃ (v : V) (t : Con) (g s : Str) (xs : List Str), vs = [v, .str g, .str s] ∧ DK K H t v ∧ t.deep < n ∧ t.In xs ∧ ∀ v' H', Same H H' → DK K H' (woC g s t) v' → Q v' H'
theorem use_wo {K : PySem.W.Frag} {n : Nat} {v : V} {t : Con} {g s : Str} {xs : List Str} {H : Hp} {Q : VK} {E : XK} (h : DK K H t v) (hn : t.deep < n) (hi : t.In xs) (q : ∀ v' H', Same H H' → DK K H' (woC g s t) v' → Q v' H') : spWo K n ([v, .str g, .str s] ++ []) H Q E := ⟨v, t, g, s, xs, rfl, h, hn, hi, q⟩
theorem none_wo {P : Program} {w : World} {K : PySem.W.Frag} {mg : Str → Option Value} {base : Heap} {f : Addr} {fd : FuncData} {ps : List Str} : FnOk P w K mg base CX0 0 f fd ps (spWo K 0) := by
  have no : ∀ vs H Q E, ¬ spWo K 0 vs H Q E := fun vs H Q E h => by
    obtain ⟨v, t, g, s, xs, _, _, h1, _⟩ := h
    omega
  exact ⟨fun vs H Q E h => absurd h (no vs H Q E), fun A outer s H args us vs Q E _ _ _ _ h => absurd h (no vs H Q E)⟩
theorem fresh_same {H H' : Hp} {p : Addr} (e : Same H H') (h : H' p = none) : H p = none := by
  cases h1 : H p with
  | none => rfl
  | some o =>
    rw [e p o h1] at h
    cases h
theorem sub_succ_lt {i k : Nat} (h : i < k) : i + 1 - k = 0 ∧ i - k = 0 := by omega
section
variable {P : Program} {w : World} {K : PySem.W.Frag} {mg : Str → Option Value} {base : Heap}
abbrev s__law_without : Stmt := topS 22
theorem sc__law_without : FnScope ["_law_contract_here", "_law_good_here", "_law_side", "_law_word_here", "_law_away", "_law_found", "_law_inner"] ["_law_contract_here", "_law_good_here", "_law_side"] (defScope s__law_without) := ⟨rfl, rfl, rfl, by decide +kernel, rfl, by decide +kernel, by decide +kernel⟩
theorem h__law_without {n : Nat} {k : Nat} {f : Addr} {fd : FuncData} (O : Own K mg "_law_without" s__law_without ["_law_contract_here", "_law_good_here", "_law_side"] f fd)  {f__law_without : Addr} {fd__law_without : FuncData} (D__law_without : Has P w K mg base "_law_without" ["_law_contract_here", "_law_good_here", "_law_side"] k CX0 (spWo K n) f__law_without fd__law_without) (m_tuple : mg "tuple" = none) (m_isinstance : mg "isinstance" = none) (m_int : mg "int" = none) : Has P w K mg base "_law_without" ["_law_contract_here", "_law_good_here", "_law_side"] (k + 1) CX0 (spWo K (n + 1)) f fd := by
  refine O.has (O.F.ok sc__law_without (fun vs H Q E h => ?_) (fun cdv A outer s H vs Q E hr h => ?_))
  · obtain ⟨v, t, g, s, xs, rfl, _⟩ := h
    rfl
  obtain ⟨v, t, g, s, xs, rfl, hd, hn, hi, q⟩ := h
  refine ⟨_, (pss_cons (ps_set (i := 3) sc__law_without.nd rfl (.inl rfl) (pe_ix ix_tup (pv 0) pe_int (fun _ _ => rfl))) (pss_cons (ps_if (pt_cmpR op_eq (pv 3) pe_str (nomark _)) (pss_cons (ps_set (i := 4) sc__law_without.nd rfl (.inl rfl) (pe_ifExp (pt_cmpR op_eq (pv 2) pe_str (nomark _)) (pe_cmpR op_ne (pe_ix ix_tup (pv 0) pe_int (fun _ _ => rfl)) (pv 1) (nomark _)) (pe_cmpR op_notIn_seq (pv 2) (pe_tup (pa_cons (pe_ix ix_tup (pv 0) pe_int (fun _ _ => rfl)) (pa_cons (pe_ix ix_tup (pv 0) pe_int (fun _ _ => rfl)) pa_nil))) (by rfl)))) (pss_one (ps_ret (pe_ifExp (pt_val (pv 4)) (pe_tup (pa_cons pe_str pa_nil)) (pv 0))))) pss_nil) (Evl.pss_cut (ps_if (PW.pt (pw_and (pt_cmpR op_eq (pv 3) pe_str (nomark _)) (pw_and1 (pt_cmpR op_in_seq (pv 2) (pe_tup (pa_cons (pe_ix ix_tup (pv 0) pe_int (fun _ _ => rfl)) (pa_cons (pe_ix ix_tup (pv 0) pe_int (fun _ _ => rfl)) pa_nil))) (by rfl))))) (pss_one (ps_set (i := 2) sc__law_without.nd rfl (.inl rfl) (pe_ix ix_tup (pv 0) (pe_op op_add pe_int (pe_callTy call_int1 (by rfl) m_int (by decide +kernel) (pa_cons (pe_cmpR op_eq (pv 2) (pe_ix ix_tup (pv 0) pe_int (fun _ _ => rfl)) (nomark _)) pa_nil))) (fun _ _ => rfl)))) pss_nil) (pss_cons (ps_set (i := 5) sc__law_without.nd rfl (.inl rfl) (pe_lst pa_nil)) (pss_cons (ps_for PassesOwn.never rfl (pi_tup (pv 0)) (pg_name (i := 6) sc__law_without.nd rfl (.inl rfl)) (pss_cons (ps_if (PW.pt (pw_and (pt_val (pe_callB call_isi (by rfl) m_isinstance (by decide +kernel) (pa_cons (pv 6) (pa_cons (pe_bltn (v := .ty "tuple") (by rfl) m_tuple (by decide +kernel) rfl) pa_nil)))) (pw_and1 (pt_cmpR op_notIn_seq (pe_ix ix_tup (pv 6) pe_int (fun _ _ => rfl)) (pe_tup (pa_cons pe_str (pa_cons pe_str (pa_cons pe_str (pa_cons pe_str pa_nil))))) (by rfl))))) (pss_one (ps_set (i := 6) sc__law_without.nd rfl (.inl rfl) (pe_call D__law_without.G hr (by rfl) D__law_without.g D__law_without.k D__law_without.b .nil pass0 (pa_cons (pv 6) (pa_cons (pv 1) (pa_cons (pv 2) pa_nil)))))) pss_nil) (pss_one (ps_expr (pe_bm PySem.F.plainAttrs_list PySem.F.slot_list_append PySem.F.type_list_append mt_append (pv 5) (pa_cons (pv 6) pa_nil)))))) (pss_one (ps_ret (pe_callTy call_tuple_of (by rfl) m_tuple (by decide +kernel) (pa_cons (pv 5) pa_nil))))))))), ?_⟩
  rcases t.give_or with ⟨a, b, x, o, rfl⟩ | hw
  · obtain ⟨p, u, rfl, hp, hu⟩ := hd
    walk_at "go"
    refine ⟨_, _, _, _, rfl, rfl, hp, at_any (j := 0) rfl rfl, ?_⟩
    walk_at "go"
    refine ifd (fun _ => ?_) (fun c => absurd rfl c)
    walk_at "go"
    refine ifd (fun c => ?_) (fun c => ?_)
    · have q : ∀ v' H', Same H H' → DK K H' (if x = g then .give a b x o else .none) v' → Q v' H' := by
        have e : woC g s (.give a b x o) = if x = g then .give a b x o else .none := by unfold woC; rw [if_pos c]; rfl
        rw [e] at q
        exact q
      walk_at "go"
      refine ⟨_, _, _, _, rfl, rfl, hp, at_any (j := 3) rfl rfl, ?_⟩
      walk_at "go"
      refine ifdn (fun c2 => ?_) (fun c2 => ?_)
      · rw [if_pos c2] at q
        walk_at "go"
        exact q _ _ (Same.refl H) ⟨p, u, rfl, hp, hu⟩
      · rw [if_neg c2] at q
        walk_at "go"
        refine ⟨by show 1 ≤ sizeLine; decide, fun p2 np2 => ?_⟩
        exact q _ _ (same_new np2) ⟨p2, rfl, sqt upd_same⟩
    · have q : ∀ v' H', Same H H' → DK K H' (if s = a ∨ s = b then .give a b x o else .none) v' → Q v' H' := by
        have e : woC g s (.give a b x o) = if s = a ∨ s = b then .give a b x o else .none := by unfold woC; rw [if_neg c]; rfl
        rw [e] at q
        exact q
      walk_at "go"
      refine ⟨_, _, _, _, rfl, rfl, hp, at_any (j := 1) rfl rfl, ?_⟩
      walk_at "go"
      refine ⟨_, _, _, _, rfl, rfl, hp, at_any (j := 2) rfl rfl, ?_⟩
      walk_at "go"
      refine ⟨by show 2 ≤ sizeLine; decide, fun p4 np4 => ?_⟩
      refine ⟨p4, _, rfl, .inr (sqt upd_same), rfl, rfl, ?_⟩
      rw [if_pos rfl, inTwo]
      have s4 := same_new (o := .tup [.str a, .str b]) np4
      walk_at "go"
      refine ifdn (fun c2 => ?_) (fun c2 => ?_)
      · rw [if_pos c2] at q
        walk_at "go"
        exact q _ _ s4 ⟨p, u, rfl, SqT.same s4 hp, DN.tm (.of s4) hu⟩
      · rw [if_neg c2] at q
        walk_at "go"
        refine ⟨by show 1 ≤ sizeLine; decide, fun p2 np2 => ?_⟩
        exact q _ _ (s4.trans (same_new np2)) ⟨p2, rfl, sqt upd_same⟩
  rw [woC_eq hw hi] at q
  have hpl := Con.pre_plain hw
  have hdp := hd
  obtain ⟨p, vs, us, rfl, hp, h1, h2⟩ := hd.parts
  have lv := h1.len
  have lu := h2.len
  have lf := t.pre_few
  have li := t.ins_few
  walk_at "go"
  refine ⟨_, _, _, _, rfl, rfl, hp, at_any (j := 0) rfl rfl, ?_⟩
  walk_at "go"
  refine ifd (fun c => absurd c hw) (fun _ => ?_)
  walk_at "go"
  refine ⟨fun σ' H' => σ' = [some (.ref p), some (.str g), some (.str (t.sd s)), some (.str t.word), none, none, none] ∧ Same H H', ?_, ?_⟩
  · walk_at "go"
    refine ifd (fun ct => ?_) (fun ct => ?_)
    · obtain ⟨a, b, c, rfl⟩ := t.turn_or.resolve_right fun hw2 => hw2 ct
      obtain ⟨pp, u, ep, hpp, hu⟩ := id hdp
      cases ep
      have hne : isW a = true ∧ isW b = true := hi.1.1
      walk_at "go"
      refine ⟨_, _, _, _, rfl, rfl, hpp, at_any (j := 1) rfl rfl, ?_⟩
      walk_at "go"
      refine ⟨_, _, _, _, rfl, rfl, hpp, at_any (j := 2) rfl rfl, ?_⟩
      walk_at "go"
      refine ⟨by show 2 ≤ sizeLine; decide, fun p4 np4 => ?_⟩
      refine ⟨p4, _, rfl, .inr (sqt upd_same), rfl, rfl, ?_⟩
      rw [if_neg Bool.false_ne_true, inTwo]
      have s4 := same_new (o := .tup [.str a, .str b]) np4
      have hp4 := SqT.same s4 hpp
      generalize upd H p4 (.tup [.str a, .str b]) = H4 at s4 hp4 ⊢
      refine ⟨_, rfl, ifd (fun c2 => ?_) (fun c2 => ?_)⟩
      · walk_at "go"
        refine ⟨_, _, _, _, rfl, rfl, hp4, at_any (j := 1) rfl rfl, ?_⟩
        walk_at "go"
        refine .inr ⟨_, rfl, ?_⟩
        walk_at "go"
        by_cases c3 : s = a
        · rw [decide_eq_true c3]
          refine ⟨_, _, _, _, rfl, rfl, hp4, at_any (j := 2) rfl rfl, ?_⟩
          walk_at "go"
          refine ⟨?_, s4⟩
          have e : (Con.turned a b c).sd s = b := by show tsd s a b = b; unfold tsd; rw [if_pos c3]
          rw [e]
          rfl
        · rw [decide_eq_false c3]
          refine ⟨_, _, _, _, rfl, rfl, hp4, at_any (j := 1) rfl rfl, ?_⟩
          walk_at "go"
          refine ⟨?_, s4⟩
          have e : (Con.turned a b c).sd s = a := by show tsd s a b = a; unfold tsd; rw [if_neg c3, if_pos (c2.resolve_left c3)]
          rw [e]
          rfl
      · walk_at "go"
        refine ⟨?_, s4⟩
        have e : (Con.turned a b c).sd s = s := by show tsd s a b = s; unfold tsd; rw [if_neg (fun z => c2 (.inl z)), if_neg (fun z => c2 (.inr z))]
        rw [e]
        rfl
    · walk_at "go"
      refine ⟨?_, Same.refl H⟩
      rw [Con.sd_eq ct]
      rfl
  rintro σ' H0 ⟨rfl, e0⟩
  have hp0 := SqT.same e0 hp
  have hs2 : ∀ xs', t.In xs' → True := fun _ _ => trivial
  generalize t.sd s = S2 at q ⊢
  walk_at "go"
  refine ⟨by show 0 ≤ sizeLine; decide, fun B nB => ?_⟩
  have sB := same_new (o := .lst []) nB
  have eB := e0.trans sB
  have nB0 : H B = none := fresh_same e0 nB
  walk_at "go"
  refine ⟨⟨_, SqT.same sB hp0⟩, for_tup (xs := .str t.word :: (vs ++ us)) (fun i σ H3 => ∃ y zs, σ = [some (.ref p), some (.str g), some (.str S2), some (.str t.word), none, some (.ref B), y] ∧ H3 B = some (.lst ((.str t.word :: vs).take i ++ zs)) ∧ zs.length = i - (1 + vs.length) ∧ All2 (DK K H3) ((t.ins.take (i - (1 + vs.length))).map (woC g S2)) zs ∧ Same H H3)
    ⟨none, [], rfl, upd_same, by rw [Nat.zero_sub]; rfl, by rw [Nat.zero_sub]; trivial, eB⟩ (fun i σ H3 hi hW => ?_) (fun i x σ H3 hx hW => ?_) (fun σ H3 hW => ?_)⟩
  · obtain ⟨y, zs, rfl, _, _, _, e3⟩ := hW
    exact SqT.same e3 hp
  · obtain ⟨y, zs, rfl, hB, lz, hz, e3⟩ := hW
    have eB3 : B = B := rfl
    rcases Nat.lt_or_ge i (1 + vs.length) with lt | ge
    · have z0 := sub_succ_lt lt
      have hx' : (.str t.word :: vs)[i]? = some x := by
        have hx : ((.str t.word :: vs) ++ us)[i]? = some x := hx
        rw [List.getElem?_append_left (by rw [List.length_cons]; omega)] at hx
        exact hx
      have tk : (.str t.word :: vs).take (i + 1) = (.str t.word :: vs).take i ++ [x] := by rw [List.take_succ, hx']; rfl
      rw [z0.2] at lz hz
      have hzs : zs = [] := List.length_eq_zero_iff.mp lz
      subst hzs
      rw [List.append_nil] at hB
      have hll : ((.str t.word :: vs).take i).length < sizeLine := by
        rw [List.length_take]
        exact small1000 (by omega)
      have kind : ∃ d, Dp K H3 x d ∧ (isTup d = false ∨ (isTup d = true ∧ ∃ a w r, x = .ref a ∧ SqT K H3 a (.str w :: r) ∧ inV (.str w) condWords = true)) := by
        cases i with
        | zero =>
          simp only [List.getElem?_cons_zero, Option.some.injEq] at hx'
          subst hx'
          exact ⟨_, .str _, .inl rfl⟩
        | succ j =>
          simp only [List.getElem?_cons_succ] at hx'
          have hj : j < t.pre.length := by have := (List.getElem?_eq_some_iff.mp hx').1; omega
          have hpj : t.pre[j]? = some t.pre[j] := List.getElem?_eq_getElem hj
          obtain ⟨x', hx2, dx⟩ := h1.at hpj
          have ex : x' = x := Option.some.inj (hx2.symm.trans hx')
          subst ex
          have pl := hpl t.pre[j] (List.getElem_mem hj)
          generalize t.pre[j] = pj at dx pl
          cases pj with
          | str y => cases dx; exact ⟨_, .str _, .inl rfl⟩
          | int y => cases dx; exact ⟨_, .int _, .inl rfl⟩
          | num o => exact pl.elim
          | cond qq =>
            have dq : DC K H3 qq x' := DC.tm (.of e3) dx
            exact ⟨_, DC.data dq, .inr ⟨cD_tup qq, dq.head⟩⟩
      obtain ⟨d, hdx, kd⟩ := kind
      walk_at "go"
      refine use_isTup hdx ?_
      rcases kd with kd | ⟨kd, a, w, r, rfl, ha, hin⟩
      · rw [kd]
        refine ⟨_, rfl, iteF ?_⟩
        walk_at "go"
        refine ⟨.inl ⟨rfl, _, sql hB⟩, ?_⟩
        walk_at "go"
        refine ⟨B, _, _, rfl, rfl, hB, hll, ?_⟩
        refine ⟨_, [], rfl, by rw [upd_same, tk, List.append_nil], z0.1.symm, by rw [z0.1]; trivial, fun b o h => by rw [upd_ne (ne_of_none h nB0)]; exact e3 _ _ h⟩
      · rw [kd]
        refine ⟨_, rfl, iteT ?_⟩
        walk_at "go"
        refine ⟨_, _, _, _, rfl, rfl, ha, at_any (j := 0) rfl rfl, ?_⟩
        walk_at "go"
        refine ⟨by show 4 ≤ sizeLine; decide, fun p5 np5 => ?_⟩
        refine ⟨p5, _, rfl, .inr (sqt upd_same), rfl, rfl, ?_⟩
        rw [if_pos rfl, show inV (.str w) [.str "below", .str "not", .str "all", .str "any"] = true from hin]
        have s5 := same_new (o := .tup [.str "below", .str "not", .str "all", .str "any"]) np5
        have hB5 := s5 _ _ hB
        have e5 := e3.trans s5
        generalize upd H3 p5 (.tup [.str "below", .str "not", .str "all", .str "any"]) = H5 at hB5 e5 ⊢
        refine ⟨_, rfl, iteNT ?_⟩
        walk_at "go"
        refine ⟨.inl ⟨rfl, _, sql hB5⟩, ?_⟩
        walk_at "go"
        refine ⟨B, _, _, rfl, rfl, hB5, hll, ?_⟩
        refine ⟨_, [], rfl, by rw [upd_same, tk, List.append_nil], z0.1.symm, by rw [z0.1]; trivial, fun b o h => by rw [upd_ne (ne_of_none h nB0)]; exact e5 _ _ h⟩
    · obtain ⟨j, rfl⟩ : ∃ j, i = 1 + vs.length + j := ⟨i - (1 + vs.length), by omega⟩
      rw [show 1 + vs.length + j - (1 + vs.length) = j by omega] at lz hz
      have hx' : us[j]? = some x := by
        have hx : ((.str t.word :: vs) ++ us)[1 + vs.length + j]? = some x := hx
        rw [List.getElem?_append_right (by rw [List.length_cons]; omega), List.length_cons, show 1 + vs.length + j - (vs.length + 1) = j by omega] at hx
        exact hx
      have tk1 : (.str t.word :: vs).take (1 + vs.length + j) = (.str t.word :: vs) := List.take_of_length_le (by rw [List.length_cons]; omega)
      have tk2 : (.str t.word :: vs).take (1 + vs.length + j + 1) = (.str t.word :: vs) := List.take_of_length_le (by rw [List.length_cons]; omega)
      have hj : j < t.ins.length := by have := (List.getElem?_eq_some_iff.mp hx').1; omega
      have hcj : t.ins[j]? = some t.ins[j] := List.getElem?_eq_getElem hj
      obtain ⟨x', hx2, dx⟩ := h2.at hcj
      have ex : x' = x := Option.some.inj (hx2.symm.trans hx')
      subst ex
      have hdc := Con.ins_deep (List.getElem_mem hj)
      have hic := Con.ins_in hi (List.getElem_mem hj)
      have tm := take_map_snoc (f := woC g S2) hcj
      generalize t.ins[j] = c at dx hdc hic tm
      have dx3 := DK.tm (.of e3) dx
      obtain ⟨pc, vc, uc, rfl, hpc, _, _⟩ := dx3.parts
      walk_at "go"
      refine use_isTup (DK.data dx3) ?_
      rw [kD_tup]
      refine ⟨_, rfl, iteT ?_⟩
      walk_at "go"
      refine ⟨_, _, _, _, rfl, rfl, hpc, at_any (j := 0) rfl rfl, ?_⟩
      walk_at "go"
      refine ⟨by show 4 ≤ sizeLine; decide, fun p5 np5 => ?_⟩
      refine ⟨p5, _, rfl, .inr (sqt upd_same), rfl, rfl, ?_⟩
      rw [if_pos rfl, show inV (.str c.word) [.str "below", .str "not", .str "all", .str "any"] = false from c.word_no]
      have s5 := same_new (o := .tup [.str "below", .str "not", .str "all", .str "any"]) np5
      have hB5 := s5 _ _ hB
      have e5 := e3.trans s5
      have dx5 := DK.tm (.of s5) dx3
      have hz5 := hz.mono fun _ _ => DK.tm (K := K) (.of s5)
      generalize upd H3 p5 (.tup [.str "below", .str "not", .str "all", .str "any"]) = H5 at hB5 e5 dx5 hz5 ⊢
      refine ⟨_, rfl, iteNF ?_⟩
      walk_at "go"
      refine use_wo dx5 (by omega) hic fun v' H6 e6 d6 => ?_
      have hB6 := e6 _ _ hB5
      have e6' := e5.trans e6
      walk_at "go"
      refine ⟨.inl ⟨rfl, _, sql hB6⟩, ?_⟩
      walk_at "go"
      refine ⟨B, _, _, rfl, rfl, hB6, ?_, ?_⟩
      · rw [tk1, List.length_append, List.length_cons]
        exact small1000 (by omega)
      · refine ⟨_, zs ++ [v'], rfl, by rw [upd_same, tk1, tk2, List.append_assoc], ?_, ?_, fun b o h => by rw [upd_ne (ne_of_none h nB0)]; exact e6' _ _ h⟩
        · rw [List.length_append, lz, List.length_singleton]
          omega
        · rw [show 1 + vs.length + j + 1 - (1 + vs.length) = j + 1 by omega, tm]
          exact All2.snoc (hz5.mono fun _ _ => DK.tm ((TM.of e6).trans (tm_lst hB6))) (DK.tm (tm_lst hB6) d6)
  · obtain ⟨y, zs, rfl, hB, lz, hz, e3⟩ := hW
    rw [List.length_cons, List.length_append, show vs.length + us.length + 1 - (1 + vs.length) = us.length by omega] at lz hz
    rw [List.length_cons, List.length_append, List.take_of_length_le (by simp)] at hB
    rw [List.take_of_length_le (by omega)] at hz
    walk_at "go"
    refine ⟨_, _, rfl, .inl ⟨sql hB, fun l nl => ?_⟩⟩
    have sl := same_new (o := .tup (.str t.word :: vs ++ zs)) nl
    have e := e3.trans sl
    have ew := t.wth_word (t.ins.map (woC g S2))
    have ep := t.wth_pre (t.ins.map (woC g S2))
    have ei : (t.wth (t.ins.map (woC g S2))).ins = t.ins.map (woC g S2) := Con.wth_ins (by rw [List.length_map])
    refine q _ _ e (DK.of (vs := vs) (us := zs) (by rw [ew]; exact sqt upd_same) (by rw [ep]; exact h1.mono (DP.tm (.of e))) (by rw [ei]; exact hz.mono fun _ _ => DK.tm (.of sl)))
end

/-! ### contracts as data are shallow -/
theorem aok_str {n : Nat} (x : Str) : aOk (n + 1) (.str x) := trivial
theorem aok_int {n : Nat} (x : Int) : aOk (n + 1) (.int x) := trivial
theorem aok_t2 {n : Nat} {a b : PyData} (ha : aOk n a) (hb : aOk n b) : aOk (n + 1) (.tuple [a, b]) := ⟨Nat.le_of_ble_eq_true rfl, fun d hd => by
  simp only [List.mem_cons, List.not_mem_nil, or_false] at hd
  rcases hd with rfl | rfl <;> assumption⟩
theorem aok_t3 {n : Nat} {a b c : PyData} (ha : aOk n a) (hb : aOk n b) (hc : aOk n c) : aOk (n + 1) (.tuple [a, b, c]) := ⟨Nat.le_of_ble_eq_true rfl, fun d hd => by
  simp only [List.mem_cons, List.not_mem_nil, or_false] at hd
  rcases hd with rfl | rfl | rfl <;> assumption⟩
theorem aok_t4 {n : Nat} {a b c d : PyData} (ha : aOk n a) (hb : aOk n b) (hc : aOk n c) (hd : aOk n d) : aOk (n + 1) (.tuple [a, b, c, d]) := ⟨Nat.le_of_ble_eq_true rfl, fun e he => by
  simp only [List.mem_cons, List.not_mem_nil, or_false] at he
  rcases he with rfl | rfl | rfl | rfl <;> assumption⟩
theorem aok_n : ∀ {t : Num} {n : Nat}, t.deep + 2 ≤ n → aOk n (nD t)
  | .num i, n + 1, h => by
    have h : 0 + 2 ≤ n + 1 := h
    obtain ⟨k, rfl⟩ : ∃ k, n = k + 1 := ⟨n - 1, by omega⟩
    exact aok_t2 (aok_str _) (aok_int _)
  | .read x, n + 1, h => by
    have h : 0 + 2 ≤ n + 1 := h
    obtain ⟨k, rfl⟩ : ∃ k, n = k + 1 := ⟨n - 1, by omega⟩
    exact aok_t2 (aok_str _) (aok_str _)
  | .bin o a b, n + 1, h => by
    have h : max a.deep b.deep + 1 + 2 ≤ n + 1 := h
    obtain ⟨k, rfl⟩ : ∃ k, n = k + 1 := ⟨n - 1, by omega⟩
    exact aok_t3 (aok_str _) (aok_n (by omega)) (aok_n (by omega))
theorem aok_c {xs : List Str} {m : Nat} : ∀ {t : Cond} {n : Nat}, t.In xs m → t.deep + m + 3 ≤ n → aOk n (cD t)
  | .lt a b, n + 1, hi, h => by
    have h : 0 + m + 3 ≤ n + 1 := h
    have h1 := hi.1.2
    have h2 := hi.2.2
    obtain ⟨k, rfl⟩ : ∃ k, n = k + 1 := ⟨n - 1, by omega⟩
    exact aok_t3 (aok_str _) (aok_n (by omega)) (aok_n (by omega))
  | .neg a, n + 1, hi, h => by
    have h : a.deep + 1 + m + 3 ≤ n + 1 := h
    obtain ⟨k, rfl⟩ : ∃ k, n = k + 1 := ⟨n - 1, by omega⟩
    exact aok_t2 (aok_str _) (aok_c (t := a) (m := m) hi (by omega))
  | .con a b, n + 1, hi, h => by
    have h : max a.deep b.deep + 1 + m + 3 ≤ n + 1 := h
    obtain ⟨k, rfl⟩ : ∃ k, n = k + 1 := ⟨n - 1, by omega⟩
    exact aok_t3 (aok_str _) (aok_c (t := a) (m := m) hi.1 (by omega)) (aok_c (t := b) (m := m) hi.2 (by omega))
  | .dis a b, n + 1, hi, h => by
    have h : max a.deep b.deep + 1 + m + 3 ≤ n + 1 := h
    obtain ⟨k, rfl⟩ : ∃ k, n = k + 1 := ⟨n - 1, by omega⟩
    exact aok_t3 (aok_str _) (aok_c (t := a) (m := m) hi.1 (by omega)) (aok_c (t := b) (m := m) hi.2 (by omega))
theorem aok_k {xs : List Str} : ∀ {t : Con} {n : Nat}, t.In xs → t.deep + 7 ≤ n → aOk n (kD t)
  | .none, n + 1, _, h => by
    have h : 0 + 7 ≤ n + 1 := h
    obtain ⟨k, rfl⟩ : ∃ k, n = k + 1 := ⟨n - 1, by omega⟩
    exact ⟨Nat.le_of_ble_eq_true rfl, fun d hd => by rw [List.mem_singleton.mp hd]; exact aok_str _⟩
  | .give a b g o, n + 1, hi, h => by
    have h : 0 + 7 ≤ n + 1 := h
    have ho := hi.2.2
    obtain ⟨k, rfl⟩ : ∃ k, n = k + 1 := ⟨n - 1, by omega⟩
    refine ⟨Nat.le_of_ble_eq_true rfl, fun d hd => ?_⟩
    simp only [List.mem_cons, List.not_mem_nil, or_false] at hd
    rcases hd with rfl | rfl | rfl | rfl | rfl
    · exact aok_str _
    · exact aok_str _
    · exact aok_str _
    · exact aok_str _
    · exact aok_n (by omega)
  | .both c d, n + 1, hi, h => by
    have h : max c.deep d.deep + 1 + 7 ≤ n + 1 := h
    obtain ⟨k, rfl⟩ : ∃ k, n = k + 1 := ⟨n - 1, by omega⟩
    exact aok_t3 (aok_str _) (aok_k hi.1 (by omega)) (aok_k hi.2 (by omega))
  | .turned a b c, n + 1, hi, h => by
    have h : c.deep + 1 + 7 ≤ n + 1 := h
    obtain ⟨k, rfl⟩ : ∃ k, n = k + 1 := ⟨n - 1, by omega⟩
    exact aok_t4 (aok_str _) (aok_str _) (aok_str _) (aok_k hi.2 (by omega))
  | .later i c, n + 1, hi, h => by
    have h : c.deep + 1 + 7 ≤ n + 1 := h
    obtain ⟨k, rfl⟩ : ∃ k, n = k + 1 := ⟨n - 1, by omega⟩
    exact aok_t3 (aok_str _) (aok_int _) (aok_k hi.2 (by omega))
  | .often i g c, n + 1, hi, h => by
    have h : c.deep + 1 + 7 ≤ n + 1 := h
    obtain ⟨k, rfl⟩ : ∃ k, n = k + 1 := ⟨n - 1, by omega⟩
    exact aok_t4 (aok_str _) (aok_int _) (aok_int _) (aok_k hi.2.2 (by omega))
  | .ite q c d, n + 1, hi, h => by
    have h : max c.deep d.deep + 1 + 7 ≤ n + 1 := h
    have hq := hi.1.2
    obtain ⟨k, rfl⟩ : ∃ k, n = k + 1 := ⟨n - 1, by omega⟩
    exact aok_t4 (aok_str _) (aok_c hi.1.1 (by omega)) (aok_k hi.2.1 (by omega)) (aok_k hi.2.2 (by omega))
  | .whn q c, n + 1, hi, h => by
    have h : c.deep + 1 + 7 ≤ n + 1 := h
    have hq := hi.1.2
    obtain ⟨k, rfl⟩ : ∃ k, n = k + 1 := ⟨n - 1, by omega⟩
    exact aok_t3 (aok_str _) (aok_c hi.1.1 (by omega)) (aok_k hi.2 (by omega))
  | .untl q c, n + 1, hi, h => by
    have h : c.deep + 1 + 7 ≤ n + 1 := h
    have hq := hi.1.2
    obtain ⟨k, rfl⟩ : ∃ k, n = k + 1 := ⟨n - 1, by omega⟩
    exact aok_t3 (aok_str _) (aok_c hi.1.1 (by omega)) (aok_k hi.2 (by omega))

theorem goodC_keep {xs : List Str} {g : Str} : ∀ {t : Con}, t.In xs → (goodC g t).In xs ∧ (goodC g t).deep ≤ t.deep
  | .none, h => ⟨h, Nat.le_refl _⟩
  | .give a b x o, h => by
    unfold goodC
    split
    · exact ⟨h, Nat.le_refl _⟩
    · exact ⟨trivial, Nat.le_refl _⟩
  | .both c d, h => by
    have a := goodC_keep (g := g) h.1
    have b := goodC_keep (g := g) h.2
    exact ⟨⟨a.1, b.1⟩, by show max _ _ + 1 ≤ max _ _ + 1; omega⟩
  | .turned _ _ c, h => by
    have a := goodC_keep (g := g) h.2
    exact ⟨⟨h.1, a.1⟩, by show _ + 1 ≤ _ + 1; omega⟩
  | .later _ c, h => by
    have a := goodC_keep (g := g) h.2
    exact ⟨⟨h.1, a.1⟩, by show _ + 1 ≤ _ + 1; omega⟩
  | .often _ _ c, h => by
    have a := goodC_keep (g := g) h.2.2
    exact ⟨⟨h.1, h.2.1, a.1⟩, by show _ + 1 ≤ _ + 1; omega⟩
  | .ite _ c d, h => by
    have a := goodC_keep (g := g) h.2.1
    have b := goodC_keep (g := g) h.2.2
    exact ⟨⟨h.1, a.1, b.1⟩, by show max _ _ + 1 ≤ max _ _ + 1; omega⟩
  | .whn _ c, h => by
    have a := goodC_keep (g := g) h.2
    exact ⟨⟨h.1, a.1⟩, by show _ + 1 ≤ _ + 1; omega⟩
  | .untl _ c, h => by
    have a := goodC_keep (g := g) h.2
    exact ⟨⟨h.1, a.1⟩, by show _ + 1 ≤ _ + 1; omega⟩
theorem sideC_keep {xs : List Str} : ∀ {t : Con} {s : Str}, t.In xs → (sideC t s).In xs ∧ (sideC t s).deep ≤ t.deep
  | .none, s, h => ⟨h, Nat.le_refl _⟩
  | .give a b x o, s, h => by
    unfold sideC
    split
    · exact ⟨h, Nat.le_refl _⟩
    · exact ⟨trivial, Nat.le_refl _⟩
  | .both c d, s, h => by
    have a := sideC_keep (s := s) h.1
    have b := sideC_keep (s := s) h.2
    exact ⟨⟨a.1, b.1⟩, by show max _ _ + 1 ≤ max _ _ + 1; omega⟩
  | .turned p q c, s, h => by
    have a := sideC_keep (s := tsd s p q) h.2
    exact ⟨⟨h.1, a.1⟩, by show _ + 1 ≤ _ + 1; omega⟩
  | .later _ c, s, h => by
    have a := sideC_keep (s := s) h.2
    exact ⟨⟨h.1, a.1⟩, by show _ + 1 ≤ _ + 1; omega⟩
  | .often _ _ c, s, h => by
    have a := sideC_keep (s := s) h.2.2
    exact ⟨⟨h.1, h.2.1, a.1⟩, by show _ + 1 ≤ _ + 1; omega⟩
  | .ite _ c d, s, h => by
    have a := sideC_keep (s := s) h.2.1
    have b := sideC_keep (s := s) h.2.2
    exact ⟨⟨h.1, a.1, b.1⟩, by show max _ _ + 1 ≤ max _ _ + 1; omega⟩
  | .whn _ c, s, h => by
    have a := sideC_keep (s := s) h.2
    exact ⟨⟨h.1, a.1⟩, by show _ + 1 ≤ _ + 1; omega⟩
  | .untl _ c, s, h => by
    have a := sideC_keep (s := s) h.2
    exact ⟨⟨h.1, a.1⟩, by show _ + 1 ≤ _ + 1; omega⟩
def spLaw (K : PySem.W.Frag) : Sp := fun vs H Q _ => ∃ (ns : List Int) (na : Addr), vs = [.ref na] ∧ SqL K H na (ns.map V.int) ∧ ns.length ≤ 63 ∧ ∀ H', Q (.bl true) H'
section
variable {P : Program} {w : World} {K : PySem.W.Frag} {mg : Str → Option Value} {base : Heap}
abbrev s_law : Stmt := topS 23
theorem sc_law : FnScope ["_law_script", "_law_s", "_law_contract_here", "_law_good_here", "_law_side"] ["_law_script"] (defScope s_law) := ⟨rfl, rfl, rfl, by decide +kernel, rfl, by decide +kernel, by decide +kernel⟩
theorem h_law {k : Nat} {f : Addr} {fd : FuncData} (O : Own K mg "law" s_law ["_law_script"] f fd)  {f__law_alike : Addr} {fd__law_alike : FuncData} (D__law_alike : Has P w K mg base "_law_alike" ["_law_found", "_law_due"] k CX0 (spAlike K 14) f__law_alike fd__law_alike) {f__law_without : Addr} {fd__law_without : FuncData} (D__law_without : Has P w K mg base "_law_without" ["_law_contract_here", "_law_good_here", "_law_side"] k CX0 (spWo K 13) f__law_without fd__law_without) {f_of_side : Addr} {fd_of_side : FuncData} (D_of_side : Has P w K mg base "of_side" ["contract", "side"] k CX0 (spSdC K 13) f_of_side fd_of_side) {f_of_good : Addr} {fd_of_good : FuncData} (D_of_good : Has P w K mg base "of_good" ["contract", "good"] k CX0 (spGdC K 13) f_of_good fd_of_good) {f__law_word : Addr} {fd__law_word : FuncData} (D__law_word : Has P w K mg base "_law_word" ["_law_s", "_law_k"] k CX0 (spWord K) f__law_word fd__law_word) {f__law_taken : Addr} {fd__law_taken : FuncData} (D__law_taken : Has P w K mg base "_law_taken" ["_law_s", "_law_most"] k CX0 (spTaken K) f__law_taken fd__law_taken) {f__law_drawn : Addr} {fd__law_drawn : FuncData} (D__law_drawn : Has P w K mg base "_law_drawn" ["_law_s", "_law_many"] k CX0 (spDrawn K) f__law_drawn fd__law_drawn) {f__law_begun : Addr} {fd__law_begun : FuncData} (D__law_begun : Has P w K mg base "_law_begun" ["_law_script"] k CX0 (spBegun K) f__law_begun fd__law_begun) : Has P w K mg base "law" ["_law_script"] (k + 1) CX0 (spLaw K) f fd := by
  refine O.has (O.F.ok sc_law (fun vs H Q E h => ?_) (fun cdv A outer s H vs Q E hr h => ?_))
  · obtain ⟨ns, na, rfl, _⟩ := h
    rfl
  obtain ⟨ns, na, rfl, hS, h63, q⟩ := h
  refine ⟨_, (pss_cons (ps_set (i := 1) sc_law.nd rfl (.inl rfl) (pe_call D__law_begun.G hr (by rfl) D__law_begun.g D__law_begun.k D__law_begun.b .nil pass0 (pa_cons (pv 0) pa_nil))) (pss_cons (ps_set (i := 2) sc_law.nd rfl (.inl rfl) (pe_call D__law_drawn.G hr (by rfl) D__law_drawn.g D__law_drawn.k D__law_drawn.b .nil pass0 (pa_cons (pv 1) (pa_cons (pe_call D__law_taken.G hr (by rfl) D__law_taken.g D__law_taken.k D__law_taken.b .nil pass0 (pa_cons (pv 1) (pa_cons pe_int pa_nil))) pa_nil)))) (pss_cons (ps_set (i := 3) sc_law.nd rfl (.inl rfl) (pe_call D__law_word.G hr (by rfl) D__law_word.g D__law_word.k D__law_word.b .nil pass0 (pa_cons (pv 1) (pa_cons (pe_op op_add pe_int (pe_call D__law_taken.G hr (by rfl) D__law_taken.g D__law_taken.k D__law_taken.b .nil pass0 (pa_cons (pv 1) (pa_cons pe_int pa_nil)))) pa_nil)))) (pss_cons (ps_set (i := 4) sc_law.nd rfl (.inl rfl) (pe_call D__law_word.G hr (by rfl) D__law_word.g D__law_word.k D__law_word.b .nil pass0 (pa_cons (pv 1) (pa_cons (pe_call D__law_taken.G hr (by rfl) D__law_taken.g D__law_taken.k D__law_taken.b .nil pass0 (pa_cons (pv 1) (pa_cons pe_int pa_nil))) pa_nil)))) (pss_cons (ps_if (pt_not (pt_val (pe_call D__law_alike.G hr (by rfl) D__law_alike.g D__law_alike.k D__law_alike.b .nil pass0 (pa_cons (pe_call D_of_good.G hr (by rfl) D_of_good.g D_of_good.k D_of_good.b .nil pass0 (pa_cons (pv 2) (pa_cons (pv 3) pa_nil))) (pa_cons (pe_call D__law_without.G hr (by rfl) D__law_without.g D__law_without.k D__law_without.b .nil pass0 (pa_cons (pv 2) (pa_cons (pv 3) (pa_cons pe_str pa_nil)))) pa_nil))))) (pss_one (ps_ret pe_bl)) pss_nil) (pss_one (ps_ret (pe_call D__law_alike.G hr (by rfl) D__law_alike.g D__law_alike.k D__law_alike.b .nil pass0 (pa_cons (pe_call D_of_side.G hr (by rfl) D_of_side.g D_of_side.k D_of_side.b .nil pass0 (pa_cons (pv 2) (pa_cons (pv 4) pa_nil))) (pa_cons (pe_call D__law_without.G hr (by rfl) D__law_without.g D__law_without.k D__law_without.b .nil pass0 (pa_cons (pv 2) (pa_cons pe_str (pa_cons (pv 4) pa_nil)))) pa_nil)))))))))), ?_⟩
  walk_at "go"
  refine use_begun hS h63 fun c s nm H1 e1 ns1 L1 => ?_
  walk_at "go"
  refine use_taken L1 (by decide) (by decide) fun m H2 m0 m1 e2 L2 => ?_
  walk_at "go"
  refine use_drawn (m := m.toNat) L2 (by omega) (by omega) fun v t nm2 H3 e3 L3 d3 i3 p3 => ?_
  have ok := L3.ok
  walk_at "go"
  refine use_taken L3 (by decide) (by decide) fun g H4 g0 g1 e4 L4 => ?_
  walk_at "go"
  refine use_word L4 (by omega) (by omega) fun H5 e5 => ?_
  have L5 := L4.same e5
  walk_at "go"
  refine use_taken L5 (by decide) (by decide) fun sd H6 s0 s1 e6 L6 => ?_
  walk_at "go"
  refine use_word L6 (by omega) (by omega) fun H7 e7 => ?_
  have L7 := L6.same e7
  have d7 := DK.tm ((((L3.tm e4).trans (.of e5)).trans (L5.tm e6)).trans (.of e7)) d3
  have hsw := wd_word ok s0
  generalize wd c (4 + g) = G at *
  generalize wd c sd = S at *
  walk_at "go"
  refine use_gdc d7 (by omega) fun v8 H8 e8 d8 => ?_
  walk_at "go"
  refine use_wo (DK.tm (.of e8) d7) (by omega) i3 fun v9 H9 e9 d9 => ?_
  have kg := goodC_keep (g := G) i3
  have e : woC G "" t = goodC G t := if_pos rfl
  rw [e] at d9
  walk_at "go"
  refine use_alike (n := 14) (DK.data (DK.tm (.of e9) d8)) (DK.data d9) (aok_k kg.1 (by omega)) fun H10 e10 => ?_
  refine ⟨_, rfl, ?_⟩
  walk_at "go"
  have t10 := TM.of (K := K) ((e8.trans e9).trans e10)
  refine use_sdc (DK.tm t10 d7) (by omega) fun v11 H11 e11 d11 => ?_
  walk_at "go"
  refine use_wo (DK.tm (t10.trans (.of e11)) d7) (by omega) i3 fun v12 H12 e12 d12 => ?_
  have ks := sideC_keep (s := S) i3
  have e : woC "" S t = sideC t S := if_neg (isW_ne hsw)
  rw [e] at d12
  walk_at "go"
  refine use_alike (n := 14) (DK.data (DK.tm (.of e12) d11)) (DK.data d12) (aok_k ks.1 (by omega)) fun H13 e13 => ?_
  exact q _
end

theorem all_mk {l : PySem.W.OpenLaw} {w : World} {K : PySem.W.Frag} {h : Heap} {mg : Str → Option Value} {fa : Addr} (X : K.In h) (G : h.Ns mainGlobals mg) (hfa : mg "law" = some (.ref fa))
    {f0 : Addr} {od0 an0 : Option Addr} {sl0 : Array (Option Value)} {oc0 kV0 dc0 pm0 ct0 : Value} {cd0 : Value}
    {f1 : Addr} {od1 an1 : Option Addr} {sl1 : Array (Option Value)} {oc1 kV1 dc1 pm1 ct1 : Value} {cd1 : Value}
    {f2 : Addr} {od2 an2 : Option Addr} {sl2 : Array (Option Value)} {oc2 kV2 dc2 pm2 ct2 : Value} {cd2 : Value}
    {f3 : Addr} {od3 an3 : Option Addr} {sl3 : Array (Option Value)} {oc3 kV3 dc3 pm3 ct3 : Value} {cd3 : Value}
    {f4 : Addr} {od4 an4 : Option Addr} {sl4 : Array (Option Value)} {oc4 kV4 dc4 pm4 ct4 : Value} {cd4 : Value}
    {f5 : Addr} {od5 an5 : Option Addr} {sl5 : Array (Option Value)} {oc5 kV5 dc5 pm5 ct5 : Value} {cd5 : Value}
    {f6 : Addr} {od6 an6 : Option Addr} {sl6 : Array (Option Value)} {oc6 kV6 dc6 pm6 ct6 : Value} {cd6 : Value}
    {f7 : Addr} {od7 an7 : Option Addr} {sl7 : Array (Option Value)} {oc7 kV7 dc7 pm7 ct7 : Value} {cd7 : Value}
    {f8 : Addr} {od8 an8 : Option Addr} {sl8 : Array (Option Value)} {oc8 kV8 dc8 pm8 ct8 : Value} {cd8 : Value}
    {f9 : Addr} {od9 an9 : Option Addr} {sl9 : Array (Option Value)} {oc9 kV9 dc9 pm9 ct9 : Value} {cd9 : Value}
    {f10 : Addr} {od10 an10 : Option Addr} {sl10 : Array (Option Value)} {oc10 kV10 dc10 pm10 ct10 : Value} {cd10 : Value}
    {f11 : Addr} {od11 an11 : Option Addr} {sl11 : Array (Option Value)} {oc11 kV11 dc11 pm11 ct11 : Value} {cd11 : Value}
    {f12 : Addr} {od12 an12 : Option Addr} {sl12 : Array (Option Value)} {oc12 kV12 dc12 pm12 ct12 : Value} {cd12 : Value}
    {f13 : Addr} {od13 an13 : Option Addr} {sl13 : Array (Option Value)} {oc13 kV13 dc13 pm13 ct13 : Value} {cd13 : Value}
    {f14 : Addr} {od14 an14 : Option Addr} {sl14 : Array (Option Value)} {oc14 kV14 dc14 pm14 ct14 : Value} {cd14 : Value}
    {f15 : Addr} {od15 an15 : Option Addr} {sl15 : Array (Option Value)} {oc15 kV15 dc15 pm15 ct15 : Value} {cd15 : Value}
    {f16 : Addr} {od16 an16 : Option Addr} {sl16 : Array (Option Value)} {oc16 kV16 dc16 pm16 ct16 : Value} {cd16 : Value}
    {f17 : Addr} {od17 an17 : Option Addr} {sl17 : Array (Option Value)} {oc17 kV17 dc17 pm17 ct17 : Value} {cd17 : Value}
    {f18 : Addr} {od18 an18 : Option Addr} {sl18 : Array (Option Value)} {oc18 kV18 dc18 pm18 ct18 : Value} {cd18 : Value}
    {d_CONTRACTS : Addr}
    {d_NONE : Addr}
    (a0 : PySem.W.nsIn K mainGlobals "_law_taken" = some (some (.ref f0))) (l0 : K.lookup f0 = some ⟨oc0, od0, .func (PySem.W.fnOf "_law_taken" "_law_taken" (defArgs s__law_taken) (defBody s__law_taken) (defScope s__law_taken) .none kV0 dc0 pm0 an0 cd0 ct0), sl0⟩) (c0 : PySem.W.codeIn K cd0 "_law_taken" = true) (k0 : PySem.W.keepIn K (.ref f0) = true)
    (a1 : PySem.W.nsIn K mainGlobals "_law_word" = some (some (.ref f1))) (l1 : K.lookup f1 = some ⟨oc1, od1, .func (PySem.W.fnOf "_law_word" "_law_word" (defArgs s__law_word) (defBody s__law_word) (defScope s__law_word) .none kV1 dc1 pm1 an1 cd1 ct1), sl1⟩) (c1 : PySem.W.codeIn K cd1 "_law_word" = true) (k1 : PySem.W.keepIn K (.ref f1) = true)
    (a2 : PySem.W.nsIn K mainGlobals "_law_number" = some (some (.ref f2))) (l2 : K.lookup f2 = some ⟨oc2, od2, .func (PySem.W.fnOf "_law_number" "_law_number" (defArgs s__law_number) (defBody s__law_number) (defScope s__law_number) .none kV2 dc2 pm2 an2 cd2 ct2), sl2⟩) (c2 : PySem.W.codeIn K cd2 "_law_number" = true) (k2 : PySem.W.keepIn K (.ref f2) = true)
    (a3 : PySem.W.nsIn K mainGlobals "_law_told" = some (some (.ref f3))) (l3 : K.lookup f3 = some ⟨oc3, od3, .func (PySem.W.fnOf "_law_told" "_law_told" (defArgs s__law_told) (defBody s__law_told) (defScope s__law_told) .none kV3 dc3 pm3 an3 cd3 ct3), sl3⟩) (c3 : PySem.W.codeIn K cd3 "_law_told" = true) (k3 : PySem.W.keepIn K (.ref f3) = true)
    (a4 : PySem.W.nsIn K mainGlobals "_law_begun" = some (some (.ref f4))) (l4 : K.lookup f4 = some ⟨oc4, od4, .func (PySem.W.fnOf "_law_begun" "_law_begun" (defArgs s__law_begun) (defBody s__law_begun) (defScope s__law_begun) .none kV4 dc4 pm4 an4 cd4 ct4), sl4⟩) (c4 : PySem.W.codeIn K cd4 "_law_begun" = true) (k4 : PySem.W.keepIn K (.ref f4) = true)
    (a5 : PySem.W.nsIn K mainGlobals "_law_asked" = some (some (.ref f5))) (l5 : K.lookup f5 = some ⟨oc5, od5, .func (PySem.W.fnOf "_law_asked" "_law_asked" (defArgs s__law_asked) (defBody s__law_asked) (defScope s__law_asked) .none kV5 dc5 pm5 an5 cd5 ct5), sl5⟩) (c5 : PySem.W.codeIn K cd5 "_law_asked" = true) (k5 : PySem.W.keepIn K (.ref f5) = true)
    (a6 : PySem.W.nsIn K mainGlobals "_law_sides" = some (some (.ref f6))) (l6 : K.lookup f6 = some ⟨oc6, od6, .func (PySem.W.fnOf "_law_sides" "_law_sides" (defArgs s__law_sides) (defBody s__law_sides) (defScope s__law_sides) .none kV6 dc6 pm6 an6 cd6 ct6), sl6⟩) (c6 : PySem.W.codeIn K cd6 "_law_sides" = true) (k6 : PySem.W.keepIn K (.ref f6) = true)
    (a7 : PySem.W.nsIn K mainGlobals "_law_good" = some (some (.ref f7))) (l7 : K.lookup f7 = some ⟨oc7, od7, .func (PySem.W.fnOf "_law_good" "_law_good" (defArgs s__law_good) (defBody s__law_good) (defScope s__law_good) .none kV7 dc7 pm7 an7 cd7 ct7), sl7⟩) (c7 : PySem.W.codeIn K cd7 "_law_good" = true) (k7 : PySem.W.keepIn K (.ref f7) = true)
    (a8 : PySem.W.nsIn K mainGlobals "_law_give" = some (some (.ref f8))) (l8 : K.lookup f8 = some ⟨oc8, od8, .func (PySem.W.fnOf "_law_give" "_law_give" (defArgs s__law_give) (defBody s__law_give) (defScope s__law_give) .none kV8 dc8 pm8 an8 cd8 ct8), sl8⟩) (c8 : PySem.W.codeIn K cd8 "_law_give" = true) (k8 : PySem.W.keepIn K (.ref f8) = true)
    (a9 : PySem.W.nsIn K mainGlobals "_law_contract" = some (some (.ref f9))) (l9 : K.lookup f9 = some ⟨oc9, od9, .func (PySem.W.fnOf "_law_contract" "_law_contract" (defArgs s__law_contract) (defBody s__law_contract) (defScope s__law_contract) .none kV9 dc9 pm9 an9 cd9 ct9), sl9⟩) (c9 : PySem.W.codeIn K cd9 "_law_contract" = true) (k9 : PySem.W.keepIn K (.ref f9) = true)
    (a10 : PySem.W.nsIn K mainGlobals "_law_drawn" = some (some (.ref f10))) (l10 : K.lookup f10 = some ⟨oc10, od10, .func (PySem.W.fnOf "_law_drawn" "_law_drawn" (defArgs s__law_drawn) (defBody s__law_drawn) (defScope s__law_drawn) .none kV10 dc10 pm10 an10 cd10 ct10), sl10⟩) (c10 : PySem.W.codeIn K cd10 "_law_drawn" = true) (k10 : PySem.W.keepIn K (.ref f10) = true)
    (a11 : PySem.W.nsIn K mainGlobals "_law_alike" = some (some (.ref f11))) (l11 : K.lookup f11 = some ⟨oc11, od11, .func (PySem.W.fnOf "_law_alike" "_law_alike" (defArgs s__law_alike) (defBody s__law_alike) (defScope s__law_alike) .none kV11 dc11 pm11 an11 cd11 ct11), sl11⟩) (c11 : PySem.W.codeIn K cd11 "_law_alike" = true) (k11 : PySem.W.keepIn K (.ref f11) = true)
    (a12 : PySem.W.nsIn K mainGlobals "turned_side" = some (some (.ref f12))) (l12 : K.lookup f12 = some ⟨oc12, od12, .func (PySem.W.fnOf "turned_side" "turned_side" (defArgs s_turned_side) (defBody s_turned_side) (defScope s_turned_side) .none kV12 dc12 pm12 an12 cd12 ct12), sl12⟩) (c12 : PySem.W.codeIn K cd12 "turned_side" = true) (k12 : PySem.W.keepIn K (.ref f12) = true)
    (a13 : PySem.W.nsIn K mainGlobals "contracts_in" = some (some (.ref f13))) (l13 : K.lookup f13 = some ⟨oc13, od13, .func (PySem.W.fnOf "contracts_in" "contracts_in" (defArgs s_contracts_in) (defBody s_contracts_in) (defScope s_contracts_in) .none kV13 dc13 pm13 an13 cd13 ct13), sl13⟩) (c13 : PySem.W.codeIn K cd13 "contracts_in" = true) (k13 : PySem.W.keepIn K (.ref f13) = true)
    (a14 : PySem.W.nsIn K mainGlobals "with_contracts" = some (some (.ref f14))) (l14 : K.lookup f14 = some ⟨oc14, od14, .func (PySem.W.fnOf "with_contracts" "with_contracts" (defArgs s_with_contracts) (defBody s_with_contracts) (defScope s_with_contracts) .none kV14 dc14 pm14 an14 cd14 ct14), sl14⟩) (c14 : PySem.W.codeIn K cd14 "with_contracts" = true) (k14 : PySem.W.keepIn K (.ref f14) = true)
    (a15 : PySem.W.nsIn K mainGlobals "of_good" = some (some (.ref f15))) (l15 : K.lookup f15 = some ⟨oc15, od15, .func (PySem.W.fnOf "of_good" "of_good" (defArgs s_of_good) (defBody s_of_good) (defScope s_of_good) .none kV15 dc15 pm15 an15 cd15 ct15), sl15⟩) (c15 : PySem.W.codeIn K cd15 "of_good" = true) (k15 : PySem.W.keepIn K (.ref f15) = true)
    (a16 : PySem.W.nsIn K mainGlobals "of_side" = some (some (.ref f16))) (l16 : K.lookup f16 = some ⟨oc16, od16, .func (PySem.W.fnOf "of_side" "of_side" (defArgs s_of_side) (defBody s_of_side) (defScope s_of_side) .none kV16 dc16 pm16 an16 cd16 ct16), sl16⟩) (c16 : PySem.W.codeIn K cd16 "of_side" = true) (k16 : PySem.W.keepIn K (.ref f16) = true)
    (a17 : PySem.W.nsIn K mainGlobals "_law_without" = some (some (.ref f17))) (l17 : K.lookup f17 = some ⟨oc17, od17, .func (PySem.W.fnOf "_law_without" "_law_without" (defArgs s__law_without) (defBody s__law_without) (defScope s__law_without) .none kV17 dc17 pm17 an17 cd17 ct17), sl17⟩) (c17 : PySem.W.codeIn K cd17 "_law_without" = true) (k17 : PySem.W.keepIn K (.ref f17) = true)
    (a18 : PySem.W.nsIn K mainGlobals "law" = some (some (.ref f18))) (l18 : K.lookup f18 = some ⟨oc18, od18, .func (PySem.W.fnOf "law" "law" (defArgs s_law) (defBody s_law) (defScope s_law) .none kV18 dc18 pm18 an18 cd18 ct18), sl18⟩) (c18 : PySem.W.codeIn K cd18 "law" = true) (k18 : PySem.W.keepIn K (.ref f18) = true)
    (z_len : PySem.W.nsIn K mainGlobals "len" = some none)
    (z_int : PySem.W.nsIn K mainGlobals "int" = some none)
    (z_range : PySem.W.nsIn K mainGlobals "range" = some none)
    (z_all : PySem.W.nsIn K mainGlobals "all" = some none)
    (z_isinstance : PySem.W.nsIn K mainGlobals "isinstance" = some none)
    (z_list : PySem.W.nsIn K mainGlobals "list" = some none)
    (z_tuple : PySem.W.nsIn K mainGlobals "tuple" = some none)
    (z_dict : PySem.W.nsIn K mainGlobals "dict" = some none)
    (z_str : PySem.W.nsIn K mainGlobals "str" = some none)
    (z_bool : PySem.W.nsIn K mainGlobals "bool" = some none)
    (z_zip : PySem.W.nsIn K mainGlobals "zip" = some none)
    (z_CONTRACTS : PySem.W.nsIn K mainGlobals "CONTRACTS" = some (some (.ref d_CONTRACTS))) (w_CONTRACTS : He.dicW K d_CONTRACTS = some (He.keysIn w.params (ctrForms.map (·.1)))) (o_CONTRACTS : tabOk K d_CONTRACTS ctrForms = true)
    (z_NONE : PySem.W.nsIn K mainGlobals "NONE" = some (some (.ref d_NONE))) (o_NONE : tupOk K d_NONE ["none"] = true)
    : ∃ fd : FuncData, (∀ (s : Shared) (v : Value), BindsTo s fd ⟨[v], []⟩ [("_law_script", v)]) ∧ ∀ base : Heap, K.In base → base.Ns mainGlobals mg → FnOk l.prog w K mg base CX0 16 fa fd ["_law_script"] (spLaw K) := by
  have e := hfa.symm.trans (PySem.W.mg_of X G a18)
  cases e
  refine ⟨PySem.W.fnOf "law" "law" (defArgs s_law) (defBody s_law) (defScope s_law) .none kV18 dc18 pm18 an18 cd18 ct18, fun s v => .of_eq rfl, fun base _ _ => ?_⟩
  · skip
    have m_len : mg "len" = none := PySem.W.mg_none_of X G z_len
    have m_int : mg "int" = none := PySem.W.mg_none_of X G z_int
    have m_range : mg "range" = none := PySem.W.mg_none_of X G z_range
    have m_all : mg "all" = none := PySem.W.mg_none_of X G z_all
    have m_isinstance : mg "isinstance" = none := PySem.W.mg_none_of X G z_isinstance
    have m_list : mg "list" = none := PySem.W.mg_none_of X G z_list
    have m_tuple : mg "tuple" = none := PySem.W.mg_none_of X G z_tuple
    have m_dict : mg "dict" = none := PySem.W.mg_none_of X G z_dict
    have m_str : mg "str" = none := PySem.W.mg_none_of X G z_str
    have m_bool : mg "bool" = none := PySem.W.mg_none_of X G z_bool
    have m_zip : mg "zip" = none := PySem.W.mg_none_of X G z_zip
    have F_CONTRACTS : FTab K w mg "CONTRACTS" ctrForms d_CONTRACTS := FTab.of (PySem.W.mg_of X G z_CONTRACTS) w_CONTRACTS o_CONTRACTS
    have T_NONE : TupC K mg "NONE" ["none"] d_NONE := ⟨PySem.W.mg_of X G z_NONE, o_NONE⟩
    have O0 : Own K mg "_law_taken" s__law_taken ["_law_s", "_law_most"] f0 _ := ⟨fun_mk (st := s__law_taken) l0 c0 k0, PySem.W.mg_of X G a0, (fun_mk (st := s__law_taken) l0 c0 k0).binds (ps := ["_law_s", "_law_most"]) fun _ _ _ _ _ _ us hl => match us, hl with | [_, _], _ => rfl⟩
    have O1 : Own K mg "_law_word" s__law_word ["_law_s", "_law_k"] f1 _ := ⟨fun_mk (st := s__law_word) l1 c1 k1, PySem.W.mg_of X G a1, (fun_mk (st := s__law_word) l1 c1 k1).binds (ps := ["_law_s", "_law_k"]) fun _ _ _ _ _ _ us hl => match us, hl with | [_, _], _ => rfl⟩
    have O2 : Own K mg "_law_number" s__law_number ["_law_s"] f2 _ := ⟨fun_mk (st := s__law_number) l2 c2 k2, PySem.W.mg_of X G a2, (fun_mk (st := s__law_number) l2 c2 k2).binds (ps := ["_law_s"]) fun _ _ _ _ _ _ us hl => match us, hl with | [_], _ => rfl⟩
    have O3 : Own K mg "_law_told" s__law_told ["_law_s", "_law_deep"] f3 _ := ⟨fun_mk (st := s__law_told) l3 c3 k3, PySem.W.mg_of X G a3, (fun_mk (st := s__law_told) l3 c3 k3).binds (ps := ["_law_s", "_law_deep"]) fun _ _ _ _ _ _ us hl => match us, hl with | [_, _], _ => rfl⟩
    have O4 : Own K mg "_law_begun" s__law_begun ["_law_script"] f4 _ := ⟨fun_mk (st := s__law_begun) l4 c4 k4, PySem.W.mg_of X G a4, (fun_mk (st := s__law_begun) l4 c4 k4).binds (ps := ["_law_script"]) fun _ _ _ _ _ _ us hl => match us, hl with | [_], _ => rfl⟩
    have O5 : Own K mg "_law_asked" s__law_asked ["_law_s", "_law_deep"] f5 _ := ⟨fun_mk (st := s__law_asked) l5 c5 k5, PySem.W.mg_of X G a5, (fun_mk (st := s__law_asked) l5 c5 k5).binds (ps := ["_law_s", "_law_deep"]) fun _ _ _ _ _ _ us hl => match us, hl with | [_, _], _ => rfl⟩
    have O6 : Own K mg "_law_sides" s__law_sides ["_law_s"] f6 _ := ⟨fun_mk (st := s__law_sides) l6 c6 k6, PySem.W.mg_of X G a6, (fun_mk (st := s__law_sides) l6 c6 k6).binds (ps := ["_law_s"]) fun _ _ _ _ _ _ us hl => match us, hl with | [_], _ => rfl⟩
    have O7 : Own K mg "_law_good" s__law_good ["_law_s"] f7 _ := ⟨fun_mk (st := s__law_good) l7 c7 k7, PySem.W.mg_of X G a7, (fun_mk (st := s__law_good) l7 c7 k7).binds (ps := ["_law_s"]) fun _ _ _ _ _ _ us hl => match us, hl with | [_], _ => rfl⟩
    have O8 : Own K mg "_law_give" s__law_give ["_law_s"] f8 _ := ⟨fun_mk (st := s__law_give) l8 c8 k8, PySem.W.mg_of X G a8, (fun_mk (st := s__law_give) l8 c8 k8).binds (ps := ["_law_s"]) fun _ _ _ _ _ _ us hl => match us, hl with | [_], _ => rfl⟩
    have O9 : Own K mg "_law_contract" s__law_contract ["_law_s", "_law_deep"] f9 _ := ⟨fun_mk (st := s__law_contract) l9 c9 k9, PySem.W.mg_of X G a9, (fun_mk (st := s__law_contract) l9 c9 k9).binds (ps := ["_law_s", "_law_deep"]) fun _ _ _ _ _ _ us hl => match us, hl with | [_, _], _ => rfl⟩
    have O10 : Own K mg "_law_drawn" s__law_drawn ["_law_s", "_law_many"] f10 _ := ⟨fun_mk (st := s__law_drawn) l10 c10 k10, PySem.W.mg_of X G a10, (fun_mk (st := s__law_drawn) l10 c10 k10).binds (ps := ["_law_s", "_law_many"]) fun _ _ _ _ _ _ us hl => match us, hl with | [_, _], _ => rfl⟩
    have O11 : Own K mg "_law_alike" s__law_alike ["_law_found", "_law_due"] f11 _ := ⟨fun_mk (st := s__law_alike) l11 c11 k11, PySem.W.mg_of X G a11, (fun_mk (st := s__law_alike) l11 c11 k11).binds (ps := ["_law_found", "_law_due"]) fun _ _ _ _ _ _ us hl => match us, hl with | [_, _], _ => rfl⟩
    have O12 : Own K mg "turned_side" s_turned_side ["side", "one", "other"] f12 _ := ⟨fun_mk (st := s_turned_side) l12 c12 k12, PySem.W.mg_of X G a12, (fun_mk (st := s_turned_side) l12 c12 k12).binds (ps := ["side", "one", "other"]) fun _ _ _ _ _ _ us hl => match us, hl with | [_, _, _], _ => rfl⟩
    have O13 : Own K mg "contracts_in" s_contracts_in ["contract"] f13 _ := ⟨fun_mk (st := s_contracts_in) l13 c13 k13, PySem.W.mg_of X G a13, (fun_mk (st := s_contracts_in) l13 c13 k13).binds (ps := ["contract"]) fun _ _ _ _ _ _ us hl => match us, hl with | [_], _ => rfl⟩
    have O14 : Own K mg "with_contracts" s_with_contracts ["contract", "inner"] f14 _ := ⟨fun_mk (st := s_with_contracts) l14 c14 k14, PySem.W.mg_of X G a14, (fun_mk (st := s_with_contracts) l14 c14 k14).binds (ps := ["contract", "inner"]) fun _ _ _ _ _ _ us hl => match us, hl with | [_, _], _ => rfl⟩
    have O15 : Own K mg "of_good" s_of_good ["contract", "good"] f15 _ := ⟨fun_mk (st := s_of_good) l15 c15 k15, PySem.W.mg_of X G a15, (fun_mk (st := s_of_good) l15 c15 k15).binds (ps := ["contract", "good"]) fun _ _ _ _ _ _ us hl => match us, hl with | [_, _], _ => rfl⟩
    have O16 : Own K mg "of_side" s_of_side ["contract", "side"] f16 _ := ⟨fun_mk (st := s_of_side) l16 c16 k16, PySem.W.mg_of X G a16, (fun_mk (st := s_of_side) l16 c16 k16).binds (ps := ["contract", "side"]) fun _ _ _ _ _ _ us hl => match us, hl with | [_, _], _ => rfl⟩
    have O17 : Own K mg "_law_without" s__law_without ["_law_contract_here", "_law_good_here", "_law_side"] f17 _ := ⟨fun_mk (st := s__law_without) l17 c17 k17, PySem.W.mg_of X G a17, (fun_mk (st := s__law_without) l17 c17 k17).binds (ps := ["_law_contract_here", "_law_good_here", "_law_side"]) fun _ _ _ _ _ _ us hl => match us, hl with | [_, _, _], _ => rfl⟩
    have O18 : Own K mg "law" s_law ["_law_script"] fa _ := ⟨fun_mk (st := s_law) l18 c18 k18, PySem.W.mg_of X G a18, (fun_mk (st := s_law) l18 c18 k18).binds (ps := ["_law_script"]) fun _ _ _ _ _ _ us hl => match us, hl with | [_], _ => rfl⟩
    have H__law_taken := h__law_taken (P := l.prog) (w := w) (base := base) (k := 0) O0   m_len m_int
    have H__law_word := h__law_word (P := l.prog) (w := w) (base := base) (k := 0) O1   
    have H__law_number := h__law_number (P := l.prog) (w := w) (base := base) (k := 1) O2  (H__law_taken.mono (by omega)) 
    have R__law_told : ∀ n : Nat, Has l.prog w K mg base "_law_told" ["_law_s", "_law_deep"] (2 + n) CX0 (spTold K n) f3 (PySem.W.fnOf "_law_told" "_law_told" (defArgs s__law_told) (defBody s__law_told) (defScope s__law_told) .none kV3 dc3 pm3 an3 cd3 ct3) := fun n => by
      induction n with
      | zero => exact O3.has ((none_told (P := l.prog) (w := w) (base := base)).mono (Nat.zero_le _))
      | succ n ih => exact h__law_told (P := l.prog) (w := w) (base := base) (n := n) (k := 2 + n) O3  ih (H__law_number.mono (by omega)) (H__law_taken.mono (by omega)) m_len
    have H__law_told := R__law_told 4
    have H__law_begun := h__law_begun (P := l.prog) (w := w) (base := base) (k := 1) O4  (H__law_taken.mono (by omega)) m_int m_len
    have R__law_asked : ∀ n : Nat, Has l.prog w K mg base "_law_asked" ["_law_s", "_law_deep"] (6 + n) CX0 (spAsked K n) f5 (PySem.W.fnOf "_law_asked" "_law_asked" (defArgs s__law_asked) (defBody s__law_asked) (defScope s__law_asked) .none kV5 dc5 pm5 an5 cd5 ct5) := fun n => by
      induction n with
      | zero => exact O5.has ((none_asked (P := l.prog) (w := w) (base := base)).mono (Nat.zero_le _))
      | succ n ih => exact h__law_asked (P := l.prog) (w := w) (base := base) (n := n) (k := 6 + n) O5  ih (H__law_told.mono (by omega)) (H__law_taken.mono (by omega)) 
    have H__law_asked := R__law_asked 4
    have H__law_sides := h__law_sides (P := l.prog) (w := w) (base := base) (k := 1) O6  (H__law_word.mono (by omega)) (H__law_taken.mono (by omega)) 
    have H__law_good := h__law_good (P := l.prog) (w := w) (base := base) (k := 1) O7  (H__law_word.mono (by omega)) (H__law_taken.mono (by omega)) 
    have H__law_give := h__law_give (P := l.prog) (w := w) (base := base) (k := 6) O8  (H__law_told.mono (by omega)) (H__law_good.mono (by omega)) (H__law_sides.mono (by omega)) 
    have R__law_contract : ∀ n : Nat, Has l.prog w K mg base "_law_contract" ["_law_s", "_law_deep"] (10 + n) CX0 (spContract K n) f9 (PySem.W.fnOf "_law_contract" "_law_contract" (defArgs s__law_contract) (defBody s__law_contract) (defScope s__law_contract) .none kV9 dc9 pm9 an9 cd9 ct9) := fun n => by
      induction n with
      | zero => exact O9.has ((none_contract (P := l.prog) (w := w) (base := base)).mono (Nat.zero_le _))
      | succ n ih => exact h__law_contract (P := l.prog) (w := w) (base := base) (n := n) (k := 10 + n) O9  ih (H__law_asked.mono (by omega)) (H__law_taken.mono (by omega)) (H__law_sides.mono (by omega)) (H__law_give.mono (by omega)) m_int
    have H__law_contract := R__law_contract 4
    have H__law_drawn := h__law_drawn (P := l.prog) (w := w) (base := base) (k := 14) O10  (H__law_taken.mono (by omega)) (H__law_sides.mono (by omega)) (H__law_asked.mono (by omega)) (H__law_told.mono (by omega)) (H__law_good.mono (by omega)) (H__law_contract.mono (by omega)) (H__law_word.mono (by omega)) m_range
    have R__law_alike : ∀ n : Nat, Has l.prog w K mg base "_law_alike" ["_law_found", "_law_due"] (0 + n) CX0 (spAlike K n) f11 (PySem.W.fnOf "_law_alike" "_law_alike" (defArgs s__law_alike) (defBody s__law_alike) (defScope s__law_alike) .none kV11 dc11 pm11 an11 cd11 ct11) := fun n => by
      induction n with
      | zero => exact O11.has ((none_alike (P := l.prog) (w := w) (base := base)).mono (Nat.zero_le _))
      | succ n ih => exact h__law_alike (P := l.prog) (w := w) (base := base) (n := n) (k := 0 + n) O11  ih m_all m_range m_len m_isinstance m_list m_tuple m_dict m_str m_int m_bool
    have H__law_alike := R__law_alike 14
    have H_turned_side := h_turned_side (P := l.prog) (w := w) (base := base) (k := 0) O12   
    have H_contracts_in := h_contracts_in (P := l.prog) (w := w) (base := base) (k := 0) O13   m_zip F_CONTRACTS
    have H_with_contracts := h_with_contracts (P := l.prog) (w := w) (base := base) (k := 0) O14   m_len m_tuple
    have R_of_good : ∀ n : Nat, Has l.prog w K mg base "of_good" ["contract", "good"] (1 + n) CX0 (spGdC K n) f15 (PySem.W.fnOf "of_good" "of_good" (defArgs s_of_good) (defBody s_of_good) (defScope s_of_good) .none kV15 dc15 pm15 an15 cd15 ct15) := fun n => by
      induction n with
      | zero => exact O15.has ((none_gdc (P := l.prog) (w := w) (base := base)).mono (Nat.zero_le _))
      | succ n ih => exact h_of_good (P := l.prog) (w := w) (base := base) (n := n) (k := 1 + n) O15  (H_with_contracts.mono (by omega)) (H_contracts_in.mono (by omega)) ih T_NONE
    have H_of_good := R_of_good 13
    have R_of_side : ∀ n : Nat, Has l.prog w K mg base "of_side" ["contract", "side"] (1 + n) CX0 (spSdC K n) f16 (PySem.W.fnOf "of_side" "of_side" (defArgs s_of_side) (defBody s_of_side) (defScope s_of_side) .none kV16 dc16 pm16 an16 cd16 ct16) := fun n => by
      induction n with
      | zero => exact O16.has ((none_sdc (P := l.prog) (w := w) (base := base)).mono (Nat.zero_le _))
      | succ n ih => exact h_of_side (P := l.prog) (w := w) (base := base) (n := n) (k := 1 + n) O16  (H_with_contracts.mono (by omega)) (H_contracts_in.mono (by omega)) ih (H_turned_side.mono (by omega)) T_NONE
    have H_of_side := R_of_side 13
    have R__law_without : ∀ n : Nat, Has l.prog w K mg base "_law_without" ["_law_contract_here", "_law_good_here", "_law_side"] (0 + n) CX0 (spWo K n) f17 (PySem.W.fnOf "_law_without" "_law_without" (defArgs s__law_without) (defBody s__law_without) (defScope s__law_without) .none kV17 dc17 pm17 an17 cd17 ct17) := fun n => by
      induction n with
      | zero => exact O17.has ((none_wo (P := l.prog) (w := w) (base := base)).mono (Nat.zero_le _))
      | succ n ih => exact h__law_without (P := l.prog) (w := w) (base := base) (n := n) (k := 0 + n) O17  ih m_tuple m_isinstance m_int
    have H__law_without := R__law_without 13
    have H_law := h_law (P := l.prog) (w := w) (base := base) (k := 15) O18  (H__law_alike.mono (by omega)) (H__law_without.mono (by omega)) (H_of_side.mono (by omega)) (H_of_good.mono (by omega)) (H__law_word.mono (by omega)) (H__law_taken.mono (by omega)) (H__law_drawn.mono (by omega)) (H__law_begun.mono (by omega)) 
    exact H_law.G
end Bk
open PySem PySem.W PyProof.Rows
set_option maxHeartbeats 0 in
theorem PySem.Challenge.cw_contractbook_k17_parted_as_told_holds : PySem.Challenge.rw_contractbook_k17_parted_as_told.Holds := by
  w_on; o_law; k_head; (case hw => w_witness2)
  k_fill
  refine L2.walk_of (l := PySem.Challenge.rw_contractbook_k17_parted_as_told) (n := 63) (k := 16) (x := "_law_script") (CX := fun _ => L2.CX0) (sp := fun w => Bk.spLaw _) rfl (by decide) rfl ⟨rfl, by decide, by decide⟩ (fun w h Y => PySem.W.kIn_of Y) ?F (fun _ _ a ns hl _ hS => ⟨ns, a, rfl, hS, hl, fun _ => rfl⟩) (fun _ _ _ _ _ h => h)
  case F =>
    intro w mg fa h KX G hmg
    refine' Bk.all_mk KX G hmg ?a0 ?l0 ?c0 ?k0 ?a1 ?l1 ?c1 ?k1 ?a2 ?l2 ?c2 ?k2 ?a3 ?l3 ?c3 ?k3 ?a4 ?l4 ?c4 ?k4 ?a5 ?l5 ?c5 ?k5 ?a6 ?l6 ?c6 ?k6 ?a7 ?l7 ?c7 ?k7 ?a8 ?l8 ?c8 ?k8 ?a9 ?l9 ?c9 ?k9 ?a10 ?l10 ?c10 ?k10 ?a11 ?l11 ?c11 ?k11 ?a12 ?l12 ?c12 ?k12 ?a13 ?l13 ?c13 ?k13 ?a14 ?l14 ?c14 ?k14 ?a15 ?l15 ?c15 ?k15 ?a16 ?l16 ?c16 ?k16 ?a17 ?l17 ?c17 ?k17 ?a18 ?l18 ?c18 ?k18 ?z_len ?z_int ?z_range ?z_all ?z_isinstance ?z_list ?z_tuple ?z_dict ?z_str ?z_bool ?z_zip ?z_CONTRACTS ?w_CONTRACTS ?o_CONTRACTS ?z_NONE ?o_NONE
    (case a0 => k_is)
    (case l0 => k_is)
    (case c0 => k_is)
    (case k0 => k_is)
    (case a1 => k_is)
    (case l1 => k_is)
    (case c1 => k_is)
    (case k1 => k_is)
    (case a2 => k_is)
    (case l2 => k_is)
    (case c2 => k_is)
    (case k2 => k_is)
    (case a3 => k_is)
    (case l3 => k_is)
    (case c3 => k_is)
    (case k3 => k_is)
    (case a4 => k_is)
    (case l4 => k_is)
    (case c4 => k_is)
    (case k4 => k_is)
    (case a5 => k_is)
    (case l5 => k_is)
    (case c5 => k_is)
    (case k5 => k_is)
    (case a6 => k_is)
    (case l6 => k_is)
    (case c6 => k_is)
    (case k6 => k_is)
    (case a7 => k_is)
    (case l7 => k_is)
    (case c7 => k_is)
    (case k7 => k_is)
    (case a8 => k_is)
    (case l8 => k_is)
    (case c8 => k_is)
    (case k8 => k_is)
    (case a9 => k_is)
    (case l9 => k_is)
    (case c9 => k_is)
    (case k9 => k_is)
    (case a10 => k_is)
    (case l10 => k_is)
    (case c10 => k_is)
    (case k10 => k_is)
    (case a11 => k_is)
    (case l11 => k_is)
    (case c11 => k_is)
    (case k11 => k_is)
    (case a12 => k_is)
    (case l12 => k_is)
    (case c12 => k_is)
    (case k12 => k_is)
    (case a13 => k_is)
    (case l13 => k_is)
    (case c13 => k_is)
    (case k13 => k_is)
    (case a14 => k_is)
    (case l14 => k_is)
    (case c14 => k_is)
    (case k14 => k_is)
    (case a15 => k_is)
    (case l15 => k_is)
    (case c15 => k_is)
    (case k15 => k_is)
    (case a16 => k_is)
    (case l16 => k_is)
    (case c16 => k_is)
    (case k16 => k_is)
    (case a17 => k_is)
    (case l17 => k_is)
    (case c17 => k_is)
    (case k17 => k_is)
    (case a18 => k_is)
    (case l18 => k_is)
    (case c18 => k_is)
    (case k18 => k_is)
    (case z_len => k_is)
    (case z_int => k_is)
    (case z_range => k_is)
    (case z_all => k_is)
    (case z_isinstance => k_is)
    (case z_list => k_is)
    (case z_tuple => k_is)
    (case z_dict => k_is)
    (case z_str => k_is)
    (case z_bool => k_is)
    (case z_zip => k_is)
    (case z_CONTRACTS => k_is)
    (case w_CONTRACTS => kernel_rfl)
    (case o_CONTRACTS => kernel_rfl)
    (case z_NONE => k_is)
    (case o_NONE => kernel_rfl)
